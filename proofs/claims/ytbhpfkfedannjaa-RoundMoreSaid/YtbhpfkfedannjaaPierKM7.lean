import Derived.Test.YtbhpfkfedannjaaPierKM6
import Derived.Test.YtbhpfkfedannjaaPierKM5
import Derived.KernelRfl
import Derived.Test.YtbhpfkfedannjaaPierW
import Derived.Test.YtbhpfkfedannjaaProg
set_option linter.unusedSimpArgs false
set_option linter.unusedVariables false
namespace Go.Pier.Rd
open Go Go.Pier Go.Proofs
noncomputable def lenF (b : Int) (n : Nat) (l : List Int) : Int := bif (shL b n (lefts b n l) l).no then 0 else mxN (shL b n (lefts b n l) l).st 9
noncomputable def lerF (b : Int) (n : Nat) (l : List Int) : Int := bif (shL b n (lefts b n l) l).no then 12 else 0
section
variable {b k : Int} {n : Nat} {l : List Int} (hk : 1≤k)
variable {m : List Int} (hm : ∀ j,j < m.length→0≤m.getD j 0∧m.getD j 0 < n)
include hm
end
section
variable {b k : Int} {n : Nat} {l : List Int} (hk : 1≤k∧k≤4) (hP : errP b n l = 0)
include hk hP
end
section
variable {b : Int} {n : Nat} {l : List Int} (hP : errP b n l = 0)
include hP
end
end Go.Pier.Rd
namespace Go.Pier.Rd
open Go Go.Pier Go.Proofs
def AtW3 (b : Int) (n c f : Nat) (l : List Int) (H : Heap) : Prop := H[0]? = some (ros l)∧H[3]? = some (.rw (walkC b n c f (tmd n)) none)
noncomputable def itCt3 (b : Int) (n c f : Nat) (l : List Int) : List Value→Heap→Option (Option Prop × Value × Heap × List Nat) := fun args H => match args with
 | [.pointer (some ⟨3,0,none⟩),.agg ⟨[.slice (some ⟨k,0,some 0⟩) _ 0,.int .i64 a0,.int .i64 a1,.int .i64 a2,.int .i64 a3,.int .i64 a4,.int .i64 a5,.int .i64 a6,.int .i64 a7,.int .i64 a8,.int .i64 a9]⟩] => match Nat.ble 4 k with
   | true => some (some (AtW3 b n c f l H∧l.length = n * 2∧n≤10),.bool (inTB n l (l10 a0 a1 a2 a3 a4 a5 a6 a7 a8 a9)),H,[])
   | false => none
 | _ => none
noncomputable def tpCt3 (b : Int) (n c f : Nat) (l m : List Int) : List Value→Heap→Option (Option Prop × Value × Heap × List Nat) := fun args H => match args with
 | [.pointer (some ⟨3,0,none⟩),.slice (some ⟨k,0,some 0⟩) y 0] => match Nat.ble 4 k with
   | true => some (some (AtW3 b n c f l H∧H[k]? = some (rws m)∧y = m.length∧l.length = n * 2∧n≤10∧rngP b n l∧m.length≤10∧∀ j,j < m.length→0≤m.getD j 0∧m.getD j 0 < n),.agg (newS k y :: I10 (stp b l m) []).toArray,H,[])
   | false => none
 | _ => none
theorem walk3_frame {fn : FuncId} {b : Int} {n c f : Nat} {l : List Int} {H : Heap} {o : AObj} {k : Nat} {args vs : List Value} {v : Value} (hA : AtW3 b n c f l H) (hk : 4≤k) (hkH : k < H.length) (ho : o = .gone∨(H[k]? = some o∧∀ σ,omap σ o = o)) (hos : ∀ n,o.sc n = true) (hon : ∀ p,o.nm p = true)
   (hargs : vs = args.map (nmap fun c => [0,3,k].getD c 0)) (hsa : args.all (sc 3) = true) (h : Call Try.prog fn args (itE b n c f l [o]) fun v' F' => v' = v∧F' = itE b n c f l [o])
   (hv : nm (fun d => decide (d < 3) || decide (3≤d)) v = true) (hvs : sc H.length (nmap (nameL [0,3,k] 3 H.length) v) = true) :
   Call Try.prog fn vs H fun v' H2 => v' = nmap (nameL [0,3,k] 3 H.length) v∧H2 = H := by
 have hH : 3 < H.length := by omega
 refine Call.frameP (Et := itE b n c f l [o]) (L := [0,3,k]) (args := args) rfl (by simp; omega) (fun x hx => by simp at hx; omega) (fun c' o' hc => ?_) (fun o' ho' => ?_) (fun c' o' hc _ => ?_) (fun o' ho' => ?_) hargs hsa h (fun o' ho' => ?_) hv hvs
 · match c',hc with
   | 0,hc => cases hc; exact .inr (by rw [ros_omap]; exact hA.1)
   | 1,hc => cases hc; exact .inr (by rw [walk_omap rfl]; exact hA.2)
   | 2,hc =>
     cases hc
     rcases ho with rfl | ⟨h1,h2⟩
     · exact .inl rfl
     · exact .inr (by rw [h2]; exact h1)
   | c' + 3,hc => simp [itE] at hc
 · rcases List.mem_cons.1 ho' with rfl | ho'
   · exact ros_sc
   rcases List.mem_cons.1 ho' with rfl | ho'
   · rfl
   · rw [List.mem_singleton.1 ho']; exact hos _
 · match c',hc with
   | 0,hc => cases hc; exact ⟨by rw [ros_omap,ros_omap],by rw [ros_omap]; exact ros_sc⟩
   | 1,hc => cases hc; exact ⟨by rw [walk_omap rfl,walk_omap rfl],by rw [walk_omap rfl]; show ((vi b :: sl0 n c :: vi f :: B10 (tmd n) []).all _) = true; simp [sl0,B10,sc1,sc0]; omega⟩
   | 2,hc =>
     cases hc
     rcases ho with rfl | ⟨h1,h2⟩
     · exact ⟨rfl,rfl⟩
     · exact ⟨by rw [h2,h2],by rw [h2]; exact hos _⟩
   | c' + 3,hc => simp [itE] at hc
 · rcases List.mem_cons.1 ho' with rfl | ho'
   · exact ros_sc
   rcases List.mem_cons.1 ho' with rfl | ho'
   · show ((vi b :: sl0 n c :: vi f :: B10 (tmd n) []).all _) = true; simp [sl0,B10,sc1,sc0]; omega
   · rw [List.mem_singleton.1 ho']; exact hos _
 · rcases List.mem_cons.1 ho' with rfl | ho'
   · exact ros_nm
   rcases List.mem_cons.1 ho' with rfl | ho'
   · rfl
   · rw [List.mem_singleton.1 ho']; exact hon _
theorem it3_ok (b : Int) (n c f : Nat) (l : List Int) : ∀ args H φ v H' lg,itCt3 b n c f l args H = some (φ,v,H',lg)→Asks φ→Call Try.prog 61 args H (fun v' H2 => v' = v∧H2 = H')∧Kept H H' lg := by
 intro args H φ v H' lg h hφ
 unfold itCt3 at h
 split at h <;> try (cases h; done)
 rename_i k y a0 a1 a2 a3 a4 a5 a6 a7 a8 a9
 split at h <;> cases h
 rename_i hk
 obtain ⟨h1,h2,h3⟩ := hφ
 refine ⟨fun ρ w R hs => ?_,Kept.refl _ _⟩
 have hkH : k < H.length := ag_lt hs (List.mem_cons_of_mem _ List.mem_cons_self)
 exact walk3_frame (o := .gone) h1 (Nat.le_of_ble_eq_true hk) hkH (.inl rfl) (fun _ => rfl) (fun _ => rfl) (args := [ptr0 1,.agg (newS 2 y :: I10 (l10 a0 a1 a2 a3 a4 a5 a6 a7 a8 a9) []).toArray]) (by rw [List.map_cons,List.map_cons,List.map_nil,agg_nmap rfl]; rfl) (by rw [List.all_cons,List.all_cons,agg_sc (by omega) rfl]; rfl) (itV_call b n c f y l _ h2 h3) rfl rfl ρ w R hs
theorem tp3_ok (b : Int) (n c f : Nat) (l m : List Int) : ∀ args H φ v H' lg,tpCt3 b n c f l m args H = some (φ,v,H',lg)→Asks φ→Call Try.prog 60 args H (fun v' H2 => v' = v∧H2 = H')∧Kept H H' lg := by
 intro args H φ v H' lg h hφ
 unfold tpCt3 at h
 split at h <;> try (cases h; done)
 rename_i k y
 split at h <;> cases h
 rename_i hk
 obtain ⟨h1,h2,h3,h4,h5,h6,h7,h8⟩ := hφ
 subst h3
 refine ⟨fun ρ w R hs => ?_,Kept.refl _ _⟩
 have hkH : k < H.length := sl_lt hs (List.mem_cons_of_mem _ List.mem_cons_self)
 have e : nmap (nameL [0,3,k] 3 H.length) (.agg (newS 2 m.length :: I10 (stp b l m) []).toArray) = .agg (newS k m.length :: I10 (stp b l m) []).toArray := agg_nmap rfl
 have hsv : sc H.length (.agg (newS k m.length :: I10 (stp b l m) []).toArray) = true := by
   exact agg_sc hkH rfl
 have := walk3_frame (fn := 60) (o := rws m) (vs := [ptr0 3,newS k m.length]) h1 (Nat.le_of_ble_eq_true hk) hkH (.inr ⟨h2,fun _ => rws_omap⟩) (fun _ => rws_sc) (fun _ => rws_nm) (args := [ptr0 1,newS 2 m.length]) rfl rfl (tpV_call b n c f l m h4 h5 h6 h7 h8) (agg_nm rfl rfl) (by rw [e]; exact hsv)
 rw [e] at this
 exact this ρ w R hs
end Go.Pier.Rd
namespace Go.Pier.Rd
open Go Go.Pier Go.Proofs
def tripsC : Value := .func (.func 123) #[] #[ptr0 5]
def pairV : Value := .tuple #[ptr0 3,vi 0]
noncomputable def C0 (b : Int) (n c : Nat) : AObj := lpO Try.f28 #[pierV b (some ⟨0,0,none⟩) n c,ptr0 1,vi 0,vi 0,ptr0 3,vi 0,ptr0 4,pairV,pierV b (some ⟨0,0,none⟩) n c,pairV,ptr0 3,vi 0,vi 0,.bool false,junk,ptr0 3,.func (.func 122) #[] #[ptr0 6,ptr0 7],junk,junk,junk,junk]
noncomputable def C1 : AObj := lpO Try.f122 #[yv 8,ptr0 6,ptr0 7,ptr0 9,junk,tripsC,junk,junk,junk,junk,junk,junk,junk,junk,junk,junk]
noncomputable def C2 (s : LoopState) : AObj := lpO Try.f123 #[yv 10,ptr0 5,ptr0 11,junk,ptr0 3,.func (.func 133) #[] #[ptr0 12],junk,junk,junk,junk,junk,junk,junk] s
noncomputable def EHc (b : Int) (n c f : Nat) (l : List Int) (s : LoopState) (k : Int) : Heap :=
 [ros l,boxP b n c,boxP b n c,.rw (walkC b n c f (tmd n)) none,.rw [vi k] none,.rw [ptr0 3] none,.rw [tripsC] none,.rw [.func (.func 61) #[ptr0 3] #[]] none,
  C0 b n c,.rw [yv 8] none,C1,.rw [yv 10] none,.rw [ptr0 3] none,C2 s]
noncomputable def EGc (b : Int) (n c f : Nat) (l m : List Int) (s : LoopState) (k : Int) : Heap := EHc b n c f l s k ++ [rws m]
def stepC (g : (Nat→Int)→Bool) (k : Int) (x : Nat→Int) : Int := bif g x then IntKind.i64.wrap (k + 1) else k
def foldC (b : Int) (l : List Int) (g : (Nat→Int)→Bool) : Int→List (List Int)→Int
 | k,[] => k
 | k,m :: r => foldC b l g (stepC g k (stp b l m)) r
theorem foldC_append {b : Int} {l : List Int} {g : (Nat→Int)→Bool} : ∀ {k : Int} {r r' : List (List Int)},foldC b l g k (r ++ r') = foldC b l g (foldC b l g k r) r'
 | _,[],_ => rfl
 | _,_ :: r,_ => foldC_append (r := r)
end Go.Pier.Rd
set_option maxRecDepth 100000
namespace Go.Pier.Rd
open Go Go.Pier Go.Proofs
noncomputable def y1c_c0 : Code := (Code.block (1 : Nat) (Code.region (6 : Nat) { toList := [{ dst := some (18 : Nat),op := Op.load (3 : Nat) (Operand.tmp (6 : Nat)),type := (3 : Nat),pos := "round.go:70",after := { toList := [] },guard := none },{ dst := some (19 : Nat),op := Op.binOp BinOp.add (3 : Nat) (Operand.tmp (18 : Nat)) (Operand.const (vi (1 : Int))) (3 : Nat),type := (3 : Nat),pos := "round.go:70",after := { toList := [{ on := (0 : Nat),ground := Ground.data }] },guard := none },{ dst := none,op := Op.store (3 : Nat) (Operand.tmp (6 : Nat)) (Operand.tmp (19 : Nat)),type := (0 : Nat),pos := "round.go:70",after := { toList := [{ on := (1 : Nat),ground := Ground.data },{ on := (0 : Nat),ground := Ground.phase },{ on := (1 : Nat),ground := Ground.phase }] },guard := none }] } false))
noncomputable def y1cE (b : Int) (n c f : Nat) (l : List Int) : VEnv := { ct := Ct.none.add 61 (itCt3 b n c f l),yc := ycIn Try.prog {} (fun _ => none) }
def YRc (b : Int) (n c f : Nat) (l m : List Int) (z : LoopState) (k : Int) (v : Value) (H' : Heap) : Prop := v = .bool true∧H' = EGc b n c f l m z k ++ H'.drop 15
noncomputable def y1C0 (b:Int) (n:Nat) (c:Nat):Array Value := ⟨[Value.agg ⟨[vi b,Value.slice (some (ad0 0)) n c]⟩,ptr0 1,vi (0:Int),vi (0:Int),ptr0 3,vi (0:Int),ptr0 4,Value.tuple ⟨[ptr0 3,vi (0:Int)]⟩,Value.agg ⟨[vi b,Value.slice (some (ad0 0)) n c]⟩,Value.tuple ⟨[ptr0 3,vi (0:Int)]⟩,ptr0 3,vi (0:Int),vi (0:Int),Value.bool false,junk,ptr0 3,Value.func (Fn.func (122:FuncId)) ⟨[]⟩ ⟨[ptr0 6,ptr0 7]⟩,junk,junk,junk,junk]⟩
noncomputable def y1C1  : Array Value := { toList := [Value.func (Fn.yield (8 : Nat)) { toList := [] } { toList := [] },ptr0 6,ptr0 7,ptr0 9,junk,Value.func (Fn.func (123 : FuncId)) { toList := [] } { toList := [ptr0 5] },junk,junk,junk,junk,junk,junk,junk,junk,junk,junk] }
noncomputable def y1C2  : Array Value := { toList := [Value.func (Fn.yield (10 : Nat)) { toList := [] } { toList := [] },ptr0 5,ptr0 11,junk,ptr0 3,Value.func (Fn.func (133 : FuncId)) { toList := [] } { toList := [ptr0 12] },junk,junk,junk,junk,junk,junk,junk] }
noncomputable def y1C3 (n:Nat) (x:Nat→Int) := (Value.slice (some ⟨14,0,some 0⟩) n 0::I10 x [])
noncomputable def y1C4  : List Value := [Value.func (Fn.func (123 : FuncId)) { toList := [] } { toList := [ptr0 5] }]
noncomputable def y1C5  : List Value := [Value.func (Fn.func (61 : FuncId)) { toList := [ptr0 3] } { toList := [] }]
noncomputable def y1C6  : List Value := [Value.func (Fn.yield (10 : Nat)) { toList := [] } { toList := [] }]
noncomputable def y1C7  : List Value := [Value.func (Fn.yield (8 : Nat)) { toList := [] } { toList := [] }]
noncomputable def y1C8 (b:Int) (n:Nat) (c:Nat):List Value := [vi b,Value.slice (some (ad0 0)) n c]
noncomputable def y1C9 (b:Int) (n:Nat) (c:Nat) (f:Nat) := (vi b::Value.slice (some (ad0 0)) n c::vi (f:Int)::B10 (tmd n) [])
noncomputable def y1C10 (x:Nat→Int) := (l10 (x 0) (x 1) (x 2) (x 3) (x 4) (x 5) (x 6) (x 7) (x 8) (x 9))
noncomputable def y1C11  := (Value.int IntKind.i64)
noncomputable def y1C :=
fun (b:Int) (n c f:Nat) (l m:List Int) (x:Nat→Int) (k:Int)↦Ob (0+11≤11)∧Ob (AtW3 b n c f l [AObj.ro (List.map y1C11 l),AObj.rw (y1C8 b n c) none,AObj.rw (y1C8 b n c) none,AObj.rw (y1C9 b n c f) none,AObj.rw [vi k] none,AObj.rw [ptr0 3] none,AObj.rw y1C4 none,AObj.rw y1C5 none,AObj.loop LoopState.ready none (y1C0 b n c) ⟨[17]⟩ Code.skip y1c_c0,AObj.rw y1C7 none,AObj.loop LoopState.busy none y1C1 ⟨[6]⟩ y1_c2 y1_c3,AObj.rw y1C6 none,AObj.rw [ptr0 3] none,AObj.loop LoopState.busy none y1C2 ⟨[6]⟩ y1_c4 y1_c5,AObj.rw (List.map y1C11 m) (some 1),AObj.rw (y1C3 n x) none]∧l.length=n * 2∧n≤10)∧(inTB n l (y1C10 x)=true→Ob (some (vi k)=some (vi k))∧Ob (1≤1)∧(false=true→Ob (YRc b n c f l m LoopState.busy (stepC (inTB n l) k x) (Value.bool false) [AObj.ro (List.map y1C11 l),AObj.rw (y1C8 b n c) none,AObj.rw (y1C8 b n c) none,AObj.rw (y1C9 b n c f) none,AObj.rw [vi (IntKind.i64.wrap (k+(1:Int)))] none,AObj.rw [ptr0 3] none,AObj.rw y1C4 none,AObj.rw y1C5 none,AObj.loop LoopState.ready none (y1C0 b n c) ⟨[17]⟩ Code.skip y1c_c0,AObj.rw y1C7 none,AObj.loop LoopState.done (some Code.ret) y1C1 ⟨[6]⟩ y1_c2 y1_c3,AObj.rw y1C6 none,AObj.rw [ptr0 3] none,AObj.loop LoopState.busy none y1C2 ⟨[6]⟩ y1_c4 y1_c5,AObj.rw (List.map y1C11 m) (some 1),AObj.rw (y1C3 n x) none]))∧(false=false→Ob (YRc b n c f l m LoopState.busy (stepC (inTB n l) k x) (Value.bool true) [AObj.ro (List.map y1C11 l),AObj.rw (y1C8 b n c) none,AObj.rw (y1C8 b n c) none,AObj.rw (y1C9 b n c f) none,AObj.rw [vi (IntKind.i64.wrap (k+(1:Int)))] none,AObj.rw [ptr0 3] none,AObj.rw y1C4 none,AObj.rw y1C5 none,AObj.loop LoopState.ready none (y1C0 b n c) ⟨[17]⟩ Code.skip y1c_c0,AObj.rw y1C7 none,AObj.loop LoopState.ready none y1C1 ⟨[6]⟩ y1_c2 y1_c3,AObj.rw y1C6 none,AObj.rw [ptr0 3] none,AObj.loop LoopState.busy none y1C2 ⟨[6]⟩ y1_c4 y1_c5,AObj.rw (List.map y1C11 m) (some 1),AObj.rw (y1C3 n x) none])))∧(inTB n l (y1C10 x)=false→Ob (YRc b n c f l m LoopState.busy (stepC (inTB n l) k x) (Value.bool true) [AObj.ro (List.map y1C11 l),AObj.rw (y1C8 b n c) none,AObj.rw (y1C8 b n c) none,AObj.rw (y1C9 b n c f) none,AObj.rw [vi k] none,AObj.rw [ptr0 3] none,AObj.rw y1C4 none,AObj.rw y1C5 none,AObj.loop LoopState.ready none (y1C0 b n c) ⟨[17]⟩ Code.skip y1c_c0,AObj.rw y1C7 none,AObj.loop LoopState.ready none y1C1 ⟨[6]⟩ y1_c2 y1_c3,AObj.rw y1C6 none,AObj.rw [ptr0 3] none,AObj.loop LoopState.busy none y1C2 ⟨[6]⟩ y1_c4 y1_c5,AObj.rw (List.map y1C11 m) (some 1),AObj.rw (y1C3 n x) none]))
theorem y1C_eq : y1C = fun (b : Int) (n c f : Nat) (l m : List Int) (x : Nat→Int) (k : Int) => ycT (ycIn Try.prog (y1cE b n c f l) (fun _ => none) 10 [.agg (newS 14 n :: I10 x []).toArray] (EGc b n c f l m .busy k)) (fun v H' => Ob (YRc b n c f l m .busy (stepC (inTB n l) k x) v H')) := by kernel_rfl
theorem y1C_ok (b : Int) (n c f : Nat) (l m : List Int) (x : Nat→Int) (k : Int) (hl : l.length = n * 2) (hn : n≤10) : y1C b n c f l m x k := by
 unfold y1C y1C11 y1C10 y1C9 y1C8 y1C7 y1C6 y1C5 y1C4 y1C3 y1C2 y1C1 y1C0
 simp only [SS,reduceCtorEq,Arg.list,Arg.num,Arg.flag,intOf,andP,Nat.reduceLeDiff,Nat.reduceAdd,Nat.reduceMul,Nat.reduceLT,inTB_l10 hn]
 refine ⟨⟨⟨rfl,rfl⟩,hl,hn⟩,fun h1 => ?_,fun h1 => ?_⟩
 · unfold stepC; rw [h1]
   exact ⟨rfl,by kernel_rfl⟩
 · unfold stepC; rw [h1]
   exact ⟨rfl,by kernel_rfl⟩
noncomputable def ECr (b : Int) (n c f : Nat) (k : Int) (z : LoopState) : Heap := [boxP b n c,boxP b n c,.rw (walkC b n c f (tmd n)) none,.rw [vi k] none,.rw [ptr0 3] none,.rw [tripsC] none,.rw [.func (.func 61) #[ptr0 3] #[]] none,C0 b n c,.rw [yv 8] none,C1,.rw [yv 10] none,.rw [ptr0 3] none,C2 z]
theorem EGc_all {b : Int} {n c f : Nat} {l m : List Int} {z : LoopState} {k : Int} {p : AObj→Bool} (h : (ECr b n c f k z).all p = true) (h0 : p (ros l) = true) (h4 : p (rws m) = true) : ∀ o ∈ EGc b n c f l m z k,p o = true := by
 refine List.all_eq_true.1 ?_
 show ((ros l :: ECr b n c f k z ++ [rws m]).all p) = true
 rw [List.all_append,List.all_cons,h0,h,List.all_cons,h4]; rfl
theorem EGc_map {σ : Nat→Nat} {b : Int} {n c f : Nat} {l m : List Int} {z : LoopState} {k : Int} (h : (ECr b n c f k z).map (omap σ) = ECr b n c f k z) : (EGc b n c f l m z k).map (omap σ) = EGc b n c f l m z k := by
 show ((ros l :: ECr b n c f k z ++ [rws m]).map (omap σ)) = ros l :: ECr b n c f k z ++ [rws m]
 rw [List.map_append,List.map_cons,ros_omap,h,List.map_cons,rws_omap]; rfl
theorem EGc_len {b : Int} {n c f : Nat} {l m : List Int} {z : LoopState} {k : Int} : (EGc b n c f l m z k).length = 15 := rfl
theorem cut_anew {E : Heap} {e : Nat} {v : Value} {H' : Heap} (hl : E.length = e) (hm : E.map (omap fun b => b) = E) (hs : ∀ o ∈ E,o.sc e = true) (hv : v = .bool true) (he : H' = E ++ H'.drop e) :
   ∃ σ v2 H2,Anew e σ H' H2∧v = nmap σ v2∧sc H2.length v2 = true∧(v2 = .bool true∧H2 = E) := by
 subst hv
 refine ⟨fun b => b,.bool true,E,⟨by omega,fun b _ => rfl,fun b o hb => .inr ?_,fun b1 b2 o h1 h2 h3 h4 h5 h6 => h6,fun b o hb => ?_⟩,rfl,rfl,rfl,rfl⟩
 · have h1 := (List.getElem?_eq_some_iff.1 hb).1
   rw [he,List.getElem?_append_left h1]
   conv => lhs; rw [← hm]
   rw [List.getElem?_map,hb]; rfl
 · rw [hl]; exact hs o (List.mem_of_getElem? hb)
theorem y1cE_ok (b : Int) (n c f : Nat) (l : List Int) : VOk Try.prog (y1cE b n c f l) := ⟨CtOk.none.add (it3_ok b n c f l),E0_ok.cc,ycIn_ok E0_ok mixed,E0_ok.orc⟩
theorem y1c_yield (b : Int) (n c f : Nat) (l m : List Int) (x : Nat→Int) (k : Int) (hl : l.length = n * 2) (hn : n≤10) :
   Yield Try.prog 10 [.agg (newS 14 n :: I10 x []).toArray] (EGc b n c f l m .busy k) fun v H' => v = .bool true∧H' = EGc b n c f l m .busy (stepC (inTB n l) k x) := by
 refine Yield.anew (Yield.mono (Q := YRc b n c f l m .busy (stepC (inTB n l) k x)) ?_ fun v H' h => cut_anew EGc_len (EGc_map (by kernel_rfl)) (EGc_all (by kernel_rfl) ros_sc rws_sc) h.1 h.2)
 have h := y1C_ok b n c f l m x k hl hn
 rw [y1C_eq] at h
 unfold ycT at h
 split at h
 · rename_i T hT
   exact (ycIn_ok (y1cE_ok b n c f l) mixed _ _ _ _ hT _ h).mono fun v H' k => k.out
 · exact h.elim
end Go.Pier.Rd
namespace Go.Pier.Rd
open Go Go.Pier Go.Proofs
noncomputable def nxC (b : Int) (n : Nat) (l m : List Int) (k : Int) : Int := stepC (inTB n l) k (stp b l m)
noncomputable def y1cYt (b : Int) (n c f : Nat) (l m : List Int) (k : Int) : Yt := fun b' args H => match Nat.beq b' 10 with
 | true => some (some (args = [.agg (newS 14 n :: I10 (stp b l m) []).toArray]∧H = EGc b n c f l m .busy k∧l.length = n * 2∧n≤10),.bool true,EGc b n c f l m .busy (nxC b n l m k),[4])
 | false => none
noncomputable def y2cE (b : Int) (n c f : Nat) (l m : List Int) : VEnv := { ct := Ct.none.add 60 (tpCt3 b n c f l m) }
noncomputable def y2C :=
fun (b:Int) (n c f:Nat) (l m:List Int) (k:Int)↦Ob (AtW3 b n c f l [AObj.ro (List.map (Value.int IntKind.i64) l),AObj.rw [vi b,Value.slice (some (ad0 0)) n c] none,AObj.rw [vi b,Value.slice (some (ad0 0)) n c] none,AObj.rw (vi b::Value.slice (some (ad0 0)) n c::vi (f:Int)::B10 (tmd n) []) none,AObj.rw [vi k] none,AObj.rw [ptr0 3] none,AObj.rw [Value.func (Fn.func (123:FuncId)) ⟨[]⟩ ⟨[ptr0 5]⟩] none,AObj.rw [Value.func (Fn.func (61:FuncId)) ⟨[ptr0 3]⟩ ⟨[]⟩] none,AObj.loop LoopState.ready none ⟨[Value.agg ⟨[vi b,Value.slice (some (ad0 0)) n c]⟩,ptr0 1,vi (0:Int),vi (0:Int),ptr0 3,vi (0:Int),ptr0 4,Value.tuple ⟨[ptr0 3,vi (0:Int)]⟩,Value.agg ⟨[vi b,Value.slice (some (ad0 0)) n c]⟩,Value.tuple ⟨[ptr0 3,vi (0:Int)]⟩,ptr0 3,vi (0:Int),vi (0:Int),Value.bool false,junk,ptr0 3,Value.func (Fn.func (122:FuncId)) ⟨[]⟩ ⟨[ptr0 6,ptr0 7]⟩,junk,junk,junk,junk]⟩ ⟨[17]⟩ Code.skip y1c_c0,AObj.rw [Value.func (Fn.yield 8) ⟨[]⟩ ⟨[]⟩] none,AObj.loop LoopState.ready none ⟨[Value.func (Fn.yield 8) ⟨[]⟩ ⟨[]⟩,ptr0 6,ptr0 7,ptr0 9,junk,Value.func (Fn.func (123:FuncId)) ⟨[]⟩ ⟨[ptr0 5]⟩,junk,junk,junk,junk,junk,junk,junk,junk,junk,junk]⟩ ⟨[6]⟩ y1_c2 y1_c3,AObj.rw [Value.func (Fn.yield 10) ⟨[]⟩ ⟨[]⟩] none,AObj.rw [ptr0 3] none,AObj.loop LoopState.busy none ⟨[Value.func (Fn.yield 10) ⟨[]⟩ ⟨[]⟩,ptr0 5,ptr0 11,junk,ptr0 3,Value.func (Fn.func (133:FuncId)) ⟨[]⟩ ⟨[ptr0 12]⟩,junk,junk,junk,junk,junk,junk,junk]⟩ ⟨[6]⟩ y1_c4 y1_c5,AObj.rw (List.map (Value.int IntKind.i64) m) (some 1)]∧some (AObj.rw (List.map (Value.int IntKind.i64) m) (some 1))=some (AObj.rw (List.map (Value.int IntKind.i64) m) (some 1))∧n=m.length∧l.length=n * 2∧n≤10∧rngP b n l∧m.length≤10∧∀ (j:Nat),j<m.length→(0:Int)≤m.getD j (0:Int)∧m.getD j (0:Int)<(n:Int))∧Ob ([Value.agg { toList := (Value.slice (some ⟨14,0,some 0⟩) n 0::I10 (stp b l m) []) }]=[Value.agg { toList := (Value.slice (some ⟨14,0,some 0⟩) n 0::I10 (stp b l m) []) }]∧[AObj.ro (List.map (Value.int IntKind.i64) l),AObj.rw [vi b,Value.slice (some (ad0 0)) n c] none,AObj.rw [vi b,Value.slice (some (ad0 0)) n c] none,AObj.rw (vi b::Value.slice (some (ad0 0)) n c::vi (f:Int)::B10 (tmd n) []) none,AObj.rw [vi k] none,AObj.rw [ptr0 3] none,AObj.rw [Value.func (Fn.func (123:FuncId)) ⟨[]⟩ ⟨[ptr0 5]⟩] none,AObj.rw [Value.func (Fn.func (61:FuncId)) ⟨[ptr0 3]⟩ ⟨[]⟩] none,AObj.loop LoopState.ready none ⟨[Value.agg ⟨[vi b,Value.slice (some (ad0 0)) n c]⟩,ptr0 1,vi (0:Int),vi (0:Int),ptr0 3,vi (0:Int),ptr0 4,Value.tuple ⟨[ptr0 3,vi (0:Int)]⟩,Value.agg ⟨[vi b,Value.slice (some (ad0 0)) n c]⟩,Value.tuple ⟨[ptr0 3,vi (0:Int)]⟩,ptr0 3,vi (0:Int),vi (0:Int),Value.bool false,junk,ptr0 3,Value.func (Fn.func (122:FuncId)) ⟨[]⟩ ⟨[ptr0 6,ptr0 7]⟩,junk,junk,junk,junk]⟩ ⟨[17]⟩ Code.skip y1c_c0,AObj.rw [Value.func (Fn.yield 8) ⟨[]⟩ ⟨[]⟩] none,AObj.loop LoopState.ready none ⟨[Value.func (Fn.yield 8) ⟨[]⟩ ⟨[]⟩,ptr0 6,ptr0 7,ptr0 9,junk,Value.func (Fn.func (123:FuncId)) ⟨[]⟩ ⟨[ptr0 5]⟩,junk,junk,junk,junk,junk,junk,junk,junk,junk,junk]⟩ ⟨[6]⟩ y1_c2 y1_c3,AObj.rw [Value.func (Fn.yield 10) ⟨[]⟩ ⟨[]⟩] none,AObj.rw [ptr0 3] none,AObj.loop LoopState.busy none ⟨[Value.func (Fn.yield 10) ⟨[]⟩ ⟨[]⟩,ptr0 5,ptr0 11,junk,ptr0 3,Value.func (Fn.func (133:FuncId)) ⟨[]⟩ ⟨[ptr0 12]⟩,junk,junk,junk,junk,junk,junk,junk]⟩ ⟨[6]⟩ y1_c4 y1_c5,AObj.rw (List.map (Value.int IntKind.i64) m) (some 1)]=[AObj.ro (List.map (Value.int IntKind.i64) l),AObj.rw [vi b,Value.slice (some (ad0 0)) n c] none,AObj.rw [vi b,Value.slice (some (ad0 0)) n c] none,AObj.rw (vi b::Value.slice (some (ad0 0)) n c::vi (f:Int)::B10 (tmd n) []) none,AObj.rw [vi k] none,AObj.rw [ptr0 3] none,AObj.rw [Value.func (Fn.func (123:FuncId)) ⟨[]⟩ ⟨[ptr0 5]⟩] none,AObj.rw [Value.func (Fn.func (61:FuncId)) ⟨[ptr0 3]⟩ ⟨[]⟩] none,AObj.loop LoopState.ready none ⟨[Value.agg ⟨[vi b,Value.slice (some (ad0 0)) n c]⟩,ptr0 1,vi (0:Int),vi (0:Int),ptr0 3,vi (0:Int),ptr0 4,Value.tuple ⟨[ptr0 3,vi (0:Int)]⟩,Value.agg ⟨[vi b,Value.slice (some (ad0 0)) n c]⟩,Value.tuple ⟨[ptr0 3,vi (0:Int)]⟩,ptr0 3,vi (0:Int),vi (0:Int),Value.bool false,junk,ptr0 3,Value.func (Fn.func (122:FuncId)) ⟨[]⟩ ⟨[ptr0 6,ptr0 7]⟩,junk,junk,junk,junk]⟩ ⟨[17]⟩ Code.skip y1c_c0,AObj.rw [Value.func (Fn.yield 8) ⟨[]⟩ ⟨[]⟩] none,AObj.loop LoopState.ready none ⟨[Value.func (Fn.yield 8) ⟨[]⟩ ⟨[]⟩,ptr0 6,ptr0 7,ptr0 9,junk,Value.func (Fn.func (123:FuncId)) ⟨[]⟩ ⟨[ptr0 5]⟩,junk,junk,junk,junk,junk,junk,junk,junk,junk,junk]⟩ ⟨[6]⟩ y1_c2 y1_c3,AObj.rw [Value.func (Fn.yield 10) ⟨[]⟩ ⟨[]⟩] none,AObj.rw [ptr0 3] none,AObj.loop LoopState.busy none ⟨[Value.func (Fn.yield 10) ⟨[]⟩ ⟨[]⟩,ptr0 5,ptr0 11,junk,ptr0 3,Value.func (Fn.func (133:FuncId)) ⟨[]⟩ ⟨[ptr0 12]⟩,junk,junk,junk,junk,junk,junk,junk]⟩ ⟨[6]⟩ y1_c4 y1_c5,AObj.rw (List.map (Value.int IntKind.i64) m) (some 1)]∧l.length=n * 2∧n≤10)∧(false=true→Ob (Value.bool false=Value.bool true∧[AObj.ro (List.map (Value.int IntKind.i64) l),AObj.rw [vi b,Value.slice (some (ad0 0)) n c] none,AObj.rw [vi b,Value.slice (some (ad0 0)) n c] none,AObj.rw (vi b::Value.slice (some (ad0 0)) n c::vi (f:Int)::B10 (tmd n) []) none,AObj.rw [vi (nxC b n l m k)] none,AObj.rw [ptr0 3] none,AObj.rw [Value.func (Fn.func (123:FuncId)) ⟨[]⟩ ⟨[ptr0 5]⟩] none,AObj.rw [Value.func (Fn.func (61:FuncId)) ⟨[ptr0 3]⟩ ⟨[]⟩] none,AObj.loop LoopState.ready none ⟨[Value.agg ⟨[vi b,Value.slice (some (ad0 0)) n c]⟩,ptr0 1,vi (0:Int),vi (0:Int),ptr0 3,vi (0:Int),ptr0 4,Value.tuple ⟨[ptr0 3,vi (0:Int)]⟩,Value.agg ⟨[vi b,Value.slice (some (ad0 0)) n c]⟩,Value.tuple ⟨[ptr0 3,vi (0:Int)]⟩,ptr0 3,vi (0:Int),vi (0:Int),Value.bool false,junk,ptr0 3,Value.func (Fn.func (122:FuncId)) ⟨[]⟩ ⟨[ptr0 6,ptr0 7]⟩,junk,junk,junk,junk]⟩ ⟨[17]⟩ Code.skip y1c_c0,AObj.rw [Value.func (Fn.yield 8) ⟨[]⟩ ⟨[]⟩] none,AObj.loop LoopState.ready none ⟨[Value.func (Fn.yield 8) ⟨[]⟩ ⟨[]⟩,ptr0 6,ptr0 7,ptr0 9,junk,Value.func (Fn.func (123:FuncId)) ⟨[]⟩ ⟨[ptr0 5]⟩,junk,junk,junk,junk,junk,junk,junk,junk,junk,junk]⟩ ⟨[6]⟩ y1_c2 y1_c3,AObj.rw [Value.func (Fn.yield 10) ⟨[]⟩ ⟨[]⟩] none,AObj.rw [ptr0 3] none,AObj.loop LoopState.done (some Code.ret) ⟨[Value.func (Fn.yield 10) ⟨[]⟩ ⟨[]⟩,ptr0 5,ptr0 11,junk,ptr0 3,Value.func (Fn.func (133:FuncId)) ⟨[]⟩ ⟨[ptr0 12]⟩,junk,junk,junk,junk,junk,junk,junk]⟩ ⟨[6]⟩ y1_c4 y1_c5,AObj.rw (List.map (Value.int IntKind.i64) m) (some 1)]=[AObj.ro (List.map (Value.int IntKind.i64) l),AObj.rw [vi b,Value.slice (some (ad0 0)) n c] none,AObj.rw [vi b,Value.slice (some (ad0 0)) n c] none,AObj.rw (vi b::Value.slice (some (ad0 0)) n c::vi (f:Int)::B10 (tmd n) []) none,AObj.rw [vi (nxC b n l m k)] none,AObj.rw [ptr0 3] none,AObj.rw [Value.func (Fn.func (123:FuncId)) ⟨[]⟩ ⟨[ptr0 5]⟩] none,AObj.rw [Value.func (Fn.func (61:FuncId)) ⟨[ptr0 3]⟩ ⟨[]⟩] none,AObj.loop LoopState.ready none ⟨[Value.agg ⟨[vi b,Value.slice (some (ad0 0)) n c]⟩,ptr0 1,vi (0:Int),vi (0:Int),ptr0 3,vi (0:Int),ptr0 4,Value.tuple ⟨[ptr0 3,vi (0:Int)]⟩,Value.agg ⟨[vi b,Value.slice (some (ad0 0)) n c]⟩,Value.tuple ⟨[ptr0 3,vi (0:Int)]⟩,ptr0 3,vi (0:Int),vi (0:Int),Value.bool false,junk,ptr0 3,Value.func (Fn.func (122:FuncId)) ⟨[]⟩ ⟨[ptr0 6,ptr0 7]⟩,junk,junk,junk,junk]⟩ ⟨[17]⟩ Code.skip y1c_c0,AObj.rw [Value.func (Fn.yield 8) ⟨[]⟩ ⟨[]⟩] none,AObj.loop LoopState.ready none ⟨[Value.func (Fn.yield 8) ⟨[]⟩ ⟨[]⟩,ptr0 6,ptr0 7,ptr0 9,junk,Value.func (Fn.func (123:FuncId)) ⟨[]⟩ ⟨[ptr0 5]⟩,junk,junk,junk,junk,junk,junk,junk,junk,junk,junk]⟩ ⟨[6]⟩ y1_c2 y1_c3,AObj.rw [Value.func (Fn.yield 10) ⟨[]⟩ ⟨[]⟩] none,AObj.rw [ptr0 3] none,AObj.loop LoopState.ready none ⟨[Value.func (Fn.yield 10) ⟨[]⟩ ⟨[]⟩,ptr0 5,ptr0 11,junk,ptr0 3,Value.func (Fn.func (133:FuncId)) ⟨[]⟩ ⟨[ptr0 12]⟩,junk,junk,junk,junk,junk,junk,junk]⟩ ⟨[6]⟩ y1_c4 y1_c5,AObj.rw (List.map (Value.int IntKind.i64) m) (some 1)]))∧(false=false→Ob (Value.bool true=Value.bool true∧[AObj.ro (List.map (Value.int IntKind.i64) l),AObj.rw [vi b,Value.slice (some (ad0 0)) n c] none,AObj.rw [vi b,Value.slice (some (ad0 0)) n c] none,AObj.rw (vi b::Value.slice (some (ad0 0)) n c::vi (f:Int)::B10 (tmd n) []) none,AObj.rw [vi (nxC b n l m k)] none,AObj.rw [ptr0 3] none,AObj.rw [Value.func (Fn.func (123:FuncId)) ⟨[]⟩ ⟨[ptr0 5]⟩] none,AObj.rw [Value.func (Fn.func (61:FuncId)) ⟨[ptr0 3]⟩ ⟨[]⟩] none,AObj.loop LoopState.ready none ⟨[Value.agg ⟨[vi b,Value.slice (some (ad0 0)) n c]⟩,ptr0 1,vi (0:Int),vi (0:Int),ptr0 3,vi (0:Int),ptr0 4,Value.tuple ⟨[ptr0 3,vi (0:Int)]⟩,Value.agg ⟨[vi b,Value.slice (some (ad0 0)) n c]⟩,Value.tuple ⟨[ptr0 3,vi (0:Int)]⟩,ptr0 3,vi (0:Int),vi (0:Int),Value.bool false,junk,ptr0 3,Value.func (Fn.func (122:FuncId)) ⟨[]⟩ ⟨[ptr0 6,ptr0 7]⟩,junk,junk,junk,junk]⟩ ⟨[17]⟩ Code.skip y1c_c0,AObj.rw [Value.func (Fn.yield 8) ⟨[]⟩ ⟨[]⟩] none,AObj.loop LoopState.ready none ⟨[Value.func (Fn.yield 8) ⟨[]⟩ ⟨[]⟩,ptr0 6,ptr0 7,ptr0 9,junk,Value.func (Fn.func (123:FuncId)) ⟨[]⟩ ⟨[ptr0 5]⟩,junk,junk,junk,junk,junk,junk,junk,junk,junk,junk]⟩ ⟨[6]⟩ y1_c2 y1_c3,AObj.rw [Value.func (Fn.yield 10) ⟨[]⟩ ⟨[]⟩] none,AObj.rw [ptr0 3] none,AObj.loop LoopState.ready none ⟨[Value.func (Fn.yield 10) ⟨[]⟩ ⟨[]⟩,ptr0 5,ptr0 11,junk,ptr0 3,Value.func (Fn.func (133:FuncId)) ⟨[]⟩ ⟨[ptr0 12]⟩,junk,junk,junk,junk,junk,junk,junk]⟩ ⟨[6]⟩ y1_c4 y1_c5,AObj.rw (List.map (Value.int IntKind.i64) m) (some 1)]=[AObj.ro (List.map (Value.int IntKind.i64) l),AObj.rw [vi b,Value.slice (some (ad0 0)) n c] none,AObj.rw [vi b,Value.slice (some (ad0 0)) n c] none,AObj.rw (vi b::Value.slice (some (ad0 0)) n c::vi (f:Int)::B10 (tmd n) []) none,AObj.rw [vi (nxC b n l m k)] none,AObj.rw [ptr0 3] none,AObj.rw [Value.func (Fn.func (123:FuncId)) ⟨[]⟩ ⟨[ptr0 5]⟩] none,AObj.rw [Value.func (Fn.func (61:FuncId)) ⟨[ptr0 3]⟩ ⟨[]⟩] none,AObj.loop LoopState.ready none ⟨[Value.agg ⟨[vi b,Value.slice (some (ad0 0)) n c]⟩,ptr0 1,vi (0:Int),vi (0:Int),ptr0 3,vi (0:Int),ptr0 4,Value.tuple ⟨[ptr0 3,vi (0:Int)]⟩,Value.agg ⟨[vi b,Value.slice (some (ad0 0)) n c]⟩,Value.tuple ⟨[ptr0 3,vi (0:Int)]⟩,ptr0 3,vi (0:Int),vi (0:Int),Value.bool false,junk,ptr0 3,Value.func (Fn.func (122:FuncId)) ⟨[]⟩ ⟨[ptr0 6,ptr0 7]⟩,junk,junk,junk,junk]⟩ ⟨[17]⟩ Code.skip y1c_c0,AObj.rw [Value.func (Fn.yield 8) ⟨[]⟩ ⟨[]⟩] none,AObj.loop LoopState.ready none ⟨[Value.func (Fn.yield 8) ⟨[]⟩ ⟨[]⟩,ptr0 6,ptr0 7,ptr0 9,junk,Value.func (Fn.func (123:FuncId)) ⟨[]⟩ ⟨[ptr0 5]⟩,junk,junk,junk,junk,junk,junk,junk,junk,junk,junk]⟩ ⟨[6]⟩ y1_c2 y1_c3,AObj.rw [Value.func (Fn.yield 10) ⟨[]⟩ ⟨[]⟩] none,AObj.rw [ptr0 3] none,AObj.loop LoopState.ready none ⟨[Value.func (Fn.yield 10) ⟨[]⟩ ⟨[]⟩,ptr0 5,ptr0 11,junk,ptr0 3,Value.func (Fn.func (133:FuncId)) ⟨[]⟩ ⟨[ptr0 12]⟩,junk,junk,junk,junk,junk,junk,junk]⟩ ⟨[6]⟩ y1_c4 y1_c5,AObj.rw (List.map (Value.int IntKind.i64) m) (some 1)]))
theorem y2C_eq : y2C = fun (b : Int) (n c f : Nat) (l m : List Int) (k : Int) => ycT (ycInY Try.prog (y2cE b n c f l m) (y1cYt b n c f l m k) (fun _ => none) 13 [newS 14 n] (EGc b n c f l m .ready k)) (fun v H' => Ob (v = .bool true∧H' = EGc b n c f l m .ready (nxC b n l m k))) := by kernel_rfl
theorem y2C_ok (b : Int) (n c f : Nat) (l m : List Int) (k : Int) (hl : l.length = n * 2) (hn : n≤10) (hr : rngP b n l) (hm : m.length = n) (ha : ∀ j,j < m.length→0≤m.getD j 0∧m.getD j 0 < n) : y2C b n c f l m k := by
 unfold y2C
 exact ⟨⟨⟨rfl,rfl⟩,rfl,hm.symm,hl,hn,hr,by omega,ha⟩,⟨rfl,by kernel_rfl,hl,hn⟩,fun h => absurd h (by decide),fun _ => ⟨rfl,by kernel_rfl⟩⟩
theorem y1cYt_ok (b : Int) (n c f : Nat) (l m : List Int) (k : Int) : YtOk Try.prog (y1cYt b n c f l m k) := by
 intro b' args H φ v H' lg h hφ
 unfold y1cYt at h
 split at h <;> cases h
 rename_i hb
 obtain rfl := Nat.eq_of_beq_eq_true hb
 obtain ⟨rfl,rfl,h1,h2⟩ := hφ
 refine ⟨y1c_yield b n c f l m _ k h1 h2,by rw [EGc_len,EGc_len]; omega,fun b1 h4 h5 => ?_⟩
 rw [EGc_len] at h4
 have h8 : b1 ≠ 4 := fun e => h5 (by subst e; simp)
 unfold EGc EHc
 rcases b1 with _ | _ | _ | _ | _ | _ | _ | _ | _ | _ | _ | _ | _ | _ | _ | b1 <;> first | rfl | omega
theorem y2cE_ok (b : Int) (n c f : Nat) (l m : List Int) : VOk Try.prog (y2cE b n c f l m) := VOk.ofCt (CtOk.none.add (tp3_ok b n c f l m))
theorem y2c_yield (b : Int) (n c f : Nat) (l m : List Int) (k : Int) (hl : l.length = n * 2) (hn : n≤10) (hr : rngP b n l) (hm : m.length = n) (ha : ∀ j,j < m.length→0≤m.getD j 0∧m.getD j 0 < n) :
   Yield Try.prog 13 [newS 14 n] (EGc b n c f l m .ready k) fun v H' => v = .bool true∧H' = EGc b n c f l m .ready (nxC b n l m k) := by
 have h := y2C_ok b n c f l m k hl hn hr hm ha
 rw [y2C_eq] at h
 unfold ycT at h
 split at h
 · rename_i T hT
   exact (ycIn_okY (y2cE_ok b n c f l m) (y1cYt_ok b n c f l m k) mixed _ _ _ _ hT _ h).mono fun v H' k => k.out
 · exact h.elim
end Go.Pier.Rd
namespace Go.Pier.Rd
open Go Go.Pier Go.Proofs
noncomputable def fdC (b : Int) (n : Nat) (l : List Int) (k : Int) (r : List (List Int)) : Int := foldC b l (inTB n l) k r
noncomputable def ECL (b : Int) (n c f : Nat) (l m : List Int) (k : Int) : Heap := EGc b n c f l m .ready k
noncomputable def gcCc (b:Int) (n c f:Nat) (l m:List Int) (κ:Nat):Cc := fun fn args H => match Nat.beq fn 134 with
 | true => match Nat.beq H.length 17 with
   | true => some fun Q => ∃ (m2:List Int) (f1 t1:Nat) (k:Int) (o15:AObj),Ob (args=[ptr0 3,newS 16 m2.length,vi f1,vi t1,yv 13]∧H=ECL b n c f l m k++[o15,rws m2]∧Begun n f1 t1 m2∧f1+(n-t1)+1=κ) ∧
       Q (.bool true) (ECL b n c f l m (fdC b n l k (rds n (κ-1) f1 t1 m2))++[o15,rws m2])
   | false => match Nat.beq H.length 19 with
     | true => some fun Q => ∃ (m2:List Int) (f1 t1:Nat) (k:Int) (o15 o16 o17:AObj),Ob (args=[ptr0 3,newS 18 m2.length,vi f1,vi t1,yv 13]∧H=ECL b n c f l m k++[o15,o16,o17,rws m2]∧Begun n f1 t1 m2∧f1+(n-t1)+1=κ) ∧
         Q (.bool true) (ECL b n c f l m (fdC b n l k (rds n (κ-1) f1 t1 m2))++[o15,o16,o17,rws m2])
     | false => none
 | false => none
noncomputable def gcYc (b:Int) (n c f:Nat) (l m:List Int) (k:Int):Yc := fun b1 args H => match Nat.beq b1 13 with
 | true => some fun Q => Ob (args=[newS 14 n]∧H=ECL b n c f l m k∧Whole n m)∧Q (.bool true) (ECL b n c f l m (nxC b n l m k))
 | false => none
noncomputable def gcE (b : Int) (n c f : Nat) (l m : List Int) (k : Int) (κ : Nat) : VEnv := { orc := orcOr (orcLim Try.prog) prO,cc := gcCc b n c f l m κ,yc := gcYc b n c f l m k }
noncomputable def gcV0 (b:Int) (n:Nat) (c:Nat):Array Value := ⟨[Value.agg ⟨[vi b,Value.slice (some (ad0 0)) n c]⟩,ptr0 1,vi (0:Int),vi (0:Int),ptr0 3,vi (0:Int),ptr0 4,Value.tuple ⟨[ptr0 3,vi (0:Int)]⟩,Value.agg ⟨[vi b,Value.slice (some (ad0 0)) n c]⟩,Value.tuple ⟨[ptr0 3,vi (0:Int)]⟩,ptr0 3,vi (0:Int),vi (0:Int),Value.bool false,junk,ptr0 3,Value.func (Fn.func (122:FuncId)) ⟨[]⟩ ⟨[ptr0 6,ptr0 7]⟩,junk,junk,junk,junk]⟩
noncomputable def gcV1  : Array Value := { toList := [Value.func (Fn.yield (8 : Nat)) { toList := [] } { toList := [] },ptr0 6,ptr0 7,ptr0 9,junk,Value.func (Fn.func (123 : FuncId)) { toList := [] } { toList := [ptr0 5] },junk,junk,junk,junk,junk,junk,junk,junk,junk,junk] }
noncomputable def gcV2  : Array Value := { toList := [Value.func (Fn.yield (10 : Nat)) { toList := [] } { toList := [] },ptr0 5,ptr0 11,junk,ptr0 3,Value.func (Fn.func (133 : FuncId)) { toList := [] } { toList := [ptr0 12] },junk,junk,junk,junk,junk,junk,junk] }
noncomputable def gcV3 (b:Int) (n:Nat) (c:Nat) (f:Nat) (l:List Int) (m:List Int) (κ:Nat) (f1:Nat) (k_1:Int) (m2:List Int) (o15:AObj) (t1:Nat):List AObj := [AObj.ro (List.map (Value.int IntKind.i64) l),AObj.rw [vi b,Value.slice (some (ad0 0)) n c] none,AObj.rw [vi b,Value.slice (some (ad0 0)) n c] none,AObj.rw (vi b::Value.slice (some (ad0 0)) n c::vi (f:Int)::B10 (tmd n) []) none,AObj.rw [vi (fdC b n l k_1 (rds n (κ-1) f1 t1 m2))] none,AObj.rw [ptr0 3] none,AObj.rw [Value.func (Fn.func (123:FuncId)) ⟨[]⟩ ⟨[ptr0 5]⟩] none,AObj.rw [Value.func (Fn.func (61:FuncId)) ⟨[ptr0 3]⟩ ⟨[]⟩] none,AObj.loop LoopState.ready none (gcV0 b n c) ⟨[17]⟩ Code.skip y1c_c0,AObj.rw [Value.func (Fn.yield 8) ⟨[]⟩ ⟨[]⟩] none,AObj.loop LoopState.ready none gcV1 ⟨[6]⟩ y1_c2 y1_c3,AObj.rw [Value.func (Fn.yield 10) ⟨[]⟩ ⟨[]⟩] none,AObj.rw [ptr0 3] none,AObj.loop LoopState.ready none gcV2 ⟨[6]⟩ y1_c4 y1_c5,AObj.rw (List.map (Value.int IntKind.i64) m) (some 1),o15,AObj.rw (List.map (Value.int IntKind.i64) m2) (some 1)]
noncomputable def gcV4 (b:Int) (n:Nat) (c:Nat) (f:Nat) (l:List Int) (m:List Int) (k:Int):List AObj := [AObj.ro (List.map (Value.int IntKind.i64) l),AObj.rw [vi b,Value.slice (some (ad0 0)) n c] none,AObj.rw [vi b,Value.slice (some (ad0 0)) n c] none,AObj.rw (vi b::Value.slice (some (ad0 0)) n c::vi (f:Int)::B10 (tmd n) []) none,AObj.rw [vi k] none,AObj.rw [ptr0 3] none,AObj.rw [Value.func (Fn.func (123:FuncId)) ⟨[]⟩ ⟨[ptr0 5]⟩] none,AObj.rw [Value.func (Fn.func (61:FuncId)) ⟨[ptr0 3]⟩ ⟨[]⟩] none,AObj.loop LoopState.ready none (gcV0 b n c) ⟨[17]⟩ Code.skip y1c_c0,AObj.rw [Value.func (Fn.yield 8) ⟨[]⟩ ⟨[]⟩] none,AObj.loop LoopState.ready none gcV1 ⟨[6]⟩ y1_c2 y1_c3,AObj.rw [Value.func (Fn.yield 10) ⟨[]⟩ ⟨[]⟩] none,AObj.rw [ptr0 3] none,AObj.loop LoopState.ready none gcV2 ⟨[6]⟩ y1_c4 y1_c5,AObj.rw (List.map (Value.int IntKind.i64) m) (some 1)]
noncomputable def gcV5 (b:Int) (n:Nat) (c:Nat) (f:Nat) (l:List Int) (m:List Int) (k_1:Int) (m2:List Int) (o15:AObj):List AObj := [AObj.ro (List.map (Value.int IntKind.i64) l),AObj.rw [vi b,Value.slice (some (ad0 0)) n c] none,AObj.rw [vi b,Value.slice (some (ad0 0)) n c] none,AObj.rw (vi b::Value.slice (some (ad0 0)) n c::vi (f:Int)::B10 (tmd n) []) none,AObj.rw [vi k_1] none,AObj.rw [ptr0 3] none,AObj.rw [Value.func (Fn.func (123:FuncId)) ⟨[]⟩ ⟨[ptr0 5]⟩] none,AObj.rw [Value.func (Fn.func (61:FuncId)) ⟨[ptr0 3]⟩ ⟨[]⟩] none,AObj.loop LoopState.ready none (gcV0 b n c) ⟨[17]⟩ Code.skip y1c_c0,AObj.rw [Value.func (Fn.yield 8) ⟨[]⟩ ⟨[]⟩] none,AObj.loop LoopState.ready none gcV1 ⟨[6]⟩ y1_c2 y1_c3,AObj.rw [Value.func (Fn.yield 10) ⟨[]⟩ ⟨[]⟩] none,AObj.rw [ptr0 3] none,AObj.loop LoopState.ready none gcV2 ⟨[6]⟩ y1_c4 y1_c5,AObj.rw (List.map (Value.int IntKind.i64) m) (some 1),o15,AObj.rw (List.map (Value.int IntKind.i64) m2) (some 1)]
noncomputable def gcV6 (m:List Int) := (andP (some (0+1≤1∧true=true)) (m.length+1≤1099511627776∧(2 * (m.length+1)+256) * 8≤281474976710656∧1=1∧m.length<m.length+1∧0+m.length * 1≤(List.map (Value.int IntKind.i64) m).length))
noncomputable def gcV7  : List Value := [Value.func (Fn.func (123 : FuncId)) { toList := [] } { toList := [ptr0 5] }]
noncomputable def gcV8  : List Value := [Value.func (Fn.func (61 : FuncId)) { toList := [ptr0 3] } { toList := [] }]
noncomputable def gcV9  : List Value := [Value.func (Fn.yield (10 : Nat)) { toList := [] } { toList := [] }]
noncomputable def gcV10  : List Value := [Value.func (Fn.yield (8 : Nat)) { toList := [] } { toList := [] }]
noncomputable def gcV11 (b:Int) (n:Nat) (c:Nat) (f:Nat) := (vi b::Value.slice (some (ad0 0)) n c::vi (f:Int)::B10 (tmd n) [])
noncomputable def gcV12  := (Value.int IntKind.i64)
noncomputable def gcV13 (b:Int) (n:Nat) (c:Nat):List Value := [vi b,Value.slice (some (ad0 0)) n c]
noncomputable def gcV14  (f1:Nat) (m2:List Int) (t1:Nat):List Value := [ptr0 3,Value.slice (some ⟨16,0,some 0⟩) m2.length 0,vi (f1:Int),vi (t1:Int),Value.func (Fn.yield 13) ⟨[]⟩ ⟨[]⟩]
noncomputable def gcV15 (m:List Int) (t:Nat) := (List.take (m.length * 1) (List.drop 0 (List.map gcV12 m))++[vi (t:Int)])
noncomputable def gcV16 (g:Nat) := (IntKind.i64.wrap ((g:Int)-(1:Int)))
noncomputable def gcV :=
fun (b:Int) (n c f:Nat) (l m:List Int) (k:Int) (κ g t:Nat)↦(((m.length:Int)==(n:Int))=true→Ob ([Value.slice (some ⟨14,0,some 0⟩) m.length 0]=[Value.slice (some ⟨14,0,some 0⟩) n 0]∧(gcV4 b n c f l m k)=(gcV4 b n c f l m k)∧Whole n m)∧True∧Ob (YRc b n c f l m LoopState.ready (fdC b n l k (rds n κ g t m)) (Value.bool true) [AObj.ro (List.map gcV12 l),AObj.rw (gcV13 b n c) none,AObj.rw (gcV13 b n c) none,AObj.rw (gcV11 b n c f) none,AObj.rw [vi (nxC b n l m k)] none,AObj.rw [ptr0 3] none,AObj.rw gcV7 none,AObj.rw gcV8 none,AObj.loop LoopState.ready none (gcV0 b n c) ⟨[17]⟩ Code.skip y1c_c0,AObj.rw gcV10 none,AObj.loop LoopState.ready none gcV1 ⟨[6]⟩ y1_c2 y1_c3,AObj.rw gcV9 none,AObj.rw [ptr0 3] none,AObj.loop LoopState.ready none gcV2 ⟨[6]⟩ y1_c4 y1_c5,AObj.rw (List.map gcV12 m) (some 1)]))∧(((m.length:Int)==(n:Int))=false→Ob (m.length≤(List.map gcV12 m).length∧(m.length:Int)=(m.length:Int)∧(m.length:Int)=(m.length:Int))∧(decide ((0:Int)<(g:Int))=true→Ob (gcV6 m)∧∃ (m2:List Int),∃ (f1:Nat),∃ (t1:Nat),∃ (k_1:Int),∃ (o15:AObj),Ob ([ptr0 3,Value.slice (some ⟨16,0,some 0⟩) (m.length+1) 0,vi (gcV16 g),vi (t:Int),Value.func (Fn.yield 13) ⟨[]⟩ ⟨[]⟩]=(gcV14 f1 m2 t1)∧[AObj.ro (List.map gcV12 l),AObj.rw (gcV13 b n c) none,AObj.rw (gcV13 b n c) none,AObj.rw (gcV11 b n c f) none,AObj.rw [vi k] none,AObj.rw [ptr0 3] none,AObj.rw gcV7 none,AObj.rw gcV8 none,AObj.loop LoopState.ready none (gcV0 b n c) ⟨[17]⟩ Code.skip y1c_c0,AObj.rw gcV10 none,AObj.loop LoopState.ready none gcV1 ⟨[6]⟩ y1_c2 y1_c3,AObj.rw gcV9 none,AObj.rw [ptr0 3] none,AObj.loop LoopState.ready none gcV2 ⟨[6]⟩ y1_c4 y1_c5,AObj.rw (List.map gcV12 m) (some 1),AObj.rw [vi (gcV16 g)] none,AObj.rw (List.take (m.length * 1) (List.drop 0 (List.map gcV12 m))++[vi (gcV16 g)]) (some 1)]=(gcV5 b n c f l m k_1 m2 o15)∧Begun n f1 t1 m2∧f1+(n-t1)+1=κ)∧(false=true→True∧Ob (YRc b n c f l m LoopState.ready (fdC b n l k (rds n κ g t m)) (Value.bool false) (gcV3 b n c f l m κ f1 k_1 m2 o15 t1)))∧(false=false→(((t:Int)==(n:Int))=false→Ob (gcV6 m)∧∃ (m2_1:List Int),∃ (f1_1:Nat),∃ (t1_1:Nat),∃ (k_2:Int),∃ (o15_1:AObj),∃ (o16:AObj),∃ (o17:AObj),Ob ([ptr0 3,Value.slice (some ⟨18,0,some 0⟩) (m.length+1) 0,vi (g:Int),vi (IntKind.i64.wrap ((t:Int)+(1:Int))),Value.func (Fn.yield 13) ⟨[]⟩ ⟨[]⟩]=[ptr0 3,Value.slice (some ⟨18,0,some 0⟩) m2_1.length 0,vi (f1_1:Int),vi (t1_1:Int),Value.func (Fn.yield 13) ⟨[]⟩ ⟨[]⟩]∧[AObj.ro (List.map gcV12 l),AObj.rw (gcV13 b n c) none,AObj.rw (gcV13 b n c) none,AObj.rw (gcV11 b n c f) none,AObj.rw [vi (fdC b n l k_1 (rds n (κ-1) f1 t1 m2))] none,AObj.rw [ptr0 3] none,AObj.rw gcV7 none,AObj.rw gcV8 none,AObj.loop LoopState.ready none (gcV0 b n c) ⟨[17]⟩ Code.skip y1c_c0,AObj.rw gcV10 none,AObj.loop LoopState.ready none gcV1 ⟨[6]⟩ y1_c2 y1_c3,AObj.rw gcV9 none,AObj.rw [ptr0 3] none,AObj.loop LoopState.ready none gcV2 ⟨[6]⟩ y1_c4 y1_c5,AObj.rw (List.map gcV12 m) (some 1),o15,AObj.rw (List.map gcV12 m2) (some 1),AObj.rw [vi (t:Int)] none,AObj.rw (gcV15 m t) (some 1)]=[AObj.ro (List.map gcV12 l),AObj.rw (gcV13 b n c) none,AObj.rw (gcV13 b n c) none,AObj.rw (gcV11 b n c f) none,AObj.rw [vi k_2] none,AObj.rw [ptr0 3] none,AObj.rw gcV7 none,AObj.rw gcV8 none,AObj.loop LoopState.ready none (gcV0 b n c) ⟨[17]⟩ Code.skip y1c_c0,AObj.rw gcV10 none,AObj.loop LoopState.ready none gcV1 ⟨[6]⟩ y1_c2 y1_c3,AObj.rw gcV9 none,AObj.rw [ptr0 3] none,AObj.loop LoopState.ready none gcV2 ⟨[6]⟩ y1_c4 y1_c5,AObj.rw (List.map gcV12 m) (some 1),o15_1,o16,o17,AObj.rw (List.map gcV12 m2_1) (some 1)]∧Begun n f1_1 t1_1 m2_1∧f1_1+(n-t1_1)+1=κ)∧True∧Ob (YRc b n c f l m LoopState.ready (fdC b n l k (rds n κ g t m)) (Value.bool true) [AObj.ro (List.map gcV12 l),AObj.rw (gcV13 b n c) none,AObj.rw (gcV13 b n c) none,AObj.rw (gcV11 b n c f) none,AObj.rw [vi (fdC b n l k_2 (rds n (κ-1) f1_1 t1_1 m2_1))] none,AObj.rw [ptr0 3] none,AObj.rw gcV7 none,AObj.rw gcV8 none,AObj.loop LoopState.ready none (gcV0 b n c) ⟨[17]⟩ Code.skip y1c_c0,AObj.rw gcV10 none,AObj.loop LoopState.ready none gcV1 ⟨[6]⟩ y1_c2 y1_c3,AObj.rw gcV9 none,AObj.rw [ptr0 3] none,AObj.loop LoopState.ready none gcV2 ⟨[6]⟩ y1_c4 y1_c5,AObj.rw (List.map gcV12 m) (some 1),o15_1,o16,o17,AObj.rw (List.map gcV12 m2_1) (some 1)]))∧(((t:Int)==(n:Int))=true→True∧Ob (YRc b n c f l m LoopState.ready (fdC b n l k (rds n κ g t m)) (Value.bool true) (gcV3 b n c f l m κ f1 k_1 m2 o15 t1)))))∧(decide ((0:Int)<(g:Int))=false→(((t:Int)==(n:Int))=false→Ob (gcV6 m)∧∃ (m2:List Int),∃ (f1:Nat),∃ (t1:Nat),∃ (k_1:Int),∃ (o15:AObj),Ob ([ptr0 3,Value.slice (some ⟨16,0,some 0⟩) (m.length+1) 0,vi (g:Int),vi (IntKind.i64.wrap ((t:Int)+(1:Int))),Value.func (Fn.yield 13) ⟨[]⟩ ⟨[]⟩]=(gcV14 f1 m2 t1)∧[AObj.ro (List.map gcV12 l),AObj.rw (gcV13 b n c) none,AObj.rw (gcV13 b n c) none,AObj.rw (gcV11 b n c f) none,AObj.rw [vi k] none,AObj.rw [ptr0 3] none,AObj.rw gcV7 none,AObj.rw gcV8 none,AObj.loop LoopState.ready none (gcV0 b n c) ⟨[17]⟩ Code.skip y1c_c0,AObj.rw gcV10 none,AObj.loop LoopState.ready none gcV1 ⟨[6]⟩ y1_c2 y1_c3,AObj.rw gcV9 none,AObj.rw [ptr0 3] none,AObj.loop LoopState.ready none gcV2 ⟨[6]⟩ y1_c4 y1_c5,AObj.rw (List.map gcV12 m) (some 1),AObj.rw [vi (t:Int)] none,AObj.rw (gcV15 m t) (some 1)]=(gcV5 b n c f l m k_1 m2 o15)∧Begun n f1 t1 m2∧f1+(n-t1)+1=κ)∧True∧Ob (YRc b n c f l m LoopState.ready (fdC b n l k (rds n κ g t m)) (Value.bool true) (gcV3 b n c f l m κ f1 k_1 m2 o15 t1)))∧(((t:Int)==(n:Int))=true→True∧Ob (YRc b n c f l m LoopState.ready (fdC b n l k (rds n κ g t m)) (Value.bool true) (gcV4 b n c f l m k)))))
theorem gcV_eq : gcV = fun (b : Int) (n c f : Nat) (l m : List Int) (k : Int) (κ g t : Nat) => vc Try.prog (gcE b n c f l m k κ) 15 66 true (fun _ => none) grB [] (argFr 0 [ptr0 3,newS 14 m.length,vi g,vi t,yv 13]) (ECL b n c f l m k) (retK Try.prog Try.f134 (YRc b n c f l m .ready (fdC b n l k (rds n κ g t m)))) := by kernel_rfl
theorem fdC_one {b : Int} {n : Nat} {l m : List Int} {k : Int} : fdC b n l k [m] = nxC b n l m k := rfl
theorem fdC_append {b : Int} {n : Nat} {l : List Int} {k : Int} {r r' : List (List Int)} : fdC b n l k (r ++ r') = fdC b n l (fdC b n l k r) r' := foldC_append
theorem gcV_ok (b : Int) (n c f : Nat) (l m : List Int) (k : Int) (κ g t : Nat) (hn : n≤10) (hB : Begun n g t m) (hk : g + (n - t) = κ) : gcV b n c f l m k κ g t := by
 unfold gcV gcV16 gcV15 gcV14 gcV13 gcV12 gcV11 gcV10 gcV9 gcV8 gcV7 gcV6 gcV5 gcV4 gcV3 gcV2 gcV1 gcV0
 simp only [SS,reduceCtorEq,Arg.list,Arg.num,Arg.flag,intOf,andP,Nat.reduceLeDiff,Nat.reduceAdd,Nat.reduceMul,Nat.reduceLT,yv,newS]
 have h1 := hB.len
 have h2 := hB.le
 have w2 : IntKind.i64.wrap ((t : Int) + 1) = ((t + 1 : Nat) : Int) := by rw [wrap_in (by omega) (by omega)]; omega
 refine ⟨fun h => ?_,fun h => ⟨fun hg => ?_,fun hg => ?_⟩⟩
 · obtain rfl : g = 0 := by omega
   obtain rfl : t = n := by omega
   refine ⟨⟨by omega,hB⟩,?_⟩
   rw [show κ = 0 by omega,rds,fdC_one]
   exact ⟨rfl,by kernel_rfl⟩
 · have hg' : 0 < g := by omega
   have hk' : κ = (κ - 1) + 1 := by omega
   have w1 : IntKind.i64.wrap ((g : Int) - 1) = ((g - 1 : Nat) : Int) := by rw [wrap_in (by omega) (by omega)]; omega
   rw [w1]
   refine ⟨by omega,m ++ [((g - 1 : Nat) : Int)],g - 1,t,k,_,⟨⟨by simp,rfl,rfl⟩,⟨rfl,rfl,rfl⟩,hB.left hg',by omega⟩,fun ht => ?_,fun ht => ?_⟩
   · rw [w2]
     have ht' : t < n := by omega
     refine ⟨by omega,m ++ [(t : Int)],g,t + 1,_,_,_,_,⟨⟨by simp,rfl,rfl⟩,⟨rfl,rfl,rfl,rfl,rfl⟩,hB.right ht',by omega⟩,?_⟩
     rw [show rds n κ g t m = rds n (κ - 1) (g - 1) t (m ++ [((g - 1 : Nat) : Int)]) ++ rds n (κ - 1) g (t + 1) (m ++ [(t : Int)]) by conv => lhs; rw [hk',rds,if_pos hg',if_pos ht'],fdC_append]
     exact ⟨rfl,by kernel_rfl⟩
   · have ht' : ¬ t < n := by omega
     rw [show rds n κ g t m = rds n (κ - 1) (g - 1) t (m ++ [((g - 1 : Nat) : Int)]) by conv => lhs; rw [hk',rds,if_pos hg',if_neg ht',List.append_nil]]
     exact ⟨rfl,by kernel_rfl⟩
 · have hg' : ¬ 0 < g := by omega
   have ht' : t < n := by omega
   have hk' : κ = (κ - 1) + 1 := by omega
   rw [w2]
   refine ⟨fun ht => ⟨by omega,m ++ [(t : Int)],g,t + 1,k,_,⟨⟨by simp,rfl,rfl⟩,⟨rfl,rfl,rfl⟩,hB.right ht',by omega⟩,?_⟩,fun ht => by omega⟩
   rw [show rds n κ g t m = rds n (κ - 1) g (t + 1) (m ++ [(t : Int)]) by conv => lhs; rw [hk',rds,if_neg hg',if_pos ht',List.nil_append]]
   exact ⟨rfl,by kernel_rfl⟩
def GrowC (b : Int) (n c f : Nat) (l m : List Int) (k K a t : Int) : Prop :=
 Call Try.prog 134 [ptr0 3,newS 14 m.length,vi a,vi t,yv 13] (ECL b n c f l m k) fun v H' => v = .bool true∧H' = ECL b n c f l m K
theorem ECL_obj {b : Int} {n c f : Nat} {l m : List Int} {k : Int} {L : List Nat} {H : Heap} (h : (ECr b n c f k .ready).map (omap fun c => L.getD c 0) = ECr b n c f k .ready)
   (hH : ∀ (c' : Nat) (o : AObj),c' < 14→(ECL b n c f l m k)[c']? = some o→H[L.getD c' 0]? = some o) (h14 : H[L.getD 14 0]? = some (rws m)) :
   ∀ (c' : Nat) (o : AObj),(ECL b n c f l m k)[c']? = some o→o = .gone∨H[L.getD c' 0]? = some (omap (fun c => L.getD c 0) o) := fun c' o hc => by
 right
 rcases Nat.lt_or_ge c' 14 with h1 | h1
 · refine hH c' _ h1 ?_
   have := EGc_map (l := l) (m := m) h
   unfold ECL at hc ⊢
   conv => lhs; rw [← this]
   rw [List.getElem?_map,hc]; rfl
 · have h2 : c' < 15 := (List.getElem?_eq_some_iff.1 hc).1
   obtain rfl : c' = 14 := by omega
   have e : o = rws m := by cases hc; rfl
   rw [h14,e,rws_omap]
theorem gc_site1 {b : Int} {n c f : Nat} {l m m2 : List Int} {k K a t : Int} {o15 : AObj} (h : GrowC b n c f l m2 k K a t) :
   Call Try.prog 134 [ptr0 3,newS 16 m2.length,vi a,vi t,yv 13] (ECL b n c f l m k ++ [o15,rws m2]) fun v H' => v = .bool true∧H' = ECL b n c f l m K ++ [o15,rws m2] := by
 have hF := EGc_map (l := l) (m := m2) (σ := nameL [0,1,2,3,4,5,6,7,8,9,10,11,12,13,16] 15 17) (b := b) (n := n) (c := c) (f := f) (z := .ready) (k := K) (by kernel_rfl)
 have := (Call.frameG (H := ECL b n c f l m k ++ [o15,rws m2]) (Et := ECL b n c f l m2 k) (Ft := ECL b n c f l m2 K) (N := []) (L := [0,1,2,3,4,5,6,7,8,9,10,11,12,13,16]) (vs := [ptr0 3,newS 16 m2.length,vi a,vi t,yv 13]) rfl rfl (by decide) (getD_lt (by kernel_rfl))
   (ECL_obj (by kernel_rfl) (fun c' o h1 h2 => by
     rcases c' with _ | _ | _ | _ | _ | _ | _ | _ | _ | _ | _ | _ | _ | _ | c' <;> first | exact h2 | omega) rfl)
   (EGc_all (by kernel_rfl) ros_sc rws_sc) (by kernel_rfl) (by kernel_rfl) (h.mono fun v H' hh => ⟨hh.1,by rw [hh.2,List.append_nil]⟩)
   (fun o ho => by
     rw [List.append_nil] at ho
     exact EGc_all (p := fun o => o.nm _) (by kernel_rfl) ros_nm rws_nm o ho)
   (fun o ho => by cases ho) (by kernel_rfl)
   (fun o ho => by
     rw [List.append_nil] at ho
     have h2 := List.mem_map_of_mem (f := omap (nameL [0,1,2,3,4,5,6,7,8,9,10,11,12,13,16] 15 17)) ho
     unfold ECL at h2
     rw [hF] at h2
     exact EGc_all (p := fun o => o.sc 17) (by kernel_rfl) ros_sc rws_sc _ h2) (by kernel_rfl)).1
 refine this.mono fun v H' hh => ⟨hh.1,?_⟩
 rw [hh.2]
 show setG _ _ _ (List.map (omap (nameL [0,1,2,3,4,5,6,7,8,9,10,11,12,13,16] 15 17)) (EGc b n c f l m2 .ready K)) ++ _ = _
 rw [hF]
 kernel_rfl
theorem gc_site2 {b : Int} {n c f : Nat} {l m m2 : List Int} {k K a t : Int} {o15 o16 o17 : AObj} (h : GrowC b n c f l m2 k K a t) :
   Call Try.prog 134 [ptr0 3,newS 18 m2.length,vi a,vi t,yv 13] (ECL b n c f l m k ++ [o15,o16,o17,rws m2]) fun v H' => v = .bool true∧H' = ECL b n c f l m K ++ [o15,o16,o17,rws m2] := by
 have hF := EGc_map (l := l) (m := m2) (σ := nameL [0,1,2,3,4,5,6,7,8,9,10,11,12,13,18] 15 19) (b := b) (n := n) (c := c) (f := f) (z := .ready) (k := K) (by kernel_rfl)
 have := (Call.frameG (H := ECL b n c f l m k ++ [o15,o16,o17,rws m2]) (Et := ECL b n c f l m2 k) (Ft := ECL b n c f l m2 K) (N := []) (L := [0,1,2,3,4,5,6,7,8,9,10,11,12,13,18]) (vs := [ptr0 3,newS 18 m2.length,vi a,vi t,yv 13]) rfl rfl (by decide) (getD_lt (by kernel_rfl))
   (ECL_obj (by kernel_rfl) (fun c' o h1 h2 => by
     rcases c' with _ | _ | _ | _ | _ | _ | _ | _ | _ | _ | _ | _ | _ | _ | c' <;> first | exact h2 | omega) rfl)
   (EGc_all (by kernel_rfl) ros_sc rws_sc) (by kernel_rfl) (by kernel_rfl) (h.mono fun v H' hh => ⟨hh.1,by rw [hh.2,List.append_nil]⟩)
   (fun o ho => by
     rw [List.append_nil] at ho
     exact EGc_all (p := fun o => o.nm _) (by kernel_rfl) ros_nm rws_nm o ho)
   (fun o ho => by cases ho) (by kernel_rfl)
   (fun o ho => by
     rw [List.append_nil] at ho
     have h2 := List.mem_map_of_mem (f := omap (nameL [0,1,2,3,4,5,6,7,8,9,10,11,12,13,18] 15 19)) ho
     unfold ECL at h2
     rw [hF] at h2
     exact EGc_all (p := fun o => o.sc 19) (by kernel_rfl) ros_sc rws_sc _ h2) (by kernel_rfl)).1
 refine this.mono fun v H' hh => ⟨hh.1,?_⟩
 rw [hh.2]
 show setG _ _ _ (List.map (omap (nameL [0,1,2,3,4,5,6,7,8,9,10,11,12,13,18] 15 19)) (EGc b n c f l m2 .ready K)) ++ _ = _
 rw [hF]
 kernel_rfl
theorem gcCc_ok (b : Int) (n c f : Nat) (l m : List Int) (κ : Nat) (h : ∀ (m2 : List Int) (f1 t1 : Nat) (k : Int),Begun n f1 t1 m2→f1 + (n - t1) + 1 = κ→GrowC b n c f l m2 k (fdC b n l k (rds n (κ - 1) f1 t1 m2)) f1 t1) : CcOk Try.prog (gcCc b n c f l m κ) := by
 intro fn args H T hT Q hQ
 unfold gcCc at hT
 split at hT <;> try (cases hT; done)
 rename_i hf
 obtain rfl := Nat.eq_of_beq_eq_true hf
 split at hT
 · cases hT
   obtain ⟨m2,f1,t1,k,o15,hO,hq⟩ := hQ
   obtain ⟨rfl,rfl,h1,h2⟩ := hO.out
   exact (gc_site1 (h m2 f1 t1 k h1 h2)).mono fun v H' ⟨e1,e2⟩ => by subst e1; subst e2; exact hq
 · split at hT <;> cases hT
   obtain ⟨m2,f1,t1,k,o15,o16,o17,hO,hq⟩ := hQ
   obtain ⟨rfl,rfl,h1,h2⟩ := hO.out
   exact (gc_site2 (h m2 f1 t1 k h1 h2)).mono fun v H' ⟨e1,e2⟩ => by subst e1; subst e2; exact hq
theorem gcYc_ok (b : Int) (n c f : Nat) (l m : List Int) (k : Int) (hl : l.length = n * 2) (hn : n≤10) (hr : rngP b n l) : YcOk Try.prog (gcYc b n c f l m k) := by
 intro b1 args H T hT Q hQ
 unfold gcYc at hT
 split at hT <;> cases hT
 rename_i hb
 obtain rfl := Nat.eq_of_beq_eq_true hb
 obtain ⟨hO,hq⟩ := hQ
 obtain ⟨rfl,rfl,hw⟩ := hO.out
 exact (y2c_yield b n c f l m k hl hn hr (whole_len hw) (whole_mem hw)).mono fun v H' ⟨e1,e2⟩ => by subst e1; subst e2; exact hq
theorem growC_go (b : Int) (n c f : Nat) (l : List Int) (hl : l.length = n * 2) (hn : n≤10) (hr : rngP b n l) (κ g t : Nat) (m : List Int) (k : Int) (hB : Begun n g t m) (hk : g + (n - t) = κ) (h : ∀ (m2 : List Int) (f1 t1 : Nat) (k : Int),Begun n f1 t1 m2→f1 + (n - t1) + 1 = κ→GrowC b n c f l m2 k (fdC b n l k (rds n (κ - 1) f1 t1 m2)) f1 t1) : GrowC b n c f l m k (fdC b n l k (rds n κ g t m)) g t := by
 have hv := gcV_ok b n c f l m k κ g t hn hB hk
 rw [gcV_eq] at hv
 have hE : VOk Try.prog (gcE b n c f l m k κ) := ⟨CtOk.none,gcCc_ok b n c f l m κ h,gcYc_ok b n c f l m k hl hn hr,orcOr_ok orcLim_ok prE1_ok.orc⟩
 refine Call.anew (Call.mono (Call.ofVc (H := ECL b n c f l m k) (args := [ptr0 3,newS 14 m.length,vi g,vi t,yv 13]) hE mixed (c := grB) (inv := fun _ => none) (R := YRc b n c f l m .ready (fdC b n l k (rds n κ g t m))) Try.func134 (by kernel_rfl) (cast (by kernel_rfl) hv)) fun v H' hy => ?_)
 exact cut_anew (E := ECL b n c f l m _) EGc_len (EGc_map (by kernel_rfl)) (EGc_all (by kernel_rfl) ros_sc rws_sc) hy.1 hy.2
theorem growC_ok (b : Int) (n c f : Nat) (l : List Int) (hl : l.length = n * 2) (hn : n≤10) (hr : rngP b n l) : ∀ (κ g t : Nat) (m : List Int) (k : Int),Begun n g t m→g + (n - t) = κ→GrowC b n c f l m k (fdC b n l k (rds n κ g t m)) g t := by
 intro κ
 induction κ with
 | zero =>
   intro g t m k hB hk
   exact growC_go b n c f l hl hn hr 0 g t m k hB hk (fun m2 f1 t1 k _ h => by omega)
 | succ κ ih =>
   intro g t m k hB hk
   exact growC_go b n c f l hl hn hr (κ + 1) g t m k hB hk (fun m2 f1 t1 k h1 h2 => by
     rw [Nat.add_sub_cancel]
     exact ih f1 t1 m2 k h1 (by omega))
end Go.Pier.Rd
namespace Go.Pier.Rd
open Go Go.Pier Go.Proofs
noncomputable def EHC (b : Int) (n c f : Nat) (l : List Int) (k : Int) : Heap := EHc b n c f l .ready k
noncomputable def g0cC (b:Int) (n c f:Nat) (l:List Int) (κ:Nat):Cc := fun fn args H => match Nat.beq fn 134 with
 | true => match Nat.beq H.length 16 with
   | true => some fun Q => ∃ (m2:List Int) (f1 t1:Nat) (k:Int) (o14:AObj),Ob (args=[ptr0 3,newS 15 m2.length,vi f1,vi t1,yv 13]∧H=EHC b n c f l k++[o14,rws m2]∧Begun n f1 t1 m2∧f1+(n-t1)+1=κ) ∧
       Q (.bool true) (EHC b n c f l (fdC b n l k (rds n (κ-1) f1 t1 m2))++[o14,rws m2])
   | false => match Nat.beq H.length 18 with
     | true => some fun Q => ∃ (m2:List Int) (f1 t1:Nat) (k:Int) (o14 o15 o16:AObj),Ob (args=[ptr0 3,newS 17 m2.length,vi f1,vi t1,yv 13]∧H=EHC b n c f l k++[o14,o15,o16,rws m2]∧Begun n f1 t1 m2∧f1+(n-t1)+1=κ) ∧
         Q (.bool true) (EHC b n c f l (fdC b n l k (rds n (κ-1) f1 t1 m2))++[o14,o15,o16,rws m2])
     | false => none
 | false => none
noncomputable def g0cE (b : Int) (n c f : Nat) (l : List Int) (κ : Nat) : VEnv := { orc := orcOr (orcLim Try.prog) prO,cc := g0cC b n c f l κ }
def YR0c (b : Int) (n c f : Nat) (l : List Int) (k : Int) (v : Value) (H' : Heap) : Prop := v = .bool true∧H' = EHC b n c f l k ++ H'.drop 14
noncomputable def g0C0 (b:Int) (n:Nat) (c:Nat):Array Value := ⟨[Value.agg ⟨[vi b,Value.slice (some (ad0 0)) n c]⟩,ptr0 1,vi (0:Int),vi (0:Int),ptr0 3,vi (0:Int),ptr0 4,Value.tuple ⟨[ptr0 3,vi (0:Int)]⟩,Value.agg ⟨[vi b,Value.slice (some (ad0 0)) n c]⟩,Value.tuple ⟨[ptr0 3,vi (0:Int)]⟩,ptr0 3,vi (0:Int),vi (0:Int),Value.bool false,junk,ptr0 3,Value.func (Fn.func (122:FuncId)) ⟨[]⟩ ⟨[ptr0 6,ptr0 7]⟩,junk,junk,junk,junk]⟩
noncomputable def g0C1 (b:Int) (n:Nat) (c:Nat) (f:Nat) (l:List Int) (κ:Nat) (f1:Nat) (k_1:Int) (m2:List Int) (o14:AObj) (t1:Nat):List AObj := [AObj.ro (List.map (Value.int IntKind.i64) l),AObj.rw [vi b,Value.slice (some (ad0 0)) n c] none,AObj.rw [vi b,Value.slice (some (ad0 0)) n c] none,AObj.rw (vi b::Value.slice (some (ad0 0)) n c::vi (f:Int)::B10 (tmd n) []) none,AObj.rw [vi (fdC b n l k_1 (rds n (κ-1) f1 t1 m2))] none,AObj.rw [ptr0 3] none,AObj.rw [Value.func (Fn.func (123:FuncId)) ⟨[]⟩ ⟨[ptr0 5]⟩] none,AObj.rw [Value.func (Fn.func (61:FuncId)) ⟨[ptr0 3]⟩ ⟨[]⟩] none,AObj.loop LoopState.ready none (g0C0 b n c) ⟨[17]⟩ Code.skip y1c_c0,AObj.rw [Value.func (Fn.yield 8) ⟨[]⟩ ⟨[]⟩] none,AObj.loop LoopState.ready none ⟨[Value.func (Fn.yield 8) ⟨[]⟩ ⟨[]⟩,ptr0 6,ptr0 7,ptr0 9,junk,Value.func (Fn.func (123:FuncId)) ⟨[]⟩ ⟨[ptr0 5]⟩,junk,junk,junk,junk,junk,junk,junk,junk,junk,junk]⟩ ⟨[6]⟩ y1_c2 y1_c3,AObj.rw [Value.func (Fn.yield 10) ⟨[]⟩ ⟨[]⟩] none,AObj.rw [ptr0 3] none,AObj.loop LoopState.ready none ⟨[Value.func (Fn.yield 10) ⟨[]⟩ ⟨[]⟩,ptr0 5,ptr0 11,junk,ptr0 3,Value.func (Fn.func (133:FuncId)) ⟨[]⟩ ⟨[ptr0 12]⟩,junk,junk,junk,junk,junk,junk,junk]⟩ ⟨[6]⟩ y1_c4 y1_c5,o14,AObj.rw (List.map (Value.int IntKind.i64) m2) (some 1)]
noncomputable def g0C2  : Array Value := { toList := [Value.func (Fn.yield (8 : Nat)) { toList := [] } { toList := [] },ptr0 6,ptr0 7,ptr0 9,junk,Value.func (Fn.func (123 : FuncId)) { toList := [] } { toList := [ptr0 5] },junk,junk,junk,junk,junk,junk,junk,junk,junk,junk] }
noncomputable def g0C3  : Array Value := { toList := [Value.func (Fn.yield (10 : Nat)) { toList := [] } { toList := [] },ptr0 5,ptr0 11,junk,ptr0 3,Value.func (Fn.func (133 : FuncId)) { toList := [] } { toList := [ptr0 12] },junk,junk,junk,junk,junk,junk,junk] }
noncomputable def g0C4 (b:Int) (n:Nat) (c:Nat) (f:Nat) (l:List Int) (k_1:Int) (m2:List Int) (o14:AObj):List AObj := [AObj.ro (List.map (Value.int IntKind.i64) l),AObj.rw [vi b,Value.slice (some (ad0 0)) n c] none,AObj.rw [vi b,Value.slice (some (ad0 0)) n c] none,AObj.rw (vi b::Value.slice (some (ad0 0)) n c::vi (f:Int)::B10 (tmd n) []) none,AObj.rw [vi k_1] none,AObj.rw [ptr0 3] none,AObj.rw [Value.func (Fn.func (123:FuncId)) ⟨[]⟩ ⟨[ptr0 5]⟩] none,AObj.rw [Value.func (Fn.func (61:FuncId)) ⟨[ptr0 3]⟩ ⟨[]⟩] none,AObj.loop LoopState.ready none (g0C0 b n c) ⟨[17]⟩ Code.skip y1c_c0,AObj.rw [Value.func (Fn.yield 8) ⟨[]⟩ ⟨[]⟩] none,AObj.loop LoopState.ready none g0C2 ⟨[6]⟩ y1_c2 y1_c3,AObj.rw [Value.func (Fn.yield 10) ⟨[]⟩ ⟨[]⟩] none,AObj.rw [ptr0 3] none,AObj.loop LoopState.ready none g0C3 ⟨[6]⟩ y1_c4 y1_c5,o14,AObj.rw (List.map (Value.int IntKind.i64) m2) (some 1)]
noncomputable def g0C5  := (andP (some ((0 : Nat) + (1 : Nat)≤(1 : Nat)∧true = true)) ((1 : Nat)≤(1099511627776 : Nat)∧(2064 : Nat)≤(281474976710656 : Nat)∧(1 : Nat) = (1 : Nat)∧(0 : Nat) = (0 : Nat)∧(0 : Nat) < (1 : Nat)))
noncomputable def g0C6  : List Value := [Value.func (Fn.func (123 : FuncId)) { toList := [] } { toList := [ptr0 5] }]
noncomputable def g0C7  : List Value := [Value.func (Fn.func (61 : FuncId)) { toList := [ptr0 3] } { toList := [] }]
noncomputable def g0C8  : List Value := [Value.func (Fn.yield (10 : Nat)) { toList := [] } { toList := [] }]
noncomputable def g0C9  : List Value := [Value.func (Fn.yield (8 : Nat)) { toList := [] } { toList := [] }]
noncomputable def g0C10 (b:Int) (n:Nat) (c:Nat) (f:Nat) := (vi b::Value.slice (some (ad0 0)) n c::vi (f:Int)::B10 (tmd n) [])
noncomputable def g0C11 (b:Int) (n:Nat) (c:Nat):List Value := [vi b,Value.slice (some (ad0 0)) n c]
noncomputable def g0C12  (f1:Nat) (m2:List Int) (t1:Nat):List Value := [ptr0 3,Value.slice (some ⟨15,0,some 0⟩) m2.length 0,vi (f1:Int),vi (t1:Int),Value.func (Fn.yield 13) ⟨[]⟩ ⟨[]⟩]
noncomputable def g0C13 (l:List Int) := (List.map (Value.int IntKind.i64) l)
noncomputable def g0C14 (g:Nat) := (IntKind.i64.wrap ((g:Int)-(1:Int)))
noncomputable def g0C :=
fun (b:Int) (n c f:Nat) (l:List Int) (k:Int) (κ g:Nat)↦(((↑(0:Nat):Int)==(n:Int))=true→False)∧(((↑(0:Nat):Int)==(n:Int))=false→(decide ((0:Int)<(g:Int))=true→Ob g0C5∧∃ (m2:List Int),∃ (f1:Nat),∃ (t1:Nat),∃ (k_1:Int),∃ (o14:AObj),Ob ([ptr0 3,Value.slice (some ⟨15,0,some 0⟩) 1 0,vi (g0C14 g),vi (g:Int),Value.func (Fn.yield 13) ⟨[]⟩ ⟨[]⟩]=(g0C12 f1 m2 t1)∧[AObj.ro (g0C13 l),AObj.rw (g0C11 b n c) none,AObj.rw (g0C11 b n c) none,AObj.rw (g0C10 b n c f) none,AObj.rw [vi k] none,AObj.rw [ptr0 3] none,AObj.rw g0C6 none,AObj.rw g0C7 none,AObj.loop LoopState.ready none (g0C0 b n c) ⟨[17]⟩ Code.skip y1c_c0,AObj.rw g0C9 none,AObj.loop LoopState.ready none g0C2 ⟨[6]⟩ y1_c2 y1_c3,AObj.rw g0C8 none,AObj.rw [ptr0 3] none,AObj.loop LoopState.ready none g0C3 ⟨[6]⟩ y1_c4 y1_c5,AObj.rw [vi (g0C14 g)] none,AObj.rw [vi (g0C14 g)] (some 1)]=(g0C4 b n c f l k_1 m2 o14)∧Begun n f1 t1 m2∧f1+(n-t1)+1=κ)∧(false=true→True∧Ob (YR0c b n c f l (fdC b n l k (rds n κ g g [])) (Value.bool false) (g0C1 b n c f l κ f1 k_1 m2 o14 t1)))∧(false=false→(((g:Int)==(n:Int))=false→Ob g0C5∧∃ (m2_1:List Int),∃ (f1_1:Nat),∃ (t1_1:Nat),∃ (k_2:Int),∃ (o14_1:AObj),∃ (o15:AObj),∃ (o16:AObj),Ob ([ptr0 3,Value.slice (some ⟨17,0,some 0⟩) 1 0,vi (g:Int),vi (IntKind.i64.wrap ((g:Int)+(1:Int))),Value.func (Fn.yield 13) ⟨[]⟩ ⟨[]⟩]=[ptr0 3,Value.slice (some ⟨17,0,some 0⟩) m2_1.length 0,vi (f1_1:Int),vi (t1_1:Int),Value.func (Fn.yield 13) ⟨[]⟩ ⟨[]⟩]∧[AObj.ro (g0C13 l),AObj.rw (g0C11 b n c) none,AObj.rw (g0C11 b n c) none,AObj.rw (g0C10 b n c f) none,AObj.rw [vi (fdC b n l k_1 (rds n (κ-1) f1 t1 m2))] none,AObj.rw [ptr0 3] none,AObj.rw g0C6 none,AObj.rw g0C7 none,AObj.loop LoopState.ready none (g0C0 b n c) ⟨[17]⟩ Code.skip y1c_c0,AObj.rw g0C9 none,AObj.loop LoopState.ready none g0C2 ⟨[6]⟩ y1_c2 y1_c3,AObj.rw g0C8 none,AObj.rw [ptr0 3] none,AObj.loop LoopState.ready none g0C3 ⟨[6]⟩ y1_c4 y1_c5,o14,AObj.rw (List.map (Value.int IntKind.i64) m2) (some 1),AObj.rw [vi (g:Int)] none,AObj.rw [vi (g:Int)] (some 1)]=[AObj.ro (g0C13 l),AObj.rw (g0C11 b n c) none,AObj.rw (g0C11 b n c) none,AObj.rw (g0C10 b n c f) none,AObj.rw [vi k_2] none,AObj.rw [ptr0 3] none,AObj.rw g0C6 none,AObj.rw g0C7 none,AObj.loop LoopState.ready none (g0C0 b n c) ⟨[17]⟩ Code.skip y1c_c0,AObj.rw g0C9 none,AObj.loop LoopState.ready none g0C2 ⟨[6]⟩ y1_c2 y1_c3,AObj.rw g0C8 none,AObj.rw [ptr0 3] none,AObj.loop LoopState.ready none g0C3 ⟨[6]⟩ y1_c4 y1_c5,o14_1,o15,o16,AObj.rw (List.map (Value.int IntKind.i64) m2_1) (some 1)]∧Begun n f1_1 t1_1 m2_1∧f1_1+(n-t1_1)+1=κ)∧True∧Ob (YR0c b n c f l (fdC b n l k (rds n κ g g [])) (Value.bool true) [AObj.ro (g0C13 l),AObj.rw (g0C11 b n c) none,AObj.rw (g0C11 b n c) none,AObj.rw (g0C10 b n c f) none,AObj.rw [vi (fdC b n l k_2 (rds n (κ-1) f1_1 t1_1 m2_1))] none,AObj.rw [ptr0 3] none,AObj.rw g0C6 none,AObj.rw g0C7 none,AObj.loop LoopState.ready none (g0C0 b n c) ⟨[17]⟩ Code.skip y1c_c0,AObj.rw g0C9 none,AObj.loop LoopState.ready none g0C2 ⟨[6]⟩ y1_c2 y1_c3,AObj.rw g0C8 none,AObj.rw [ptr0 3] none,AObj.loop LoopState.ready none g0C3 ⟨[6]⟩ y1_c4 y1_c5,o14_1,o15,o16,AObj.rw (List.map (Value.int IntKind.i64) m2_1) (some 1)]))∧(((g:Int)==(n:Int))=true→True∧Ob (YR0c b n c f l (fdC b n l k (rds n κ g g [])) (Value.bool true) (g0C1 b n c f l κ f1 k_1 m2 o14 t1)))))∧(decide ((0:Int)<(g:Int))=false→(((g:Int)==(n:Int))=false→Ob g0C5∧∃ (m2:List Int),∃ (f1:Nat),∃ (t1:Nat),∃ (k_1:Int),∃ (o14:AObj),Ob ([ptr0 3,Value.slice (some ⟨15,0,some 0⟩) 1 0,vi (g:Int),vi (IntKind.i64.wrap ((g:Int)+(1:Int))),Value.func (Fn.yield 13) ⟨[]⟩ ⟨[]⟩]=(g0C12 f1 m2 t1)∧[AObj.ro (g0C13 l),AObj.rw (g0C11 b n c) none,AObj.rw (g0C11 b n c) none,AObj.rw (g0C10 b n c f) none,AObj.rw [vi k] none,AObj.rw [ptr0 3] none,AObj.rw g0C6 none,AObj.rw g0C7 none,AObj.loop LoopState.ready none (g0C0 b n c) ⟨[17]⟩ Code.skip y1c_c0,AObj.rw g0C9 none,AObj.loop LoopState.ready none g0C2 ⟨[6]⟩ y1_c2 y1_c3,AObj.rw g0C8 none,AObj.rw [ptr0 3] none,AObj.loop LoopState.ready none g0C3 ⟨[6]⟩ y1_c4 y1_c5,AObj.rw [vi (g:Int)] none,AObj.rw [vi (g:Int)] (some 1)]=(g0C4 b n c f l k_1 m2 o14)∧Begun n f1 t1 m2∧f1+(n-t1)+1=κ)∧True∧Ob (YR0c b n c f l (fdC b n l k (rds n κ g g [])) (Value.bool true) (g0C1 b n c f l κ f1 k_1 m2 o14 t1)))∧(((g:Int)==(n:Int))=true→True∧Ob (YR0c b n c f l (fdC b n l k (rds n κ g g [])) (Value.bool true) [AObj.ro (g0C13 l),AObj.rw (g0C11 b n c) none,AObj.rw (g0C11 b n c) none,AObj.rw (g0C10 b n c f) none,AObj.rw [vi k] none,AObj.rw [ptr0 3] none,AObj.rw g0C6 none,AObj.rw g0C7 none,AObj.loop LoopState.ready none (g0C0 b n c) ⟨[17]⟩ Code.skip y1c_c0,AObj.rw g0C9 none,AObj.loop LoopState.ready none g0C2 ⟨[6]⟩ y1_c2 y1_c3,AObj.rw g0C8 none,AObj.rw [ptr0 3] none,AObj.loop LoopState.ready none g0C3 ⟨[6]⟩ y1_c4 y1_c5]))))
theorem g0C_eq : g0C = fun (b : Int) (n c f : Nat) (l : List Int) (k : Int) (κ g : Nat) => vc Try.prog (g0cE b n c f l κ) 14 66 true (fun _ => none) grB [] (argFr 0 [ptr0 3,nilS,vi g,vi g,yv 13]) (EHC b n c f l k) (retK Try.prog Try.f134 (YR0c b n c f l (fdC b n l k (rds n κ g g [])))) := by kernel_rfl
theorem g0C_ok (b : Int) (n c f : Nat) (l : List Int) (k : Int) (κ g : Nat) (hn : n≤10) (hn1 : 1≤n) (hg : g≤n) (hk : g + (n - g) = κ) : g0C b n c f l k κ g := by
 unfold g0C g0C14 g0C13 g0C12 g0C11 g0C10 g0C9 g0C8 g0C7 g0C6 g0C5 g0C4 g0C3 g0C2 g0C1 g0C0
 simp only [SS,reduceCtorEq,Arg.list,Arg.num,Arg.flag,intOf,andP,Nat.reduceLeDiff,Nat.reduceAdd,Nat.reduceMul,Nat.reduceLT,yv,newS]
 have hB := begun_nil hg
 have hk' : κ = (κ - 1) + 1 := by omega
 have w2 : IntKind.i64.wrap ((g : Int) + 1) = ((g + 1 : Nat) : Int) := by rw [wrap_in (by omega) (by omega)]; omega
 refine ⟨fun h => by omega,fun h => ⟨fun hg => ?_,fun hg => ?_⟩⟩
 · have hg' : 0 < g := by omega
   have w1 : IntKind.i64.wrap ((g : Int) - 1) = ((g - 1 : Nat) : Int) := by rw [wrap_in (by omega) (by omega)]; omega
   rw [w1]
   refine ⟨[((g - 1 : Nat) : Int)],g - 1,g,k,_,⟨⟨rfl,rfl,rfl⟩,⟨rfl,rfl,rfl⟩,hB.left hg',by omega⟩,fun ht => ?_,fun ht => ?_⟩
   · rw [w2]
     have ht' : g < n := by omega
     refine ⟨[(g : Int)],g,g + 1,_,_,_,_,⟨⟨rfl,rfl,rfl⟩,⟨rfl,rfl,rfl,rfl,rfl⟩,hB.right ht',by omega⟩,?_⟩
     rw [show rds n κ g g [] = rds n (κ - 1) (g - 1) g [((g - 1 : Nat) : Int)] ++ rds n (κ - 1) g (g + 1) [(g : Int)] by conv => lhs; rw [hk',rds,if_pos hg',if_pos ht',List.nil_append,List.nil_append],fdC_append]
     exact ⟨rfl,by kernel_rfl⟩
   · have ht' : ¬ g < n := by omega
     rw [show rds n κ g g [] = rds n (κ - 1) (g - 1) g [((g - 1 : Nat) : Int)] by conv => lhs; rw [hk',rds,if_pos hg',if_neg ht',List.append_nil,List.nil_append]]
     exact ⟨rfl,by kernel_rfl⟩
 · have hg' : ¬ 0 < g := by omega
   have ht' : g < n := by omega
   rw [w2]
   refine ⟨fun ht => ⟨[(g : Int)],g,g + 1,k,_,⟨⟨rfl,rfl,rfl⟩,⟨rfl,rfl,rfl⟩,hB.right ht',by omega⟩,?_⟩,fun ht => by omega⟩
   rw [show rds n κ g g [] = rds n (κ - 1) g (g + 1) [(g : Int)] by conv => lhs; rw [hk',rds,if_neg hg',if_pos ht',List.nil_append,List.nil_append]]
   exact ⟨rfl,by kernel_rfl⟩
theorem EHC_obj {b : Int} {n c f : Nat} {l m : List Int} {k : Int} {L : List Nat} {H : Heap} (h : (ECr b n c f k .ready).map (omap fun c => L.getD c 0) = ECr b n c f k .ready)
   (hH : ∀ (c' : Nat) (o : AObj),c' < 14→(EHC b n c f l k)[c']? = some o→H[L.getD c' 0]? = some o) (h14 : H[L.getD 14 0]? = some (rws m)) :
   ∀ (c' : Nat) (o : AObj),(ECL b n c f l m k)[c']? = some o→o = .gone∨H[L.getD c' 0]? = some (omap (fun c => L.getD c 0) o) :=
 ECL_obj h (fun c' o h1 h2 => hH c' o h1 (by
   unfold ECL EGc at h2
   rwa [List.getElem?_append_left (show c' < (EHc b n c f l .ready k).length from h1)] at h2)) h14
theorem g0c_site1 {b : Int} {n c f : Nat} {l m2 : List Int} {k K a t : Int} {o14 : AObj} (h : GrowC b n c f l m2 k K a t) :
   Call Try.prog 134 [ptr0 3,newS 15 m2.length,vi a,vi t,yv 13] (EHC b n c f l k ++ [o14,rws m2]) fun v H' => v = .bool true∧H' = EHC b n c f l K ++ [o14,rws m2] := by
 have hF := EGc_map (l := l) (m := m2) (σ := nameL [0,1,2,3,4,5,6,7,8,9,10,11,12,13,15] 15 16) (b := b) (n := n) (c := c) (f := f) (z := .ready) (k := K) (by kernel_rfl)
 have := (Call.frameG (H := EHC b n c f l k ++ [o14,rws m2]) (Et := ECL b n c f l m2 k) (Ft := ECL b n c f l m2 K) (N := []) (L := [0,1,2,3,4,5,6,7,8,9,10,11,12,13,15]) (vs := [ptr0 3,newS 15 m2.length,vi a,vi t,yv 13]) rfl rfl (by decide) (getD_lt (by kernel_rfl))
   (EHC_obj (by kernel_rfl) (fun c' o h1 h2 => by
     rcases c' with _ | _ | _ | _ | _ | _ | _ | _ | _ | _ | _ | _ | _ | _ | c' <;> first | exact h2 | omega) rfl)
   (EGc_all (by kernel_rfl) ros_sc rws_sc) (by kernel_rfl) (by kernel_rfl) (h.mono fun v H' hh => ⟨hh.1,by rw [hh.2,List.append_nil]⟩)
   (fun o ho => by
     rw [List.append_nil] at ho
     exact EGc_all (p := fun o => o.nm _) (by kernel_rfl) ros_nm rws_nm o ho)
   (fun o ho => by cases ho) (by kernel_rfl)
   (fun o ho => by
     rw [List.append_nil] at ho
     have h2 := List.mem_map_of_mem (f := omap (nameL [0,1,2,3,4,5,6,7,8,9,10,11,12,13,15] 15 16)) ho
     unfold ECL at h2
     rw [hF] at h2
     exact EGc_all (p := fun o => o.sc 16) (by kernel_rfl) ros_sc rws_sc _ h2) (by kernel_rfl)).1
 refine this.mono fun v H' hh => ⟨hh.1,?_⟩
 rw [hh.2]
 show setG _ _ _ (List.map (omap (nameL [0,1,2,3,4,5,6,7,8,9,10,11,12,13,15] 15 16)) (EGc b n c f l m2 .ready K)) ++ _ = _
 rw [hF]
 kernel_rfl
theorem g0c_site2 {b : Int} {n c f : Nat} {l m2 : List Int} {k K a t : Int} {o14 o15 o16 : AObj} (h : GrowC b n c f l m2 k K a t) :
   Call Try.prog 134 [ptr0 3,newS 17 m2.length,vi a,vi t,yv 13] (EHC b n c f l k ++ [o14,o15,o16,rws m2]) fun v H' => v = .bool true∧H' = EHC b n c f l K ++ [o14,o15,o16,rws m2] := by
 have hF := EGc_map (l := l) (m := m2) (σ := nameL [0,1,2,3,4,5,6,7,8,9,10,11,12,13,17] 15 18) (b := b) (n := n) (c := c) (f := f) (z := .ready) (k := K) (by kernel_rfl)
 have := (Call.frameG (H := EHC b n c f l k ++ [o14,o15,o16,rws m2]) (Et := ECL b n c f l m2 k) (Ft := ECL b n c f l m2 K) (N := []) (L := [0,1,2,3,4,5,6,7,8,9,10,11,12,13,17]) (vs := [ptr0 3,newS 17 m2.length,vi a,vi t,yv 13]) rfl rfl (by decide) (getD_lt (by kernel_rfl))
   (EHC_obj (by kernel_rfl) (fun c' o h1 h2 => by
     rcases c' with _ | _ | _ | _ | _ | _ | _ | _ | _ | _ | _ | _ | _ | _ | c' <;> first | exact h2 | omega) rfl)
   (EGc_all (by kernel_rfl) ros_sc rws_sc) (by kernel_rfl) (by kernel_rfl) (h.mono fun v H' hh => ⟨hh.1,by rw [hh.2,List.append_nil]⟩)
   (fun o ho => by
     rw [List.append_nil] at ho
     exact EGc_all (p := fun o => o.nm _) (by kernel_rfl) ros_nm rws_nm o ho)
   (fun o ho => by cases ho) (by kernel_rfl)
   (fun o ho => by
     rw [List.append_nil] at ho
     have h2 := List.mem_map_of_mem (f := omap (nameL [0,1,2,3,4,5,6,7,8,9,10,11,12,13,17] 15 18)) ho
     unfold ECL at h2
     rw [hF] at h2
     exact EGc_all (p := fun o => o.sc 18) (by kernel_rfl) ros_sc rws_sc _ h2) (by kernel_rfl)).1
 refine this.mono fun v H' hh => ⟨hh.1,?_⟩
 rw [hh.2]
 show setG _ _ _ (List.map (omap (nameL [0,1,2,3,4,5,6,7,8,9,10,11,12,13,17] 15 18)) (EGc b n c f l m2 .ready K)) ++ _ = _
 rw [hF]
 kernel_rfl
theorem g0cC_ok (b : Int) (n c f : Nat) (l : List Int) (κ : Nat) (hl : l.length = n * 2) (hn : n≤10) (hr : rngP b n l) : CcOk Try.prog (g0cC b n c f l κ) := by
 have h : ∀ (m2 : List Int) (f1 t1 : Nat) (k : Int),Begun n f1 t1 m2→f1 + (n - t1) + 1 = κ→GrowC b n c f l m2 k (fdC b n l k (rds n (κ - 1) f1 t1 m2)) f1 t1 := fun m2 f1 t1 k h1 h2 => growC_ok b n c f l hl hn hr (κ - 1) f1 t1 m2 k h1 (by omega)
 intro fn args H T hT Q hQ
 unfold g0cC at hT
 split at hT <;> try (cases hT; done)
 rename_i hf
 obtain rfl := Nat.eq_of_beq_eq_true hf
 split at hT
 · cases hT
   obtain ⟨m2,f1,t1,k,o14,hO,hq⟩ := hQ
   obtain ⟨rfl,rfl,h1,h2⟩ := hO.out
   exact (g0c_site1 (h m2 f1 t1 k h1 h2)).mono fun v H' ⟨e1,e2⟩ => by subst e1; subst e2; exact hq
 · split at hT <;> cases hT
   obtain ⟨m2,f1,t1,k,o14,o15,o16,hO,hq⟩ := hQ
   obtain ⟨rfl,rfl,h1,h2⟩ := hO.out
   exact (g0c_site2 (h m2 f1 t1 k h1 h2)).mono fun v H' ⟨e1,e2⟩ => by subst e1; subst e2; exact hq
theorem EHC_map {σ : Nat→Nat} {b : Int} {n c f : Nat} {l : List Int} {k : Int} (h : (ECr b n c f k .ready).map (omap σ) = ECr b n c f k .ready) : (EHC b n c f l k).map (omap σ) = EHC b n c f l k := by
 show ((ros l :: ECr b n c f k .ready).map (omap σ)) = ros l :: ECr b n c f k .ready
 rw [List.map_cons,ros_omap,h]
theorem EHC_all {b : Int} {n c f : Nat} {l : List Int} {k : Int} {p : AObj→Bool} (h : (ECr b n c f k .ready).all p = true) (h0 : p (ros l) = true) : ∀ o ∈ EHC b n c f l k,p o = true := by
 refine List.all_eq_true.1 ?_
 show ((ros l :: ECr b n c f k .ready).all p) = true
 rw [List.all_cons,h0,h]; rfl
theorem grow0C_ok (b : Int) (n c f : Nat) (l : List Int) (hl : l.length = n * 2) (hn : n≤10) (hr : rngP b n l) (k : Int) (κ g : Nat) (hn1 : 1≤n) (hg : g≤n) (hk : g + (n - g) = κ) :
   Call Try.prog 134 [ptr0 3,nilS,vi g,vi g,yv 13] (EHC b n c f l k) fun v H' => v = .bool true∧H' = EHC b n c f l (fdC b n l k (rds n κ g g [])) := by
 have hv := g0C_ok b n c f l k κ g hn hn1 hg hk
 rw [g0C_eq] at hv
 have hE : VOk Try.prog (g0cE b n c f l κ) := ⟨CtOk.none,g0cC_ok b n c f l κ hl hn hr,E0_ok.yc,orcOr_ok orcLim_ok prE1_ok.orc⟩
 refine Call.anew (Call.mono (Call.ofVc (H := EHC b n c f l k) (args := [ptr0 3,nilS,vi g,vi g,yv 13]) hE mixed (c := grB) (inv := fun _ => none) (R := YR0c b n c f l (fdC b n l k (rds n κ g g []))) Try.func134 (by kernel_rfl) (cast (by kernel_rfl) hv)) fun v H' hy => ?_)
 exact cut_anew (E := EHC b n c f l _) rfl (EHC_map (by kernel_rfl)) (EHC_all (by kernel_rfl) ros_sc) hy.1 hy.2
end Go.Pier.Rd
namespace Go.Pier.Rd
open Go Go.Pier Go.Proofs
noncomputable def coB : Code := Try.f28.body.getD .skip
noncomputable def g1C (b : Int) (n c f : Nat) (l : List Int) (K : Int) : Ct := fun fn args H => match Nat.beq fn 134 with
 | true => some (some (args = [ptr0 3,nilS,vi f,vi f,yv 13]∧H = EHC b n c f l 0),.bool true,EHC b n c f l K,[4])
 | false => none
noncomputable def co1E (b : Int) (n c f : Nat) (l : List Int) (K : Int) : VEnv := { ct := g1C b n c f l K,orc := prO }
noncomputable def co2E (b : Int) (n c f : Nat) (l : List Int) (K : Int) : VEnv := { orc := prO,cc := ccIn Try.prog (co1E b n c f l K) [⟨133,Try.f133,fun _ _ _ => none⟩,⟨124,Try.f124,fun _ _ _ => none⟩] }
noncomputable def co3E (b : Int) (n c f : Nat) (l : List Int) (K : Int) : VEnv := { orc := prO,cc := ccIn Try.prog (co2E b n c f l K) [⟨123,Try.f123,fun _ _ _ => none⟩] }
noncomputable def co4E (b : Int) (n c : Nat) (l : List Int) (K : Int) : VEnv := { ct := prT,orc := prO,cc := ccOr (ccIn Try.prog (co3E b n c (lg b l n) l K) [⟨122,Try.f122,fun _ _ _ => none⟩]) (ccIn Try.prog shE0 [⟨72,Try.f72,fun _ _ _ => none⟩,⟨57,Try.f57,inv57 b n c l⟩]) }
noncomputable def coV0  (x:Nat) := (0+3+(x:Int).toNat * 1)
noncomputable def coV1 (b:Int) (n:Nat) (c:Nat) (l:List Int) (x:Nat):List Value := [vi b,Value.slice (some (ad0 0)) n c,vi (↑(lg b l x):Int),Value.bool (bif Nat.beq 3 (coV0 x) then true else tmd x 0),Value.bool (bif Nat.beq 4 (coV0 x) then true else tmd x 1),Value.bool (bif Nat.beq 5 (coV0 x) then true else tmd x 2),Value.bool (bif Nat.beq 6 (coV0 x) then true else tmd x 3),Value.bool (bif Nat.beq 7 (coV0 x) then true else tmd x 4),Value.bool (bif Nat.beq 8 (coV0 x) then true else tmd x 5),Value.bool (bif Nat.beq 9 (coV0 x) then true else tmd x 6),Value.bool (bif Nat.beq 10 (coV0 x) then true else tmd x 7),Value.bool (bif Nat.beq 11 (coV0 x) then true else tmd x 8),Value.bool (bif Nat.beq 12 (coV0 x) then true else tmd x 9)]
noncomputable def coV2 (l:List Int) := (List.map (Value.int IntKind.i64) l)
noncomputable def coV3 (b:Int) (n:Nat) (c:Nat):Prop := (AObj.rw [vi b,Value.slice (some (ad0 0)) n c] none=AObj.rw [vi b,Value.slice (some (ad0 0)) n c] none∧true=true)
noncomputable def coV4 (b:Int) (n:Nat) (c:Nat) (l:List Int) (x:Nat) := (vi b::Value.slice (some (ad0 0)) n c::vi (↑(lg b l x):Int)::B10 (tmd x) [])
noncomputable def coV5  : Prop := (Value.pointer (some { block := (2 : Nat) + (1 : Nat),off := (0 : Nat),spot := none }) = Value.pointer (some { block := (2 : Nat) + (1 : Nat),off := (0 : Nat),spot := none }))
noncomputable def coV6  : List Value := [Value.pointer (some { block := (2 : Nat) + (1 : Nat),off := (0 : Nat),spot := none })]
noncomputable def coV7 (b:Int) (n:Nat) (c:Nat):List Value := [vi b,Value.slice (some (ad0 0)) n c]
noncomputable def coV8  (x:Nat) := (0+(x:Int).toNat * 2)
noncomputable def coV9 (b:Int) (n:Nat) (c:Nat) (l:List Int) (y:Nat) := (vi b::Value.slice (some (ad0 0)) n c::vi (↑(lg b l y):Int)::B10 (tmd y) [])
noncomputable def coV10 (n:Nat) (c:Nat):Prop := (Value.slice (some (ad0 0)) n c=Value.slice (some (ad0 0)) n c)
noncomputable def coV11  : Array Value := { toList := [ptr0 3,vi (0 : Int)] }
noncomputable def coV12 (K:Int):Array Value := ⟨[vi K,vi (0:Int)]⟩
noncomputable def coV13  : List Value := [Value.func (Fn.yield (10 : Nat)) { toList := [] } { toList := [] }]
noncomputable def coV14  : List Value := [Value.func (Fn.yield (8 : Nat)) { toList := [] } { toList := [] }]
noncomputable def coV15  := ((0 : Nat) + (2 : Nat))
noncomputable def coV :=
fun (b:Int) (n c:Nat) (l:List Int) (K:Int)↦Ob ((true=true∧Flat (coV2 l))∧okL (Leaf.view (coV2 l) n false))∧((errP b n (intsOf (coV2 l)) !=(0:Int))=true→((errP b n (intsOf (coV2 l)) !=(0:Int))=true→True∧Ob (Value.tuple ⟨[vi (0:Int),vi (errP b n (intsOf (coV2 l)))]⟩=Value.tuple (coV12 K)))∧((errP b n (intsOf (coV2 l)) !=(0:Int))=false→Ob (some (vi (0:Int))=some (vi (0:Int))∧some 1=some 1)∧False))∧((errP b n (intsOf (coV2 l)) !=(0:Int))=false→(∃ (y:Nat),Ob (y≤n)∧(Ob (AObj.ro (coV2 l)=AObj.ro (List.map (nmap1 fun (bq:Nat)↦bq) (coV2 l))∧AObj.sc 4 (AObj.ro (coV2 l))=true)∧Ob (coV3 b n c)∧Ob (coV3 b n c)∧Ob (AObj.rw (vi b::Value.slice (some (ad0 0)) n c::vi (0:Int)::B10 empB []) none=AObj.rw (coV9 b n c l y) none∧true=true)∧True)∧Ob (ptr0 3=ptr0 3)∧Ob (coV10 n c)∧Ob ((n:Int)=(n:Int))∧Ob ((0:Int)=(y:Int))∧True)∧∀ (x:Nat),Ob (x≤n)→(decide ((x:Int)<(n:Int))=true→Ob ((0:Int)≤(x:Int)∧(x:Int)<(n:Int)∧true=true)∧Ob (ckAsk [CK.i IntKind.i64,CK.i IntKind.i64] (coV2 l) (coV8 x))∧Ob (0+2≤2)∧Ob ((0:Int)≤(x:Int)∧(x:Int)<(↑(10:Nat):Int))∧Ob (BoolAt (coV4 b n c l x) (coV0 x)∧some 1=some 1)∧Ob (some (vi (getI (coV2 l) (coV8 x)))=some (vi (getI (coV2 l) (coV8 x))))∧Ob (some (vi b)=some (vi b))∧(decide (getI (coV2 l) (coV8 x)<b)=true→Ob (IntAt IntKind.i64 (coV1 b n c l x) coV15∧some 1=some 1)∧∃ (y:Nat),Ob (y≤n)∧Ob (n-y<n-x)∧(Ob (AObj.ro (coV2 l)=AObj.ro (List.map (nmap1 fun (bqq:Nat)↦bqq) (coV2 l))∧AObj.sc 4 (AObj.ro (coV2 l))=true)∧Ob (coV3 b n c)∧Ob (coV3 b n c)∧Ob (AObj.rw [vi (bif false then IntKind.i64.wrap ((x:Int)+(1:Int)) else b),Value.slice (some (ad0 0)) n c,vi (bif true then IntKind.i64.wrap ((x:Int)+(1:Int)) else (↑(lg b l x):Int)),Value.bool (bif Nat.beq 3 (coV0 x) then true else tmd x 0),Value.bool (bif Nat.beq 4 (coV0 x) then true else tmd x 1),Value.bool (bif Nat.beq 5 (coV0 x) then true else tmd x 2),Value.bool (bif Nat.beq 6 (coV0 x) then true else tmd x 3),Value.bool (bif Nat.beq 7 (coV0 x) then true else tmd x 4),Value.bool (bif Nat.beq 8 (coV0 x) then true else tmd x 5),Value.bool (bif Nat.beq 9 (coV0 x) then true else tmd x 6),Value.bool (bif Nat.beq 10 (coV0 x) then true else tmd x 7),Value.bool (bif Nat.beq 11 (coV0 x) then true else tmd x 8),Value.bool (bif Nat.beq 12 (coV0 x) then true else tmd x 9)] none=AObj.rw (coV9 b n c l y) none∧true=true)∧True)∧Ob coV5∧Ob (coV10 n c)∧Ob ((n:Int)=(n:Int))∧Ob (IntKind.i64.wrap ((x:Int)+(1:Int))=(y:Int))∧True)∧(decide (getI (coV2 l) (coV8 x)<b)=false→∃ (y:Nat),Ob (y≤n)∧Ob (n-y<n-x)∧(Ob (AObj.ro (coV2 l)=AObj.ro (List.map (nmap1 fun (bqqq:Nat)↦bqqq) (coV2 l))∧AObj.sc 4 (AObj.ro (coV2 l))=true)∧Ob (coV3 b n c)∧Ob (coV3 b n c)∧Ob (AObj.rw (coV1 b n c l x) none=AObj.rw (coV9 b n c l y) none∧true=true)∧True)∧Ob coV5∧Ob (coV10 n c)∧Ob ((n:Int)=(n:Int))∧Ob (IntKind.i64.wrap ((x:Int)+(1:Int))=(y:Int))∧True))∧(decide ((x:Int)<(n:Int))=false→(false=true→True∧Ob (Value.tuple ⟨[vi (0:Int),vi (0:Int)]⟩=Value.tuple (coV12 K)))∧(false=false→Ob (some (vi (0:Int))=some (vi (0:Int))∧some 1=some 1)∧Ob (IntAt IntKind.i64 (coV4 b n c l x) coV15)∧Ob (IntAt IntKind.i64 (coV4 b n c l x) coV15)∧Ob ([Value.pointer (some ⟨2+1,0,none⟩),Value.slice none 0 0,vi (getI (coV4 b n c l x) coV15),vi (getI (coV4 b n c l x) coV15),Value.func (Fn.yield 13) ⟨[]⟩ ⟨[]⟩]=[ptr0 3,Value.slice none 0 0,vi (↑(lg b l n):Int),vi (↑(lg b l n):Int),Value.func (Fn.yield 13) ⟨[]⟩ ⟨[]⟩]∧[AObj.ro (coV2 l),AObj.rw (coV7 b n c) none,AObj.rw (coV7 b n c) none,AObj.rw (coV4 b n c l x) none,AObj.rw [vi (bif true then (0:Int) else (0:Int))] none,AObj.rw coV6 none,AObj.rw [Value.func (Fn.func 123) ⟨[]⟩ ⟨[ptr0 5]⟩] none,AObj.rw [Value.func (Fn.func 61) { toList := coV6 } ⟨[]⟩] none,AObj.loop LoopState.ready none ⟨[Value.agg { toList := (coV7 b n c) },ptr0 1,vi (0:Int),vi (0:Int),ptr0 3,vi (0:Int),ptr0 4,Value.tuple coV11,Value.agg { toList := (coV7 b n c) },Value.tuple coV11,ptr0 3,vi (0:Int),vi (0:Int),Value.bool false,junk,ptr0 3,Value.func (Fn.func 122) ⟨[]⟩ ⟨[ptr0 6,ptr0 7]⟩,junk,junk,junk,junk]⟩ ⟨[17]⟩ Code.skip y1c_c0,AObj.rw coV14 none,AObj.loop LoopState.ready none ⟨[Value.func (Fn.yield 8) ⟨[]⟩ ⟨[]⟩,ptr0 6,ptr0 7,ptr0 9,junk,Value.func (Fn.func 123) ⟨[]⟩ ⟨[ptr0 5]⟩,junk,junk,junk,junk,junk,junk,junk,junk,junk,junk]⟩ ⟨[6]⟩ y1_c2 y1_c3,AObj.rw coV13 none,AObj.rw coV6 none,AObj.loop LoopState.ready none ⟨[Value.func (Fn.yield 10) ⟨[]⟩ ⟨[]⟩,ptr0 5,ptr0 11,junk,ptr0 3,Value.func (Fn.func 133) ⟨[]⟩ ⟨[ptr0 12]⟩,junk,junk,junk,junk,junk,junk,junk]⟩ ⟨[6]⟩ y1_c4 y1_c5]=[AObj.ro (coV2 l),AObj.rw (coV7 b n c) none,AObj.rw (coV7 b n c) none,AObj.rw (vi b::Value.slice (some (ad0 0)) n c::vi (↑(lg b l n):Int)::B10 (tmd n) []) none,AObj.rw [vi (0:Int)] none,AObj.rw [ptr0 3] none,AObj.rw [Value.func (Fn.func (123:FuncId)) ⟨[]⟩ ⟨[ptr0 5]⟩] none,AObj.rw [Value.func (Fn.func (61:FuncId)) ⟨[ptr0 3]⟩ ⟨[]⟩] none,AObj.loop LoopState.ready none ⟨[Value.agg { toList := (coV7 b n c) },ptr0 1,vi (0:Int),vi (0:Int),ptr0 3,vi (0:Int),ptr0 4,Value.tuple coV11,Value.agg { toList := (coV7 b n c) },Value.tuple coV11,ptr0 3,vi (0:Int),vi (0:Int),Value.bool false,junk,ptr0 3,Value.func (Fn.func (122:FuncId)) ⟨[]⟩ ⟨[ptr0 6,ptr0 7]⟩,junk,junk,junk,junk]⟩ ⟨[17]⟩ Code.skip y1c_c0,AObj.rw coV14 none,AObj.loop LoopState.ready none ⟨[Value.func (Fn.yield 8) ⟨[]⟩ ⟨[]⟩,ptr0 6,ptr0 7,ptr0 9,junk,Value.func (Fn.func (123:FuncId)) ⟨[]⟩ ⟨[ptr0 5]⟩,junk,junk,junk,junk,junk,junk,junk,junk,junk,junk]⟩ ⟨[6]⟩ y1_c2 y1_c3,AObj.rw coV13 none,AObj.rw [ptr0 3] none,AObj.loop LoopState.ready none ⟨[Value.func (Fn.yield 10) ⟨[]⟩ ⟨[]⟩,ptr0 5,ptr0 11,junk,ptr0 3,Value.func (Fn.func (133:FuncId)) ⟨[]⟩ ⟨[ptr0 12]⟩,junk,junk,junk,junk,junk,junk,junk]⟩ ⟨[6]⟩ y1_c4 y1_c5])∧Ob (some (vi K)=some (vi K))∧True∧Ob (Value.tuple (coV12 K)=Value.tuple (coV12 K)))))
theorem coV_eq : coV = fun (b : Int) (n c : Nat) (l : List Int) (K : Int) => vc Try.prog (co4E b n c l K) 1 21 true (fun _ => none) coB [] (argFr 0 [pierV b (some ⟨0,0,none⟩) n c]) [ros l] (retK Try.prog Try.f28 (fun v _ => v = .tuple #[vi K,vi 0])) := by kernel_rfl
theorem coV_ok (b : Int) (n c : Nat) (l : List Int) (K : Int) (hl : l.length = n * 2) (hP : errP b n l = 0) : coV b n c l K := by
 have hn : n≤1000000 := by have := (errP_cases hP).1; omega
 have fo : Flat (List.map (Value.int .i64) l)∧okL (.view (List.map (Value.int .i64) l) n false) := ⟨flat_ints,okL_ints hl hn⟩
 unfold coV coV15 coV14 coV13 coV12 coV11 coV10 coV9 coV8 coV7 coV6 coV5 coV4 coV3 coV2 coV1 coV0
 simp only [SS,reduceCtorEq,Arg.list,Arg.num,Arg.flag,intOf,andP,Nat.reduceLeDiff,Nat.reduceAdd,Nat.reduceMul,Nat.reduceLT,errT,ckAsk,CK.ask,pl_fold,tw_fold,nb1_1,nb1_2,nb1_3,nb1_4,nb1_5,nb1_6,nb1_7,nb1_8,nb1_9,nb1_10,nb3_3,nb3_4,nb3_5,nb3_6,nb3_7,nb3_8,nb3_9,nb3_10,nb3_11,nb3_12,cond_true,cond_false,tmd_step,getI_2b,intAt_2b]
 refine ⟨fo,fun h1 => absurd hP h1,fun h1 => ?_⟩
 obtain ⟨⟨n1,n2⟩,hr,ho⟩ := errP_cases hP
 refine ⟨⟨0,by omega,⟨rfl,tmd_zero⟩,rfl⟩,fun x hx => ⟨fun h2 => ?_,fun h2 => ?_⟩⟩
 · have hx10 : x < 10 := by omega
   refine ⟨by omega,by omega,by omega,B10_at hx10,fun h3 => ⟨rfl,x + 1,by omega,by omega,⟨?_,rfl⟩,wrap_succ (n := n) (by omega) hn⟩,fun h3 => ⟨x + 1,by omega,by omega,⟨?_,rfl⟩,wrap_succ (n := n) (by omega) hn⟩⟩
   · rw [lg,if_pos h3]; exact wrap_succ (n := n) (by omega) hn
   · rw [lg,if_neg h3]
 have ex : x = n := by omega
 subst ex
 exact ⟨rfl,rfl,⟨rfl,rfl⟩,rfl,rfl⟩
noncomputable def cntF (b : Int) (n : Nat) (l : List Int) : Int := fdC b n l 0 (rds n n (lefts b n l) (lefts b n l) [])
theorem g1C_ok (b : Int) (n c f : Nat) (l : List Int) (hl : l.length = n * 2) (hn : n≤10) (hr : rngP b n l) (hn1 : 1≤n) (hf : f≤n) : CtOk Try.prog (g1C b n c f l (fdC b n l 0 (rds n n f f []))) := by
 intro fn args H φ v H' lg h hφ
 unfold g1C at h
 split at h <;> cases h
 rename_i hb
 obtain rfl := Nat.eq_of_beq_eq_true hb
 obtain ⟨rfl,rfl⟩ := hφ
 refine ⟨grow0C_ok b n c f l hl hn hr 0 n f hn1 hf (by omega),Nat.le_refl _,fun b1 h4 h5 => ?_⟩
 have h8 : b1 ≠ 4 := fun e => h5 (by subst e; simp)
 have h14 : b1 < 14 := h4
 unfold EHC EHc
 rcases b1 with _ | _ | _ | _ | _ | _ | _ | _ | _ | _ | _ | _ | _ | _ | b1 <;> first | rfl | omega
theorem co4E_ok {b : Int} {n c : Nat} {l : List Int} (hl : l.length = n * 2) (hP : errP b n l = 0) : VOk Try.prog (co4E b n c l (fdC b n l 0 (rds n n (lg b l n) (lg b l n) []))) := by
 obtain ⟨⟨n1,n2⟩,hr,ho⟩ := errP_cases hP
 have h0 : VOk Try.prog shE0 := ⟨prE1_ok.ct,ccIn_ok prE1_ok mixed (inl_two Try.func105 Try.func106),E0_ok.yc,prE1_ok.orc⟩
 have h1 : VOk Try.prog (co1E b n c (lg b l n) l (fdC b n l 0 (rds n n (lg b l n) (lg b l n) []))) := ⟨g1C_ok b n c (lg b l n) l hl n2 hr n1 (lg_spec n).1,E0_ok.cc,E0_ok.yc,prE1_ok.orc⟩
 have h2 : VOk Try.prog (co2E b n c (lg b l n) l (fdC b n l 0 (rds n n (lg b l n) (lg b l n) []))) := ⟨CtOk.none,ccIn_ok h1 mixed (inl_two Try.func133 Try.func124),E0_ok.yc,prE1_ok.orc⟩
 have h3 : VOk Try.prog (co3E b n c (lg b l n) l (fdC b n l 0 (rds n n (lg b l n) (lg b l n) []))) := ⟨CtOk.none,ccIn_ok h2 mixed (inl_one Try.func123),E0_ok.yc,prE1_ok.orc⟩
 exact ⟨prT_ok,ccOr_ok (ccIn_ok h3 mixed (inl_one Try.func122)) (ccIn_ok h0 mixed (inl_two Try.func72 Try.func57)),E0_ok.yc,prE1_ok.orc⟩
theorem co_call (b : Int) (n c : Nat) (l : List Int) (hl : l.length = n * 2) (hP : errP b n l = 0) : Call Try.prog 28 [pierV b (some ⟨0,0,none⟩) n c] [ros l] fun v _ => v = .tuple #[vi (cntF b n l),vi 0] := by
 obtain ⟨⟨n1,n2⟩,hr,ho⟩ := errP_cases hP
 have h := coV_ok b n c l (fdC b n l 0 (rds n n (lg b l n) (lg b l n) [])) hl hP
 rw [coV_eq] at h
 unfold cntF
 rw [← lg_lefts ho]
 exact Call.ofVc (H := [ros l]) (args := [pierV b (some ⟨0,0,none⟩) n c]) (co4E_ok (c := c) hl hP) mixed (c := coB) (inv := fun _ => none) (R := fun v _ => v = .tuple #[vi (fdC b n l 0 (rds n n (lg b l n) (lg b l n) [])),vi 0]) Try.func28 (by kernel_rfl) (cast (by kernel_rfl) h)
theorem coG_ok : ∀ args H φ v H' l,pure3 psP (specQ fun b n l => .tuple #[vi (cntF b n l),vi 0]) args H = some (φ,v,H',l)→Asks φ→Call Try.prog 28 args H (fun v' H2 => v' = v∧H2 = H')∧Kept H H' l :=
 specQ_ok (fun _ _ _ => by simp [sc,sc2,sc1,sc0]) co_call
end Go.Pier.Rd
namespace Go.Pier.Rd
open Go Go.Pier Go.Proofs
def rw2 (l : List Int) : AObj := .rw (l.map (.int .i64)) (some 2)
end Go.Pier.Rd
namespace Go.Pier.RoundK
open Go Go.Pier Go.Proofs
def vi (n : Int) : Value := .int .i64 n
noncomputable def t0 : Tbl := fun _ => none
theorem t0_ok : TblOk Try.prog t0 := tblOk_none
end Go.Pier.RoundK
