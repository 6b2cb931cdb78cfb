import Derived.Test.YtbhpfkfedannjaaPierKM3
import Derived.KernelRfl
import Derived.Test.YtbhpfkfedannjaaPierKM2
set_option linter.unusedSimpArgs false
set_option linter.unusedVariables false
set_option maxRecDepth 100000
namespace Go.Pier.Rd
open Go Go.Pier Go.Proofs
def mxN (st : Nat→Int) : Nat→Int
 | 0 => st 0
 | x + 1 => if st (x + 1) > mxN st x then st (x + 1) else mxN st x
noncomputable def lnB : Code := Try.f70.body.getD .skip
def inv104 (st : Nat→Int) : List Value→Heap→Nat→Option LInv := fun args H => match args with
 | [s] => invOf 0 (LInv.one Nat (fun x => 1≤x∧x≤10) (fun x => [(0,s),(3,vi (mxN st (x - 1))),(4,vi x)]) (fun _ => H) (fun x => 10 - x))
 | _ => fun _ => none
noncomputable def lnE (st : Nat→Int) : VEnv := { orc := prO,cc := ccIn Try.prog { orc := prO } [⟨104,Try.f104,inv104 st⟩] }
noncomputable def lnV0 (n:Nat) (st:Nat→Int) := (Value.slice (some ⟨0,0,some 0⟩) n 0::I10 st [])
noncomputable def lnV1  : Prop := (Value.slice (some { block := (1 : Nat),off := (1 : Nat),spot := none }) (10 : Nat) (10 : Nat) = Value.slice (some { block := (1 : Nat),off := (1 : Nat),spot := none }) (10 : Nat) (10 : Nat))
noncomputable def lnV2  (x:Nat) := (1+(x:Int).toNat * 1)
noncomputable def lnV :=
fun (n:Nat) (st:Nat→Int)↦(false=true→False)∧(false=false→Ob ((0:Int)≤(0:Int)∧(0:Int)<(↑(10:Nat):Int)∧true=true)∧Ob (some (vi (st 0))=some (vi (st 0)))∧(∃ (y:Nat),Ob (1≤y∧y≤10)∧(Ob (AObj.rw (lnV0 n st) none=AObj.rw (lnV0 n st) none∧true=true)∧True)∧Ob lnV1∧Ob (st 0=mxN st (y-1))∧Ob ((1:Int)=(y:Int))∧True)∧∀ (x:Nat),Ob (1≤x∧x≤10)→(decide ((x:Int)<(↑(10:Nat):Int))=true→Ob ((0:Int)≤(x:Int)∧(x:Int)<(↑(10:Nat):Int)∧true=true)∧Ob (IntAt IntKind.i64 (lnV0 n st) (lnV2 x))∧∃ (y:Nat),Ob (1≤y∧y≤10)∧Ob (10-y<10-x)∧(Ob (AObj.rw (lnV0 n st) none=AObj.rw (lnV0 n st) none∧true=true)∧True)∧Ob lnV1∧Ob ((if getI (lnV0 n st) (lnV2 x) > mxN st (x-1) then getI (lnV0 n st) (lnV2 x) else mxN st (x-1))=mxN st (y-1))∧Ob (IntKind.i64.wrap ((x:Int)+(1:Int))=(y:Int))∧True)∧(decide ((x:Int)<(↑(10:Nat):Int))=false→True∧Ob (mxN st (x-1)=mxN st 9)∧True))
theorem lnV_eq : lnV = fun (n : Nat) (st : Nat→Int) => vc Try.prog (lnE st) 1 6 true (fun _ => none) lnB [] (argFr 0 [.agg (newS 0 n :: I10 st []).toArray]) [.gone] (retR Try.prog Try.f70 1 (fun b => b) (vi (mxN st 9)) [.gone]) := by kernel_rfl
noncomputable def lnN0 (st:Nat→Int) := (Value.slice none 0 0::I10 st [])
noncomputable def lnN1  : Prop := (Value.slice (some { block := (0 : Nat),off := (1 : Nat),spot := none }) (10 : Nat) (10 : Nat) = Value.slice (some { block := (0 : Nat),off := (1 : Nat),spot := none }) (10 : Nat) (10 : Nat))
noncomputable def lnN2  (x:Nat) := (1+(x:Int).toNat * 1)
noncomputable def lnN :=
fun (st:Nat→Int)↦(false=true→False)∧(false=false→Ob ((0:Int)≤(0:Int)∧(0:Int)<(↑(10:Nat):Int)∧true=true)∧Ob (some (vi (st 0))=some (vi (st 0)))∧(∃ (y:Nat),Ob (1≤y∧y≤10)∧(Ob (AObj.rw (lnN0 st) none=AObj.rw (lnN0 st) none∧true=true)∧True)∧Ob lnN1∧Ob (st 0=mxN st (y-1))∧Ob ((1:Int)=(y:Int))∧True)∧∀ (x:Nat),Ob (1≤x∧x≤10)→(decide ((x:Int)<(↑(10:Nat):Int))=true→Ob ((0:Int)≤(x:Int)∧(x:Int)<(↑(10:Nat):Int)∧true=true)∧Ob (IntAt IntKind.i64 (lnN0 st) (lnN2 x))∧∃ (y:Nat),Ob (1≤y∧y≤10)∧Ob (10-y<10-x)∧(Ob (AObj.rw (lnN0 st) none=AObj.rw (lnN0 st) none∧true=true)∧True)∧Ob lnN1∧Ob ((if getI (lnN0 st) (lnN2 x) > mxN st (x-1) then getI (lnN0 st) (lnN2 x) else mxN st (x-1))=mxN st (y-1))∧Ob (IntKind.i64.wrap ((x:Int)+(1:Int))=(y:Int))∧True)∧(decide ((x:Int)<(↑(10:Nat):Int))=false→True∧Ob (mxN st (x-1)=mxN st 9)∧True))
theorem lnN_eq : lnN = fun (st : Nat→Int) => vc Try.prog (lnE st) 0 6 true (fun _ => none) lnB [] (argFr 0 [.agg (nilS :: I10 st []).toArray]) [] (retR Try.prog Try.f70 0 (fun b => b) (vi (mxN st 9)) []) := by kernel_rfl
theorem I10_getI1 {sl : Value} {st : Nat→Int} {x : Nat} (h : x < 10) : getI (sl :: I10 st []) (1 + x) = st x∧IntAt .i64 (sl :: I10 st []) (1 + x) := by
 rcases x with _ | _ | _ | _ | _ | _ | _ | _ | _ | _ | x <;> first | exact ⟨rfl,rfl⟩ | omega
theorem mxN_step {st : Nat→Int} {x : Nat} (h : 1≤x) : (if st x > mxN st (x - 1) then st x else mxN st (x - 1)) = mxN st (x + 1 - 1) := by
 obtain ⟨y,rfl⟩ : ∃ y,x = y + 1 := ⟨x - 1,by omega⟩
 rfl
theorem lnV_ok (n : Nat) (st : Nat→Int) : lnV n st := by
 unfold lnV lnV2 lnV1 lnV0
 simp only [SS,reduceCtorEq,Arg.list,Arg.num,Arg.flag,intOf,andP,Nat.reduceLeDiff,Nat.reduceAdd,Nat.reduceMul,Nat.reduceLT]
 refine ⟨by decide,⟨1,by omega,rfl,rfl⟩,fun x hx => ⟨fun h => ?_,fun h => ?_⟩⟩
 · obtain ⟨e1,e2⟩ := I10_getI1 (sl := newS 0 n) (st := st) (x := x) (by omega)
   exact ⟨by omega,e2,x + 1,by omega,by omega,by rw [← mxN_step (by omega),← e1]; rfl,wrap_succ (n := 10) (by omega) (by omega)⟩
 · rw [show x = 10 by omega]
theorem lnN_ok (st : Nat→Int) : lnN st := by
 unfold lnN lnN2 lnN1 lnN0
 simp only [SS,reduceCtorEq,Arg.list,Arg.num,Arg.flag,intOf,andP,Nat.reduceLeDiff,Nat.reduceAdd,Nat.reduceMul,Nat.reduceLT]
 refine ⟨by decide,⟨1,by omega,rfl,rfl⟩,fun x hx => ⟨fun h => ?_,fun h => ?_⟩⟩
 · obtain ⟨e1,e2⟩ := I10_getI1 (sl := nilS) (st := st) (x := x) (by omega)
   exact ⟨by omega,e2,x + 1,by omega,by omega,by rw [← mxN_step (by omega),← e1]; rfl,wrap_succ (n := 10) (by omega) (by omega)⟩
 · rw [show x = 10 by omega]
theorem nmap1_all {σ : Nat→Nat} : ∀ {cs : List Value},cs.all (sc1 0) = true→cs.map (nmap1 σ) = cs
 | [],_ => rfl
 | v :: r,h => by
   rw [List.all_cons,Bool.and_eq_true] at h
   rw [List.map_cons,nmap1_closed h.1,nmap1_all h.2]
theorem slot_any {P : Program} {f : FuncId} {n : Nat} {cs : List Value} {v : Value} {H : Heap} (hcs : cs.all (sc1 0) = true) (hv : sc 0 v = true) (h : Call P f [.agg (newS 0 n :: cs).toArray] [.gone] fun v' H' => v' = v∧H' = [.gone]) (k : Nat) :
   Call P f [.agg (newS k n :: cs).toArray] H fun v' H' => v' = v∧H' = H := fun ρ w R hs => by
 have hk : k < H.length := by
   rw [List.all_cons,Bool.and_eq_true] at hs
   have h1 : ((newS k n :: cs).toArray.all (sc1 H.length)) = true := hs.1
   rw [← Array.all_toList] at h1
   simp only [List.all_cons,Bool.and_eq_true] at h1
   have h2 : decide (k < H.length) = true := h1.1
   exact of_decide_eq_true h2
 have hc1 : cs.all (sc1 1) = true := List.all_eq_true.2 fun u hu => sc1_mono (Nat.zero_le _) (List.all_eq_true.1 hcs u hu)
 have e : ∀ σ : Nat→Nat,σ 0 = k→nmap σ (.agg (newS 0 n :: cs).toArray) = .agg (newS k n :: cs).toArray := fun σ h0 => by
   show Value.agg ((newS 0 n :: cs).toArray.map (nmap1 σ)) = _
   rw [List.map_toArray,List.map_cons,nmap1_all hcs]
   show Value.agg (Value.slice (some ⟨σ 0,0,some 0⟩) n 0 :: cs).toArray = _
   rw [h0]; rfl
 have := (Call.frameG (P := P) (f := f) (H := H) (Et := [.gone]) (Ft := [.gone]) (N := []) (L := [k]) (args := [.agg (newS 0 n :: cs).toArray]) (vs := [.agg (newS k n :: cs).toArray]) (v := v) rfl rfl (by simp) (by simpa using hk)
   (fun c o hc => .inl (by
     cases c with
     | zero => cases hc; rfl
     | succ c => simp at hc))
   (fun o ho => by rw [List.mem_singleton.1 ho]; rfl)
   (by rw [List.map_cons,List.map_nil,e (fun c => [k].getD c 0) rfl])
   (by
     rw [List.all_cons,List.all_nil,Bool.and_true]
     show (newS 0 n :: cs).toArray.all (sc1 1) = true
     rw [← Array.all_toList]
     simp only [List.all_cons,Bool.and_eq_true]
     exact ⟨rfl,hc1⟩)
   (h.mono fun v' H' hh => ⟨hh.1,by rw [hh.2]; rfl⟩)
   (fun o ho => by rw [List.append_nil] at ho; rw [List.mem_singleton.1 ho]; rfl) (fun o ho => by cases ho) (nm_closed hv)
   (fun o ho => by rw [List.append_nil] at ho; rw [List.mem_singleton.1 ho]; rfl) (by rw [nmap_closed hv]; exact sc_mono (Nat.zero_le _) hv)).1
 refine (this.mono fun v' H' hh => ⟨by rw [hh.1,nmap_closed hv],by rw [hh.2]; show setG H [.gone] [k] [_] ++ [] = H; rw [List.append_nil]; rfl⟩) ρ w R hs
def mxL : List Int→Int
 | [] => 0
 | a :: r => r.foldl (fun m x => if x > m then x else m) a
theorem mxL_fold {st : Nat→Int} : mxL [st 0,st 1,st 2,st 3,st 4,st 5,st 6,st 7,st 8,st 9] = mxN st 9 := rfl
theorem mxL_zero : mxL [0,0,0,0,0,0,0,0,0,0] = 0 := rfl
def l10 (a0 a1 a2 a3 a4 a5 a6 a7 a8 a9 : Int) : Nat→Int := fun i => [a0,a1,a2,a3,a4,a5,a6,a7,a8,a9].getD i 0
def lenCt : List Value→Heap→Option (Option Prop × Value × Heap × List Nat) := fun args H => match args with
 | [.agg ⟨[sl,.int .i64 a0,.int .i64 a1,.int .i64 a2,.int .i64 a3,.int .i64 a4,.int .i64 a5,.int .i64 a6,.int .i64 a7,.int .i64 a8,.int .i64 a9]⟩] => match sl with
   | .slice none 0 0 => some (none,vi (mxL [a0,a1,a2,a3,a4,a5,a6,a7,a8,a9]),H,[])
   | .slice (some ⟨_,0,some 0⟩) _ 0 => some (none,vi (mxL [a0,a1,a2,a3,a4,a5,a6,a7,a8,a9]),H,[])
   | _ => none
 | _ => none
theorem lnE1_ok : VOk Try.prog { orc := prO } := ⟨CtOk.none,E0_ok.cc,E0_ok.yc,prE1_ok.orc⟩
theorem lnE_ok (st : Nat→Int) : VOk Try.prog (lnE st) := ⟨CtOk.none,ccIn_ok lnE1_ok mixed (inl_one Try.func104),E0_ok.yc,prE1_ok.orc⟩
theorem lnV_call (n : Nat) (st : Nat→Int) : Call Try.prog 70 [.agg (newS 0 n :: I10 st []).toArray] [.gone] fun v H' => v = vi (mxN st 9)∧H' = [.gone] :=
 Call.ofVcR (H := [.gone]) (args := [.agg (newS 0 n :: I10 st []).toArray]) (lnE_ok st) mixed (c := lnB) Try.func70 (by kernel_rfl) (cast (congrFun (congrFun lnV_eq n) st) (lnV_ok n st))
theorem lnN_call (st : Nat→Int) : Call Try.prog 70 [.agg (nilS :: I10 st []).toArray] [] fun v H' => v = vi (mxN st 9)∧H' = [] :=
 Call.ofVcR (H := []) (args := [.agg (nilS :: I10 st []).toArray]) (lnE_ok st) mixed (c := lnB) Try.func70 (by kernel_rfl) (cast (congrFun lnN_eq st) (lnN_ok st))
theorem nil_any {P : Program} {f : FuncId} {cs : List Value} {v : Value} {H : Heap} (hcs : cs.all (sc1 0) = true) (hv : sc 0 v = true) (h : Call P f [.agg (nilS :: cs).toArray] [] fun v' H' => v' = v∧H' = []) :
   Call P f [.agg (nilS :: cs).toArray] H fun v' H' => v' = v∧H' = H := by
 have e : ∀ σ : Nat→Nat,nmap σ (.agg (nilS :: cs).toArray) = .agg (nilS :: cs).toArray := fun σ => by
   show Value.agg ((nilS :: cs).toArray.map (nmap1 σ)) = _
   rw [List.map_toArray,List.map_cons,nmap1_all hcs]; rfl
 have := (Call.frameG (P := P) (f := f) (H := H) (Et := []) (Ft := []) (N := []) (L := []) (args := [.agg (nilS :: cs).toArray]) (vs := [.agg (nilS :: cs).toArray]) (v := v) rfl rfl (by simp) (by simp)
   (fun c o hc => by simp at hc) (fun o ho => by cases ho) (by rw [List.map_cons,List.map_nil,e])
   (by
     rw [List.all_cons,List.all_nil,Bool.and_true]
     show (nilS :: cs).toArray.all (sc1 0) = true
     rw [← Array.all_toList]
     simp only [List.all_cons,Bool.and_eq_true]
     exact ⟨rfl,hcs⟩)
   (h.mono fun v' H' hh => ⟨hh.1,hh.2⟩) (fun o ho => by cases ho) (fun o ho => by cases ho) (nm_closed hv) (fun o ho => by cases ho) (by rw [nmap_closed hv]; exact sc_mono (Nat.zero_le _) hv)).1
 exact this.mono fun v' H' hh => ⟨by rw [hh.1,nmap_closed hv],by rw [hh.2]; show H ++ [] = H; rw [List.append_nil]⟩
theorem len_ok : ∀ args H φ v H' l,lenCt args H = some (φ,v,H',l)→Asks φ→Call Try.prog 70 args H (fun v' H2 => v' = v∧H2 = H')∧Kept H H' l := by
 intro args H φ v H' l h _
 unfold lenCt at h
 split at h <;> try (cases h; done)
 rename_i sl a0 a1 a2 a3 a4 a5 a6 a7 a8 a9
 split at h <;> cases h
 · refine ⟨?_,Kept.refl _ _⟩
   exact nil_any (cs := I10 (l10 a0 a1 a2 a3 a4 a5 a6 a7 a8 a9) []) rfl rfl (lnN_call (l10 a0 a1 a2 a3 a4 a5 a6 a7 a8 a9))
 · refine ⟨?_,Kept.refl _ _⟩
   exact slot_any (cs := I10 (l10 a0 a1 a2 a3 a4 a5 a6 a7 a8 a9) []) rfl rfl (lnV_call _ (l10 a0 a1 a2 a3 a4 a5 a6 a7 a8 a9)) _
end Go.Pier.Rd
namespace Go.Pier.Rd
open Go Go.Pier Go.Proofs
noncomputable def itB : Code := Try.f61.body.getD .skip
noncomputable def tpB : Code := Try.f60.body.getD .skip
def itE (b : Int) (n c f : Nat) (l : List Int) (r : Heap) : Heap := ros l :: .rw (walkC b n c f (tmd n)) none :: r
def itI (b : Int) (n c f : Nat) (l : List Int) (k : Nat) (x : Nat→Int) : Nat→Option LInv := invOf
 0 (LInv.one Nat (fun y => y≤n∧∀ i,i < y→x i≤tw l i) (fun y => [(0,ptr0 1),(3,ptr0 3),(4,.bool false),(11,sl0 n c),(12,vi n),(13,vi y)]) (fun _ => itE b n c f l [.gone,.rw (newS 2 k :: I10 x []) none]) (fun y => n - y))
noncomputable def itV0 (k:Nat) (x:Nat→Int) := (Value.slice (some ⟨2,0,some 0⟩) k 0::I10 x [])
noncomputable def itV1 (b:Int) (n:Nat) (c:Nat) (f:Nat):Prop := (AObj.rw (vi b::Value.slice (some (ad0 0)) n c::vi (f:Int)::B10 (tmd n) []) none=AObj.rw (vi b::Value.slice (some (ad0 0)) n c::vi (f:Int)::B10 (tmd n) []) none∧true=true)
noncomputable def itV2 (l:List Int) := (List.map (Value.int IntKind.i64) l)
noncomputable def itV3 (l:List Int) (x_1:Nat):List Value := [vi (getI (itV2 l) (0+(x_1:Int).toNat * 2)),vi (getI (itV2 l) (0+(x_1:Int).toNat * 2+1))]
noncomputable def itV4 (k:Nat) (x:Nat→Int):Prop := (AObj.rw (itV0 k x) none=AObj.rw (itV0 k x) none∧true=true)
noncomputable def itV5 (n:Nat) (c:Nat):Prop := (Value.slice (some (ad0 0)) n c=Value.slice (some (ad0 0)) n c)
noncomputable def itV6 (b:Int) (n:Nat) (c:Nat) (f:Nat) := (vi b::Value.slice (some (ad0 0)) n c::vi (f:Int)::B10 (tmd n) [])
noncomputable def itV7  (x_1:Nat) := (3+(x_1:Int).toNat * 1)
noncomputable def itV8  (x_1:Nat) := (1+(x_1:Int).toNat * 1)
noncomputable def itV :=
fun (b:Int) (n c f k:Nat) (l:List Int) (x:Nat→Int)↦(∃ (y:Nat),Ob (y≤n∧∀ (i:Nat),i<y→x i≤tw l i)∧(Ob (AObj.ro (itV2 l)=AObj.ro (List.map (nmap1 fun (bq:Nat)↦bq) (itV2 l))∧AObj.sc 4 (AObj.ro (itV2 l))=true)∧Ob (itV1 b n c f)∧Ob (itV4 k x)∧True)∧Ob (ptr0 1=ptr0 1)∧Ob (ptr0 3=ptr0 3)∧Ob (false=false)∧Ob (itV5 n c)∧Ob ((n:Int)=(n:Int))∧Ob ((0:Int)=(y:Int))∧True)∧∀ (x_1:Nat),Ob (x_1≤n∧∀ (i:Nat),i<x_1→x i≤tw l i)→(decide ((x_1:Int)<(n:Int))=true→Ob ((0:Int)≤(x_1:Int)∧(x_1:Int)<(n:Int)∧true=true)∧Ob (ckAsk [CK.i IntKind.i64,CK.i IntKind.i64] (itV2 l) (0+(x_1:Int).toNat * 2))∧Ob (0+2≤2)∧Ob ((0:Int)≤(x_1:Int)∧(x_1:Int)<(↑(10:Nat):Int))∧Ob (BoolAt (itV6 b n c f) (itV7 x_1))∧(getB (itV6 b n c f) (itV7 x_1)=true→Ob ((0:Int)≤(x_1:Int)∧(x_1:Int)<(↑(10:Nat):Int))∧Ob (IntAt IntKind.i64 (itV0 k x) (itV8 x_1))∧Ob (IntAt IntKind.i64 (itV3 l x_1) (0+1))∧(decide (getI (itV3 l x_1) (0+1)<getI (itV0 k x) (itV8 x_1))=true→(Ob (AObj.ro (itV2 l)=AObj.ro (List.map (nmap1 fun (bqq:Nat)↦bqq) (itV2 l))∧AObj.sc 3 (AObj.ro (itV2 l))=true)∧Ob (itV1 b n c f)∧True)∧Ob (false=inTB n l x)∧True)∧(decide (getI (itV3 l x_1) (0+1)<getI (itV0 k x) (itV8 x_1))=false→∃ (y:Nat),Ob (y≤n∧∀ (i:Nat),i<y→x i≤tw l i)∧Ob (n-y<n-x_1)∧(Ob (AObj.ro (itV2 l)=AObj.ro (List.map (nmap1 fun (bqqq:Nat)↦bqqq) (itV2 l))∧AObj.sc 4 (AObj.ro (itV2 l))=true)∧Ob (itV1 b n c f)∧Ob (itV4 k x)∧True)∧Ob (ptr0 1=ptr0 1)∧Ob (ptr0 3=ptr0 3)∧Ob (false=false)∧Ob (itV5 n c)∧Ob ((n:Int)=(n:Int))∧Ob (IntKind.i64.wrap ((x_1:Int)+(1:Int))=(y:Int))∧True))∧(getB (itV6 b n c f) (itV7 x_1)=false→∃ (y:Nat),Ob (y≤n∧∀ (i:Nat),i<y→x i≤tw l i)∧Ob (n-y<n-x_1)∧(Ob (AObj.ro (itV2 l)=AObj.ro (List.map (nmap1 fun (bqqqq:Nat)↦bqqqq) (itV2 l))∧AObj.sc 4 (AObj.ro (itV2 l))=true)∧Ob (itV1 b n c f)∧Ob (itV4 k x)∧True)∧Ob (ptr0 1=ptr0 1)∧Ob (ptr0 3=ptr0 3)∧Ob (false=false)∧Ob (itV5 n c)∧Ob ((n:Int)=(n:Int))∧Ob (IntKind.i64.wrap ((x_1:Int)+(1:Int))=(y:Int))∧True))∧(decide ((x_1:Int)<(n:Int))=false→(Ob (AObj.ro (itV2 l)=AObj.ro (List.map (nmap1 fun (bqqqqq:Nat)↦bqqqqq) (itV2 l))∧AObj.sc 3 (AObj.ro (itV2 l))=true)∧Ob (itV1 b n c f)∧True)∧Ob (true=inTB n l x)∧True)
theorem itV_eq : itV = fun (b : Int) (n c f k : Nat) (l : List Int) (x : Nat→Int) => vc Try.prog prE1 3 34 true (itI b n c f l k x) itB [] (argFr 0 [ptr0 1,.agg (newS 2 k :: I10 x []).toArray]) (itE b n c f l [.gone]) (retR Try.prog Try.f61 3 (fun b => b) (.bool (inTB n l x)) (itE b n c f l [.gone])) := by kernel_rfl
def tpI (b : Int) (n c f : Nat) (l m : List Int) : Nat→Option LInv := invOf
 0 (LInv.one Nat (fun x => x≤m.length) (fun x => [(0,ptr0 1),(4,ptr0 3),(5,ptr0 4),(6,vi (rAt b l m x)),(7,vi (rSt b l m x)),(18,newS 2 m.length),(19,vi m.length),(20,vi x)]) (fun x => itE b n c f l [rws m,.rw (nilS :: I10 empI []) none,.rw (newS 2 m.length :: I10 (sf b l m x) []) none]) (fun x => m.length - x))
noncomputable def tpV0 (b:Int) (l:List Int) (m:List Int) (x:Nat) := (rSt b l m x+dist (Arg.plain (vi (rAt b l m x))).num (Arg.plain (vi (getI (List.map (Value.int IntKind.i64) l) (0+(getI (List.map (Value.int IntKind.i64) m) (0+(x:Int).toNat * 1)).toNat * 2)))).num)
noncomputable def tpV1 (m:List Int) (x:Nat) := (1+(getI (List.map (Value.int IntKind.i64) m) (0+(x:Int).toNat * 1)).toNat * 1)
noncomputable def tpV2 (m:List Int) := (List.map (Value.int IntKind.i64) m)
noncomputable def tpV3 (b:Int) (n:Nat) (c:Nat) (f:Nat):Prop := (AObj.rw (vi b::Value.slice (some (ad0 0)) n c::vi (f:Int)::B10 (tmd n) []) none=AObj.rw (vi b::Value.slice (some (ad0 0)) n c::vi (f:Int)::B10 (tmd n) []) none∧true=true)
noncomputable def tpV4 (l:List Int) := (List.map (Value.int IntKind.i64) l)
noncomputable def tpV5  (x:Nat) := (0+(x:Int).toNat * 1)
noncomputable def tpV6 (m:List Int):Prop := (Value.slice (some ⟨2,0,some 0⟩) m.length 0=Value.slice (some ⟨2,0,some 0⟩) m.length 0)
noncomputable def tpV7  : Prop := (AObj.rw (Value.slice none (0 : Nat) (0 : Nat) :: I10 empI []) none = AObj.rw (Value.slice none (0 : Nat) (0 : Nat) :: I10 empI []) none∧true = true)
noncomputable def tpV8 (m:List Int) (x:Nat) := (0+(getI (tpV2 m) (tpV5 x)).toNat * 2)
noncomputable def tpV9 (b:Int) (l:List Int) (m:List Int) (y:Nat) := (Value.slice (some ⟨2,0,some 0⟩) m.length 0::I10 (sf b l m y) [])
noncomputable def tpV10 (b:Int) (l:List Int) (m:List Int) (x:Nat) := (Value.slice (some ⟨2,0,some 0⟩) m.length 0::I10 (sf b l m x) [])
noncomputable def tpV :=
fun (b:Int) (n c f:Nat) (l m:List Int)↦Ob (0+11≤11)∧Ob (some (vi b)=some (vi b))∧(∃ (y:Nat),Ob (y≤m.length)∧(Ob (AObj.ro (tpV4 l)=AObj.ro (List.map (nmap1 fun (bq:Nat)↦bq) (tpV4 l))∧AObj.sc 5 (AObj.ro (tpV4 l))=true)∧Ob (tpV3 b n c f)∧Ob (AObj.rw (tpV2 m) (some 1)=AObj.rw (List.map (nmap1 fun (bqq:Nat)↦bqq) (tpV2 m)) (some 1)∧AObj.sc 5 (AObj.rw (tpV2 m) (some 1))=true)∧Ob tpV7∧Ob (AObj.rw (Value.slice (some ⟨2,0,some 0⟩) m.length 0::I10 empI []) none=AObj.rw (tpV9 b l m y) none∧true=true)∧True)∧Ob (ptr0 1=ptr0 1)∧Ob (ptr0 3=ptr0 3)∧Ob (ptr0 4=ptr0 4)∧Ob (b=rAt b l m y)∧Ob ((0:Int)=rSt b l m y)∧Ob (tpV6 m)∧Ob ((m.length:Int)=(m.length:Int))∧Ob ((0:Int)=(y:Int))∧True)∧∀ (x:Nat),Ob (x≤m.length)→(decide ((x:Int)<(m.length:Int))=true→Ob ((0:Int)≤(x:Int)∧(x:Int)<(m.length:Int)∧true=true)∧Ob (IntAt IntKind.i64 (tpV2 m) (tpV5 x))∧Ob ((0:Int)≤getI (tpV2 m) (tpV5 x)∧getI (tpV2 m) (tpV5 x)<(n:Int)∧true=true)∧Ob (IntAt IntKind.i64 (tpV4 l) (tpV8 m x))∧Ob (((-1000000:Int)≤(Arg.plain (vi (rAt b l m x))).num∧(Arg.plain (vi (rAt b l m x))).num≤(1000000:Int))∧(-1000000:Int)≤(Arg.plain (vi (getI (tpV4 l) (tpV8 m x)))).num∧(Arg.plain (vi (getI (tpV4 l) (tpV8 m x)))).num≤(1000000:Int))∧Ob ((0:Int)≤getI (tpV2 m) (tpV5 x)∧getI (tpV2 m) (tpV5 x)<(↑(10:Nat):Int))∧Ob (IntAt IntKind.i64 (tpV10 b l m x) (tpV1 m x)∧some 1=some 1)∧∃ (y:Nat),Ob (y≤m.length)∧Ob (m.length-y<m.length-x)∧(Ob (AObj.ro (tpV4 l)=AObj.ro (List.map (nmap1 fun (bqqq:Nat)↦bqqq) (tpV4 l))∧AObj.sc 5 (AObj.ro (tpV4 l))=true)∧Ob (tpV3 b n c f)∧Ob (AObj.rw (tpV2 m) (some 1)=AObj.rw (List.map (nmap1 fun (bqqqq:Nat)↦bqqqq) (tpV2 m)) (some 1)∧AObj.sc 5 (AObj.rw (tpV2 m) (some 1))=true)∧Ob tpV7∧Ob (AObj.rw [Value.slice (some ⟨2,0,some 0⟩) m.length 0,vi (bif Nat.beq 1 (tpV1 m x) then IntKind.i64.wrap (tpV0 b l m x) else sf b l m x 0),vi (bif Nat.beq 2 (tpV1 m x) then IntKind.i64.wrap (tpV0 b l m x) else sf b l m x 1),vi (bif Nat.beq 3 (tpV1 m x) then IntKind.i64.wrap (tpV0 b l m x) else sf b l m x 2),vi (bif Nat.beq 4 (tpV1 m x) then IntKind.i64.wrap (tpV0 b l m x) else sf b l m x 3),vi (bif Nat.beq 5 (tpV1 m x) then IntKind.i64.wrap (tpV0 b l m x) else sf b l m x 4),vi (bif Nat.beq 6 (tpV1 m x) then IntKind.i64.wrap (tpV0 b l m x) else sf b l m x 5),vi (bif Nat.beq 7 (tpV1 m x) then IntKind.i64.wrap (tpV0 b l m x) else sf b l m x 6),vi (bif Nat.beq 8 (tpV1 m x) then IntKind.i64.wrap (tpV0 b l m x) else sf b l m x 7),vi (bif Nat.beq 9 (tpV1 m x) then IntKind.i64.wrap (tpV0 b l m x) else sf b l m x 8),vi (bif Nat.beq 10 (tpV1 m x) then IntKind.i64.wrap (tpV0 b l m x) else sf b l m x 9)] none=AObj.rw (tpV9 b l m y) none∧true=true)∧True)∧Ob (ptr0 1=ptr0 1)∧Ob (ptr0 3=ptr0 3)∧Ob (ptr0 4=ptr0 4)∧Ob (getI (tpV4 l) (tpV8 m x)=rAt b l m y)∧Ob (IntKind.i64.wrap (tpV0 b l m x)=rSt b l m y)∧Ob (tpV6 m)∧Ob ((m.length:Int)=(m.length:Int))∧Ob (IntKind.i64.wrap ((x:Int)+(1:Int))=(y:Int))∧True)∧(decide ((x:Int)<(m.length:Int))=false→Ob (11≤11)∧(Ob (AObj.ro (tpV4 l)=AObj.ro (List.map (nmap1 fun (bqqqqq:Nat)↦bqqqqq) (tpV4 l))∧AObj.sc 3 (AObj.ro (tpV4 l))=true)∧Ob (tpV3 b n c f)∧Ob (AObj.rw (tpV2 m) (some 1)=AObj.rw (List.map (nmap1 fun (bqqqqqq:Nat)↦bqqqqqq) (tpV2 m)) (some 1)∧AObj.sc 3 (AObj.rw (tpV2 m) (some 1))=true)∧True)∧Ob (Value.agg { toList := (tpV10 b l m x) }=Value.agg { toList := (Value.slice (some ⟨2,0,some 0⟩) m.length 0::I10 (stp b l m) []) })∧True)
theorem tpV_eq : tpV = fun (b : Int) (n c f : Nat) (l m : List Int) => vc Try.prog prE1 3 45 true (tpI b n c f l m) tpB [] (argFr 0 [ptr0 1,newS 2 m.length]) (itE b n c f l [rws m]) (retR Try.prog Try.f60 3 (fun b => b) (.agg (newS 2 m.length :: I10 (stp b l m) []).toArray) (itE b n c f l [rws m])) := by kernel_rfl
theorem B10_at3 {b : Int} {a : Value} {f : Int} {tm : Nat→Bool} {i : Nat} (h : i < 10) : BoolAt (vi b :: a :: vi f :: B10 tm []) (3 + i)∧getB (vi b :: a :: vi f :: B10 tm []) (3 + i) = tm i := by
 rcases i with _ | _ | _ | _ | _ | _ | _ | _ | _ | _ | i <;> first | exact ⟨rfl,rfl⟩ | omega
theorem tmd_lt {n i : Nat} (h : i < n) : tmd n i = true := by show Nat.blt i n = true; rw [Nat.blt_eq]; omega
theorem itV_ok (b : Int) (n c f k : Nat) (l : List Int) (x : Nat→Int) (hl : l.length = n * 2) (hn : n≤10) : itV b n c f k l x := by
 unfold itV itV8 itV7 itV6 itV5 itV4 itV3 itV2 itV1 itV0
 simp only [SS,reduceCtorEq,Arg.list,Arg.num,Arg.flag,intOf,andP,Nat.reduceLeDiff,Nat.reduceAdd,Nat.reduceMul,Nat.reduceLT,ckAsk,CK.ask,pl_fold,tw_fold,getI_2b,intAt_2b]
 refine ⟨⟨0,⟨by omega,all_none⟩,rfl⟩,fun y ⟨hy,hj⟩ => ⟨fun h1 => ?_,fun h1 => dB_true fun i hi => hj i (by omega)⟩⟩
 have h10 : y < 10 := by omega
 obtain ⟨a1,a2⟩ := B10_at3 (b := b) (a := Value.slice (some (ad0 0)) n c) (f := f) (tm := tmd n) h10
 obtain ⟨e1,e2⟩ := I10_getI1 (sl := newS 2 k) (st := x) h10
 have e1' : getI (Value.slice (some { block := 2,off := 0,spot := some 0 }) k 0 :: I10 x []) (1 + y) = x y := e1
 rw [e1',a2]
 refine ⟨by omega,by omega,by omega,a1,fun _ => ⟨by omega,e2,fun h3 => dB_false fun k => ?_,fun h3 => ⟨y + 1,⟨by omega,all_snoc hj (by omega)⟩,by omega,wrap_succ (n := 10) (by omega) (by omega)⟩⟩,fun h2 => ?_⟩
 · have := k y (by omega); omega
 · rw [tmd_lt (by omega)] at h2; cases h2
theorem tpV_ok (b : Int) (n c f : Nat) (l m : List Int) (hl : l.length = n * 2) (hn : n≤10) (hr : rngP b n l) (hm : m.length≤10) (ha : ∀ j,j < m.length→0≤m.getD j 0∧m.getD j 0 < n) : tpV b n c f l m := by
 unfold tpV tpV10 tpV9 tpV8 tpV7 tpV6 tpV5 tpV4 tpV3 tpV2 tpV1 tpV0
 simp only [SS,reduceCtorEq,Arg.list,Arg.num,Arg.flag,intOf,andP,Nat.reduceLeDiff,Nat.reduceAdd,Nat.reduceMul,Nat.reduceLT,ckAsk,CK.ask,pl_fold,tw_fold,nb1_1,nb1_2,nb1_3,nb1_4,nb1_5,nb1_6,nb1_7,nb1_8,nb1_9,nb1_10]
 refine ⟨⟨0,by omega,rfl,rfl,rfl,rfl⟩,fun x hx => ⟨fun h1 => ?_,fun h1 => ?_⟩⟩
 · have ax := ha x (by omega)
   have a1 := rAt_bd hr ha x (by omega)
   have a2 : 0≤pl l (m.getD x 0).toNat∧pl l (m.getD x 0).toNat≤1000 := rAt_bd hr ha (x + 1) (by omega)
   have s2 := rSt_bd hr ha (x + 1) (by omega)
   have w2 : IntKind.i64.wrap (rSt b l m x + dist (rAt b l m x) (pl l (m.getD x 0).toNat)) = rSt b l m (x + 1) := by
     show IntKind.i64.wrap (rSt b l m (x + 1)) = _
     exact wrap_in (by omega) (by omega)
   rw [w2]
   obtain ⟨e1,e2⟩ := I10_getI1 (sl := newS 2 m.length) (st := sf b l m x) (x := (m.getD x 0).toNat) (by omega)
   exact ⟨by omega,by omega,by omega,by omega,by omega,by omega,e2,x + 1,by omega,by omega,rfl,rfl,rfl,wrap_succ (n := m.length) (by omega) (by omega)⟩
 · rw [show x = m.length by omega]; rfl
theorem inTB_l10 {n : Nat} {l : List Int} {x : Nat→Int} (hn : n≤10) : inTB n l (l10 (x 0) (x 1) (x 2) (x 3) (x 4) (x 5) (x 6) (x 7) (x 8) (x 9)) = inTB n l x := by
 unfold inTB
 congr 1
 have : ∀ i,i < 10→l10 (x 0) (x 1) (x 2) (x 3) (x 4) (x 5) (x 6) (x 7) (x 8) (x 9) i = x i := fun i hi => by
   rcases i with _ | _ | _ | _ | _ | _ | _ | _ | _ | _ | i <;> first | rfl | omega
 exact propext ⟨fun h i hi => by rw [← this i (by omega)]; exact h i hi,fun h i hi => by rw [this i (by omega)]; exact h i hi⟩
def AtW (b : Int) (n c f : Nat) (l : List Int) (H : Heap) : Prop := H[0]? = some (ros l)∧H[1]? = some (.rw (walkC b n c f (tmd n)) none)
noncomputable def itCt (b : Int) (n c f : Nat) (l : List Int) : List Value→Heap→Option (Option Prop × Value × Heap × List Nat) := fun args H => match args with
 | [.pointer (some ⟨1,0,none⟩),.agg ⟨[.slice (some ⟨k,0,some 0⟩) _ 0,.int .i64 a0,.int .i64 a1,.int .i64 a2,.int .i64 a3,.int .i64 a4,.int .i64 a5,.int .i64 a6,.int .i64 a7,.int .i64 a8,.int .i64 a9]⟩] => match Nat.ble 2 k with
   | true => some (some (AtW b n c f l H∧l.length = n * 2∧n≤10),.bool (inTB n l (l10 a0 a1 a2 a3 a4 a5 a6 a7 a8 a9)),H,[])
   | false => none
 | _ => none
noncomputable def tpCt (b : Int) (n c f : Nat) (l m : List Int) : List Value→Heap→Option (Option Prop × Value × Heap × List Nat) := fun args H => match args with
 | [.pointer (some ⟨1,0,none⟩),.slice (some ⟨k,0,some 0⟩) y 0] => match Nat.ble 2 k with
   | true => some (some (AtW b n c f l H∧H[k]? = some (rws m)∧y = m.length∧l.length = n * 2∧n≤10∧rngP b n l∧m.length≤10∧∀ j,j < m.length→0≤m.getD j 0∧m.getD j 0 < n),.agg (newS k y :: I10 (stp b l m) []).toArray,H,[])
   | false => none
 | _ => none
theorem itV_call (b : Int) (n c f k : Nat) (l : List Int) (x : Nat→Int) (hl : l.length = n * 2) (hn : n≤10) : Call Try.prog 61 [ptr0 1,.agg (newS 2 k :: I10 x []).toArray] (itE b n c f l [.gone]) fun v H' => v = .bool (inTB n l x)∧H' = itE b n c f l [.gone] := by
 have h := itV_ok b n c f k l x hl hn
 rw [itV_eq] at h
 exact Call.ofVcR (H := itE b n c f l [.gone]) (args := [ptr0 1,.agg (newS 2 k :: I10 x []).toArray]) (σ := fun b => b) (v2 := .bool (inTB n l x)) (H2 := itE b n c f l [.gone]) prE1_ok mixed (c := itB) (inv := itI b n c f l k x) Try.func61 (by kernel_rfl) h
theorem tpV_call (b : Int) (n c f : Nat) (l m : List Int) (hl : l.length = n * 2) (hn : n≤10) (hr : rngP b n l) (hm : m.length≤10) (ha : ∀ j,j < m.length→0≤m.getD j 0∧m.getD j 0 < n) : Call Try.prog 60 [ptr0 1,newS 2 m.length] (itE b n c f l [rws m]) fun v H' => v = .agg (newS 2 m.length :: I10 (stp b l m) []).toArray∧H' = itE b n c f l [rws m] := by
 have h := tpV_ok b n c f l m hl hn hr hm ha
 rw [tpV_eq] at h
 exact Call.ofVcR (H := itE b n c f l [rws m]) (args := [ptr0 1,newS 2 m.length]) (σ := fun b => b) (v2 := .agg (newS 2 m.length :: I10 (stp b l m) []).toArray) (H2 := itE b n c f l [rws m]) prE1_ok mixed (c := tpB) (inv := tpI b n c f l m) Try.func60 (by kernel_rfl) h
theorem walk_omap {σ : Nat→Nat} {b : Int} {n c f : Nat} {tm : Nat→Bool} (h : σ 0 = 0) : omap σ (.rw (walkC b n c f tm) none) = .rw (walkC b n c f tm) none := by
 show AObj.rw ((walkC b n c f tm).map (nmap1 σ)) none = _
 show AObj.rw (vi b :: Value.slice (some ⟨σ 0,0,none⟩) n c :: vi f :: (B10 tm []).map (nmap1 σ)) none = _
 rw [h]; rfl
theorem ros_omap {σ : Nat→Nat} {l : List Int} : omap σ (ros l) = ros l := by
 show AObj.ro ((l.map (.int .i64)).map (nmap1 σ)) = _
 rw [nmap1_all all_sc_int]; rfl
theorem rws_omap {σ : Nat→Nat} {l : List Int} : omap σ (rws l) = rws l := omap_ints
theorem ros_sc {l : List Int} {n : Nat} : (ros l).sc n = true := List.all_eq_true.2 fun u hu => by
 obtain ⟨x,_,rfl⟩ := List.mem_map.1 hu; rfl
theorem rws_sc {l : List Int} {n : Nat} : (rws l).sc n = true := List.all_eq_true.2 fun u hu => by
 obtain ⟨x,_,rfl⟩ := List.mem_map.1 hu; rfl
theorem ros_nm {l : List Int} {p : Nat→Bool} : (ros l).nm p = true := List.all_eq_true.2 fun u hu => by
 obtain ⟨x,_,rfl⟩ := List.mem_map.1 hu; rfl
theorem rws_nm {l : List Int} {p : Nat→Bool} : (rws l).nm p = true := List.all_eq_true.2 fun u hu => by
 obtain ⟨x,_,rfl⟩ := List.mem_map.1 hu; rfl
theorem walk_frame {fn : FuncId} {b : Int} {n c f : Nat} {l : List Int} {H : Heap} {o : AObj} {k : Nat} {args vs : List Value} {v : Value} (hA : AtW b n c f l H) (hk : 2≤k) (hkH : k < H.length) (ho : o = .gone∨(H[k]? = some o∧∀ σ,omap σ o = o)) (hos : ∀ n,o.sc n = true) (hon : ∀ p,o.nm p = true)
   (hargs : vs = args.map (nmap fun c => [0,1,k].getD c 0)) (hsa : args.all (sc 3) = true) (h : Call Try.prog fn args (itE b n c f l [o]) fun v' F' => v' = v∧F' = itE b n c f l [o])
   (hv : nm (fun d => decide (d < 3) || decide (3≤d)) v = true) (hvs : sc H.length (nmap (nameL [0,1,k] 3 H.length) v) = true) :
   Call Try.prog fn vs H fun v' H2 => v' = nmap (nameL [0,1,k] 3 H.length) v∧H2 = H := by
 have hH : 2 < H.length := by omega
 refine Call.frameP (Et := itE b n c f l [o]) (L := [0,1,k]) (args := args) rfl (by simp; omega) (fun x hx => by simp at hx; omega) (fun c' o' hc => ?_) (fun o' ho' => ?_) (fun c' o' hc _ => ?_) (fun o' ho' => ?_) hargs hsa h (fun o' ho' => ?_) hv hvs
 · match c',hc with
   | 0,hc => cases hc; exact .inr (by rw [ros_omap]; exact hA.1)
   | 1,hc => cases hc; exact .inr (by rw [walk_omap rfl]; exact hA.2)
   | 2,hc =>
     cases hc
     rcases ho with rfl | ⟨h1,h2⟩
     · exact .inl rfl
     · exact .inr (by rw [h2]; exact h1)
   | c' + 3,hc => simp [itE] at hc
 · rcases List.mem_cons.1 ho' with rfl | ho'
   · exact ros_sc
   rcases List.mem_cons.1 ho' with rfl | ho'
   · rfl
   · rw [List.mem_singleton.1 ho']; exact hos _
 · match c',hc with
   | 0,hc => cases hc; exact ⟨by rw [ros_omap,ros_omap],by rw [ros_omap]; exact ros_sc⟩
   | 1,hc => cases hc; exact ⟨by rw [walk_omap rfl,walk_omap rfl],by rw [walk_omap rfl]; show ((vi b :: sl0 n c :: vi f :: B10 (tmd n) []).all _) = true; simp [sl0,B10,sc1,sc0]; omega⟩
   | 2,hc =>
     cases hc
     rcases ho with rfl | ⟨h1,h2⟩
     · exact ⟨rfl,rfl⟩
     · exact ⟨by rw [h2,h2],by rw [h2]; exact hos _⟩
   | c' + 3,hc => simp [itE] at hc
 · rcases List.mem_cons.1 ho' with rfl | ho'
   · exact ros_sc
   rcases List.mem_cons.1 ho' with rfl | ho'
   · show ((vi b :: sl0 n c :: vi f :: B10 (tmd n) []).all _) = true; simp [sl0,B10,sc1,sc0]; omega
   · rw [List.mem_singleton.1 ho']; exact hos _
 · rcases List.mem_cons.1 ho' with rfl | ho'
   · exact ros_nm
   rcases List.mem_cons.1 ho' with rfl | ho'
   · rfl
   · rw [List.mem_singleton.1 ho']; exact hon _
theorem ag_lt {k n : Nat} {ls : List Value} {m : Nat} {args : List Value} {H : Heap} (hs : args.all (sc H.length) = true) (h : Value.agg (Value.slice (some ⟨k,0,some 0⟩) n m :: ls).toArray ∈ args) : k < H.length := by
 have h0 := List.all_eq_true.1 hs _ h
 have h1 : ((Value.slice (some ⟨k,0,some 0⟩) n m :: ls).toArray.all (sc1 H.length)) = true := h0
 rw [← Array.all_toList] at h1
 simp only [List.all_cons,Bool.and_eq_true] at h1
 exact of_decide_eq_true (show decide (k < H.length) = true from h1.1)
theorem sl_lt {k n : Nat} {m : Nat} {s : Option Nat} {args : List Value} {H : Heap} (hs : args.all (sc H.length) = true) (h : Value.slice (some ⟨k,0,s⟩) n m ∈ args) : k < H.length :=
 of_decide_eq_true (show decide (k < H.length) = true from List.all_eq_true.1 hs _ h)
theorem agg_nmap {σ : Nat→Nat} {k y : Nat} {cs : List Value} (hcs : cs.all (sc1 0) = true) : nmap σ (.agg (newS k y :: cs).toArray) = .agg (newS (σ k) y :: cs).toArray := by
 show Value.agg ((newS k y :: cs).toArray.map (nmap1 σ)) = _
 rw [List.map_toArray,List.map_cons,nmap1_all hcs]; rfl
theorem agg_sc {n k y : Nat} {cs : List Value} (hk : k < n) (hcs : cs.all (sc1 0) = true) : sc n (.agg (newS k y :: cs).toArray) = true := by
 show (newS k y :: cs).toArray.all (sc1 n) = true
 rw [← Array.all_toList]
 simp only [List.all_cons,Bool.and_eq_true]
 exact ⟨decide_eq_true hk,List.all_eq_true.2 fun u hu => sc1_mono (Nat.zero_le _) (List.all_eq_true.1 hcs u hu)⟩
theorem agg_nm {p : Nat→Bool} {k y : Nat} {cs : List Value} (hk : p k = true) (hcs : cs.all (sc1 0) = true) : nm p (.agg (newS k y :: cs).toArray) = true := by
 show (newS k y :: cs).toArray.all (nm1 p) = true
 rw [← Array.all_toList]
 simp only [List.all_cons,Bool.and_eq_true]
 exact ⟨hk,List.all_eq_true.2 fun u hu => nm1_closed (List.all_eq_true.1 hcs u hu)⟩
theorem it_ok (b : Int) (n c f : Nat) (l : List Int) : ∀ args H φ v H' lg,itCt b n c f l args H = some (φ,v,H',lg)→Asks φ→Call Try.prog 61 args H (fun v' H2 => v' = v∧H2 = H')∧Kept H H' lg := by
 intro args H φ v H' lg h hφ
 unfold itCt at h
 split at h <;> try (cases h; done)
 rename_i k y a0 a1 a2 a3 a4 a5 a6 a7 a8 a9
 split at h <;> cases h
 rename_i hk
 obtain ⟨h1,h2,h3⟩ := hφ
 refine ⟨fun ρ w R hs => ?_,Kept.refl _ _⟩
 have hkH : k < H.length := ag_lt hs (List.mem_cons_of_mem _ List.mem_cons_self)
 exact walk_frame (o := .gone) h1 (Nat.le_of_ble_eq_true hk) hkH (.inl rfl) (fun _ => rfl) (fun _ => rfl) (args := [ptr0 1,.agg (newS 2 y :: I10 (l10 a0 a1 a2 a3 a4 a5 a6 a7 a8 a9) []).toArray]) (by rw [List.map_cons,List.map_cons,List.map_nil,agg_nmap rfl]; rfl) (by rw [List.all_cons,List.all_cons,agg_sc (by omega) rfl]; rfl) (itV_call b n c f y l _ h2 h3) rfl rfl ρ w R hs
theorem tp_ok (b : Int) (n c f : Nat) (l m : List Int) : ∀ args H φ v H' lg,tpCt b n c f l m args H = some (φ,v,H',lg)→Asks φ→Call Try.prog 60 args H (fun v' H2 => v' = v∧H2 = H')∧Kept H H' lg := by
 intro args H φ v H' lg h hφ
 unfold tpCt at h
 split at h <;> try (cases h; done)
 rename_i k y
 split at h <;> cases h
 rename_i hk
 obtain ⟨h1,h2,h3,h4,h5,h6,h7,h8⟩ := hφ
 subst h3
 refine ⟨fun ρ w R hs => ?_,Kept.refl _ _⟩
 have hkH : k < H.length := sl_lt hs (List.mem_cons_of_mem _ List.mem_cons_self)
 have e : nmap (nameL [0,1,k] 3 H.length) (.agg (newS 2 m.length :: I10 (stp b l m) []).toArray) = .agg (newS k m.length :: I10 (stp b l m) []).toArray := agg_nmap rfl
 have hsv : sc H.length (.agg (newS k m.length :: I10 (stp b l m) []).toArray) = true := by
   exact agg_sc hkH rfl
 have := walk_frame (fn := 60) (o := rws m) (vs := [ptr0 1,newS k m.length]) h1 (Nat.le_of_ble_eq_true hk) hkH (.inr ⟨h2,fun _ => rws_omap⟩) (fun _ => rws_sc) (fun _ => rws_nm) (args := [ptr0 1,newS 2 m.length]) rfl rfl (tpV_call b n c f l m h4 h5 h6 h7 h8) (agg_nm rfl rfl) (by rw [e]; exact hsv)
 rw [e] at this
 exact this ρ w R hs
end Go.Pier.Rd
namespace Go.Pier.Rd
open Go Go.Pier Go.Proofs
noncomputable def y1_c0 : Code := (Code.region (4 : Nat) { toList := [{ dst := some (7 : Nat),op := Op.alloc (91 : Nat),type := (0 : Nat),pos := "trip.go:77",after := { toList := [] },guard := none },{ dst := none,op := Op.store (91 : Nat) (Operand.tmp (7 : Nat)) (Operand.tmp (9 : Nat)),type := (0 : Nat),pos := "trip.go:77",after := { toList := [{ on := (0 : Nat),ground := Ground.data },{ on := (0 : Nat),ground := Ground.phase }] },guard := none }] } false)
noncomputable def y1_c1 : Code := (Code.block (1 : Nat) ((Code.region (5 : Nat) { toList := [{ dst := some (10 : Nat),op := Op.load (4 : Nat) (Operand.tmp (6 : Nat)),type := (4 : Nat),pos := "trip.go:78",after := { toList := [] },guard := none },{ dst := some (11 : Nat),op := Op.move (Operand.tmp (10 : Nat)),type := (4 : Nat),pos := "trip.go:78",after := { toList := [{ on := (0 : Nat),ground := Ground.data }] },guard := none },{ dst := some (12 : Nat),op := Op.load (129 : Nat) (Operand.tmp (3 : Nat)),type := (129 : Nat),pos := "trip.go:78",after := { toList := [{ on := (1 : Nat),ground := Ground.guard }] },guard := some ((1 : Nat),false) },{ dst := some (13 : Nat),op := Op.load (91 : Nat) (Operand.tmp (7 : Nat)),type := (91 : Nat),pos := "trip.go:78",after := { toList := [{ on := (1 : Nat),ground := Ground.guard }] },guard := some ((1 : Nat),false) },{ dst := some (14 : Nat),op := Op.call { callee := Callee.value (Operand.tmp (12 : Nat)),args := { toList := [Operand.tmp (13 : Nat)] },argTypes := { toList := [(91 : Nat)] } },type := (2 : Nat),pos := "trip.go:78",after := { toList := [{ on := (2 : Nat),ground := Ground.data },{ on := (3 : Nat),ground := Ground.data },{ on := (1 : Nat),ground := Ground.chain },{ on := (1 : Nat),ground := Ground.guard }] },guard := some ((1 : Nat),false) },{ dst := some (15 : Nat),op := Op.load (129 : Nat) (Operand.tmp (3 : Nat)),type := (129 : Nat),pos := "trip.go:78",after := { toList := [{ on := (1 : Nat),ground := Ground.guard }] },guard := some ((1 : Nat),false) },{ dst := some (16 : Nat),op := Op.load (91 : Nat) (Operand.tmp (5 : Nat)),type := (91 : Nat),pos := "trip.go:78",after := { toList := [{ on := (1 : Nat),ground := Ground.guard }] },guard := some ((1 : Nat),false) },{ dst := some (17 : Nat),op := Op.call { callee := Callee.value (Operand.tmp (15 : Nat)),args := { toList := [Operand.tmp (16 : Nat)] },argTypes := { toList := [(91 : Nat)] } },type := (2 : Nat),pos := "trip.go:78",after := { toList := [{ on := (5 : Nat),ground := Ground.data },{ on := (6 : Nat),ground := Ground.data },{ on := (4 : Nat),ground := Ground.chain },{ on := (1 : Nat),ground := Ground.guard }] },guard := some ((1 : Nat),false) },{ dst := some (18 : Nat),op := Op.binOp BinOp.lss (2 : Nat) (Operand.tmp (14 : Nat)) (Operand.tmp (17 : Nat)) (2 : Nat),type := (4 : Nat),pos := "trip.go:78",after := { toList := [{ on := (4 : Nat),ground := Ground.data },{ on := (7 : Nat),ground := Ground.data },{ on := (1 : Nat),ground := Ground.guard }] },guard := some ((1 : Nat),false) },{ dst := some (19 : Nat),op := Op.pick (Operand.tmp (11 : Nat)) (Operand.const (Value.bool true)) (Operand.tmp (18 : Nat)),type := (4 : Nat),pos := "trip.go:78",after := { toList := [{ on := (1 : Nat),ground := Ground.data },{ on := (8 : Nat),ground := Ground.data }] },guard := none }] } true).seq (Code.cond (Operand.tmp (19 : Nat)) (Code.region (6 : Nat) { toList := [{ dst := some (20 : Nat),op := Op.load (91 : Nat) (Operand.tmp (7 : Nat)),type := (91 : Nat),pos := "trip.go:79",after := { toList := [] },guard := none },{ dst := none,op := Op.store (91 : Nat) (Operand.tmp (5 : Nat)) (Operand.tmp (20 : Nat)),type := (0 : Nat),pos := "trip.go:79",after := { toList := [{ on := (0 : Nat),ground := Ground.data },{ on := (0 : Nat),ground := Ground.phase }] },guard := none },{ dst := none,op := Op.store (4 : Nat) (Operand.tmp (6 : Nat)) (Operand.const (Value.bool false)),type := (0 : Nat),pos := "trip.go:79",after := { toList := [{ on := (1 : Nat),ground := Ground.chain },{ on := (0 : Nat),ground := Ground.phase },{ on := (1 : Nat),ground := Ground.phase }] },guard := none }] } false) Code.skip)))
noncomputable def y1_c2 : Code := (Code.region (2 : Nat) { toList := [{ dst := some (4 : Nat),op := Op.alloc (91 : Nat),type := (0 : Nat),pos := "trip.go:64",after := { toList := [] },guard := none },{ dst := none,op := Op.store (91 : Nat) (Operand.tmp (4 : Nat)) (Operand.tmp (6 : Nat)),type := (0 : Nat),pos := "trip.go:64",after := { toList := [{ on := (0 : Nat),ground := Ground.data },{ on := (0 : Nat),ground := Ground.phase }] },guard := none }] } false)
noncomputable def y1_c3 : Code := (Code.block (1 : Nat) ((Code.region (3 : Nat) { toList := [{ dst := some (7 : Nat),op := Op.load (93 : Nat) (Operand.tmp (2 : Nat)),type := (93 : Nat),pos := "trip.go:65",after := { toList := [] },guard := none },{ dst := some (8 : Nat),op := Op.load (91 : Nat) (Operand.tmp (4 : Nat)),type := (91 : Nat),pos := "trip.go:65",after := { toList := [] },guard := none },{ dst := some (9 : Nat),op := Op.call { callee := Callee.value (Operand.tmp (7 : Nat)),args := { toList := [Operand.tmp (8 : Nat)] },argTypes := { toList := [(91 : Nat)] } },type := (4 : Nat),pos := "trip.go:65",after := { toList := [{ on := (0 : Nat),ground := Ground.data },{ on := (1 : Nat),ground := Ground.data }] },guard := none },{ dst := some (10 : Nat),op := Op.move (Operand.tmp (9 : Nat)),type := (4 : Nat),pos := "trip.go:65",after := { toList := [{ on := (2 : Nat),ground := Ground.data },{ on := (2 : Nat),ground := Ground.chain }] },guard := none },{ dst := some (11 : Nat),op := Op.load (93 : Nat) (Operand.tmp (3 : Nat)),type := (93 : Nat),pos := "trip.go:65",after := { toList := [{ on := (3 : Nat),ground := Ground.guard }] },guard := some ((3 : Nat),true) },{ dst := some (12 : Nat),op := Op.load (91 : Nat) (Operand.tmp (4 : Nat)),type := (91 : Nat),pos := "trip.go:65",after := { toList := [{ on := (3 : Nat),ground := Ground.guard }] },guard := some ((3 : Nat),true) },{ dst := some (13 : Nat),op := Op.call { callee := Callee.value (Operand.tmp (11 : Nat)),args := { toList := [Operand.tmp (12 : Nat)] },argTypes := { toList := [(91 : Nat)] } },type := (4 : Nat),pos := "trip.go:65",after := { toList := [{ on := (4 : Nat),ground := Ground.data },{ on := (5 : Nat),ground := Ground.data },{ on := (3 : Nat),ground := Ground.chain },{ on := (3 : Nat),ground := Ground.guard }] },guard := some ((3 : Nat),true) },{ dst := some (14 : Nat),op := Op.unOp UnOp.not (4 : Nat) (Operand.tmp (13 : Nat)),type := (4 : Nat),pos := "trip.go:65",after := { toList := [{ on := (6 : Nat),ground := Ground.data },{ on := (3 : Nat),ground := Ground.guard }] },guard := some ((3 : Nat),true) },{ dst := some (15 : Nat),op := Op.pick (Operand.tmp (10 : Nat)) (Operand.tmp (14 : Nat)) (Operand.const (Value.bool false)),type := (4 : Nat),pos := "trip.go:65",after := { toList := [{ on := (3 : Nat),ground := Ground.data },{ on := (7 : Nat),ground := Ground.data }] },guard := none }] } false).seq (Code.cond (Operand.tmp (15 : Nat)) Code.ret Code.skip)))
noncomputable def y1_c4 : Code := (Code.region (2 : Nat) { toList := [{ dst := some (3 : Nat),op := Op.assign (Operand.tmp (6 : Nat)),type := (25 : Nat),pos := "trip.go:40",after := { toList := [] },guard := none }] } false)
noncomputable def y1_c5 : Code := (Code.block (1 : Nat) ((Code.region (3 : Nat) { toList := [{ dst := some (7 : Nat),op := Op.load (93 : Nat) (Operand.tmp (2 : Nat)),type := (93 : Nat),pos := "trip.go:41",after := { toList := [] },guard := none },{ dst := some (8 : Nat),op := Op.load (79 : Nat) (Operand.tmp (1 : Nat)),type := (79 : Nat),pos := "trip.go:41",after := { toList := [] },guard := none },{ dst := some (9 : Nat),op := Op.move (Operand.tmp (3 : Nat)),type := (25 : Nat),pos := "trip.go:41",after := { toList := [] },guard := none },{ dst := some (10 : Nat),op := Op.call { callee := Callee.value (Operand.func (60 : Nat)),args := { toList := [Operand.tmp (8 : Nat),Operand.tmp (9 : Nat)] },argTypes := { toList := [(79 : Nat),(25 : Nat)] } },type := (91 : Nat),pos := "trip.go:41",after := { toList := [{ on := (1 : Nat),ground := Ground.data },{ on := (2 : Nat),ground := Ground.data }] },guard := none },{ dst := some (11 : Nat),op := Op.call { callee := Callee.value (Operand.tmp (7 : Nat)),args := { toList := [Operand.tmp (10 : Nat)] },argTypes := { toList := [(91 : Nat)] } },type := (4 : Nat),pos := "trip.go:41",after := { toList := [{ on := (0 : Nat),ground := Ground.data },{ on := (3 : Nat),ground := Ground.data },{ on := (3 : Nat),ground := Ground.chain }] },guard := none },{ dst := some (12 : Nat),op := Op.unOp UnOp.not (4 : Nat) (Operand.tmp (11 : Nat)),type := (4 : Nat),pos := "trip.go:41",after := { toList := [{ on := (4 : Nat),ground := Ground.data }] },guard := none }] } true).seq (Code.cond (Operand.tmp (12 : Nat)) Code.ret Code.skip)))
noncomputable def lenT : Ct := Ct.none.add 70 lenCt
noncomputable def y0E : VEnv := { ct := lenT }
noncomputable def y1E (b : Int) (n c f : Nat) (l : List Int) : VEnv := { ct := lenT.add 61 (itCt b n c f l),yc := ycIn Try.prog y0E (fun _ => none) }
def lnF : Value := .func (.func 70) #[] #[]
noncomputable def ycT (o : Option ((Value→Heap→Prop)→Prop)) (Q : Value→Heap→Prop) : Prop := match o with | some T => T Q | none => False
def NL (st : Nat→Int) : Int := mxN st 9
noncomputable def EG (b : Int) (n c f : Nat) (l m : List Int) (nv : Value) (X : AObj) (z : LoopState) (no : Bool) (k : Nat) (st : Nat→Int) : Heap := EH b n c f l nv X z no k st ++ [.gone,rws m]
def YR (b : Int) (n c f : Nat) (l m : List Int) (nv : Value) (X : AObj) (z : LoopState) (s : LS) (v : Value) (H' : Heap) : Prop :=
 v = .bool true∧∃ k,H' = EG b n c f l m nv X z s.no k s.st ++ H'.drop 18∧k < H'.length
noncomputable def y1A0  : Array Value := { toList := [Value.func (Fn.func (122 : FuncId)) { toList := [] } { toList := [ptr0 3,ptr0 4] },Value.func (Fn.func (70 : FuncId)) { toList := [] } { toList := [] },junk,ptr0 6,ptr0 7,ptr0 8,ptr0 9,junk,Value.func (Fn.func (122 : FuncId)) { toList := [] } { toList := [ptr0 3,ptr0 4] },junk,junk,junk,junk,junk,junk,junk,junk,junk,junk,junk,junk,junk] }
noncomputable def y1A1 (b:Int) (n:Nat) (c:Nat) (f:Nat) (l:List Int) (m:List Int) (x:Nat→Int) := (YR b n c f l m (Value.func (Fn.func (70:FuncId)) ⟨[]⟩ ⟨[]⟩) AObj.gone LoopState.busy (stepL (inTB n l) NL { no := true,st := empI } x) (Value.bool false) [AObj.ro (List.map (Value.int IntKind.i64) l),AObj.rw (vi b::Value.slice (some (ad0 0)) n c::vi (f:Int)::B10 (tmd n) []) none,AObj.rw [ptr0 1] none,AObj.rw [Value.func (Fn.func (123:FuncId)) ⟨[]⟩ ⟨[ptr0 2]⟩] none,AObj.rw [Value.func (Fn.func (61:FuncId)) ⟨[ptr0 1]⟩ ⟨[]⟩] none,AObj.gone,AObj.rw [Value.func (Fn.func (70:FuncId)) ⟨[]⟩ ⟨[]⟩] none,AObj.rw (Value.slice none 0 0::I10 empI []) none,AObj.rw (Value.slice (some ⟨17,0,some 0⟩) n 0::I10 x []) none,AObj.rw [Value.bool false] none,AObj.loop LoopState.ready none y1A0 ⟨[9]⟩ y1_c0 y1_c1,AObj.rw [Value.func (Fn.yield 10) ⟨[]⟩ ⟨[]⟩] none,AObj.loop LoopState.done (some Code.ret) ⟨[Value.func (Fn.yield 10) ⟨[]⟩ ⟨[]⟩,ptr0 3,ptr0 4,ptr0 11,junk,Value.func (Fn.func (123:FuncId)) ⟨[]⟩ ⟨[ptr0 2]⟩,junk,junk,junk,junk,junk,junk,junk,junk,junk,junk]⟩ ⟨[6]⟩ y1_c2 y1_c3,AObj.rw [Value.func (Fn.yield 12) ⟨[]⟩ ⟨[]⟩] none,AObj.rw [ptr0 1] none,AObj.loop LoopState.busy none ⟨[Value.func (Fn.yield 12) ⟨[]⟩ ⟨[]⟩,ptr0 2,ptr0 13,junk,ptr0 1,Value.func (Fn.func (133:FuncId)) ⟨[]⟩ ⟨[ptr0 14]⟩,junk,junk,junk,junk,junk,junk,junk]⟩ ⟨[6]⟩ y1_c4 y1_c5,AObj.gone,AObj.rw (List.map (Value.int IntKind.i64) m) (some 1),AObj.rw (Value.slice (some ⟨17,0,some 0⟩) n 0::I10 x []) none,AObj.rw (Value.slice (some ⟨17,0,some 0⟩) n 0::I10 x []) none])
noncomputable def y1A2 (b:Int) (n:Nat) (c:Nat) (f:Nat) (l:List Int) (m:List Int) (x:Nat→Int) := (YR b n c f l m (Value.func (Fn.func (70:FuncId)) ⟨[]⟩ ⟨[]⟩) AObj.gone LoopState.busy (stepL (inTB n l) NL { no := true,st := empI } x) (Value.bool true) [AObj.ro (List.map (Value.int IntKind.i64) l),AObj.rw (vi b::Value.slice (some (ad0 0)) n c::vi (f:Int)::B10 (tmd n) []) none,AObj.rw [ptr0 1] none,AObj.rw [Value.func (Fn.func (123:FuncId)) ⟨[]⟩ ⟨[ptr0 2]⟩] none,AObj.rw [Value.func (Fn.func (61:FuncId)) ⟨[ptr0 1]⟩ ⟨[]⟩] none,AObj.gone,AObj.rw [Value.func (Fn.func (70:FuncId)) ⟨[]⟩ ⟨[]⟩] none,AObj.rw (Value.slice none 0 0::I10 empI []) none,AObj.rw (Value.slice (some ⟨17,0,some 0⟩) n 0::I10 x []) none,AObj.rw [Value.bool false] none,AObj.loop LoopState.ready none y1A0 ⟨[9]⟩ y1_c0 y1_c1,AObj.rw [Value.func (Fn.yield 10) ⟨[]⟩ ⟨[]⟩] none,AObj.loop LoopState.ready none ⟨[Value.func (Fn.yield 10) ⟨[]⟩ ⟨[]⟩,ptr0 3,ptr0 4,ptr0 11,junk,Value.func (Fn.func (123:FuncId)) ⟨[]⟩ ⟨[ptr0 2]⟩,junk,junk,junk,junk,junk,junk,junk,junk,junk,junk]⟩ ⟨[6]⟩ y1_c2 y1_c3,AObj.rw [Value.func (Fn.yield 12) ⟨[]⟩ ⟨[]⟩] none,AObj.rw [ptr0 1] none,AObj.loop LoopState.busy none ⟨[Value.func (Fn.yield 12) ⟨[]⟩ ⟨[]⟩,ptr0 2,ptr0 13,junk,ptr0 1,Value.func (Fn.func (133:FuncId)) ⟨[]⟩ ⟨[ptr0 14]⟩,junk,junk,junk,junk,junk,junk,junk]⟩ ⟨[6]⟩ y1_c4 y1_c5,AObj.gone,AObj.rw (List.map (Value.int IntKind.i64) m) (some 1),AObj.rw (Value.slice (some ⟨17,0,some 0⟩) n 0::I10 x []) none,AObj.rw (Value.slice (some ⟨17,0,some 0⟩) n 0::I10 x []) none])
noncomputable def y1A3  : Array Value := { toList := [Value.func (Fn.yield (10 : Nat)) { toList := [] } { toList := [] },ptr0 3,ptr0 4,ptr0 11,junk,Value.func (Fn.func (123 : FuncId)) { toList := [] } { toList := [ptr0 2] },junk,junk,junk,junk,junk,junk,junk,junk,junk,junk] }
noncomputable def y1A4  : Array Value := { toList := [Value.func (Fn.yield (12 : Nat)) { toList := [] } { toList := [] },ptr0 2,ptr0 13,junk,ptr0 1,Value.func (Fn.func (133 : FuncId)) { toList := [] } { toList := [ptr0 14] },junk,junk,junk,junk,junk,junk,junk] }
noncomputable def y1A5 (n:Nat) (x:Nat→Int) := (Value.slice (some ⟨17,0,some 0⟩) n 0::I10 x [])
noncomputable def y1A6  := (Value.slice none (0 : Nat) (0 : Nat) :: I10 empI [])
noncomputable def y1A7  : List Value := [Value.func (Fn.func (123 : FuncId)) { toList := [] } { toList := [ptr0 2] }]
noncomputable def y1A8  : List Value := [Value.func (Fn.func (61 : FuncId)) { toList := [ptr0 1] } { toList := [] }]
noncomputable def y1A9  : List Value := [Value.func (Fn.func (70 : FuncId)) { toList := [] } { toList := [] }]
noncomputable def y1A10  : List Value := [Value.func (Fn.yield (10 : Nat)) { toList := [] } { toList := [] }]
noncomputable def y1A11  : List Value := [Value.func (Fn.yield (12 : Nat)) { toList := [] } { toList := [] }]
noncomputable def y1A12 (b:Int) (n:Nat) (c:Nat) (f:Nat) := (vi b::Value.slice (some (ad0 0)) n c::vi (f:Int)::B10 (tmd n) [])
noncomputable def y1A13  := (Value.func (Fn.func (70 : FuncId)) { toList := [] } { toList := [] })
noncomputable def y1A14 (x:Nat→Int) := (l10 (x 0) (x 1) (x 2) (x 3) (x 4) (x 5) (x 6) (x 7) (x 8) (x 9))
noncomputable def y1A15  := (Value.int IntKind.i64)
noncomputable def y1A :=
fun (b:Int) (n c f:Nat) (l m:List Int) (x:Nat→Int)↦Ob (0+11≤11)∧Ob (AtW b n c f l [AObj.ro (List.map y1A15 l),AObj.rw (y1A12 b n c f) none,AObj.rw [ptr0 1] none,AObj.rw y1A7 none,AObj.rw y1A8 none,AObj.gone,AObj.rw y1A9 none,AObj.rw y1A6 none,AObj.rw y1A6 none,AObj.rw [Value.bool true] none,AObj.loop LoopState.ready none y1A0 ⟨[9]⟩ y1_c0 y1_c1,AObj.rw y1A10 none,AObj.loop LoopState.busy none y1A3 ⟨[6]⟩ y1_c2 y1_c3,AObj.rw y1A11 none,AObj.rw [ptr0 1] none,AObj.loop LoopState.busy none y1A4 ⟨[6]⟩ y1_c4 y1_c5,AObj.gone,AObj.rw (List.map y1A15 m) (some 1),AObj.rw (y1A5 n x) none]∧l.length=n * 2∧n≤10)∧(inTB n l (y1A14 x)=true→Ob (0+11≤11)∧Ob (some (Value.bool true)=some (Value.bool true))∧(true=false→(decide (mxL [x 0,x 1,x 2,x 3,x 4,x 5,x 6,x 7,x 8,x 9]<mxL [empI 0,empI 1,empI 2,empI 3,empI 4,empI 5,empI 6,empI 7,empI 8,empI 9])=true→Ob (11≤11)∧Ob (1≤1)∧(false=true→Ob (y1A1 b n c f l m x))∧(false=false→Ob (y1A2 b n c f l m x)))∧(decide (mxL [x 0,x 1,x 2,x 3,x 4,x 5,x 6,x 7,x 8,x 9]<mxL [empI 0,empI 1,empI 2,empI 3,empI 4,empI 5,empI 6,empI 7,empI 8,empI 9])=false→(false=true→Ob (YR b n c f l m y1A13 AObj.gone LoopState.busy (stepL (inTB n l) NL { no := true,st := empI } x) (Value.bool false) [AObj.ro (List.map y1A15 l),AObj.rw (y1A12 b n c f) none,AObj.rw [ptr0 1] none,AObj.rw y1A7 none,AObj.rw y1A8 none,AObj.gone,AObj.rw y1A9 none,AObj.rw y1A6 none,AObj.rw y1A6 none,AObj.rw [Value.bool true] none,AObj.loop LoopState.ready none y1A0 ⟨[9]⟩ y1_c0 y1_c1,AObj.rw y1A10 none,AObj.loop LoopState.done (some Code.ret) y1A3 ⟨[6]⟩ y1_c2 y1_c3,AObj.rw y1A11 none,AObj.rw [ptr0 1] none,AObj.loop LoopState.busy none y1A4 ⟨[6]⟩ y1_c4 y1_c5,AObj.gone,AObj.rw (List.map y1A15 m) (some 1),AObj.rw (y1A5 n x) none,AObj.rw (y1A5 n x) none]))∧(false=false→Ob (YR b n c f l m y1A13 AObj.gone LoopState.busy (stepL (inTB n l) NL { no := true,st := empI } x) (Value.bool true) [AObj.ro (List.map y1A15 l),AObj.rw (y1A12 b n c f) none,AObj.rw [ptr0 1] none,AObj.rw y1A7 none,AObj.rw y1A8 none,AObj.gone,AObj.rw y1A9 none,AObj.rw y1A6 none,AObj.rw y1A6 none,AObj.rw [Value.bool true] none,AObj.loop LoopState.ready none y1A0 ⟨[9]⟩ y1_c0 y1_c1,AObj.rw y1A10 none,AObj.loop LoopState.ready none y1A3 ⟨[6]⟩ y1_c2 y1_c3,AObj.rw y1A11 none,AObj.rw [ptr0 1] none,AObj.loop LoopState.busy none y1A4 ⟨[6]⟩ y1_c4 y1_c5,AObj.gone,AObj.rw (List.map y1A15 m) (some 1),AObj.rw (y1A5 n x) none,AObj.rw (y1A5 n x) none]))))∧(true=true→Ob (11≤11)∧Ob (1≤1)∧(false=true→Ob (y1A1 b n c f l m x))∧(false=false→Ob (y1A2 b n c f l m x))))∧(inTB n l (y1A14 x)=false→Ob (YR b n c f l m y1A13 AObj.gone LoopState.busy (stepL (inTB n l) NL { no := true,st := empI } x) (Value.bool true) [AObj.ro (List.map y1A15 l),AObj.rw (y1A12 b n c f) none,AObj.rw [ptr0 1] none,AObj.rw y1A7 none,AObj.rw y1A8 none,AObj.gone,AObj.rw y1A9 none,AObj.rw y1A6 none,AObj.rw y1A6 none,AObj.rw [Value.bool true] none,AObj.loop LoopState.ready none y1A0 ⟨[9]⟩ y1_c0 y1_c1,AObj.rw y1A10 none,AObj.loop LoopState.ready none y1A3 ⟨[6]⟩ y1_c2 y1_c3,AObj.rw y1A11 none,AObj.rw [ptr0 1] none,AObj.loop LoopState.busy none y1A4 ⟨[6]⟩ y1_c4 y1_c5,AObj.gone,AObj.rw (List.map y1A15 m) (some 1),AObj.rw (y1A5 n x) none]))
theorem y1A_eq : y1A = fun (b : Int) (n c f : Nat) (l m : List Int) (x : Nat→Int) => ycT (ycIn Try.prog (y1E b n c f l) (fun _ => none) 12 [.agg (newS 17 n :: I10 x []).toArray] (EG b n c f l m lnF .gone .busy true 16 empI)) (fun v H' => Ob (YR b n c f l m lnF .gone .busy (stepL (inTB n l) NL ⟨true,empI⟩ x) v H')) := by kernel_rfl
noncomputable def y1B0  : Array Value := { toList := [Value.func (Fn.func (122 : FuncId)) { toList := [] } { toList := [ptr0 3,ptr0 4] },Value.func (Fn.func (70 : FuncId)) { toList := [] } { toList := [] },junk,ptr0 6,ptr0 7,ptr0 8,ptr0 9,junk,Value.func (Fn.func (122 : FuncId)) { toList := [] } { toList := [ptr0 3,ptr0 4] },junk,junk,junk,junk,junk,junk,junk,junk,junk,junk,junk,junk,junk] }
noncomputable def y1B1 (b:Int) (n:Nat) (c:Nat) (f:Nat) (l:List Int) (m:List Int) (x:Nat→Int) (st:Nat→Int) := (YR b n c f l m (Value.func (Fn.func (70:FuncId)) ⟨[]⟩ ⟨[]⟩) AObj.gone LoopState.busy (stepL (inTB n l) NL { no := false,st := st } x) (Value.bool false) [AObj.ro (List.map (Value.int IntKind.i64) l),AObj.rw (vi b::Value.slice (some (ad0 0)) n c::vi (f:Int)::B10 (tmd n) []) none,AObj.rw [ptr0 1] none,AObj.rw [Value.func (Fn.func (123:FuncId)) ⟨[]⟩ ⟨[ptr0 2]⟩] none,AObj.rw [Value.func (Fn.func (61:FuncId)) ⟨[ptr0 1]⟩ ⟨[]⟩] none,AObj.gone,AObj.rw [Value.func (Fn.func (70:FuncId)) ⟨[]⟩ ⟨[]⟩] none,AObj.rw (Value.slice none 0 0::I10 empI []) none,AObj.rw (Value.slice (some ⟨17,0,some 0⟩) n 0::I10 x []) none,AObj.rw [Value.bool false] none,AObj.loop LoopState.ready none y1B0 ⟨[9]⟩ y1_c0 y1_c1,AObj.rw [Value.func (Fn.yield 10) ⟨[]⟩ ⟨[]⟩] none,AObj.loop LoopState.done (some Code.ret) ⟨[Value.func (Fn.yield 10) ⟨[]⟩ ⟨[]⟩,ptr0 3,ptr0 4,ptr0 11,junk,Value.func (Fn.func (123:FuncId)) ⟨[]⟩ ⟨[ptr0 2]⟩,junk,junk,junk,junk,junk,junk,junk,junk,junk,junk]⟩ ⟨[6]⟩ y1_c2 y1_c3,AObj.rw [Value.func (Fn.yield 12) ⟨[]⟩ ⟨[]⟩] none,AObj.rw [ptr0 1] none,AObj.loop LoopState.busy none ⟨[Value.func (Fn.yield 12) ⟨[]⟩ ⟨[]⟩,ptr0 2,ptr0 13,junk,ptr0 1,Value.func (Fn.func (133:FuncId)) ⟨[]⟩ ⟨[ptr0 14]⟩,junk,junk,junk,junk,junk,junk,junk]⟩ ⟨[6]⟩ y1_c4 y1_c5,AObj.gone,AObj.rw (List.map (Value.int IntKind.i64) m) (some 1),AObj.rw (Value.slice (some ⟨17,0,some 0⟩) n 0::I10 x []) none,AObj.rw (Value.slice (some ⟨17,0,some 0⟩) n 0::I10 x []) none])
noncomputable def y1B2 (b:Int) (n:Nat) (c:Nat) (f:Nat) (l:List Int) (m:List Int) (x:Nat→Int) (st:Nat→Int) := (YR b n c f l m (Value.func (Fn.func (70:FuncId)) ⟨[]⟩ ⟨[]⟩) AObj.gone LoopState.busy (stepL (inTB n l) NL { no := false,st := st } x) (Value.bool true) [AObj.ro (List.map (Value.int IntKind.i64) l),AObj.rw (vi b::Value.slice (some (ad0 0)) n c::vi (f:Int)::B10 (tmd n) []) none,AObj.rw [ptr0 1] none,AObj.rw [Value.func (Fn.func (123:FuncId)) ⟨[]⟩ ⟨[ptr0 2]⟩] none,AObj.rw [Value.func (Fn.func (61:FuncId)) ⟨[ptr0 1]⟩ ⟨[]⟩] none,AObj.gone,AObj.rw [Value.func (Fn.func (70:FuncId)) ⟨[]⟩ ⟨[]⟩] none,AObj.rw (Value.slice none 0 0::I10 empI []) none,AObj.rw (Value.slice (some ⟨17,0,some 0⟩) n 0::I10 x []) none,AObj.rw [Value.bool false] none,AObj.loop LoopState.ready none y1B0 ⟨[9]⟩ y1_c0 y1_c1,AObj.rw [Value.func (Fn.yield 10) ⟨[]⟩ ⟨[]⟩] none,AObj.loop LoopState.ready none ⟨[Value.func (Fn.yield 10) ⟨[]⟩ ⟨[]⟩,ptr0 3,ptr0 4,ptr0 11,junk,Value.func (Fn.func (123:FuncId)) ⟨[]⟩ ⟨[ptr0 2]⟩,junk,junk,junk,junk,junk,junk,junk,junk,junk,junk]⟩ ⟨[6]⟩ y1_c2 y1_c3,AObj.rw [Value.func (Fn.yield 12) ⟨[]⟩ ⟨[]⟩] none,AObj.rw [ptr0 1] none,AObj.loop LoopState.busy none ⟨[Value.func (Fn.yield 12) ⟨[]⟩ ⟨[]⟩,ptr0 2,ptr0 13,junk,ptr0 1,Value.func (Fn.func (133:FuncId)) ⟨[]⟩ ⟨[ptr0 14]⟩,junk,junk,junk,junk,junk,junk,junk]⟩ ⟨[6]⟩ y1_c4 y1_c5,AObj.gone,AObj.rw (List.map (Value.int IntKind.i64) m) (some 1),AObj.rw (Value.slice (some ⟨17,0,some 0⟩) n 0::I10 x []) none,AObj.rw (Value.slice (some ⟨17,0,some 0⟩) n 0::I10 x []) none])
noncomputable def y1B3  : Array Value := { toList := [Value.func (Fn.yield (10 : Nat)) { toList := [] } { toList := [] },ptr0 3,ptr0 4,ptr0 11,junk,Value.func (Fn.func (123 : FuncId)) { toList := [] } { toList := [ptr0 2] },junk,junk,junk,junk,junk,junk,junk,junk,junk,junk] }
noncomputable def y1B4  : Array Value := { toList := [Value.func (Fn.yield (12 : Nat)) { toList := [] } { toList := [] },ptr0 2,ptr0 13,junk,ptr0 1,Value.func (Fn.func (133 : FuncId)) { toList := [] } { toList := [ptr0 14] },junk,junk,junk,junk,junk,junk,junk] }
noncomputable def y1B5 (n:Nat) (x:Nat→Int) := (Value.slice (some ⟨17,0,some 0⟩) n 0::I10 x [])
noncomputable def y1B6 (n:Nat) (st:Nat→Int) := (Value.slice (some ⟨16,0,some 0⟩) n 0::I10 st [])
noncomputable def y1B7  : List Value := [Value.func (Fn.func (123 : FuncId)) { toList := [] } { toList := [ptr0 2] }]
noncomputable def y1B8  : List Value := [Value.func (Fn.func (61 : FuncId)) { toList := [ptr0 1] } { toList := [] }]
noncomputable def y1B9  : List Value := [Value.func (Fn.func (70 : FuncId)) { toList := [] } { toList := [] }]
noncomputable def y1B10  : List Value := [Value.func (Fn.yield (10 : Nat)) { toList := [] } { toList := [] }]
noncomputable def y1B11  : List Value := [Value.func (Fn.yield (12 : Nat)) { toList := [] } { toList := [] }]
noncomputable def y1B12 (b:Int) (n:Nat) (c:Nat) (f:Nat) := (vi b::Value.slice (some (ad0 0)) n c::vi (f:Int)::B10 (tmd n) [])
noncomputable def y1B13  := (Value.slice none (0 : Nat) (0 : Nat) :: I10 empI [])
noncomputable def y1B14  := (Value.func (Fn.func (70 : FuncId)) { toList := [] } { toList := [] })
noncomputable def y1B15 (x:Nat→Int) := (l10 (x 0) (x 1) (x 2) (x 3) (x 4) (x 5) (x 6) (x 7) (x 8) (x 9))
noncomputable def y1B16  := (Value.int IntKind.i64)
noncomputable def y1B :=
fun (b:Int) (n c f:Nat) (l m:List Int) (x st:Nat→Int)↦Ob (0+11≤11)∧Ob (AtW b n c f l [AObj.ro (List.map y1B16 l),AObj.rw (y1B12 b n c f) none,AObj.rw [ptr0 1] none,AObj.rw y1B7 none,AObj.rw y1B8 none,AObj.gone,AObj.rw y1B9 none,AObj.rw y1B13 none,AObj.rw (y1B6 n st) none,AObj.rw [Value.bool false] none,AObj.loop LoopState.ready none y1B0 ⟨[9]⟩ y1_c0 y1_c1,AObj.rw y1B10 none,AObj.loop LoopState.busy none y1B3 ⟨[6]⟩ y1_c2 y1_c3,AObj.rw y1B11 none,AObj.rw [ptr0 1] none,AObj.loop LoopState.busy none y1B4 ⟨[6]⟩ y1_c4 y1_c5,AObj.gone,AObj.rw (List.map y1B16 m) (some 1),AObj.rw (y1B5 n x) none]∧l.length=n * 2∧n≤10)∧(inTB n l (y1B15 x)=true→Ob (0+11≤11)∧Ob (some (Value.bool false)=some (Value.bool false))∧(false=false→(decide (mxL [x 0,x 1,x 2,x 3,x 4,x 5,x 6,x 7,x 8,x 9]<mxL [st 0,st 1,st 2,st 3,st 4,st 5,st 6,st 7,st 8,st 9])=true→Ob (11≤11)∧Ob (1≤1)∧(false=true→Ob (y1B1 b n c f l m x st))∧(false=false→Ob (y1B2 b n c f l m x st)))∧(decide (mxL [x 0,x 1,x 2,x 3,x 4,x 5,x 6,x 7,x 8,x 9]<mxL [st 0,st 1,st 2,st 3,st 4,st 5,st 6,st 7,st 8,st 9])=false→(false=true→Ob (YR b n c f l m y1B14 AObj.gone LoopState.busy (stepL (inTB n l) NL { no := false,st := st } x) (Value.bool false) [AObj.ro (List.map y1B16 l),AObj.rw (y1B12 b n c f) none,AObj.rw [ptr0 1] none,AObj.rw y1B7 none,AObj.rw y1B8 none,AObj.gone,AObj.rw y1B9 none,AObj.rw y1B13 none,AObj.rw (y1B6 n st) none,AObj.rw [Value.bool false] none,AObj.loop LoopState.ready none y1B0 ⟨[9]⟩ y1_c0 y1_c1,AObj.rw y1B10 none,AObj.loop LoopState.done (some Code.ret) y1B3 ⟨[6]⟩ y1_c2 y1_c3,AObj.rw y1B11 none,AObj.rw [ptr0 1] none,AObj.loop LoopState.busy none y1B4 ⟨[6]⟩ y1_c4 y1_c5,AObj.gone,AObj.rw (List.map y1B16 m) (some 1),AObj.rw (y1B5 n x) none,AObj.rw (y1B5 n x) none]))∧(false=false→Ob (YR b n c f l m y1B14 AObj.gone LoopState.busy (stepL (inTB n l) NL { no := false,st := st } x) (Value.bool true) [AObj.ro (List.map y1B16 l),AObj.rw (y1B12 b n c f) none,AObj.rw [ptr0 1] none,AObj.rw y1B7 none,AObj.rw y1B8 none,AObj.gone,AObj.rw y1B9 none,AObj.rw y1B13 none,AObj.rw (y1B6 n st) none,AObj.rw [Value.bool false] none,AObj.loop LoopState.ready none y1B0 ⟨[9]⟩ y1_c0 y1_c1,AObj.rw y1B10 none,AObj.loop LoopState.ready none y1B3 ⟨[6]⟩ y1_c2 y1_c3,AObj.rw y1B11 none,AObj.rw [ptr0 1] none,AObj.loop LoopState.busy none y1B4 ⟨[6]⟩ y1_c4 y1_c5,AObj.gone,AObj.rw (List.map y1B16 m) (some 1),AObj.rw (y1B5 n x) none,AObj.rw (y1B5 n x) none]))))∧(false=true→Ob (11≤11)∧Ob (1≤1)∧(false=true→Ob (y1B1 b n c f l m x st))∧(false=false→Ob (y1B2 b n c f l m x st))))∧(inTB n l (y1B15 x)=false→Ob (YR b n c f l m y1B14 AObj.gone LoopState.busy (stepL (inTB n l) NL { no := false,st := st } x) (Value.bool true) [AObj.ro (List.map y1B16 l),AObj.rw (y1B12 b n c f) none,AObj.rw [ptr0 1] none,AObj.rw y1B7 none,AObj.rw y1B8 none,AObj.gone,AObj.rw y1B9 none,AObj.rw y1B13 none,AObj.rw (y1B6 n st) none,AObj.rw [Value.bool false] none,AObj.loop LoopState.ready none y1B0 ⟨[9]⟩ y1_c0 y1_c1,AObj.rw y1B10 none,AObj.loop LoopState.ready none y1B3 ⟨[6]⟩ y1_c2 y1_c3,AObj.rw y1B11 none,AObj.rw [ptr0 1] none,AObj.loop LoopState.busy none y1B4 ⟨[6]⟩ y1_c4 y1_c5,AObj.gone,AObj.rw (List.map y1B16 m) (some 1),AObj.rw (y1B5 n x) none]))
theorem y1B_eq : y1B = fun (b : Int) (n c f : Nat) (l m : List Int) (x st : Nat→Int) => ycT (ycIn Try.prog (y1E b n c f l) (fun _ => none) 12 [.agg (newS 17 n :: I10 x []).toArray] (EG b n c f l m lnF .gone .busy false 16 st)) (fun v H' => Ob (YR b n c f l m lnF .gone .busy (stepL (inTB n l) NL ⟨false,st⟩ x) v H')) := by kernel_rfl
theorem stepL_no {g : (Nat→Int)→Bool} {N : (Nat→Int)→Int} {s : LS} {x : Nat→Int} (h : g x = false) : stepL g N s x = s := by unfold stepL; rw [h]
theorem stepL_new {g : (Nat→Int)→Bool} {N : (Nat→Int)→Int} {s : LS} {x : Nat→Int} (h : g x = true) (h2 : s.no = true∨N x < N s.st) : stepL g N s x = ⟨false,x⟩ := by
 unfold stepL; rw [h]
 have : (s.no || decide (N x < N s.st)) = true := by
   rcases h2 with h2 | h2
   · rw [h2]; rfl
   · rw [decide_eq_true h2,Bool.or_true]
 simp only [this]
theorem stepL_old {g : (Nat→Int)→Bool} {N : (Nat→Int)→Int} {s : LS} {x : Nat→Int} (h1 : s.no = false) (h2 : ¬ N x < N s.st) : stepL g N s x = s := by
 unfold stepL
 cases g x with
 | false => rfl
 | true =>
   have : (s.no || decide (N x < N s.st)) = false := by rw [h1,decide_eq_false h2]; rfl
   simp only [this]
theorem y1A_ok (b : Int) (n c f : Nat) (l m : List Int) (x : Nat→Int) (hl : l.length = n * 2) (hn : n≤10) : y1A b n c f l m x := by
 unfold y1A y1A15 y1A14 y1A13 y1A12 y1A11 y1A10 y1A9 y1A8 y1A7 y1A6 y1A5 y1A4 y1A3 y1A2 y1A1 y1A0
 simp only [SS,reduceCtorEq,Arg.list,Arg.num,Arg.flag,intOf,andP,Nat.reduceLeDiff,Nat.reduceAdd,Nat.reduceMul,Nat.reduceLT,mxL_fold,inTB_l10 hn]
 refine ⟨⟨⟨rfl,rfl⟩,hl,hn⟩,fun h1 => ?_,fun h1 => ?_⟩
 · rw [stepL_new h1 (.inl rfl)]
   exact ⟨rfl,17,by kernel_rfl,by simp⟩
 · rw [stepL_no h1]
   exact ⟨rfl,16,by kernel_rfl,by simp⟩
theorem y1B_ok (b : Int) (n c f : Nat) (l m : List Int) (x st : Nat→Int) (hl : l.length = n * 2) (hn : n≤10) : y1B b n c f l m x st := by
 unfold y1B y1B16 y1B15 y1B14 y1B13 y1B12 y1B11 y1B10 y1B9 y1B8 y1B7 y1B6 y1B5 y1B4 y1B3 y1B2 y1B1 y1B0
 simp only [SS,reduceCtorEq,Arg.list,Arg.num,Arg.flag,intOf,andP,Nat.reduceLeDiff,Nat.reduceAdd,Nat.reduceMul,Nat.reduceLT,mxL_fold,inTB_l10 hn]
 refine ⟨⟨⟨rfl,rfl⟩,hl,hn⟩,fun h1 => ⟨fun h2 => ?_,fun h2 => ?_⟩,fun h1 => ?_⟩
 · rw [stepL_new h1 (.inr (of_decide_eq_true h2))]
   exact ⟨rfl,17,by kernel_rfl,by simp⟩
 · rw [stepL_old (s := ⟨false,st⟩) rfl (of_decide_eq_false h2)]
   exact ⟨rfl,16,by kernel_rfl,by simp⟩
 · rw [stepL_no h1]
   exact ⟨rfl,16,by kernel_rfl,by simp⟩
def σk (k b : Nat) : Nat := if b = 18 then k else b
theorem slot_omap {k n : Nat} {no : Bool} {st : Nat→Int} : omap (σk k) (.rw (slotV no 18 n :: I10 st []) none) = .rw (slotV no k n :: I10 st []) none := by cases no <;> rfl
theorem EG_omap {b : Int} {n c f k : Nat} {l m : List Int} {nv : Value} {X : AObj} {z : LoopState} {no : Bool} {st : Nat→Int} (hX : omap (σk k) X = X) (hz : omap (σk k) (L2 z) = L2 z) (hv : omap (σk k) (.rw [nv] none) = .rw [nv] none∧omap (σk k) (L0 nv) = L0 nv) :
   (EG b n c f l m nv X z no 18 st).map (omap (σk k)) = EG b n c f l m nv X z no k st := by
 unfold EG EH
 simp only [List.map_append,List.map_cons,List.map_nil,ros_omap,rws_omap,slot_omap,hX,hz,hv.1,hv.2,walk_omap (show σk k 0 = 0 from rfl)]
 kernel_rfl
theorem slot_sc {m k n : Nat} {no : Bool} {st : Nat→Int} (hk : k < m) : AObj.sc m (.rw (slotV no k n :: I10 st []) none) = true := by
 cases no with
 | true => rfl
 | false =>
   show ((newS k n :: I10 st []).all (sc1 m)) = true
   rw [List.all_cons,Bool.and_eq_true]
   exact ⟨decide_eq_true hk,rfl⟩
theorem EG_sc {b : Int} {n c f k : Nat} {l m : List Int} {nv : Value} {X : AObj} {z : LoopState} {no : Bool} {st : Nat→Int} (hk : k < 19) (hX : X.sc 19 = true) (hz : (L2 z).sc 19 = true) (hv : AObj.sc 19 (.rw [nv] none) = true∧(L0 nv).sc 19 = true) :
   ∀ o ∈ EG b n c f l m nv X z no k st,o.sc 19 = true := by
 refine List.all_eq_true.1 ?_
 unfold EG EH
 simp only [List.all_append,List.all_cons,List.all_nil,ros_sc,rws_sc,slot_sc hk,hX,hz,hv.1,hv.2,Bool.and_true,Bool.true_and]
 kernel_rfl
theorem EG_len {b : Int} {n c f k : Nat} {l m : List Int} {nv : Value} {X : AObj} {z : LoopState} {no : Bool} {st : Nat→Int} : (EG b n c f l m nv X z no k st).length = 18 := rfl
theorem YR_anew {b : Int} {n c f : Nat} {l m : List Int} {nv : Value} {X : AObj} {z : LoopState} {s : LS} {v : Value} {H' : Heap} (h : YR b n c f l m nv X z s v H')
   (hX : ∀ k,omap (σk k) X = X) (hz : ∀ k,omap (σk k) (L2 z) = L2 z) (hv : ∀ k,omap (σk k) (.rw [nv] none) = .rw [nv] none∧omap (σk k) (L0 nv) = L0 nv) (sX : X.sc 19 = true) (sz : (L2 z).sc 19 = true) (sv : AObj.sc 19 (.rw [nv] none) = true∧(L0 nv).sc 19 = true) :
   ∃ σ v2 H2,Anew 18 σ H' H2∧v = nmap σ v2∧sc H2.length v2 = true∧(v2 = .bool true∧H2 = EG b n c f l m nv X z s.no 18 s.st ++ [.gone]) := by
 obtain ⟨rfl,k,he,hk⟩ := h
 refine ⟨σk k,.bool true,_,⟨?_,fun b' hb => ?_,fun b' o hb => ?_,fun b1 b2 o h1 h2 h3 h4 h5 h6 => ?_,fun b' o hb => ?_⟩,rfl,rfl,rfl,rfl⟩
 · rw [List.length_append,EG_len]; simp
 · unfold σk; rw [if_neg (by omega)]
 · rcases Nat.lt_or_ge b' 18 with h1 | h1
   · right
     rw [List.getElem?_append_left (by rw [EG_len]; exact h1)] at hb
     rw [he,show σk k b' = b' by unfold σk; rw [if_neg (by omega)],List.getElem?_append_left (by rw [EG_len]; exact h1),← EG_omap (hX k) (hz k) (hv k),List.getElem?_map,hb]
     rfl
   · left
     rw [List.getElem?_append_right (by rw [EG_len]; exact h1),EG_len] at hb
     have : b' - 18 = 0 := by
       have := (List.getElem?_eq_some_iff.1 hb).1
       simp at this; omega
     rw [this] at hb
     exact (Option.some.inj hb).symm
 · have hl : (EG b n c f l m nv X z s.no 18 s.st ++ [AObj.gone]).length = 19 := by rw [List.length_append,EG_len]; rfl
   rw [hl] at h1 h2
   have g18 : (EG b n c f l m nv X z s.no 18 s.st ++ [AObj.gone])[18]? = some .gone := by rw [List.getElem?_append_right (by rw [EG_len]; omega),EG_len]; rfl
   have n1 : b1 ≠ 18 := fun e => by subst e; rw [g18] at h3; cases h3; exact h4 rfl
   have n2 : b2 ≠ 18 := fun e => by
     subst e
     rcases h5 with h5 | h5
     · exact h5 g18
     · omega
   unfold σk at h6
   rw [if_neg n1,if_neg n2] at h6
   exact h6
 · have hl : (EG b n c f l m nv X z s.no 18 s.st ++ [AObj.gone]).length = 19 := by rw [List.length_append,EG_len]; rfl
   rw [hl]
   rcases List.mem_append.1 (List.mem_of_getElem? hb) with h1 | h1
   · exact EG_sc (by omega) sX sz sv o h1
   · rw [List.mem_singleton.1 h1]; rfl
theorem lenT_ok : CtOk Try.prog lenT := CtOk.none.add len_ok
theorem y1E_ok (b : Int) (n c f : Nat) (l : List Int) : VOk Try.prog (y1E b n c f l) := ⟨lenT_ok.add (it_ok b n c f l),E0_ok.cc,ycIn_ok (VOk.ofCt lenT_ok) mixed,E0_ok.orc⟩
theorem y1_yield (b : Int) (n c f : Nat) (l m : List Int) (x : Nat→Int) (s : LS) (hl : l.length = n * 2) (hn : n≤10) (hs : s.no = true→s.st = empI) :
   Yield Try.prog 12 [.agg (newS 17 n :: I10 x []).toArray] (EG b n c f l m lnF .gone .busy s.no 16 s.st) fun v H' => v = .bool true∧H' = EG b n c f l m lnF .gone .busy (stepL (inTB n l) NL s x).no 18 (stepL (inTB n l) NL s x).st ++ [.gone] := by
 refine Yield.anew (Yield.mono (Q := YR b n c f l m lnF .gone .busy (stepL (inTB n l) NL s x)) ?_ fun v H' h => YR_anew h (fun _ => rfl) (fun _ => by kernel_rfl) (fun _ => ⟨by kernel_rfl,by kernel_rfl⟩) rfl (by kernel_rfl) ⟨by kernel_rfl,by kernel_rfl⟩)
 obtain ⟨no,st⟩ := s
 cases no with
 | true =>
   obtain rfl : st = empI := hs rfl
   have h := y1A_ok b n c f l m x hl hn
   rw [y1A_eq] at h
   unfold ycT at h
   split at h
   · rename_i T hT
     exact (ycIn_ok (y1E_ok b n c f l) mixed _ _ _ _ hT _ h).mono fun v H' k => k.out
   · exact h.elim
 | false =>
   have h := y1B_ok b n c f l m x st hl hn
   rw [y1B_eq] at h
   unfold ycT at h
   split at h
   · rename_i T hT
     exact (ycIn_ok (y1E_ok b n c f l) mixed _ _ _ _ hT _ h).mono fun v H' k => k.out
   · exact h.elim
end Go.Pier.Rd
namespace Go.Pier.Rd
open Go Go.Pier Go.Proofs
noncomputable def nxS (b : Int) (n : Nat) (l m : List Int) (no : Bool) (st : Nat→Int) : LS := stepL (inTB n l) NL ⟨no,st⟩ (stp b l m)
noncomputable def y1Yt (b : Int) (n c f : Nat) (l m : List Int) (no : Bool) (st : Nat→Int) : Yt := fun b' args H => match Nat.beq b' 12 with
 | true => some (some (args = [.agg (newS 17 n :: I10 (stp b l m) []).toArray]∧H = EG b n c f l m lnF .gone .busy no 16 st∧l.length = n * 2∧n≤10∧(no = true→st = empI)),.bool true,EG b n c f l m lnF .gone .busy (nxS b n l m no st).no 18 (nxS b n l m no st).st ++ [.gone],[8,9])
 | false => none
noncomputable def y2E (b : Int) (n c f : Nat) (l m : List Int) : VEnv := { ct := Ct.none.add 60 (tpCt b n c f l m) }
noncomputable def y2V :=
fun (b:Int) (n c f:Nat) (l m:List Int) (no:Bool) (st:Nat→Int)↦Ob (AtW b n c f l [AObj.ro (List.map (Value.int IntKind.i64) l),AObj.rw (vi b::Value.slice (some (ad0 0)) n c::vi (f:Int)::B10 (tmd n) []) none,AObj.rw [ptr0 1] none,AObj.rw [Value.func (Fn.func (123:FuncId)) ⟨[]⟩ ⟨[ptr0 2]⟩] none,AObj.rw [Value.func (Fn.func (61:FuncId)) ⟨[ptr0 1]⟩ ⟨[]⟩] none,AObj.gone,AObj.rw [Value.func (Fn.func (70:FuncId)) ⟨[]⟩ ⟨[]⟩] none,AObj.rw (Value.slice none 0 0::I10 empI []) none,AObj.rw (slotV no 16 n::I10 st []) none,AObj.rw [Value.bool no] none,AObj.loop LoopState.ready none ⟨[Value.func (Fn.func (122:FuncId)) ⟨[]⟩ ⟨[ptr0 3,ptr0 4]⟩,Value.func (Fn.func (70:FuncId)) ⟨[]⟩ ⟨[]⟩,junk,ptr0 6,ptr0 7,ptr0 8,ptr0 9,junk,Value.func (Fn.func (122:FuncId)) ⟨[]⟩ ⟨[ptr0 3,ptr0 4]⟩,junk,junk,junk,junk,junk,junk,junk,junk,junk,junk,junk,junk,junk]⟩ ⟨[9]⟩ y1_c0 y1_c1,AObj.rw [Value.func (Fn.yield 10) ⟨[]⟩ ⟨[]⟩] none,AObj.loop LoopState.ready none ⟨[Value.func (Fn.yield 10) ⟨[]⟩ ⟨[]⟩,ptr0 3,ptr0 4,ptr0 11,junk,Value.func (Fn.func (123:FuncId)) ⟨[]⟩ ⟨[ptr0 2]⟩,junk,junk,junk,junk,junk,junk,junk,junk,junk,junk]⟩ ⟨[6]⟩ y1_c2 y1_c3,AObj.rw [Value.func (Fn.yield 12) ⟨[]⟩ ⟨[]⟩] none,AObj.rw [ptr0 1] none,AObj.loop LoopState.busy none ⟨[Value.func (Fn.yield 12) ⟨[]⟩ ⟨[]⟩,ptr0 2,ptr0 13,junk,ptr0 1,Value.func (Fn.func (133:FuncId)) ⟨[]⟩ ⟨[ptr0 14]⟩,junk,junk,junk,junk,junk,junk,junk]⟩ ⟨[6]⟩ y1_c4 y1_c5,AObj.gone,AObj.rw (List.map (Value.int IntKind.i64) m) (some 1)]∧some (AObj.rw (List.map (Value.int IntKind.i64) m) (some 1))=some (AObj.rw (List.map (Value.int IntKind.i64) m) (some 1))∧n=m.length∧l.length=n * 2∧n≤10∧rngP b n l∧m.length≤10∧∀ (j:Nat),j<m.length→(0:Int)≤m.getD j (0:Int)∧m.getD j (0:Int)<(n:Int))∧Ob ([Value.agg { toList := (Value.slice (some ⟨17,0,some 0⟩) n 0::I10 (stp b l m) []) }]=[Value.agg { toList := (Value.slice (some ⟨17,0,some 0⟩) n 0::I10 (stp b l m) []) }]∧[AObj.ro (List.map (Value.int IntKind.i64) l),AObj.rw (vi b::Value.slice (some (ad0 0)) n c::vi (f:Int)::B10 (tmd n) []) none,AObj.rw [ptr0 1] none,AObj.rw [Value.func (Fn.func (123:FuncId)) ⟨[]⟩ ⟨[ptr0 2]⟩] none,AObj.rw [Value.func (Fn.func (61:FuncId)) ⟨[ptr0 1]⟩ ⟨[]⟩] none,AObj.gone,AObj.rw [Value.func (Fn.func (70:FuncId)) ⟨[]⟩ ⟨[]⟩] none,AObj.rw (Value.slice none 0 0::I10 empI []) none,AObj.rw (slotV no 16 n::I10 st []) none,AObj.rw [Value.bool no] none,AObj.loop LoopState.ready none ⟨[Value.func (Fn.func (122:FuncId)) ⟨[]⟩ ⟨[ptr0 3,ptr0 4]⟩,Value.func (Fn.func (70:FuncId)) ⟨[]⟩ ⟨[]⟩,junk,ptr0 6,ptr0 7,ptr0 8,ptr0 9,junk,Value.func (Fn.func (122:FuncId)) ⟨[]⟩ ⟨[ptr0 3,ptr0 4]⟩,junk,junk,junk,junk,junk,junk,junk,junk,junk,junk,junk,junk,junk]⟩ ⟨[9]⟩ y1_c0 y1_c1,AObj.rw [Value.func (Fn.yield 10) ⟨[]⟩ ⟨[]⟩] none,AObj.loop LoopState.ready none ⟨[Value.func (Fn.yield 10) ⟨[]⟩ ⟨[]⟩,ptr0 3,ptr0 4,ptr0 11,junk,Value.func (Fn.func (123:FuncId)) ⟨[]⟩ ⟨[ptr0 2]⟩,junk,junk,junk,junk,junk,junk,junk,junk,junk,junk]⟩ ⟨[6]⟩ y1_c2 y1_c3,AObj.rw [Value.func (Fn.yield 12) ⟨[]⟩ ⟨[]⟩] none,AObj.rw [ptr0 1] none,AObj.loop LoopState.busy none ⟨[Value.func (Fn.yield 12) ⟨[]⟩ ⟨[]⟩,ptr0 2,ptr0 13,junk,ptr0 1,Value.func (Fn.func (133:FuncId)) ⟨[]⟩ ⟨[ptr0 14]⟩,junk,junk,junk,junk,junk,junk,junk]⟩ ⟨[6]⟩ y1_c4 y1_c5,AObj.gone,AObj.rw (List.map (Value.int IntKind.i64) m) (some 1)]=[AObj.ro (List.map (Value.int IntKind.i64) l),AObj.rw (vi b::Value.slice (some (ad0 0)) n c::vi (f:Int)::B10 (tmd n) []) none,AObj.rw [ptr0 1] none,AObj.rw [Value.func (Fn.func (123:FuncId)) ⟨[]⟩ ⟨[ptr0 2]⟩] none,AObj.rw [Value.func (Fn.func (61:FuncId)) ⟨[ptr0 1]⟩ ⟨[]⟩] none,AObj.gone,AObj.rw [Value.func (Fn.func (70:FuncId)) ⟨[]⟩ ⟨[]⟩] none,AObj.rw (Value.slice none 0 0::I10 empI []) none,AObj.rw (slotV no 16 n::I10 st []) none,AObj.rw [Value.bool no] none,AObj.loop LoopState.ready none ⟨[Value.func (Fn.func (122:FuncId)) ⟨[]⟩ ⟨[ptr0 3,ptr0 4]⟩,Value.func (Fn.func (70:FuncId)) ⟨[]⟩ ⟨[]⟩,junk,ptr0 6,ptr0 7,ptr0 8,ptr0 9,junk,Value.func (Fn.func (122:FuncId)) ⟨[]⟩ ⟨[ptr0 3,ptr0 4]⟩,junk,junk,junk,junk,junk,junk,junk,junk,junk,junk,junk,junk,junk]⟩ ⟨[9]⟩ y1_c0 y1_c1,AObj.rw [Value.func (Fn.yield 10) ⟨[]⟩ ⟨[]⟩] none,AObj.loop LoopState.ready none ⟨[Value.func (Fn.yield 10) ⟨[]⟩ ⟨[]⟩,ptr0 3,ptr0 4,ptr0 11,junk,Value.func (Fn.func (123:FuncId)) ⟨[]⟩ ⟨[ptr0 2]⟩,junk,junk,junk,junk,junk,junk,junk,junk,junk,junk]⟩ ⟨[6]⟩ y1_c2 y1_c3,AObj.rw [Value.func (Fn.yield 12) ⟨[]⟩ ⟨[]⟩] none,AObj.rw [ptr0 1] none,AObj.loop LoopState.busy none ⟨[Value.func (Fn.yield 12) ⟨[]⟩ ⟨[]⟩,ptr0 2,ptr0 13,junk,ptr0 1,Value.func (Fn.func (133:FuncId)) ⟨[]⟩ ⟨[ptr0 14]⟩,junk,junk,junk,junk,junk,junk,junk]⟩ ⟨[6]⟩ y1_c4 y1_c5,AObj.gone,AObj.rw (List.map (Value.int IntKind.i64) m) (some 1)]∧l.length=n * 2∧n≤10∧(no=true→st=empI))∧(false=true→Ob (Value.bool false=Value.bool true∧[AObj.ro (List.map (Value.int IntKind.i64) l),AObj.rw (vi b::Value.slice (some (ad0 0)) n c::vi (f:Int)::B10 (tmd n) []) none,AObj.rw [ptr0 1] none,AObj.rw [Value.func (Fn.func (123:FuncId)) ⟨[]⟩ ⟨[ptr0 2]⟩] none,AObj.rw [Value.func (Fn.func (61:FuncId)) ⟨[ptr0 1]⟩ ⟨[]⟩] none,AObj.gone,AObj.rw [Value.func (Fn.func (70:FuncId)) ⟨[]⟩ ⟨[]⟩] none,AObj.rw (Value.slice none 0 0::I10 empI []) none,AObj.rw (slotV (nxS b n l m no st).no 18 n::I10 ((nxS b n l m no st).st) []) none,AObj.rw [Value.bool (nxS b n l m no st).no] none,AObj.loop LoopState.ready none ⟨[Value.func (Fn.func (122:FuncId)) ⟨[]⟩ ⟨[ptr0 3,ptr0 4]⟩,Value.func (Fn.func (70:FuncId)) ⟨[]⟩ ⟨[]⟩,junk,ptr0 6,ptr0 7,ptr0 8,ptr0 9,junk,Value.func (Fn.func (122:FuncId)) ⟨[]⟩ ⟨[ptr0 3,ptr0 4]⟩,junk,junk,junk,junk,junk,junk,junk,junk,junk,junk,junk,junk,junk]⟩ ⟨[9]⟩ y1_c0 y1_c1,AObj.rw [Value.func (Fn.yield 10) ⟨[]⟩ ⟨[]⟩] none,AObj.loop LoopState.ready none ⟨[Value.func (Fn.yield 10) ⟨[]⟩ ⟨[]⟩,ptr0 3,ptr0 4,ptr0 11,junk,Value.func (Fn.func (123:FuncId)) ⟨[]⟩ ⟨[ptr0 2]⟩,junk,junk,junk,junk,junk,junk,junk,junk,junk,junk]⟩ ⟨[6]⟩ y1_c2 y1_c3,AObj.rw [Value.func (Fn.yield 12) ⟨[]⟩ ⟨[]⟩] none,AObj.rw [ptr0 1] none,AObj.loop LoopState.done (some Code.ret) ⟨[Value.func (Fn.yield 12) ⟨[]⟩ ⟨[]⟩,ptr0 2,ptr0 13,junk,ptr0 1,Value.func (Fn.func (133:FuncId)) ⟨[]⟩ ⟨[ptr0 14]⟩,junk,junk,junk,junk,junk,junk,junk]⟩ ⟨[6]⟩ y1_c4 y1_c5,AObj.gone,AObj.rw (List.map (Value.int IntKind.i64) m) (some 1),AObj.gone]=[AObj.ro (List.map (Value.int IntKind.i64) l),AObj.rw (vi b::Value.slice (some (ad0 0)) n c::vi (f:Int)::B10 (tmd n) []) none,AObj.rw [ptr0 1] none,AObj.rw [Value.func (Fn.func (123:FuncId)) ⟨[]⟩ ⟨[ptr0 2]⟩] none,AObj.rw [Value.func (Fn.func (61:FuncId)) ⟨[ptr0 1]⟩ ⟨[]⟩] none,AObj.gone,AObj.rw [Value.func (Fn.func (70:FuncId)) ⟨[]⟩ ⟨[]⟩] none,AObj.rw (Value.slice none 0 0::I10 empI []) none,AObj.rw (slotV (nxS b n l m no st).no 18 n::I10 ((nxS b n l m no st).st) []) none,AObj.rw [Value.bool (nxS b n l m no st).no] none,AObj.loop LoopState.ready none ⟨[Value.func (Fn.func (122:FuncId)) ⟨[]⟩ ⟨[ptr0 3,ptr0 4]⟩,Value.func (Fn.func (70:FuncId)) ⟨[]⟩ ⟨[]⟩,junk,ptr0 6,ptr0 7,ptr0 8,ptr0 9,junk,Value.func (Fn.func (122:FuncId)) ⟨[]⟩ ⟨[ptr0 3,ptr0 4]⟩,junk,junk,junk,junk,junk,junk,junk,junk,junk,junk,junk,junk,junk]⟩ ⟨[9]⟩ y1_c0 y1_c1,AObj.rw [Value.func (Fn.yield 10) ⟨[]⟩ ⟨[]⟩] none,AObj.loop LoopState.ready none ⟨[Value.func (Fn.yield 10) ⟨[]⟩ ⟨[]⟩,ptr0 3,ptr0 4,ptr0 11,junk,Value.func (Fn.func (123:FuncId)) ⟨[]⟩ ⟨[ptr0 2]⟩,junk,junk,junk,junk,junk,junk,junk,junk,junk,junk]⟩ ⟨[6]⟩ y1_c2 y1_c3,AObj.rw [Value.func (Fn.yield 12) ⟨[]⟩ ⟨[]⟩] none,AObj.rw [ptr0 1] none,AObj.loop LoopState.ready none ⟨[Value.func (Fn.yield 12) ⟨[]⟩ ⟨[]⟩,ptr0 2,ptr0 13,junk,ptr0 1,Value.func (Fn.func (133:FuncId)) ⟨[]⟩ ⟨[ptr0 14]⟩,junk,junk,junk,junk,junk,junk,junk]⟩ ⟨[6]⟩ y1_c4 y1_c5,AObj.gone,AObj.rw (List.map (Value.int IntKind.i64) m) (some 1),AObj.gone]))∧(false=false→Ob (Value.bool true=Value.bool true∧[AObj.ro (List.map (Value.int IntKind.i64) l),AObj.rw (vi b::Value.slice (some (ad0 0)) n c::vi (f:Int)::B10 (tmd n) []) none,AObj.rw [ptr0 1] none,AObj.rw [Value.func (Fn.func (123:FuncId)) ⟨[]⟩ ⟨[ptr0 2]⟩] none,AObj.rw [Value.func (Fn.func (61:FuncId)) ⟨[ptr0 1]⟩ ⟨[]⟩] none,AObj.gone,AObj.rw [Value.func (Fn.func (70:FuncId)) ⟨[]⟩ ⟨[]⟩] none,AObj.rw (Value.slice none 0 0::I10 empI []) none,AObj.rw (slotV (nxS b n l m no st).no 18 n::I10 ((nxS b n l m no st).st) []) none,AObj.rw [Value.bool (nxS b n l m no st).no] none,AObj.loop LoopState.ready none ⟨[Value.func (Fn.func (122:FuncId)) ⟨[]⟩ ⟨[ptr0 3,ptr0 4]⟩,Value.func (Fn.func (70:FuncId)) ⟨[]⟩ ⟨[]⟩,junk,ptr0 6,ptr0 7,ptr0 8,ptr0 9,junk,Value.func (Fn.func (122:FuncId)) ⟨[]⟩ ⟨[ptr0 3,ptr0 4]⟩,junk,junk,junk,junk,junk,junk,junk,junk,junk,junk,junk,junk,junk]⟩ ⟨[9]⟩ y1_c0 y1_c1,AObj.rw [Value.func (Fn.yield 10) ⟨[]⟩ ⟨[]⟩] none,AObj.loop LoopState.ready none ⟨[Value.func (Fn.yield 10) ⟨[]⟩ ⟨[]⟩,ptr0 3,ptr0 4,ptr0 11,junk,Value.func (Fn.func (123:FuncId)) ⟨[]⟩ ⟨[ptr0 2]⟩,junk,junk,junk,junk,junk,junk,junk,junk,junk,junk]⟩ ⟨[6]⟩ y1_c2 y1_c3,AObj.rw [Value.func (Fn.yield 12) ⟨[]⟩ ⟨[]⟩] none,AObj.rw [ptr0 1] none,AObj.loop LoopState.ready none ⟨[Value.func (Fn.yield 12) ⟨[]⟩ ⟨[]⟩,ptr0 2,ptr0 13,junk,ptr0 1,Value.func (Fn.func (133:FuncId)) ⟨[]⟩ ⟨[ptr0 14]⟩,junk,junk,junk,junk,junk,junk,junk]⟩ ⟨[6]⟩ y1_c4 y1_c5,AObj.gone,AObj.rw (List.map (Value.int IntKind.i64) m) (some 1),AObj.gone]=[AObj.ro (List.map (Value.int IntKind.i64) l),AObj.rw (vi b::Value.slice (some (ad0 0)) n c::vi (f:Int)::B10 (tmd n) []) none,AObj.rw [ptr0 1] none,AObj.rw [Value.func (Fn.func (123:FuncId)) ⟨[]⟩ ⟨[ptr0 2]⟩] none,AObj.rw [Value.func (Fn.func (61:FuncId)) ⟨[ptr0 1]⟩ ⟨[]⟩] none,AObj.gone,AObj.rw [Value.func (Fn.func (70:FuncId)) ⟨[]⟩ ⟨[]⟩] none,AObj.rw (Value.slice none 0 0::I10 empI []) none,AObj.rw (slotV (nxS b n l m no st).no 18 n::I10 ((nxS b n l m no st).st) []) none,AObj.rw [Value.bool (nxS b n l m no st).no] none,AObj.loop LoopState.ready none ⟨[Value.func (Fn.func (122:FuncId)) ⟨[]⟩ ⟨[ptr0 3,ptr0 4]⟩,Value.func (Fn.func (70:FuncId)) ⟨[]⟩ ⟨[]⟩,junk,ptr0 6,ptr0 7,ptr0 8,ptr0 9,junk,Value.func (Fn.func (122:FuncId)) ⟨[]⟩ ⟨[ptr0 3,ptr0 4]⟩,junk,junk,junk,junk,junk,junk,junk,junk,junk,junk,junk,junk,junk]⟩ ⟨[9]⟩ y1_c0 y1_c1,AObj.rw [Value.func (Fn.yield 10) ⟨[]⟩ ⟨[]⟩] none,AObj.loop LoopState.ready none ⟨[Value.func (Fn.yield 10) ⟨[]⟩ ⟨[]⟩,ptr0 3,ptr0 4,ptr0 11,junk,Value.func (Fn.func (123:FuncId)) ⟨[]⟩ ⟨[ptr0 2]⟩,junk,junk,junk,junk,junk,junk,junk,junk,junk,junk]⟩ ⟨[6]⟩ y1_c2 y1_c3,AObj.rw [Value.func (Fn.yield 12) ⟨[]⟩ ⟨[]⟩] none,AObj.rw [ptr0 1] none,AObj.loop LoopState.ready none ⟨[Value.func (Fn.yield 12) ⟨[]⟩ ⟨[]⟩,ptr0 2,ptr0 13,junk,ptr0 1,Value.func (Fn.func (133:FuncId)) ⟨[]⟩ ⟨[ptr0 14]⟩,junk,junk,junk,junk,junk,junk,junk]⟩ ⟨[6]⟩ y1_c4 y1_c5,AObj.gone,AObj.rw (List.map (Value.int IntKind.i64) m) (some 1),AObj.gone]))
theorem y2V_eq : y2V = fun (b : Int) (n c f : Nat) (l m : List Int) (no : Bool) (st : Nat→Int) => ycT (ycInY Try.prog (y2E b n c f l m) (y1Yt b n c f l m no st) (fun _ => none) 15 [newS 17 n] (EG b n c f l m lnF .gone .ready no 16 st)) (fun v H' => Ob (v = .bool true∧H' = EG b n c f l m lnF .gone .ready (nxS b n l m no st).no 18 (nxS b n l m no st).st ++ [.gone])) := by kernel_rfl
theorem y2V_ok (b : Int) (n c f : Nat) (l m : List Int) (no : Bool) (st : Nat→Int) (hl : l.length = n * 2) (hn : n≤10) (hr : rngP b n l) (hm : m.length = n) (ha : ∀ j,j < m.length→0≤m.getD j 0∧m.getD j 0 < n) (hs : no = true→st = empI) : y2V b n c f l m no st := by
 unfold y2V
 exact ⟨⟨⟨rfl,rfl⟩,rfl,hm.symm,hl,hn,hr,by omega,ha⟩,⟨rfl,by kernel_rfl,hl,hn,hs⟩,fun h => absurd h (by decide),fun _ => ⟨rfl,by kernel_rfl⟩⟩
theorem y1Yt_ok (b : Int) (n c f : Nat) (l m : List Int) (no : Bool) (st : Nat→Int) : YtOk Try.prog (y1Yt b n c f l m no st) := by
 intro b' args H φ v H' lg h hφ
 unfold y1Yt at h
 split at h <;> cases h
 rename_i hb
 obtain rfl := Nat.eq_of_beq_eq_true hb
 obtain ⟨rfl,rfl,h1,h2,h3⟩ := hφ
 refine ⟨y1_yield b n c f l m _ ⟨no,st⟩ h1 h2 h3,by rw [List.length_append,EG_len,EG_len]; omega,fun b1 h4 h5 => ?_⟩
 rw [EG_len] at h4
 rw [List.getElem?_append_left (by rw [EG_len]; exact h4)]
 have h8 : b1 ≠ 8 := fun e => h5 (by subst e; simp)
 have h9 : b1 ≠ 9 := fun e => h5 (by subst e; simp)
 unfold EG EH
 rcases b1 with _ | _ | _ | _ | _ | _ | _ | _ | _ | _ | _ | _ | _ | _ | _ | _ | _ | _ | b1 <;> first | rfl | omega
theorem y2E_ok (b : Int) (n c f : Nat) (l m : List Int) : VOk Try.prog (y2E b n c f l m) := VOk.ofCt (CtOk.none.add (tp_ok b n c f l m))
theorem y2_yield (b : Int) (n c f : Nat) (l m : List Int) (no : Bool) (st : Nat→Int) (hl : l.length = n * 2) (hn : n≤10) (hr : rngP b n l) (hm : m.length = n) (ha : ∀ j,j < m.length→0≤m.getD j 0∧m.getD j 0 < n) (hs : no = true→st = empI) :
   Yield Try.prog 15 [newS 17 n] (EG b n c f l m lnF .gone .ready no 16 st) fun v H' => v = .bool true∧H' = EG b n c f l m lnF .gone .ready (nxS b n l m no st).no 18 (nxS b n l m no st).st ++ [.gone] := by
 have h := y2V_ok b n c f l m no st hl hn hr hm ha hs
 rw [y2V_eq] at h
 unfold ycT at h
 split at h
 · rename_i T hT
   exact (ycIn_okY (y2E_ok b n c f l m) (y1Yt_ok b n c f l m no st) mixed _ _ _ _ hT _ h).mono fun v H' k => k.out
 · exact h.elim
end Go.Pier.Rd
namespace Go.Pier
open Go
variable {P : Program} {H : Heap} {f : FuncId}
end Go.Pier
namespace Go.Pier
open Go
def orcLim (P : Program) : Orc := fun env H o => match o.op with
 | .slice t x lo hi mx => match env x,envs env lo.toList,envs env hi.toList,envs env mx.toList with
   | some (.slice (some ⟨b,0,some 0⟩) m 0),some [],some [.int k u],some [.int k' u'] => match P.underlying t,H[b]? with
     | some (.slice elem),some (.rw cs (some 1)) => match sizeT P elem with
       | some 1 => some (m≤cs.length∧u = m∧u' = m,some (.slice (some ⟨b,0,none⟩) m m),H)
       | _ => none
     | _,_ => none
   | _,_,_,_ => none
 | _ => none
theorem orcLim_ok {P : Program} : OrcOk P (orcLim P) := fun env H o φ v H' h hφ => by
 unfold orcLim at h
 split at h <;> try (cases h; done)
 rename_i t x lo hi mx hop
 split at h <;> try (cases h; done)
 rename_i b m k u k' u' h1 h2 h3 h4
 split at h <;> try (cases h; done)
 rename_i elem cs hu hb
 split at h <;> cases h
 rename_i hs
 obtain ⟨k1,rfl,rfl⟩ := hφ
 unfold evOp
 rw [hop]
 simp only [h1,h2,h3,h4,Option.bind_some]
 have : aSlice P H t (.slice (some ⟨b,0,some 0⟩) m 0) ([] : List Value).head? [Value.int k (m : Int)].head? [Value.int k' (m : Int)].head? = some (.slice (some ⟨b,0,none⟩) m m) := by
   have ho : openAt H ⟨b,0,some 0⟩ 1 0 m = true := by
     unfold openAt
     simp only [hb]
     simp
     omega
   refine aSlice_of0 ?_
   unfold aSlice0
   rw [hu]
   simp only [List.head?_cons,List.head?_nil,hs,Option.bind_some,ho,and_self,if_true,aBounds,bnd]
   simp [Addr.add,base]
 rw [this]; rfl
end Go.Pier
namespace Go.Pier
open Go
variable {P : Program} {H : Heap}
structure FrmC where
 f : FuncId
 args : List Value
 E : Heap
 v : Value
 F : Heap
 N : Heap
def tt' : Nat→Bool := fun _ => true
def FrmC.chk (p : FrmC) : Bool := Nat.beq p.F.length p.E.length && (p.E.all (fun o => o.wr && o.sc p.E.length) && (p.args.all (sc p.E.length) && ((p.F ++ p.N).all (fun o => o.nm tt') && (p.N.all (fun o => !o.isRo) && nm tt' p.v))))
def FrmC.Ok (P : Program) (p : FrmC) : Prop := Call P p.f p.args p.E (fun v' F' => v' = p.v∧F' = p.F ++ p.N)∧p.chk = true
theorem FrmC.ok_ev {p : FrmC} {tbl : Tbl} (ht : TblOk P tbl) {n : Nat} (h : (gcFun (evFunT P (evCT P tbl n none)) p.f p.args p.E).map (fun r => (r.1,r.2.1)) = some (p.v,p.F ++ p.N)) (hp : p.chk = true) : p.Ok P := by
 rw [Option.map_eq_some_iff] at h
 obtain ⟨⟨v,H2,l⟩,h1,h2⟩ := h
 cases h2
 exact ⟨(ExactC.ok_ev (p := ⟨p.f,p.args,p.E,p.v,p.F ++ p.N,l⟩) ht h1).1,hp⟩
def valNames : Value→List Nat
 | .slice (some a) _ _ => [a.block]
 | .pointer (some a) => [a.block]
 | .agg cs => cs.toList.flatMap fun | .slice (some a) _ _ => [a.block] | .pointer (some a) => [a.block] | _ => []
 | _ => []
def dedup : List Nat→List Nat→List Nat
 | acc,[] => acc.reverse
 | acc,b :: r => match acc.any (Nat.beq b) with
   | true => dedup acc r
   | false => dedup (b :: acc) r
def frmNames (args : List Value) (H : Heap) : List Nat :=
 let L := args.flatMap valNames
 dedup [] (L ++ L.flatMap fun (b : Nat) => match H[b]? with
   | some (AObj.rw cs _) => cs.flatMap fun (v : Value) => match v with | .map (some r) => [r] | v => valNames v
   | _ => [])
def objsB (σ : Nat→Nat) (H : Heap) : List Nat→Heap→Bool
 | [],[] => true
 | b :: L,o :: E => (match H[b]? with | some o' => oeq o' (omap σ o) | none => false) && objsB σ H L E
 | _,_ => false
theorem objsB_ok {σ : Nat→Nat} : ∀ {L : List Nat} {E : Heap},objsB σ H L E = true→∀ (c : Nat) (o : AObj),E[c]? = some o→H[L.getD c 0]? = some (omap σ o)
 | [],[],_,c,o,h => by simp at h
 | [],_ :: _,h,_,_,_ => by cases h
 | _ :: _,[],h,_,_,_ => by cases h
 | b :: L,o' :: E,h,c,o,hc => by
   simp only [objsB,Bool.and_eq_true] at h
   cases c with
   | zero =>
     simp only [List.getElem?_cons_zero,Option.some.injEq] at hc
     subst hc
     have h1 := h.1
     split at h1
     · rename_i o2 ho; rw [show (b :: L).getD 0 0 = b from rfl,ho,oeq_eq h1]
     · cases h1
   | succ c =>
     simp only [List.getElem?_cons_succ] at hc
     exact objsB_ok h.2 c o hc
def FrmC.go (p : FrmC) (args : List Value) (H : Heap) : Option (Value × Heap × List Nat) :=
 let L := frmNames args H
 let τ := nameL L p.E.length H.length
 match Nat.beq L.length p.E.length && (nodupB L && (allB (fun b => Nat.blt b H.length) L && (listB veq (p.args.map (nmap fun c => L.getD c 0)) args && (objsB (fun c => L.getD c 0) H L p.E &&
     (((p.F ++ p.N).all fun o => (omap τ o).sc (H.length + p.N.length)) && sc (H.length + p.N.length) (nmap τ p.v)))))) with
 | true => some (nmap τ p.v,setL H L (p.F.map (omap τ)) ++ p.N.map (omap τ),L)
 | false => none
theorem any_nm {m e : Nat} (he : e = m) : (fun d => decide (d < m) || decide (e≤d)) = tt' := by
 subst he
 funext d
 simp only [tt',Bool.or_eq_true,decide_eq_true_eq]
 by_cases h : d < e
 · simp [h]
 · simp [h]; omega
theorem read_sc {σ : Nat→Nat} {B : List Nat} {m : Nat} : ∀ {l : List Value},l.all (sc m) = true→ReadA2 H σ B m (l.map Arg2.val) (l.map (nmap σ))
 | [],_ => trivial
 | v :: l,h => by
   rw [List.all_cons,Bool.and_eq_true] at h
   exact ⟨rfl,h.1,read_sc h.2⟩
theorem FrmC.go_ok {p : FrmC} (h : p.Ok P) {args : List Value} {v : Value} {H' : Heap} {l : List Nat} (hg : p.go args H = some (v,H',l)) : Call P p.f args H (fun v' H2 => v' = v∧H2 = H')∧Kept H H' l := by
 obtain ⟨hcall,hc⟩ := h
 unfold FrmC.chk at hc
 simp only [Bool.and_eq_true,List.all_eq_true,Bool.not_eq_true'] at hc
 obtain ⟨c1,c2,c3,c4,c5,c6⟩ := hc
 have c1 := Nat.eq_of_beq_eq_true c1
 unfold FrmC.go at hg
 dsimp only at hg
 split at hg <;> cases hg
 rename_i hk
 simp only [Bool.and_eq_true,List.all_eq_true] at hk
 obtain ⟨k1,k2,k3,k4,k5,k6,k7⟩ := hk
 have k1 := Nat.eq_of_beq_eq_true k1
 have ka := listB_eq (fun _ _ => veq_eq) k4
 have e0 : canonH2 (p.args.map Arg2.val) = [] := canonH2_vals
 have := Call.frameL (P := P) (f := p.f) (H := H) (Et := p.E) (Ft := p.F) (N := p.N) (L := frmNames args H) (ags := p.args.map Arg2.val) (vs := args) (v := p.v) k1 c1 (nodupB_ok k2)
   (fun b hb => by have := allB_ok k3 b hb; rw [Nat.blt_eq] at this; exact this)
   (objsB_ok k5) (fun o ho => by have := c2 o ho; simpa using this)
   (by
     have := read_sc (H := H) (σ := fun c => (frmNames args H).getD c 0) (B := frmNames args H) (List.all_eq_true.2 c3)
     rw [ka] at this; exact this)
   (fun caps => by rw [canonA2_vals,e0,List.append_nil,List.append_nil]; exact hcall)
   (fun o ho => by rw [e0,List.append_nil,any_nm rfl]; exact c4 o ho)
   c5
   (by rw [e0,List.append_nil,any_nm rfl]; exact c6)
   (fun o ho => by rw [e0,List.append_nil]; exact k6 o ho)
   (by rw [e0,List.append_nil]; exact k7)
 rw [e0,List.append_nil] at this
 exact this
def frmFind : List FrmC→FuncId→List Value→Heap→Option (Value × Heap × List Nat)
 | [],_,_,_ => none
 | p :: l,f,args,H => match Nat.beq p.f f with
   | true => match p.go args H with
     | some q => some q
     | none => frmFind l f args H
   | false => frmFind l f args H
theorem frmFind_ok {f : FuncId} {args : List Value} {v : Value} {H' : Heap} {lg : List Nat} : ∀ {l : List FrmC},(∀ p ∈ l,p.Ok P)→frmFind l f args H = some (v,H',lg)→Call P f args H (fun v' H2 => v' = v∧H2 = H')∧Kept H H' lg
 | [],_,h => by cases h
 | p :: l,hl,h => by
   unfold frmFind at h
   split at h
   · rename_i hf
     obtain rfl := Nat.eq_of_beq_eq_true hf
     split at h
     · rename_i hq
       cases h
       exact FrmC.go_ok (hl p List.mem_cons_self) hq
     · exact frmFind_ok (fun q hq => hl q (List.mem_cons_of_mem _ hq)) h
   · exact frmFind_ok (fun q hq => hl q (List.mem_cons_of_mem _ hq)) h
def frmTbl (l : List FrmC) (tbl : Tbl) : Tbl := fun f => match (l.any fun p => Nat.beq p.f f) with
 | true => some fun args H => match frmFind l f args H with
   | some q => some q
   | none => match tbl f with
     | some g => g args H
     | none => none
 | false => tbl f
theorem frmTbl_ok {l : List FrmC} {tbl : Tbl} (hl : ∀ p ∈ l,p.Ok P) (ht : TblOk P tbl) : TblOk P (frmTbl l tbl) := by
 intro f g hg args H v H' lg h
 unfold frmTbl at hg
 split at hg
 · cases hg
   simp only at h
   split at h
   · rename_i hq
     cases h
     exact frmFind_ok hl hq
   · split at h <;> try (cases h; done)
     rename_i g hg
     exact ht f g hg args H v H' lg h
 · exact ht f g hg args H v H' lg h
end Go.Pier
namespace Go.Pier.Rd
open Go Go.Pier Go.Proofs
noncomputable def grB : Code := Try.f134.body.getD .skip
noncomputable def EGL (b : Int) (n c f : Nat) (l m : List Int) (no : Bool) (k : Nat) (st : Nat→Int) : Heap := EG b n c f l m lnF .gone .ready no k st
noncomputable def fdR (b : Int) (n : Nat) (l : List Int) (no : Bool) (st : Nat→Int) (r : List (List Int)) : LS := foldR b l (inTB n l) NL ⟨no,st⟩ r
noncomputable def grCc (b:Int) (n c f:Nat) (l m:List Int) (κ:Nat):Cc := fun fn args H => match Nat.beq fn 134 with
 | true => match Nat.beq H.length 20 with
   | true => some fun Q => ∃ (m2:List Int) (f1 t1:Nat) (no:Bool) (st:Nat→Int) (o18:AObj),Ob (args=[ptr0 1,newS 19 m2.length,vi f1,vi t1,yv 15]∧H=EGL b n c f l m no 16 st++[o18,rws m2]∧Begun n f1 t1 m2∧f1+(n-t1)+1=κ∧(no=true→st=empI)) ∧
       Q (.bool true) (EGL b n c f l m (fdR b n l no st (rds n (κ-1) f1 t1 m2)).no 20 (fdR b n l no st (rds n (κ-1) f1 t1 m2)).st++[o18,rws m2,.gone])
   | false => match Nat.beq H.length 23 with
     | true => some fun Q => ∃ (m2:List Int) (f1 t1:Nat) (no:Bool) (st:Nat→Int) (o18 o19 o21:AObj),Ob (args=[ptr0 1,newS 22 m2.length,vi f1,vi t1,yv 15]∧H=EGL b n c f l m no 20 st++[o18,o19,.gone,o21,rws m2]∧Begun n f1 t1 m2∧f1+(n-t1)+1=κ∧(no=true→st=empI)) ∧
         Q (.bool true) (EGL b n c f l m (fdR b n l no st (rds n (κ-1) f1 t1 m2)).no 23 (fdR b n l no st (rds n (κ-1) f1 t1 m2)).st++[o18,o19,.gone,o21,rws m2,.gone])
     | false => none
 | false => none
noncomputable def grYc (b:Int) (n c f:Nat) (l m:List Int) (no:Bool) (st:Nat→Int):Yc := fun b1 args H => match Nat.beq b1 15 with
 | true => some fun Q => Ob (args=[newS 17 n]∧H=EGL b n c f l m no 16 st∧Whole n m)∧Q (.bool true) (EGL b n c f l m (nxS b n l m no st).no 18 (nxS b n l m no st).st++[.gone])
 | false => none
noncomputable def grE (b : Int) (n c f : Nat) (l m : List Int) (no : Bool) (st : Nat→Int) (κ : Nat) : VEnv := { orc := orcOr (orcLim Try.prog) prO,cc := grCc b n c f l m κ,yc := grYc b n c f l m no st }
noncomputable def grV0  : Array Value := { toList := [Value.func (Fn.func (122 : FuncId)) { toList := [] } { toList := [ptr0 3,ptr0 4] },Value.func (Fn.func (70 : FuncId)) { toList := [] } { toList := [] },junk,ptr0 6,ptr0 7,ptr0 8,ptr0 9,junk,Value.func (Fn.func (122 : FuncId)) { toList := [] } { toList := [ptr0 3,ptr0 4] },junk,junk,junk,junk,junk,junk,junk,junk,junk,junk,junk,junk,junk] }
noncomputable def grV1 (b:Int) (n:Nat) (c:Nat) (f:Nat) (l:List Int) (m:List Int) (κ:Nat) (f1:Nat) (m2:List Int) (no_1:Bool) (o18:AObj) (st_1:Nat→Int) (t1:Nat):List AObj := [AObj.ro (List.map (Value.int IntKind.i64) l),AObj.rw (vi b::Value.slice (some (ad0 0)) n c::vi (f:Int)::B10 (tmd n) []) none,AObj.rw [ptr0 1] none,AObj.rw [Value.func (Fn.func (123:FuncId)) ⟨[]⟩ ⟨[ptr0 2]⟩] none,AObj.rw [Value.func (Fn.func (61:FuncId)) ⟨[ptr0 1]⟩ ⟨[]⟩] none,AObj.gone,AObj.rw [Value.func (Fn.func (70:FuncId)) ⟨[]⟩ ⟨[]⟩] none,AObj.rw (Value.slice none 0 0::I10 empI []) none,AObj.rw (slotV (fdR b n l no_1 st_1 (rds n (κ-1) f1 t1 m2)).no 20 n::I10 ((fdR b n l no_1 st_1 (rds n (κ-1) f1 t1 m2)).st) []) none,AObj.rw [Value.bool (fdR b n l no_1 st_1 (rds n (κ-1) f1 t1 m2)).no] none,AObj.loop LoopState.ready none grV0 ⟨[9]⟩ y1_c0 y1_c1,AObj.rw [Value.func (Fn.yield 10) ⟨[]⟩ ⟨[]⟩] none,AObj.loop LoopState.ready none ⟨[Value.func (Fn.yield 10) ⟨[]⟩ ⟨[]⟩,ptr0 3,ptr0 4,ptr0 11,junk,Value.func (Fn.func (123:FuncId)) ⟨[]⟩ ⟨[ptr0 2]⟩,junk,junk,junk,junk,junk,junk,junk,junk,junk,junk]⟩ ⟨[6]⟩ y1_c2 y1_c3,AObj.rw [Value.func (Fn.yield 12) ⟨[]⟩ ⟨[]⟩] none,AObj.rw [ptr0 1] none,AObj.loop LoopState.ready none ⟨[Value.func (Fn.yield 12) ⟨[]⟩ ⟨[]⟩,ptr0 2,ptr0 13,junk,ptr0 1,Value.func (Fn.func (133:FuncId)) ⟨[]⟩ ⟨[ptr0 14]⟩,junk,junk,junk,junk,junk,junk,junk]⟩ ⟨[6]⟩ y1_c4 y1_c5,AObj.gone,AObj.rw (List.map (Value.int IntKind.i64) m) (some 1),o18,AObj.rw (List.map (Value.int IntKind.i64) m2) (some 1),AObj.gone]
noncomputable def grV2 (b:Int) (n:Nat) (c:Nat) (f:Nat) (l:List Int) (m:List Int) (no:Bool) (st:Nat→Int):List AObj := [AObj.ro (List.map (Value.int IntKind.i64) l),AObj.rw (vi b::Value.slice (some (ad0 0)) n c::vi (f:Int)::B10 (tmd n) []) none,AObj.rw [ptr0 1] none,AObj.rw [Value.func (Fn.func (123:FuncId)) ⟨[]⟩ ⟨[ptr0 2]⟩] none,AObj.rw [Value.func (Fn.func (61:FuncId)) ⟨[ptr0 1]⟩ ⟨[]⟩] none,AObj.gone,AObj.rw [Value.func (Fn.func (70:FuncId)) ⟨[]⟩ ⟨[]⟩] none,AObj.rw (Value.slice none 0 0::I10 empI []) none,AObj.rw (slotV no 16 n::I10 st []) none,AObj.rw [Value.bool no] none,AObj.loop LoopState.ready none grV0 ⟨[9]⟩ y1_c0 y1_c1,AObj.rw [Value.func (Fn.yield 10) ⟨[]⟩ ⟨[]⟩] none,AObj.loop LoopState.ready none ⟨[Value.func (Fn.yield 10) ⟨[]⟩ ⟨[]⟩,ptr0 3,ptr0 4,ptr0 11,junk,Value.func (Fn.func (123:FuncId)) ⟨[]⟩ ⟨[ptr0 2]⟩,junk,junk,junk,junk,junk,junk,junk,junk,junk,junk]⟩ ⟨[6]⟩ y1_c2 y1_c3,AObj.rw [Value.func (Fn.yield 12) ⟨[]⟩ ⟨[]⟩] none,AObj.rw [ptr0 1] none,AObj.loop LoopState.ready none ⟨[Value.func (Fn.yield 12) ⟨[]⟩ ⟨[]⟩,ptr0 2,ptr0 13,junk,ptr0 1,Value.func (Fn.func (133:FuncId)) ⟨[]⟩ ⟨[ptr0 14]⟩,junk,junk,junk,junk,junk,junk,junk]⟩ ⟨[6]⟩ y1_c4 y1_c5,AObj.gone,AObj.rw (List.map (Value.int IntKind.i64) m) (some 1)]
noncomputable def grV3  : Array Value := { toList := [Value.func (Fn.yield (10 : Nat)) { toList := [] } { toList := [] },ptr0 3,ptr0 4,ptr0 11,junk,Value.func (Fn.func (123 : FuncId)) { toList := [] } { toList := [ptr0 2] },junk,junk,junk,junk,junk,junk,junk,junk,junk,junk] }
noncomputable def grV4  : Array Value := { toList := [Value.func (Fn.yield (12 : Nat)) { toList := [] } { toList := [] },ptr0 2,ptr0 13,junk,ptr0 1,Value.func (Fn.func (133 : FuncId)) { toList := [] } { toList := [ptr0 14] },junk,junk,junk,junk,junk,junk,junk] }
noncomputable def grV5 (b:Int) (n:Nat) (c:Nat) (f:Nat) (l:List Int) (m:List Int) (m2:List Int) (no_1:Bool) (o18:AObj) (st_1:Nat→Int):List AObj := [AObj.ro (List.map (Value.int IntKind.i64) l),AObj.rw (vi b::Value.slice (some (ad0 0)) n c::vi (f:Int)::B10 (tmd n) []) none,AObj.rw [ptr0 1] none,AObj.rw [Value.func (Fn.func (123:FuncId)) ⟨[]⟩ ⟨[ptr0 2]⟩] none,AObj.rw [Value.func (Fn.func (61:FuncId)) ⟨[ptr0 1]⟩ ⟨[]⟩] none,AObj.gone,AObj.rw [Value.func (Fn.func (70:FuncId)) ⟨[]⟩ ⟨[]⟩] none,AObj.rw (Value.slice none 0 0::I10 empI []) none,AObj.rw (slotV no_1 16 n::I10 st_1 []) none,AObj.rw [Value.bool no_1] none,AObj.loop LoopState.ready none grV0 ⟨[9]⟩ y1_c0 y1_c1,AObj.rw [Value.func (Fn.yield 10) ⟨[]⟩ ⟨[]⟩] none,AObj.loop LoopState.ready none grV3 ⟨[6]⟩ y1_c2 y1_c3,AObj.rw [Value.func (Fn.yield 12) ⟨[]⟩ ⟨[]⟩] none,AObj.rw [ptr0 1] none,AObj.loop LoopState.ready none grV4 ⟨[6]⟩ y1_c4 y1_c5,AObj.gone,AObj.rw (List.map (Value.int IntKind.i64) m) (some 1),o18,AObj.rw (List.map (Value.int IntKind.i64) m2) (some 1)]
noncomputable def grV6 (m:List Int) := (andP (some (0+1≤1∧true=true)) (m.length+1≤1099511627776∧(2 * (m.length+1)+256) * 8≤281474976710656∧1=1∧m.length<m.length+1∧0+m.length * 1≤(List.map (Value.int IntKind.i64) m).length))
noncomputable def grV7  : List Value := [Value.func (Fn.func (123 : FuncId)) { toList := [] } { toList := [ptr0 2] }]
noncomputable def grV8  : List Value := [Value.func (Fn.func (61 : FuncId)) { toList := [ptr0 1] } { toList := [] }]
noncomputable def grV9  := (Value.func (Fn.func (70 : FuncId)) { toList := [] } { toList := [] })
noncomputable def grV10  : List Value := [Value.func (Fn.func (70 : FuncId)) { toList := [] } { toList := [] }]
noncomputable def grV11  : List Value := [Value.func (Fn.yield (10 : Nat)) { toList := [] } { toList := [] }]
noncomputable def grV12  : List Value := [Value.func (Fn.yield (12 : Nat)) { toList := [] } { toList := [] }]
noncomputable def grV13 (b:Int) (n:Nat) (c:Nat) (f:Nat) := (vi b::Value.slice (some (ad0 0)) n c::vi (f:Int)::B10 (tmd n) [])
noncomputable def grV14  := (Value.int IntKind.i64)
noncomputable def grV15  := (Value.slice none (0 : Nat) (0 : Nat) :: I10 empI [])
noncomputable def grV16  (f1:Nat) (m2:List Int) (t1:Nat):List Value := [ptr0 1,Value.slice (some ⟨19,0,some 0⟩) m2.length 0,vi (f1:Int),vi (t1:Int),Value.func (Fn.yield 15) ⟨[]⟩ ⟨[]⟩]
noncomputable def grV17 (m:List Int) (t:Nat) := (List.take (m.length * 1) (List.drop 0 (List.map grV14 m))++[vi (t:Int)])
noncomputable def grV18 (g:Nat) := (IntKind.i64.wrap ((g:Int)-(1:Int)))
noncomputable def grV :=
fun (b:Int) (n c f:Nat) (l m:List Int) (no:Bool) (st:Nat→Int) (κ g t:Nat)↦(((m.length:Int)==(n:Int))=true→Ob ([Value.slice (some ⟨17,0,some 0⟩) m.length 0]=[Value.slice (some ⟨17,0,some 0⟩) n 0]∧(grV2 b n c f l m no st)=(grV2 b n c f l m no st)∧Whole n m)∧True∧Ob (YR b n c f l m grV9 AObj.gone LoopState.ready (fdR b n l no st (rds n κ g t m)) (Value.bool true) [AObj.ro (List.map grV14 l),AObj.rw (grV13 b n c f) none,AObj.rw [ptr0 1] none,AObj.rw grV7 none,AObj.rw grV8 none,AObj.gone,AObj.rw grV10 none,AObj.rw grV15 none,AObj.rw (slotV (nxS b n l m no st).no 18 n::I10 ((nxS b n l m no st).st) []) none,AObj.rw [Value.bool (nxS b n l m no st).no] none,AObj.loop LoopState.ready none grV0 ⟨[9]⟩ y1_c0 y1_c1,AObj.rw grV11 none,AObj.loop LoopState.ready none grV3 ⟨[6]⟩ y1_c2 y1_c3,AObj.rw grV12 none,AObj.rw [ptr0 1] none,AObj.loop LoopState.ready none grV4 ⟨[6]⟩ y1_c4 y1_c5,AObj.gone,AObj.rw (List.map grV14 m) (some 1),AObj.gone]))∧(((m.length:Int)==(n:Int))=false→Ob (m.length≤(List.map grV14 m).length∧(m.length:Int)=(m.length:Int)∧(m.length:Int)=(m.length:Int))∧(decide ((0:Int)<(g:Int))=true→Ob (grV6 m)∧∃ (m2:List Int),∃ (f1:Nat),∃ (t1:Nat),∃ (no_1:Bool),∃ (st_1:Nat→Int),∃ (o18:AObj),Ob ([ptr0 1,Value.slice (some ⟨19,0,some 0⟩) (m.length+1) 0,vi (grV18 g),vi (t:Int),Value.func (Fn.yield 15) ⟨[]⟩ ⟨[]⟩]=(grV16 f1 m2 t1)∧[AObj.ro (List.map grV14 l),AObj.rw (grV13 b n c f) none,AObj.rw [ptr0 1] none,AObj.rw grV7 none,AObj.rw grV8 none,AObj.gone,AObj.rw grV10 none,AObj.rw grV15 none,AObj.rw (slotV no 16 n::I10 st []) none,AObj.rw [Value.bool no] none,AObj.loop LoopState.ready none grV0 ⟨[9]⟩ y1_c0 y1_c1,AObj.rw grV11 none,AObj.loop LoopState.ready none grV3 ⟨[6]⟩ y1_c2 y1_c3,AObj.rw grV12 none,AObj.rw [ptr0 1] none,AObj.loop LoopState.ready none grV4 ⟨[6]⟩ y1_c4 y1_c5,AObj.gone,AObj.rw (List.map grV14 m) (some 1),AObj.rw [vi (grV18 g)] none,AObj.rw (List.take (m.length * 1) (List.drop 0 (List.map grV14 m))++[vi (grV18 g)]) (some 1)]=(grV5 b n c f l m m2 no_1 o18 st_1)∧Begun n f1 t1 m2∧f1+(n-t1)+1=κ∧(no_1=true→st_1=empI))∧(false=true→True∧Ob (YR b n c f l m grV9 AObj.gone LoopState.ready (fdR b n l no st (rds n κ g t m)) (Value.bool false) (grV1 b n c f l m κ f1 m2 no_1 o18 st_1 t1)))∧(false=false→(((t:Int)==(n:Int))=false→Ob (grV6 m)∧∃ (m2_1:List Int),∃ (f1_1:Nat),∃ (t1_1:Nat),∃ (no_2:Bool),∃ (st_2:Nat→Int),∃ (o18_1:AObj),∃ (o19:AObj),∃ (o21:AObj),Ob ([ptr0 1,Value.slice (some ⟨22,0,some 0⟩) (m.length+1) 0,vi (g:Int),vi (IntKind.i64.wrap ((t:Int)+(1:Int))),Value.func (Fn.yield 15) ⟨[]⟩ ⟨[]⟩]=[ptr0 1,Value.slice (some ⟨22,0,some 0⟩) m2_1.length 0,vi (f1_1:Int),vi (t1_1:Int),Value.func (Fn.yield 15) ⟨[]⟩ ⟨[]⟩]∧[AObj.ro (List.map grV14 l),AObj.rw (grV13 b n c f) none,AObj.rw [ptr0 1] none,AObj.rw grV7 none,AObj.rw grV8 none,AObj.gone,AObj.rw grV10 none,AObj.rw grV15 none,AObj.rw (slotV (fdR b n l no_1 st_1 (rds n (κ-1) f1 t1 m2)).no 20 n::I10 ((fdR b n l no_1 st_1 (rds n (κ-1) f1 t1 m2)).st) []) none,AObj.rw [Value.bool (fdR b n l no_1 st_1 (rds n (κ-1) f1 t1 m2)).no] none,AObj.loop LoopState.ready none grV0 ⟨[9]⟩ y1_c0 y1_c1,AObj.rw grV11 none,AObj.loop LoopState.ready none grV3 ⟨[6]⟩ y1_c2 y1_c3,AObj.rw grV12 none,AObj.rw [ptr0 1] none,AObj.loop LoopState.ready none grV4 ⟨[6]⟩ y1_c4 y1_c5,AObj.gone,AObj.rw (List.map grV14 m) (some 1),o18,AObj.rw (List.map grV14 m2) (some 1),AObj.gone,AObj.rw [vi (t:Int)] none,AObj.rw (grV17 m t) (some 1)]=[AObj.ro (List.map grV14 l),AObj.rw (grV13 b n c f) none,AObj.rw [ptr0 1] none,AObj.rw grV7 none,AObj.rw grV8 none,AObj.gone,AObj.rw grV10 none,AObj.rw grV15 none,AObj.rw (slotV no_2 20 n::I10 st_2 []) none,AObj.rw [Value.bool no_2] none,AObj.loop LoopState.ready none grV0 ⟨[9]⟩ y1_c0 y1_c1,AObj.rw grV11 none,AObj.loop LoopState.ready none grV3 ⟨[6]⟩ y1_c2 y1_c3,AObj.rw grV12 none,AObj.rw [ptr0 1] none,AObj.loop LoopState.ready none grV4 ⟨[6]⟩ y1_c4 y1_c5,AObj.gone,AObj.rw (List.map grV14 m) (some 1),o18_1,o19,AObj.gone,o21,AObj.rw (List.map grV14 m2_1) (some 1)]∧Begun n f1_1 t1_1 m2_1∧f1_1+(n-t1_1)+1=κ∧(no_2=true→st_2=empI))∧True∧Ob (YR b n c f l m grV9 AObj.gone LoopState.ready (fdR b n l no st (rds n κ g t m)) (Value.bool true) [AObj.ro (List.map grV14 l),AObj.rw (grV13 b n c f) none,AObj.rw [ptr0 1] none,AObj.rw grV7 none,AObj.rw grV8 none,AObj.gone,AObj.rw grV10 none,AObj.rw grV15 none,AObj.rw (slotV (fdR b n l no_2 st_2 (rds n (κ-1) f1_1 t1_1 m2_1)).no 23 n::I10 ((fdR b n l no_2 st_2 (rds n (κ-1) f1_1 t1_1 m2_1)).st) []) none,AObj.rw [Value.bool (fdR b n l no_2 st_2 (rds n (κ-1) f1_1 t1_1 m2_1)).no] none,AObj.loop LoopState.ready none grV0 ⟨[9]⟩ y1_c0 y1_c1,AObj.rw grV11 none,AObj.loop LoopState.ready none grV3 ⟨[6]⟩ y1_c2 y1_c3,AObj.rw grV12 none,AObj.rw [ptr0 1] none,AObj.loop LoopState.ready none grV4 ⟨[6]⟩ y1_c4 y1_c5,AObj.gone,AObj.rw (List.map grV14 m) (some 1),o18_1,o19,AObj.gone,o21,AObj.rw (List.map grV14 m2_1) (some 1),AObj.gone]))∧(((t:Int)==(n:Int))=true→True∧Ob (YR b n c f l m grV9 AObj.gone LoopState.ready (fdR b n l no st (rds n κ g t m)) (Value.bool true) (grV1 b n c f l m κ f1 m2 no_1 o18 st_1 t1)))))∧(decide ((0:Int)<(g:Int))=false→(((t:Int)==(n:Int))=false→Ob (grV6 m)∧∃ (m2:List Int),∃ (f1:Nat),∃ (t1:Nat),∃ (no_1:Bool),∃ (st_1:Nat→Int),∃ (o18:AObj),Ob ([ptr0 1,Value.slice (some ⟨19,0,some 0⟩) (m.length+1) 0,vi (g:Int),vi (IntKind.i64.wrap ((t:Int)+(1:Int))),Value.func (Fn.yield 15) ⟨[]⟩ ⟨[]⟩]=(grV16 f1 m2 t1)∧[AObj.ro (List.map grV14 l),AObj.rw (grV13 b n c f) none,AObj.rw [ptr0 1] none,AObj.rw grV7 none,AObj.rw grV8 none,AObj.gone,AObj.rw grV10 none,AObj.rw grV15 none,AObj.rw (slotV no 16 n::I10 st []) none,AObj.rw [Value.bool no] none,AObj.loop LoopState.ready none grV0 ⟨[9]⟩ y1_c0 y1_c1,AObj.rw grV11 none,AObj.loop LoopState.ready none grV3 ⟨[6]⟩ y1_c2 y1_c3,AObj.rw grV12 none,AObj.rw [ptr0 1] none,AObj.loop LoopState.ready none grV4 ⟨[6]⟩ y1_c4 y1_c5,AObj.gone,AObj.rw (List.map grV14 m) (some 1),AObj.rw [vi (t:Int)] none,AObj.rw (grV17 m t) (some 1)]=(grV5 b n c f l m m2 no_1 o18 st_1)∧Begun n f1 t1 m2∧f1+(n-t1)+1=κ∧(no_1=true→st_1=empI))∧True∧Ob (YR b n c f l m grV9 AObj.gone LoopState.ready (fdR b n l no st (rds n κ g t m)) (Value.bool true) (grV1 b n c f l m κ f1 m2 no_1 o18 st_1 t1)))∧(((t:Int)==(n:Int))=true→True∧Ob (YR b n c f l m grV9 AObj.gone LoopState.ready (fdR b n l no st (rds n κ g t m)) (Value.bool true) (grV2 b n c f l m no st)))))
theorem grV_eq : grV = fun (b : Int) (n c f : Nat) (l m : List Int) (no : Bool) (st : Nat→Int) (κ g t : Nat) => vc Try.prog (grE b n c f l m no st κ) 18 66 true (fun _ => none) grB [] (argFr 0 [ptr0 1,newS 17 m.length,vi g,vi t,yv 15]) (EGL b n c f l m no 16 st) (retK Try.prog Try.f134 (YR b n c f l m lnF .gone .ready (fdR b n l no st (rds n κ g t m)))) := by kernel_rfl
theorem fdR_one {b : Int} {n : Nat} {l m : List Int} {no : Bool} {st : Nat→Int} : fdR b n l no st [m] = nxS b n l m no st := rfl
theorem fdR_append {b : Int} {n : Nat} {l : List Int} {no : Bool} {st : Nat→Int} {r r' : List (List Int)} : fdR b n l no st (r ++ r') = fdR b n l (fdR b n l no st r).no (fdR b n l no st r).st r' := foldR_append
theorem stepL_emp {g : (Nat→Int)→Bool} {N : (Nat→Int)→Int} {s : LS} {x : Nat→Int} (h : s.no = true→s.st = empI) : (stepL g N s x).no = true→(stepL g N s x).st = empI := by
 unfold stepL
 split
 · split
   · intro h; cases h
   · exact h
 · exact h
theorem foldR_emp {b : Int} {l : List Int} {g : (Nat→Int)→Bool} {N : (Nat→Int)→Int} : ∀ (r : List (List Int)) (s : LS),(s.no = true→s.st = empI)→(foldR b l g N s r).no = true→(foldR b l g N s r).st = empI
 | [],_,h => h
 | m :: r,s,h => foldR_emp r (stepL g N s (stp b l m)) (stepL_emp h)
theorem fdR_emp {b : Int} {n : Nat} {l : List Int} {no : Bool} {st : Nat→Int} {r : List (List Int)} (h : no = true→st = empI) : (fdR b n l no st r).no = true→(fdR b n l no st r).st = empI := foldR_emp r ⟨no,st⟩ h
theorem grV_ok (b : Int) (n c f : Nat) (l m : List Int) (no : Bool) (st : Nat→Int) (κ g t : Nat) (hn : n≤10) (hB : Begun n g t m) (hk : g + (n - t) = κ) (hs : no = true→st = empI) : grV b n c f l m no st κ g t := by
 unfold grV grV18 grV17 grV16 grV15 grV14 grV13 grV12 grV11 grV10 grV9 grV8 grV7 grV6 grV5 grV4 grV3 grV2 grV1 grV0
 simp only [SS,reduceCtorEq,Arg.list,Arg.num,Arg.flag,intOf,andP,Nat.reduceLeDiff,Nat.reduceAdd,Nat.reduceMul,Nat.reduceLT,yv,newS]
 have h1 := hB.len
 have h2 := hB.le
 have w2 : IntKind.i64.wrap ((t : Int) + 1) = ((t + 1 : Nat) : Int) := by rw [wrap_in (by omega) (by omega)]; omega
 refine ⟨fun h => ?_,fun h => ⟨fun hg => ?_,fun hg => ?_⟩⟩
 · obtain rfl : g = 0 := by omega
   obtain rfl : t = n := by omega
   refine ⟨⟨by omega,hB⟩,?_⟩
   rw [show κ = 0 by omega,rds,fdR_one]
   exact ⟨rfl,18,by kernel_rfl,by simp⟩
 · have hg' : 0 < g := by omega
   have hk' : κ = (κ - 1) + 1 := by omega
   have w1 : IntKind.i64.wrap ((g : Int) - 1) = ((g - 1 : Nat) : Int) := by rw [wrap_in (by omega) (by omega)]; omega
   rw [w1]
   refine ⟨by omega,m ++ [((g - 1 : Nat) : Int)],g - 1,t,no,st,_,⟨⟨by simp,rfl,rfl⟩,⟨⟨rfl,rfl⟩,rfl,rfl,rfl⟩,hB.left hg',by omega,hs⟩,fun ht => ?_,fun ht => ?_⟩
   · rw [w2]
     have ht' : t < n := by omega
     refine ⟨by omega,m ++ [(t : Int)],g,t + 1,_,_,_,_,_,⟨⟨by simp,rfl,rfl⟩,⟨⟨rfl,rfl⟩,rfl,rfl,rfl,rfl,rfl⟩,hB.right ht',by omega,fdR_emp hs⟩,?_⟩
     rw [show rds n κ g t m = rds n (κ - 1) (g - 1) t (m ++ [((g - 1 : Nat) : Int)]) ++ rds n (κ - 1) g (t + 1) (m ++ [(t : Int)]) by conv => lhs; rw [hk',rds,if_pos hg',if_pos ht'],fdR_append]
     exact ⟨rfl,23,by kernel_rfl,by simp⟩
   · have ht' : ¬ t < n := by omega
     rw [show rds n κ g t m = rds n (κ - 1) (g - 1) t (m ++ [((g - 1 : Nat) : Int)]) by conv => lhs; rw [hk',rds,if_pos hg',if_neg ht',List.append_nil]]
     exact ⟨rfl,20,by kernel_rfl,by simp⟩
 · have hg' : ¬ 0 < g := by omega
   have ht' : t < n := by omega
   have hk' : κ = (κ - 1) + 1 := by omega
   rw [w2]
   refine ⟨fun ht => ⟨by omega,m ++ [(t : Int)],g,t + 1,no,st,_,⟨⟨by simp,rfl,rfl⟩,⟨⟨rfl,rfl⟩,rfl,rfl,rfl⟩,hB.right ht',by omega,hs⟩,?_⟩,fun ht => by omega⟩
   rw [show rds n κ g t m = rds n (κ - 1) g (t + 1) (m ++ [(t : Int)]) by conv => lhs; rw [hk',rds,if_neg hg',if_pos ht',List.nil_append]]
   exact ⟨rfl,20,by kernel_rfl,by simp⟩
noncomputable def EGr (b : Int) (n c f : Nat) (nv : Value) (X : AObj) (z : LoopState) : Heap := [.rw (walkC b n c f (tmd n)) none,.rw [ptr0 1] none,.rw [tripsF] none,.rw [.func (.func 61) #[ptr0 1] #[]] none,X,.rw [nv] none,.rw (nilS :: I10 empI []) none,L0 nv,.rw [yv 10] none,L1,.rw [yv 12] none,.rw [ptr0 1] none,L2 z]
theorem EG_all {b : Int} {n c f k : Nat} {l m : List Int} {nv : Value} {X : AObj} {z : LoopState} {no : Bool} {st : Nat→Int} {p : AObj→Bool} (h : (EGr b n c f nv X z).all p = true) (h0 : p (ros l) = true) (h1 : p (.rw (slotV no k n :: I10 st []) none) = true) (h2 : p (.rw [.bool no] none) = true) (h3 : p .gone = true) (h4 : p (rws m) = true) :
   ∀ o ∈ EG b n c f l m nv X z no k st,p o = true := by
 refine List.all_eq_true.1 ?_
 unfold EGr at h
 unfold EG EH
 simp only [List.all_append,List.all_cons,List.all_nil,Bool.and_true,Bool.and_eq_true] at h ⊢
 obtain ⟨a1,a2,a3,a4,a5,a6,a7,a8,a9,a10,a11,a12,a13⟩ := h
 exact ⟨⟨h0,a1,a2,a3,a4,a5,a6,a7,h1,h2,a8,a9,a10,a11,a12,a13⟩,h3,h4⟩
theorem EG_scN {b : Int} {n c f k N : Nat} {l m : List Int} {nv : Value} {X : AObj} {z : LoopState} {no : Bool} {st : Nat→Int} (hk : k < N) (h : (EGr b n c f nv X z).all (AObj.sc N) = true) : ∀ o ∈ EG b n c f l m nv X z no k st,o.sc N = true :=
 EG_all h ros_sc (slot_sc hk) rfl rfl rws_sc
theorem slot_map {σ : Nat→Nat} {k n : Nat} {no : Bool} {st : Nat→Int} : omap σ (.rw (slotV no k n :: I10 st []) none) = .rw (slotV no (σ k) n :: I10 st []) none := by cases no <;> rfl
theorem EG_map {σ : Nat→Nat} {b : Int} {n c f k : Nat} {l m : List Int} {nv : Value} {X : AObj} {z : LoopState} {no : Bool} {st : Nat→Int} (h : (EGr b n c f nv X z).map (omap σ) = EGr b n c f nv X z) :
   (EG b n c f l m nv X z no k st).map (omap σ) = EG b n c f l m nv X z no (σ k) st := by
 unfold EGr at h
 unfold EG EH
 simp only [List.map_append,List.map_cons,List.map_nil,List.cons.injEq,and_true] at h ⊢
 obtain ⟨a1,a2,a3,a4,a5,a6,a7,a8,a9,a10,a11,a12,a13⟩ := h
 simp only [ros_omap,rws_omap,slot_map,a1,a2,a3,a4,a5,a6,a7,a8,a9,a10,a11,a12,a13]
 rfl
theorem EG_nm {b : Int} {n c f k : Nat} {l m : List Int} {nv : Value} {X : AObj} {z : LoopState} {no : Bool} {st : Nat→Int} {e : Nat} (h : (EGr b n c f nv X z).all (fun o => o.nm tt') = true) : ∀ o ∈ EG b n c f l m nv X z no k st,o.nm (fun d => decide (d < e) || decide (e≤d)) = true := by
 rw [any_nm rfl]
 exact EG_all h ros_nm (by cases no <;> rfl) rfl rfl rws_nm
def GrowAt (b : Int) (n c f : Nat) (l m : List Int) (no : Bool) (st : Nat→Int) (S : LS) (a t : Int) : Prop :=
 Call Try.prog 134 [ptr0 1,newS 17 m.length,vi a,vi t,yv 15] (EGL b n c f l m no 16 st) fun v H' => v = .bool true∧H' = EGL b n c f l m S.no 18 S.st ++ [.gone]
theorem getD_lt {L : List Nat} {H : Heap} (h : L.all (fun b => Nat.blt b H.length) = true) : ∀ b ∈ L,b < H.length := fun b hb => by
 have := List.all_eq_true.1 h b hb
 rwa [Nat.blt_eq] at this
theorem EG_obj {b : Int} {n c f k : Nat} {l m : List Int} {no : Bool} {st : Nat→Int} {L : List Nat} {H : Heap} {σ : Nat→Nat} (hσ : σ = fun c => L.getD c 0) (h : (EGr b n c f lnF .gone .ready).map (omap σ) = EGr b n c f lnF .gone .ready)
   (hH : ∀ (c' : Nat) (o : AObj),c' < 16→(EGL b n c f l m no (σ k) st)[c']? = some o→H[L.getD c' 0]? = some o) (h17 : H[L.getD 17 0]? = some (rws m)) :
   ∀ (c' : Nat) (o : AObj),(EGL b n c f l m no k st)[c']? = some o→o = .gone∨H[L.getD c' 0]? = some (omap (fun c => L.getD c 0) o) := fun c' o hc => by
 subst hσ
 rcases Nat.lt_or_ge c' 16 with h1 | h1
 · right
   refine hH c' _ h1 ?_
   have := EG_map (σ := fun c => L.getD c 0) (b := b) (n := n) (c := c) (f := f) (k := k) (l := l) (m := m) (no := no) (st := st) h
   unfold EGL at hc ⊢
   rw [← this,List.getElem?_map,hc]; rfl
 · have h2 : c' < 18 := (List.getElem?_eq_some_iff.1 hc).1
   rcases Nat.lt_or_ge c' 17 with h3 | h3
   · obtain rfl : c' = 16 := by omega
     left; cases hc; rfl
   · obtain rfl : c' = 17 := by omega
     right
     have e : o = rws m := by cases hc; rfl
     rw [h17,e,rws_omap]
theorem gr_site1 {b : Int} {n c f : Nat} {l m m2 : List Int} {no : Bool} {st : Nat→Int} {S : LS} {a t : Int} {o18 : AObj} (h : GrowAt b n c f l m2 no st S a t) :
   Call Try.prog 134 [ptr0 1,newS 19 m2.length,vi a,vi t,yv 15] (EGL b n c f l m no 16 st ++ [o18,rws m2]) fun v H' => v = .bool true∧H' = EGL b n c f l m S.no 20 S.st ++ [o18,rws m2,.gone] := by
 have hmap : (EGr b n c f lnF .gone .ready).map (omap (nameL [0,1,2,3,4,5,6,7,8,9,10,11,12,13,14,15,16,19] 18 20)) = EGr b n c f lnF .gone .ready := by kernel_rfl
 have hF := EG_map (l := l) (m := m2) (k := 18) (no := S.no) (st := S.st) hmap
 have := (Call.frameG (H := EGL b n c f l m no 16 st ++ [o18,rws m2]) (Et := EGL b n c f l m2 no 16 st) (Ft := EGL b n c f l m2 S.no 18 S.st) (N := [.gone]) (L := [0,1,2,3,4,5,6,7,8,9,10,11,12,13,14,15,16,19]) (vs := [ptr0 1,newS 19 m2.length,vi a,vi t,yv 15]) rfl rfl (by decide) (getD_lt (by kernel_rfl))
   (EG_obj (σ := fun c => [0,1,2,3,4,5,6,7,8,9,10,11,12,13,14,15,16,19].getD c 0) rfl (by kernel_rfl) (fun c' o h1 h2 => by
     rcases c' with _ | _ | _ | _ | _ | _ | _ | _ | _ | _ | _ | _ | _ | _ | _ | _ | c' <;> first | exact h2 | omega) rfl)
   (EG_scN (N := 18) (show 16 < 18 by omega) (by kernel_rfl)) (by kernel_rfl) (by kernel_rfl) h
   (fun o ho => by
     rcases List.mem_append.1 ho with h1 | h1
     · exact EG_nm (by kernel_rfl) o h1
     · rw [List.mem_singleton.1 h1]; rfl)
   (fun o ho => by rw [List.mem_singleton.1 ho]; rfl) (by kernel_rfl)
   (fun o ho => by
     rcases List.mem_append.1 ho with h1 | h1
     · have h2 := List.mem_map_of_mem (f := omap (nameL [0,1,2,3,4,5,6,7,8,9,10,11,12,13,14,15,16,19] 18 20)) h1
       unfold EGL at h2
       rw [hF] at h2
       exact EG_scN (N := 21) (show 20 < 21 by omega) (by kernel_rfl) _ h2
     · rw [List.mem_singleton.1 h1]; rfl) (by kernel_rfl)).1
 refine this.mono fun v H' hh => ⟨hh.1,?_⟩
 rw [hh.2]
 show setG _ _ _ (List.map (omap (nameL [0,1,2,3,4,5,6,7,8,9,10,11,12,13,14,15,16,19] 18 20)) (EG b n c f l m2 lnF .gone .ready S.no 18 S.st)) ++ _ = _
 rw [hF]
 kernel_rfl
theorem gr_site2 {b : Int} {n c f : Nat} {l m m2 : List Int} {no : Bool} {st : Nat→Int} {S : LS} {a t : Int} {o18 o19 o21 : AObj} (h : GrowAt b n c f l m2 no st S a t) :
   Call Try.prog 134 [ptr0 1,newS 22 m2.length,vi a,vi t,yv 15] (EGL b n c f l m no 20 st ++ [o18,o19,.gone,o21,rws m2]) fun v H' => v = .bool true∧H' = EGL b n c f l m S.no 23 S.st ++ [o18,o19,.gone,o21,rws m2,.gone] := by
 have hmap : (EGr b n c f lnF .gone .ready).map (omap (nameL [0,1,2,3,4,5,6,7,8,9,10,11,12,13,14,15,20,22] 18 23)) = EGr b n c f lnF .gone .ready := by kernel_rfl
 have hF := EG_map (l := l) (m := m2) (k := 18) (no := S.no) (st := S.st) hmap
 have := (Call.frameG (H := EGL b n c f l m no 20 st ++ [o18,o19,.gone,o21,rws m2]) (Et := EGL b n c f l m2 no 16 st) (Ft := EGL b n c f l m2 S.no 18 S.st) (N := [.gone]) (L := [0,1,2,3,4,5,6,7,8,9,10,11,12,13,14,15,20,22]) (vs := [ptr0 1,newS 22 m2.length,vi a,vi t,yv 15]) rfl rfl (by decide) (getD_lt (by kernel_rfl))
   (EG_obj (σ := fun c => [0,1,2,3,4,5,6,7,8,9,10,11,12,13,14,15,20,22].getD c 0) rfl (by kernel_rfl) (fun c' o h1 h2 => by
     rcases c' with _ | _ | _ | _ | _ | _ | _ | _ | _ | _ | _ | _ | _ | _ | _ | _ | c' <;> first | exact h2 | omega) rfl)
   (EG_scN (N := 18) (show 16 < 18 by omega) (by kernel_rfl)) (by kernel_rfl) (by kernel_rfl) h
   (fun o ho => by
     rcases List.mem_append.1 ho with h1 | h1
     · exact EG_nm (by kernel_rfl) o h1
     · rw [List.mem_singleton.1 h1]; rfl)
   (fun o ho => by rw [List.mem_singleton.1 ho]; rfl) (by kernel_rfl)
   (fun o ho => by
     rcases List.mem_append.1 ho with h1 | h1
     · have h2 := List.mem_map_of_mem (f := omap (nameL [0,1,2,3,4,5,6,7,8,9,10,11,12,13,14,15,20,22] 18 23)) h1
       unfold EGL at h2
       rw [hF] at h2
       exact EG_scN (N := 24) (show 23 < 24 by omega) (by kernel_rfl) _ h2
     · rw [List.mem_singleton.1 h1]; rfl) (by kernel_rfl)).1
 refine this.mono fun v H' hh => ⟨hh.1,?_⟩
 rw [hh.2]
 show setG _ _ _ (List.map (omap (nameL [0,1,2,3,4,5,6,7,8,9,10,11,12,13,14,15,20,22] 18 23)) (EG b n c f l m2 lnF .gone .ready S.no 18 S.st)) ++ _ = _
 rw [hF]
 kernel_rfl
theorem grCc_ok (b : Int) (n c f : Nat) (l m : List Int) (κ : Nat) (h : ∀ (m2 : List Int) (f1 t1 : Nat) (no : Bool) (st : Nat→Int),Begun n f1 t1 m2→f1 + (n - t1) + 1 = κ→(no = true→st = empI)→GrowAt b n c f l m2 no st (fdR b n l no st (rds n (κ - 1) f1 t1 m2)) f1 t1) : CcOk Try.prog (grCc b n c f l m κ) := by
 intro fn args H T hT Q hQ
 unfold grCc at hT
 split at hT <;> try (cases hT; done)
 rename_i hf
 obtain rfl := Nat.eq_of_beq_eq_true hf
 split at hT
 · cases hT
   obtain ⟨m2,f1,t1,no,st,o18,hO,hq⟩ := hQ
   obtain ⟨rfl,rfl,h1,h2,h3⟩ := hO.out
   exact (gr_site1 (h m2 f1 t1 no st h1 h2 h3)).mono fun v H' ⟨e1,e2⟩ => by subst e1; subst e2; exact hq
 · split at hT <;> cases hT
   obtain ⟨m2,f1,t1,no,st,o18,o19,o21,hO,hq⟩ := hQ
   obtain ⟨rfl,rfl,h1,h2,h3⟩ := hO.out
   exact (gr_site2 (h m2 f1 t1 no st h1 h2 h3)).mono fun v H' ⟨e1,e2⟩ => by subst e1; subst e2; exact hq
theorem whole_len {n : Nat} {m : List Int} (h : Whole n m) : m.length = n := by have := h.len; omega
theorem whole_mem {n : Nat} {m : List Int} (h : Whole n m) : ∀ j,j < m.length→0≤m.getD j 0∧m.getD j 0 < n := fun j hj => by
 have := h.mem (m.getD j 0) (ints_mem hj)
 omega
theorem grYc_ok (b : Int) (n c f : Nat) (l m : List Int) (no : Bool) (st : Nat→Int) (hl : l.length = n * 2) (hn : n≤10) (hr : rngP b n l) (hs : no = true→st = empI) : YcOk Try.prog (grYc b n c f l m no st) := by
 intro b1 args H T hT Q hQ
 unfold grYc at hT
 split at hT <;> cases hT
 rename_i hb
 obtain rfl := Nat.eq_of_beq_eq_true hb
 obtain ⟨hO,hq⟩ := hQ
 obtain ⟨rfl,rfl,hw⟩ := hO.out
 exact (y2_yield b n c f l m no st hl hn hr (whole_len hw) (whole_mem hw) hs).mono fun v H' ⟨e1,e2⟩ => by subst e1; subst e2; exact hq
theorem grow_go (b : Int) (n c f : Nat) (l : List Int) (hl : l.length = n * 2) (hn : n≤10) (hr : rngP b n l) (κ g t : Nat) (m : List Int) (no : Bool) (st : Nat→Int) (hB : Begun n g t m) (hk : g + (n - t) = κ) (hs : no = true→st = empI) (h : ∀ (m2 : List Int) (f1 t1 : Nat) (no : Bool) (st : Nat→Int),Begun n f1 t1 m2→f1 + (n - t1) + 1 = κ→(no = true→st = empI)→GrowAt b n c f l m2 no st (fdR b n l no st (rds n (κ - 1) f1 t1 m2)) f1 t1) : GrowAt b n c f l m no st (fdR b n l no st (rds n κ g t m)) g t:= by
 have hv := grV_ok b n c f l m no st κ g t hn hB hk hs
 rw [grV_eq] at hv
 have hE : VOk Try.prog (grE b n c f l m no st κ) := ⟨CtOk.none,grCc_ok b n c f l m κ h,grYc_ok b n c f l m no st hl hn hr hs,orcOr_ok orcLim_ok prE1_ok.orc⟩
 refine Call.anew (Call.mono (Call.ofVc (H := EGL b n c f l m no 16 st) (args := [ptr0 1,newS 17 m.length,vi g,vi t,yv 15]) hE mixed (c := grB) (inv := fun _ => none) (R := YR b n c f l m lnF .gone .ready (fdR b n l no st (rds n κ g t m))) Try.func134 (by kernel_rfl) (cast (by kernel_rfl) hv)) fun v H' hy => ?_)
 exact YR_anew hy (fun _ => rfl) (fun _ => by kernel_rfl) (fun _ => ⟨by kernel_rfl,by kernel_rfl⟩) rfl (by kernel_rfl) ⟨by kernel_rfl,by kernel_rfl⟩
theorem grow_ok (b : Int) (n c f : Nat) (l : List Int) (hl : l.length = n * 2) (hn : n≤10) (hr : rngP b n l) : ∀ (κ g t : Nat) (m : List Int) (no : Bool) (st : Nat→Int),Begun n g t m→g + (n - t) = κ→(no = true→st = empI) →
   GrowAt b n c f l m no st (fdR b n l no st (rds n κ g t m)) g t := by
 intro κ
 induction κ with
 | zero =>
   intro g t m no st hB hk hs
   exact grow_go b n c f l hl hn hr 0 g t m no st hB hk hs (fun m2 f1 t1 no st _ h _ => by omega)
 | succ κ ih =>
   intro g t m no st hB hk hs
   exact grow_go b n c f l hl hn hr (κ + 1) g t m no st hB hk hs (fun m2 f1 t1 no st h1 h2 h3 => by
     rw [Nat.add_sub_cancel]
     exact ih f1 t1 m2 no st h1 (by omega) h3)
end Go.Pier.Rd
namespace Go.Pier.Rd
open Go Go.Pier Go.Proofs
noncomputable def EHL (b : Int) (n c f : Nat) (l : List Int) (no : Bool) (k : Nat) (st : Nat→Int) : Heap := EH b n c f l lnF .gone .ready no k st
noncomputable def g0Cc (b:Int) (n c f:Nat) (l:List Int) (κ:Nat):Cc := fun fn args H => match Nat.beq fn 134 with
 | true => match Nat.beq H.length 18 with
   | true => some fun Q => ∃ (m2:List Int) (f1 t1:Nat) (no:Bool) (st:Nat→Int) (o16:AObj),Ob (args=[ptr0 1,newS 17 m2.length,vi f1,vi t1,yv 15]∧H=EHL b n c f l no 16 st++[o16,rws m2]∧Begun n f1 t1 m2∧f1+(n-t1)+1=κ∧(no=true→st=empI)) ∧
       Q (.bool true) (EHL b n c f l (fdR b n l no st (rds n (κ-1) f1 t1 m2)).no 18 (fdR b n l no st (rds n (κ-1) f1 t1 m2)).st++[o16,rws m2,.gone])
   | false => match Nat.beq H.length 21 with
     | true => some fun Q => ∃ (m2:List Int) (f1 t1:Nat) (no:Bool) (st:Nat→Int) (o16 o17 o19:AObj),Ob (args=[ptr0 1,newS 20 m2.length,vi f1,vi t1,yv 15]∧H=EHL b n c f l no 18 st++[o16,o17,.gone,o19,rws m2]∧Begun n f1 t1 m2∧f1+(n-t1)+1=κ∧(no=true→st=empI)) ∧
         Q (.bool true) (EHL b n c f l (fdR b n l no st (rds n (κ-1) f1 t1 m2)).no 21 (fdR b n l no st (rds n (κ-1) f1 t1 m2)).st++[o16,o17,.gone,o19,rws m2,.gone])
     | false => none
 | false => none
noncomputable def g0E (b : Int) (n c f : Nat) (l : List Int) (κ : Nat) : VEnv := { orc := orcOr (orcLim Try.prog) prO,cc := g0Cc b n c f l κ }
def YR0 (b : Int) (n c f : Nat) (l : List Int) (s : LS) (v : Value) (H' : Heap) : Prop :=
 v = .bool true∧∃ k,H' = EHL b n c f l s.no k s.st ++ H'.drop 16∧k < H'.length
noncomputable def g0V0 (b:Int) (n:Nat) (c:Nat) (f:Nat) (l:List Int) (κ:Nat) (f1:Nat) (m2:List Int) (no_1:Bool) (o16:AObj) (st_1:Nat→Int) (t1:Nat):List AObj := [AObj.ro (List.map (Value.int IntKind.i64) l),AObj.rw (vi b::Value.slice (some (ad0 0)) n c::vi (f:Int)::B10 (tmd n) []) none,AObj.rw [ptr0 1] none,AObj.rw [Value.func (Fn.func (123:FuncId)) ⟨[]⟩ ⟨[ptr0 2]⟩] none,AObj.rw [Value.func (Fn.func (61:FuncId)) ⟨[ptr0 1]⟩ ⟨[]⟩] none,AObj.gone,AObj.rw [Value.func (Fn.func (70:FuncId)) ⟨[]⟩ ⟨[]⟩] none,AObj.rw (Value.slice none 0 0::I10 empI []) none,AObj.rw (slotV (fdR b n l no_1 st_1 (rds n (κ-1) f1 t1 m2)).no 18 n::I10 ((fdR b n l no_1 st_1 (rds n (κ-1) f1 t1 m2)).st) []) none,AObj.rw [Value.bool (fdR b n l no_1 st_1 (rds n (κ-1) f1 t1 m2)).no] none,AObj.loop LoopState.ready none ⟨[Value.func (Fn.func (122:FuncId)) ⟨[]⟩ ⟨[ptr0 3,ptr0 4]⟩,Value.func (Fn.func (70:FuncId)) ⟨[]⟩ ⟨[]⟩,junk,ptr0 6,ptr0 7,ptr0 8,ptr0 9,junk,Value.func (Fn.func (122:FuncId)) ⟨[]⟩ ⟨[ptr0 3,ptr0 4]⟩,junk,junk,junk,junk,junk,junk,junk,junk,junk,junk,junk,junk,junk]⟩ ⟨[9]⟩ y1_c0 y1_c1,AObj.rw [Value.func (Fn.yield 10) ⟨[]⟩ ⟨[]⟩] none,AObj.loop LoopState.ready none ⟨[Value.func (Fn.yield 10) ⟨[]⟩ ⟨[]⟩,ptr0 3,ptr0 4,ptr0 11,junk,Value.func (Fn.func (123:FuncId)) ⟨[]⟩ ⟨[ptr0 2]⟩,junk,junk,junk,junk,junk,junk,junk,junk,junk,junk]⟩ ⟨[6]⟩ y1_c2 y1_c3,AObj.rw [Value.func (Fn.yield 12) ⟨[]⟩ ⟨[]⟩] none,AObj.rw [ptr0 1] none,AObj.loop LoopState.ready none ⟨[Value.func (Fn.yield 12) ⟨[]⟩ ⟨[]⟩,ptr0 2,ptr0 13,junk,ptr0 1,Value.func (Fn.func (133:FuncId)) ⟨[]⟩ ⟨[ptr0 14]⟩,junk,junk,junk,junk,junk,junk,junk]⟩ ⟨[6]⟩ y1_c4 y1_c5,o16,AObj.rw (List.map (Value.int IntKind.i64) m2) (some 1),AObj.gone]
noncomputable def g0V1  : Array Value := { toList := [Value.func (Fn.func (122 : FuncId)) { toList := [] } { toList := [ptr0 3,ptr0 4] },Value.func (Fn.func (70 : FuncId)) { toList := [] } { toList := [] },junk,ptr0 6,ptr0 7,ptr0 8,ptr0 9,junk,Value.func (Fn.func (122 : FuncId)) { toList := [] } { toList := [ptr0 3,ptr0 4] },junk,junk,junk,junk,junk,junk,junk,junk,junk,junk,junk,junk,junk] }
noncomputable def g0V2  : Array Value := { toList := [Value.func (Fn.yield (10 : Nat)) { toList := [] } { toList := [] },ptr0 3,ptr0 4,ptr0 11,junk,Value.func (Fn.func (123 : FuncId)) { toList := [] } { toList := [ptr0 2] },junk,junk,junk,junk,junk,junk,junk,junk,junk,junk] }
noncomputable def g0V3  : Array Value := { toList := [Value.func (Fn.yield (12 : Nat)) { toList := [] } { toList := [] },ptr0 2,ptr0 13,junk,ptr0 1,Value.func (Fn.func (133 : FuncId)) { toList := [] } { toList := [ptr0 14] },junk,junk,junk,junk,junk,junk,junk] }
noncomputable def g0V4 (b:Int) (n:Nat) (c:Nat) (f:Nat) (l:List Int) (m2:List Int) (no_1:Bool) (o16:AObj) (st_1:Nat→Int):List AObj := [AObj.ro (List.map (Value.int IntKind.i64) l),AObj.rw (vi b::Value.slice (some (ad0 0)) n c::vi (f:Int)::B10 (tmd n) []) none,AObj.rw [ptr0 1] none,AObj.rw [Value.func (Fn.func (123:FuncId)) ⟨[]⟩ ⟨[ptr0 2]⟩] none,AObj.rw [Value.func (Fn.func (61:FuncId)) ⟨[ptr0 1]⟩ ⟨[]⟩] none,AObj.gone,AObj.rw [Value.func (Fn.func (70:FuncId)) ⟨[]⟩ ⟨[]⟩] none,AObj.rw (Value.slice none 0 0::I10 empI []) none,AObj.rw (slotV no_1 16 n::I10 st_1 []) none,AObj.rw [Value.bool no_1] none,AObj.loop LoopState.ready none g0V1 ⟨[9]⟩ y1_c0 y1_c1,AObj.rw [Value.func (Fn.yield 10) ⟨[]⟩ ⟨[]⟩] none,AObj.loop LoopState.ready none g0V2 ⟨[6]⟩ y1_c2 y1_c3,AObj.rw [Value.func (Fn.yield 12) ⟨[]⟩ ⟨[]⟩] none,AObj.rw [ptr0 1] none,AObj.loop LoopState.ready none g0V3 ⟨[6]⟩ y1_c4 y1_c5,o16,AObj.rw (List.map (Value.int IntKind.i64) m2) (some 1)]
noncomputable def g0V5  := (andP (some ((0 : Nat) + (1 : Nat)≤(1 : Nat)∧true = true)) ((1 : Nat)≤(1099511627776 : Nat)∧(2064 : Nat)≤(281474976710656 : Nat)∧(1 : Nat) = (1 : Nat)∧(0 : Nat) = (0 : Nat)∧(0 : Nat) < (1 : Nat)))
noncomputable def g0V6  : List Value := [Value.func (Fn.func (123 : FuncId)) { toList := [] } { toList := [ptr0 2] }]
noncomputable def g0V7  : List Value := [Value.func (Fn.func (61 : FuncId)) { toList := [ptr0 1] } { toList := [] }]
noncomputable def g0V8  : List Value := [Value.func (Fn.func (70 : FuncId)) { toList := [] } { toList := [] }]
noncomputable def g0V9  : List Value := [Value.func (Fn.yield (10 : Nat)) { toList := [] } { toList := [] }]
noncomputable def g0V10  : List Value := [Value.func (Fn.yield (12 : Nat)) { toList := [] } { toList := [] }]
noncomputable def g0V11 (b:Int) (n:Nat) (c:Nat) (f:Nat) := (vi b::Value.slice (some (ad0 0)) n c::vi (f:Int)::B10 (tmd n) [])
noncomputable def g0V12  := (Value.slice none (0 : Nat) (0 : Nat) :: I10 empI [])
noncomputable def g0V13  (f1:Nat) (m2:List Int) (t1:Nat):List Value := [ptr0 1,Value.slice (some ⟨17,0,some 0⟩) m2.length 0,vi (f1:Int),vi (t1:Int),Value.func (Fn.yield 15) ⟨[]⟩ ⟨[]⟩]
noncomputable def g0V14 (l:List Int) := (List.map (Value.int IntKind.i64) l)
noncomputable def g0V15 (g:Nat) := (IntKind.i64.wrap ((g:Int)-(1:Int)))
noncomputable def g0V :=
fun (b:Int) (n c f:Nat) (l:List Int) (no:Bool) (st:Nat→Int) (κ g:Nat)↦(((↑(0:Nat):Int)==(n:Int))=true→False)∧(((↑(0:Nat):Int)==(n:Int))=false→(decide ((0:Int)<(g:Int))=true→Ob g0V5∧∃ (m2:List Int),∃ (f1:Nat),∃ (t1:Nat),∃ (no_1:Bool),∃ (st_1:Nat→Int),∃ (o16:AObj),Ob ([ptr0 1,Value.slice (some ⟨17,0,some 0⟩) 1 0,vi (g0V15 g),vi (g:Int),Value.func (Fn.yield 15) ⟨[]⟩ ⟨[]⟩]=(g0V13 f1 m2 t1)∧[AObj.ro (g0V14 l),AObj.rw (g0V11 b n c f) none,AObj.rw [ptr0 1] none,AObj.rw g0V6 none,AObj.rw g0V7 none,AObj.gone,AObj.rw g0V8 none,AObj.rw g0V12 none,AObj.rw (slotV no 16 n::I10 st []) none,AObj.rw [Value.bool no] none,AObj.loop LoopState.ready none g0V1 ⟨[9]⟩ y1_c0 y1_c1,AObj.rw g0V9 none,AObj.loop LoopState.ready none g0V2 ⟨[6]⟩ y1_c2 y1_c3,AObj.rw g0V10 none,AObj.rw [ptr0 1] none,AObj.loop LoopState.ready none g0V3 ⟨[6]⟩ y1_c4 y1_c5,AObj.rw [vi (g0V15 g)] none,AObj.rw [vi (g0V15 g)] (some 1)]=(g0V4 b n c f l m2 no_1 o16 st_1)∧Begun n f1 t1 m2∧f1+(n-t1)+1=κ∧(no_1=true→st_1=empI))∧(false=true→True∧Ob (YR0 b n c f l (fdR b n l no st (rds n κ g g [])) (Value.bool false) (g0V0 b n c f l κ f1 m2 no_1 o16 st_1 t1)))∧(false=false→(((g:Int)==(n:Int))=false→Ob g0V5∧∃ (m2_1:List Int),∃ (f1_1:Nat),∃ (t1_1:Nat),∃ (no_2:Bool),∃ (st_2:Nat→Int),∃ (o16_1:AObj),∃ (o17:AObj),∃ (o19:AObj),Ob ([ptr0 1,Value.slice (some ⟨20,0,some 0⟩) 1 0,vi (g:Int),vi (IntKind.i64.wrap ((g:Int)+(1:Int))),Value.func (Fn.yield 15) ⟨[]⟩ ⟨[]⟩]=[ptr0 1,Value.slice (some ⟨20,0,some 0⟩) m2_1.length 0,vi (f1_1:Int),vi (t1_1:Int),Value.func (Fn.yield 15) ⟨[]⟩ ⟨[]⟩]∧[AObj.ro (g0V14 l),AObj.rw (g0V11 b n c f) none,AObj.rw [ptr0 1] none,AObj.rw g0V6 none,AObj.rw g0V7 none,AObj.gone,AObj.rw g0V8 none,AObj.rw g0V12 none,AObj.rw (slotV (fdR b n l no_1 st_1 (rds n (κ-1) f1 t1 m2)).no 18 n::I10 ((fdR b n l no_1 st_1 (rds n (κ-1) f1 t1 m2)).st) []) none,AObj.rw [Value.bool (fdR b n l no_1 st_1 (rds n (κ-1) f1 t1 m2)).no] none,AObj.loop LoopState.ready none g0V1 ⟨[9]⟩ y1_c0 y1_c1,AObj.rw g0V9 none,AObj.loop LoopState.ready none g0V2 ⟨[6]⟩ y1_c2 y1_c3,AObj.rw g0V10 none,AObj.rw [ptr0 1] none,AObj.loop LoopState.ready none g0V3 ⟨[6]⟩ y1_c4 y1_c5,o16,AObj.rw (List.map (Value.int IntKind.i64) m2) (some 1),AObj.gone,AObj.rw [vi (g:Int)] none,AObj.rw [vi (g:Int)] (some 1)]=[AObj.ro (g0V14 l),AObj.rw (g0V11 b n c f) none,AObj.rw [ptr0 1] none,AObj.rw g0V6 none,AObj.rw g0V7 none,AObj.gone,AObj.rw g0V8 none,AObj.rw g0V12 none,AObj.rw (slotV no_2 18 n::I10 st_2 []) none,AObj.rw [Value.bool no_2] none,AObj.loop LoopState.ready none g0V1 ⟨[9]⟩ y1_c0 y1_c1,AObj.rw g0V9 none,AObj.loop LoopState.ready none g0V2 ⟨[6]⟩ y1_c2 y1_c3,AObj.rw g0V10 none,AObj.rw [ptr0 1] none,AObj.loop LoopState.ready none g0V3 ⟨[6]⟩ y1_c4 y1_c5,o16_1,o17,AObj.gone,o19,AObj.rw (List.map (Value.int IntKind.i64) m2_1) (some 1)]∧Begun n f1_1 t1_1 m2_1∧f1_1+(n-t1_1)+1=κ∧(no_2=true→st_2=empI))∧True∧Ob (YR0 b n c f l (fdR b n l no st (rds n κ g g [])) (Value.bool true) [AObj.ro (g0V14 l),AObj.rw (g0V11 b n c f) none,AObj.rw [ptr0 1] none,AObj.rw g0V6 none,AObj.rw g0V7 none,AObj.gone,AObj.rw g0V8 none,AObj.rw g0V12 none,AObj.rw (slotV (fdR b n l no_2 st_2 (rds n (κ-1) f1_1 t1_1 m2_1)).no 21 n::I10 ((fdR b n l no_2 st_2 (rds n (κ-1) f1_1 t1_1 m2_1)).st) []) none,AObj.rw [Value.bool (fdR b n l no_2 st_2 (rds n (κ-1) f1_1 t1_1 m2_1)).no] none,AObj.loop LoopState.ready none g0V1 ⟨[9]⟩ y1_c0 y1_c1,AObj.rw g0V9 none,AObj.loop LoopState.ready none g0V2 ⟨[6]⟩ y1_c2 y1_c3,AObj.rw g0V10 none,AObj.rw [ptr0 1] none,AObj.loop LoopState.ready none g0V3 ⟨[6]⟩ y1_c4 y1_c5,o16_1,o17,AObj.gone,o19,AObj.rw (List.map (Value.int IntKind.i64) m2_1) (some 1),AObj.gone]))∧(((g:Int)==(n:Int))=true→True∧Ob (YR0 b n c f l (fdR b n l no st (rds n κ g g [])) (Value.bool true) (g0V0 b n c f l κ f1 m2 no_1 o16 st_1 t1)))))∧(decide ((0:Int)<(g:Int))=false→(((g:Int)==(n:Int))=false→Ob g0V5∧∃ (m2:List Int),∃ (f1:Nat),∃ (t1:Nat),∃ (no_1:Bool),∃ (st_1:Nat→Int),∃ (o16:AObj),Ob ([ptr0 1,Value.slice (some ⟨17,0,some 0⟩) 1 0,vi (g:Int),vi (IntKind.i64.wrap ((g:Int)+(1:Int))),Value.func (Fn.yield 15) ⟨[]⟩ ⟨[]⟩]=(g0V13 f1 m2 t1)∧[AObj.ro (g0V14 l),AObj.rw (g0V11 b n c f) none,AObj.rw [ptr0 1] none,AObj.rw g0V6 none,AObj.rw g0V7 none,AObj.gone,AObj.rw g0V8 none,AObj.rw g0V12 none,AObj.rw (slotV no 16 n::I10 st []) none,AObj.rw [Value.bool no] none,AObj.loop LoopState.ready none g0V1 ⟨[9]⟩ y1_c0 y1_c1,AObj.rw g0V9 none,AObj.loop LoopState.ready none g0V2 ⟨[6]⟩ y1_c2 y1_c3,AObj.rw g0V10 none,AObj.rw [ptr0 1] none,AObj.loop LoopState.ready none g0V3 ⟨[6]⟩ y1_c4 y1_c5,AObj.rw [vi (g:Int)] none,AObj.rw [vi (g:Int)] (some 1)]=(g0V4 b n c f l m2 no_1 o16 st_1)∧Begun n f1 t1 m2∧f1+(n-t1)+1=κ∧(no_1=true→st_1=empI))∧True∧Ob (YR0 b n c f l (fdR b n l no st (rds n κ g g [])) (Value.bool true) (g0V0 b n c f l κ f1 m2 no_1 o16 st_1 t1)))∧(((g:Int)==(n:Int))=true→True∧Ob (YR0 b n c f l (fdR b n l no st (rds n κ g g [])) (Value.bool true) [AObj.ro (g0V14 l),AObj.rw (g0V11 b n c f) none,AObj.rw [ptr0 1] none,AObj.rw g0V6 none,AObj.rw g0V7 none,AObj.gone,AObj.rw g0V8 none,AObj.rw g0V12 none,AObj.rw (slotV no 16 n::I10 st []) none,AObj.rw [Value.bool no] none,AObj.loop LoopState.ready none g0V1 ⟨[9]⟩ y1_c0 y1_c1,AObj.rw g0V9 none,AObj.loop LoopState.ready none g0V2 ⟨[6]⟩ y1_c2 y1_c3,AObj.rw g0V10 none,AObj.rw [ptr0 1] none,AObj.loop LoopState.ready none g0V3 ⟨[6]⟩ y1_c4 y1_c5]))))
theorem g0V_eq : g0V = fun (b : Int) (n c f : Nat) (l : List Int) (no : Bool) (st : Nat→Int) (κ g : Nat) => vc Try.prog (g0E b n c f l κ) 16 66 true (fun _ => none) grB [] (argFr 0 [ptr0 1,nilS,vi g,vi g,yv 15]) (EHL b n c f l no 16 st) (retK Try.prog Try.f134 (YR0 b n c f l (fdR b n l no st (rds n κ g g [])))) := by kernel_rfl
theorem begun_nil {n g : Nat} (h : g≤n) : Begun n g g [] := ⟨by simp,h,by simp,List.nodup_nil,fun a h1 h2 => by omega⟩
theorem g0V_ok (b : Int) (n c f : Nat) (l : List Int) (no : Bool) (st : Nat→Int) (κ g : Nat) (hn : n≤10) (hn1 : 1≤n) (hg : g≤n) (hk : g + (n - g) = κ) (hs : no = true→st = empI) : g0V b n c f l no st κ g := by
 unfold g0V g0V15 g0V14 g0V13 g0V12 g0V11 g0V10 g0V9 g0V8 g0V7 g0V6 g0V5 g0V4 g0V3 g0V2 g0V1 g0V0
 simp only [SS,reduceCtorEq,Arg.list,Arg.num,Arg.flag,intOf,andP,Nat.reduceLeDiff,Nat.reduceAdd,Nat.reduceMul,Nat.reduceLT,yv,newS]
 have hB := begun_nil hg
 have hk' : κ = (κ - 1) + 1 := by omega
 have w2 : IntKind.i64.wrap ((g : Int) + 1) = ((g + 1 : Nat) : Int) := by rw [wrap_in (by omega) (by omega)]; omega
 refine ⟨fun h => by omega,fun h => ⟨fun hg => ?_,fun hg => ?_⟩⟩
 · have hg' : 0 < g := by omega
   have w1 : IntKind.i64.wrap ((g : Int) - 1) = ((g - 1 : Nat) : Int) := by rw [wrap_in (by omega) (by omega)]; omega
   rw [w1]
   refine ⟨[((g - 1 : Nat) : Int)],g - 1,g,no,st,_,⟨⟨rfl,rfl,rfl⟩,⟨⟨rfl,rfl⟩,rfl,rfl,rfl⟩,hB.left hg',by omega,hs⟩,fun ht => ?_,fun ht => ?_⟩
   · rw [w2]
     have ht' : g < n := by omega
     refine ⟨[(g : Int)],g,g + 1,_,_,_,_,_,⟨⟨rfl,rfl,rfl⟩,⟨⟨rfl,rfl⟩,rfl,rfl,rfl,rfl,rfl⟩,hB.right ht',by omega,fdR_emp hs⟩,?_⟩
     rw [show rds n κ g g [] = rds n (κ - 1) (g - 1) g [((g - 1 : Nat) : Int)] ++ rds n (κ - 1) g (g + 1) [(g : Int)] by conv => lhs; rw [hk',rds,if_pos hg',if_pos ht',List.nil_append,List.nil_append],fdR_append]
     exact ⟨rfl,21,by kernel_rfl,by simp⟩
   · have ht' : ¬ g < n := by omega
     rw [show rds n κ g g [] = rds n (κ - 1) (g - 1) g [((g - 1 : Nat) : Int)] by conv => lhs; rw [hk',rds,if_pos hg',if_neg ht',List.append_nil,List.nil_append]]
     exact ⟨rfl,18,by kernel_rfl,by simp⟩
 · have hg' : ¬ 0 < g := by omega
   have ht' : g < n := by omega
   rw [w2]
   refine ⟨fun ht => ⟨[(g : Int)],g,g + 1,no,st,_,⟨⟨rfl,rfl,rfl⟩,⟨⟨rfl,rfl⟩,rfl,rfl,rfl⟩,hB.right ht',by omega,hs⟩,?_⟩,fun ht => by omega⟩
   rw [show rds n κ g g [] = rds n (κ - 1) g (g + 1) [(g : Int)] by conv => lhs; rw [hk',rds,if_neg hg',if_pos ht',List.nil_append,List.nil_append]]
   exact ⟨rfl,18,by kernel_rfl,by simp⟩
theorem g0_site1 {b : Int} {n c f : Nat} {l m2 : List Int} {no : Bool} {st : Nat→Int} {S : LS} {a t : Int} {o16 : AObj} (h : GrowAt b n c f l m2 no st S a t) :
   Call Try.prog 134 [ptr0 1,newS 17 m2.length,vi a,vi t,yv 15] (EHL b n c f l no 16 st ++ [o16,rws m2]) fun v H' => v = .bool true∧H' = EHL b n c f l S.no 18 S.st ++ [o16,rws m2,.gone] := by
 have hmap : (EGr b n c f lnF .gone .ready).map (omap (nameL [0,1,2,3,4,5,6,7,8,9,10,11,12,13,14,15,16,17] 18 18)) = EGr b n c f lnF .gone .ready := by kernel_rfl
 have hF := EG_map (l := l) (m := m2) (k := 18) (no := S.no) (st := S.st) hmap
 have := (Call.frameG (H := EHL b n c f l no 16 st ++ [o16,rws m2]) (Et := EGL b n c f l m2 no 16 st) (Ft := EGL b n c f l m2 S.no 18 S.st) (N := [.gone]) (L := [0,1,2,3,4,5,6,7,8,9,10,11,12,13,14,15,16,17]) (vs := [ptr0 1,newS 17 m2.length,vi a,vi t,yv 15]) rfl rfl (by decide) (getD_lt (by kernel_rfl))
   (EG_obj (σ := fun c => [0,1,2,3,4,5,6,7,8,9,10,11,12,13,14,15,16,17].getD c 0) rfl (by kernel_rfl) (fun c' o h1 h2 => by
     rcases c' with _ | _ | _ | _ | _ | _ | _ | _ | _ | _ | _ | _ | _ | _ | _ | _ | c' <;> first | exact h2 | omega) rfl)
   (EG_scN (N := 18) (show 16 < 18 by omega) (by kernel_rfl)) (by kernel_rfl) (by kernel_rfl) h
   (fun o ho => by
     rcases List.mem_append.1 ho with h1 | h1
     · exact EG_nm (by kernel_rfl) o h1
     · rw [List.mem_singleton.1 h1]; rfl)
   (fun o ho => by rw [List.mem_singleton.1 ho]; rfl) (by kernel_rfl)
   (fun o ho => by
     rcases List.mem_append.1 ho with h1 | h1
     · have h2 := List.mem_map_of_mem (f := omap (nameL [0,1,2,3,4,5,6,7,8,9,10,11,12,13,14,15,16,17] 18 18)) h1
       unfold EGL at h2
       rw [hF] at h2
       exact EG_scN (N := 19) (show 18 < 19 by omega) (by kernel_rfl) _ h2
     · rw [List.mem_singleton.1 h1]; rfl) (by kernel_rfl)).1
 refine this.mono fun v H' hh => ⟨hh.1,?_⟩
 rw [hh.2]
 show setG _ _ _ (List.map (omap (nameL [0,1,2,3,4,5,6,7,8,9,10,11,12,13,14,15,16,17] 18 18)) (EG b n c f l m2 lnF .gone .ready S.no 18 S.st)) ++ _ = _
 rw [hF]
 kernel_rfl
theorem g0_site2 {b : Int} {n c f : Nat} {l m2 : List Int} {no : Bool} {st : Nat→Int} {S : LS} {a t : Int} {o16 o17 o19 : AObj} (h : GrowAt b n c f l m2 no st S a t) :
   Call Try.prog 134 [ptr0 1,newS 20 m2.length,vi a,vi t,yv 15] (EHL b n c f l no 18 st ++ [o16,o17,.gone,o19,rws m2]) fun v H' => v = .bool true∧H' = EHL b n c f l S.no 21 S.st ++ [o16,o17,.gone,o19,rws m2,.gone] := by
 have hmap : (EGr b n c f lnF .gone .ready).map (omap (nameL [0,1,2,3,4,5,6,7,8,9,10,11,12,13,14,15,18,20] 18 21)) = EGr b n c f lnF .gone .ready := by kernel_rfl
 have hF := EG_map (l := l) (m := m2) (k := 18) (no := S.no) (st := S.st) hmap
 have := (Call.frameG (H := EHL b n c f l no 18 st ++ [o16,o17,.gone,o19,rws m2]) (Et := EGL b n c f l m2 no 16 st) (Ft := EGL b n c f l m2 S.no 18 S.st) (N := [.gone]) (L := [0,1,2,3,4,5,6,7,8,9,10,11,12,13,14,15,18,20]) (vs := [ptr0 1,newS 20 m2.length,vi a,vi t,yv 15]) rfl rfl (by decide) (getD_lt (by kernel_rfl))
   (EG_obj (σ := fun c => [0,1,2,3,4,5,6,7,8,9,10,11,12,13,14,15,18,20].getD c 0) rfl (by kernel_rfl) (fun c' o h1 h2 => by
     rcases c' with _ | _ | _ | _ | _ | _ | _ | _ | _ | _ | _ | _ | _ | _ | _ | _ | c' <;> first | exact h2 | omega) rfl)
   (EG_scN (N := 18) (show 16 < 18 by omega) (by kernel_rfl)) (by kernel_rfl) (by kernel_rfl) h
   (fun o ho => by
     rcases List.mem_append.1 ho with h1 | h1
     · exact EG_nm (by kernel_rfl) o h1
     · rw [List.mem_singleton.1 h1]; rfl)
   (fun o ho => by rw [List.mem_singleton.1 ho]; rfl) (by kernel_rfl)
   (fun o ho => by
     rcases List.mem_append.1 ho with h1 | h1
     · have h2 := List.mem_map_of_mem (f := omap (nameL [0,1,2,3,4,5,6,7,8,9,10,11,12,13,14,15,18,20] 18 21)) h1
       unfold EGL at h2
       rw [hF] at h2
       exact EG_scN (N := 22) (show 21 < 22 by omega) (by kernel_rfl) _ h2
     · rw [List.mem_singleton.1 h1]; rfl) (by kernel_rfl)).1
 refine this.mono fun v H' hh => ⟨hh.1,?_⟩
 rw [hh.2]
 show setG _ _ _ (List.map (omap (nameL [0,1,2,3,4,5,6,7,8,9,10,11,12,13,14,15,18,20] 18 21)) (EG b n c f l m2 lnF .gone .ready S.no 18 S.st)) ++ _ = _
 rw [hF]
 kernel_rfl
theorem g0Cc_ok (b : Int) (n c f : Nat) (l : List Int) (κ : Nat) (hl : l.length = n * 2) (hn : n≤10) (hr : rngP b n l) : CcOk Try.prog (g0Cc b n c f l κ) := by
 have h : ∀ (m2 : List Int) (f1 t1 : Nat) (no : Bool) (st : Nat→Int),Begun n f1 t1 m2→f1 + (n - t1) + 1 = κ→(no = true→st = empI)→GrowAt b n c f l m2 no st (fdR b n l no st (rds n (κ - 1) f1 t1 m2)) f1 t1 := fun m2 f1 t1 no st h1 h2 h3 => grow_ok b n c f l hl hn hr (κ - 1) f1 t1 m2 no st h1 (by omega) h3
 intro fn args H T hT Q hQ
 unfold g0Cc at hT
 split at hT <;> try (cases hT; done)
 rename_i hf
 obtain rfl := Nat.eq_of_beq_eq_true hf
 split at hT
 · cases hT
   obtain ⟨m2,f1,t1,no,st,o16,hO,hq⟩ := hQ
   obtain ⟨rfl,rfl,h1,h2,h3⟩ := hO.out
   exact (g0_site1 (h m2 f1 t1 no st h1 h2 h3)).mono fun v H' ⟨e1,e2⟩ => by subst e1; subst e2; exact hq
 · split at hT <;> cases hT
   obtain ⟨m2,f1,t1,no,st,o16,o17,o19,hO,hq⟩ := hQ
   obtain ⟨rfl,rfl,h1,h2,h3⟩ := hO.out
   exact (g0_site2 (h m2 f1 t1 no st h1 h2 h3)).mono fun v H' ⟨e1,e2⟩ => by subst e1; subst e2; exact hq
def σh (k b : Nat) : Nat := if b = 16 then k else b
theorem EHL_map {σ : Nat→Nat} {b : Int} {n c f k : Nat} {l : List Int} {no : Bool} {st : Nat→Int} (h : (EGr b n c f lnF .gone .ready).map (omap σ) = EGr b n c f lnF .gone .ready) :
   (EHL b n c f l no k st).map (omap σ) = EHL b n c f l no (σ k) st := by
 have := EG_map (σ := σ) (b := b) (n := n) (c := c) (f := f) (k := k) (l := l) (m := []) (no := no) (st := st) h
 have h2 := congrArg (List.take 16) this
 exact h2
theorem EHL_sc {b : Int} {n c f k N : Nat} {l : List Int} {no : Bool} {st : Nat→Int} (hk : k < N) (h : (EGr b n c f lnF .gone .ready).all (AObj.sc N) = true) : ∀ o ∈ EHL b n c f l no k st,o.sc N = true := fun o ho =>
 EG_scN (l := l) (m := []) (no := no) (st := st) hk h o (List.mem_append_left _ ho)
theorem EHL_len {b : Int} {n c f k : Nat} {l : List Int} {no : Bool} {st : Nat→Int} : (EHL b n c f l no k st).length = 16 := rfl
theorem YR0_anew {b : Int} {n c f : Nat} {l : List Int} {s : LS} {v : Value} {H' : Heap} (h : YR0 b n c f l s v H') :
   ∃ σ v2 H2,Anew 16 σ H' H2∧v = nmap σ v2∧sc H2.length v2 = true∧(v2 = .bool true∧H2 = EHL b n c f l s.no 16 s.st ++ [.gone]) := by
 obtain ⟨rfl,k,he,hk⟩ := h
 have hm := EHL_map (σ := σh k) (b := b) (n := n) (c := c) (f := f) (k := 16) (l := l) (no := s.no) (st := s.st) (by kernel_rfl)
 have hl : (EHL b n c f l s.no 16 s.st ++ [AObj.gone]).length = 17 := rfl
 have g16 : (EHL b n c f l s.no 16 s.st ++ [AObj.gone])[16]? = some .gone := rfl
 refine ⟨σh k,.bool true,_,⟨?_,fun b' hb => ?_,fun b' o hb => ?_,fun b1 b2 o h1 h2 h3 h4 h5 h6 => ?_,fun b' o hb => ?_⟩,rfl,rfl,rfl,rfl⟩
 · rw [hl]; omega
 · unfold σh; rw [if_neg (by omega)]
 · rcases Nat.lt_or_ge b' 16 with h1 | h1
   · right
     rw [List.getElem?_append_left (by rw [EHL_len]; exact h1)] at hb
     rw [he,show σh k b' = b' by unfold σh; rw [if_neg (by omega)],List.getElem?_append_left (by rw [EHL_len]; exact h1),show k = σh k 16 from rfl,← hm,List.getElem?_map,hb]
     rfl
   · left
     have h2 := (List.getElem?_eq_some_iff.1 hb).1
     rw [hl] at h2
     obtain rfl : b' = 16 := by omega
     rw [g16] at hb
     exact (Option.some.inj hb).symm
 · rw [hl] at h1 h2
   have n1 : b1 ≠ 16 := fun e => by subst e; rw [g16] at h3; cases h3; exact h4 rfl
   have n2 : b2 ≠ 16 := fun e => by
     subst e
     rcases h5 with h5 | h5
     · exact h5 g16
     · omega
   unfold σh at h6
   rw [if_neg n1,if_neg n2] at h6
   exact h6
 · rw [hl]
   rcases List.mem_append.1 (List.mem_of_getElem? hb) with h1 | h1
   · exact EHL_sc (show 16 < 17 by omega) (by kernel_rfl) o h1
   · rw [List.mem_singleton.1 h1]; rfl
theorem grow0_ok (b : Int) (n c f : Nat) (l : List Int) (hl : l.length = n * 2) (hn : n≤10) (hr : rngP b n l) (no : Bool) (st : Nat→Int) (κ g : Nat) (hn1 : 1≤n) (hg : g≤n) (hk : g + (n - g) = κ) (hs : no = true→st = empI) :
   Call Try.prog 134 [ptr0 1,nilS,vi g,vi g,yv 15] (EHL b n c f l no 16 st) fun v H' => v = .bool true∧H' = EHL b n c f l (fdR b n l no st (rds n κ g g [])).no 16 (fdR b n l no st (rds n κ g g [])).st ++ [.gone] := by
 have hv := g0V_ok b n c f l no st κ g hn hn1 hg hk hs
 rw [g0V_eq] at hv
 have hE : VOk Try.prog (g0E b n c f l κ) := ⟨CtOk.none,g0Cc_ok b n c f l κ hl hn hr,E0_ok.yc,orcOr_ok orcLim_ok prE1_ok.orc⟩
 refine Call.anew (Call.mono (Call.ofVc (H := EHL b n c f l no 16 st) (args := [ptr0 1,nilS,vi g,vi g,yv 15]) hE mixed (c := grB) (inv := fun _ => none) (R := YR0 b n c f l (fdR b n l no st (rds n κ g g []))) Try.func134 (by kernel_rfl) (cast (by kernel_rfl) hv)) fun v H' hy => ?_)
 exact YR0_anew hy
end Go.Pier.Rd
namespace Go.Pier
open Go
variable {P : Program}
theorem undl {t : TypeId} {d : TypeDesc} (h : P.underlying t = some d) : pureRun P (Go.underlying t) = some d := by
 show pureRun P (match P.underlying t with | some d => (Sem.pure d : Sem TypeDesc) | none => stuck "no such type") = _
 rw [h]; rfl
theorem eqNum {t : TypeId} {k : IntKind} (d : Nat) (h : P.underlying t = some (.int k)) (a b : Int) : pureRun P (Op.equalIn (d + 1) t (.int k a) (.int k b)) = some (a == b) := by
 unfold Op.equalIn
 rw [pureRun_bind (undl h)]
 simp
 rfl
theorem loop_all {α : Type} {f : α→Option Bool × Unit→Sem (ForInStep (Option Bool × Unit))} {e : α→Bool} : ∀ (l : List α),(∀ i ∈ l,∀ s,pureRun P (f i s) = some (if e i = true then .yield (none,()) else .done (some false,()))) →
   pureRun P (forIn l ((none,()) : Option Bool × Unit) f) = some (if l.all e = true then (none,()) else (some false,()))
 | [],_ => rfl
 | a :: l,h => by
   rw [List.forIn_cons,pureRun_bind (h a List.mem_cons_self _)]
   cases he : e a with
   | true =>
     simp only [if_true,List.all_cons,he,Bool.true_and]
     exact loop_all l fun i hi s => h i (List.mem_cons_of_mem _ hi) s
   | false => simp [he]; rfl
structure TwoNums (P : Program) (t : TypeId) (g0 g1 : Field) : Prop where
 ud : ∃ fs,P.underlying t = some (.struct fs)∧fs.toList = [g0,g1]
 st : P.stoodInHeld t = false
 n0 : g0.name ≠ "_"
 n1 : g1.name ≠ "_"
 o0 : (g0.offset == 0) = true
 o1 : (g1.offset == 0) = false
 t0 : P.underlying g0.type = some (.int .i64)
 t1 : P.underlying g1.type = some (.int .i64)
 p0 : ∀ a b : Int,pureRun P (part g0.type #[vi a,vi b] g0.offset) = some (vi a)
 p1 : ∀ a b : Int,pureRun P (part g1.type #[vi a,vi b] g1.offset) = some (vi b)
 gd : P.eqGuardType P.depth t = false
theorem TwoNums.eq {t : TypeId} {g0 g1 : Field} (T : TwoNums P t g0 g1) (d : Nat) (a b x y : Int) : pureRun P (Op.equalIn (d + 2) t (.agg #[vi a,vi b]) (.agg #[vi x,vi y])) = some ((a == x) && (b == y)) := by
 obtain ⟨fs,hu,hl⟩ := T.ud
 unfold Op.equalIn
 rw [pureRun_bind (undl hu)]
 simp only []
 rw [pureRun_bind (show pureRun P program = some P from rfl)]
 rw [if_neg (show ¬ Program.stoodInHeld P t = true by rw [T.st]; exact Bool.false_ne_true)]
 rw [← Array.forIn_toList,hl]
 rw [pureRun_bind (loop_all (e := fun f : Field => if (f.offset == 0) = true then a == x else b == y) _ fun f hf s => ?_)]
 · simp only [List.all_cons,List.all_nil,T.o0,T.o1,if_true,Bool.false_eq_true,if_false,Bool.and_true]
   cases (a == x) <;> cases (b == y) <;> rfl
 · rcases List.mem_cons.1 hf with rfl | hf
   · rw [if_pos T.n0,pureRun_bind (T.p0 a b),pureRun_bind (T.p0 x y),pureRun_bind (eqNum _ T.t0 _ _),T.o0]
     simp only [if_true]
     cases (a == x) <;> rfl
   · rw [List.mem_singleton.1 hf]
     rw [if_pos T.n1,pureRun_bind (T.p1 a b),pureRun_bind (T.p1 x y),pureRun_bind (eqNum _ T.t1 _ _),T.o1]
     simp only [Bool.false_eq_true,if_false]
     cases (b == y) <;> rfl
end Go.Pier
namespace Go.Pier.Rd
open Go Go.Pier Go.Proofs
theorem u89 : Try.prog.underlying 89 = some (.array 10 2) := by kernel_rfl
theorem u2 : Try.prog.underlying 2 = some (.int .i64) := by kernel_rfl
theorem part10 {x : Nat→Int} {i : Nat} (h : i < 10) : pureRun Try.prog (part 2 (I10 x []).toArray (i * 1)) = some (vi (x i)) := by
 rcases i with _ | _ | _ | _ | _ | _ | _ | _ | _ | _ | i
 · kernel_rfl
 · kernel_rfl
 · kernel_rfl
 · kernel_rfl
 · kernel_rfl
 · kernel_rfl
 · kernel_rfl
 · kernel_rfl
 · kernel_rfl
 · kernel_rfl
 · omega
theorem eqArr10 (d : Nat) (x y : Nat→Int) : pureRun Try.prog (Op.equalIn (d + 2) 89 (.agg (I10 x []).toArray) (.agg (I10 y []).toArray)) = some ((List.range' 0 10).all fun i => x i == y i) := by
 unfold Op.equalIn
 rw [pureRun_bind (undl u89)]
 simp only []
 rw [pureRun_bind (show pureRun Try.prog (sizeOf 2) = some 1 by kernel_rfl)]
 simp only [Std.Legacy.Range.forIn_eq_forIn_range']
 rw [pureRun_bind (loop_all (e := fun i => x i == y i) _ fun i hi s => ?_)]
 · have e8 : List.range' 0 ([:10] : Std.Legacy.Range).size = List.range' 0 10 := rfl
   rw [e8]
   cases (List.range' 0 10).all fun i => x i == y i <;> rfl
 · have hi8 : i < 10 := by
     have : i ∈ List.range' 0 10 := hi
     simp [List.mem_range'] at this
     omega
   rw [pureRun_bind (part10 hi8),pureRun_bind (part10 hi8),pureRun_bind (eqNum _ u2 _ _)]
   cases x i == y i <;> rfl
def eq10 (x y : Nat→Int) : Bool := (List.range' 0 10).all fun i => x i == y i
theorem eq10_true {x y : Nat→Int} (h : ∀ i,i < 10→x i = y i) : eq10 x y = true := List.all_eq_true.2 fun i hi => by
 simp [List.mem_range'] at hi
 rw [h i (by omega)]; exact beq_self_eq_true _
theorem eq10_false {x y : Nat→Int} {i : Nat} (hi : i < 10) (h : x i ≠ y i) : eq10 x y = false := by
 cases e : eq10 x y with
 | false => rfl
 | true =>
   have := List.all_eq_true.1 e i (by simp [List.mem_range']; omega)
   exact absurd (eq_of_beq this) h
def orcA10 : Orc := fun env H o => match o.op with
 | .binOp op t x y _ => match Nat.beq t 89 with
   | true => match env x,env y with
     | some (.agg ⟨[.int .i64 a0,.int .i64 a1,.int .i64 a2,.int .i64 a3,.int .i64 a4,.int .i64 a5,.int .i64 a6,.int .i64 a7,.int .i64 a8,.int .i64 a9]⟩),some (.agg ⟨[.int .i64 b0,.int .i64 b1,.int .i64 b2,.int .i64 b3,.int .i64 b4,.int .i64 b5,.int .i64 b6,.int .i64 b7,.int .i64 b8,.int .i64 b9]⟩) => match op with
       | .eql => some (True,some (.bool (eq10 (l10 a0 a1 a2 a3 a4 a5 a6 a7 a8 a9) (l10 b0 b1 b2 b3 b4 b5 b6 b7 b8 b9))),H)
       | _ => none
     | _,_ => none
   | false => none
 | _ => none
theorem orcA10_ok : OrcOk Try.prog orcA10 := fun env H o φ v H' h hφ => by
 unfold orcA10 at h
 split at h <;> try (cases h; done)
 rename_i op t x y yt hop
 split at h <;> try (cases h; done)
 rename_i ht
 obtain rfl := Nat.eq_of_beq_eq_true ht
 split at h <;> try (cases h; done)
 rename_i a0 a1 a2 a3 a4 a5 a6 a7 a8 a9 b0 b1 b2 b3 b4 b5 b6 b7 b8 b9 ha hb
 have hsc : ∀ a : Nat→Int,sc 0 (.agg (I10 a []).toArray) = true := fun a => by
   show (I10 a []).toArray.all (sc1 0) = true
   rw [← Array.all_toList]; rfl
 have hg : pureRun Try.prog (eqGuard .eql 89 x y (.agg (I10 (l10 a0 a1 a2 a3 a4 a5 a6 a7 a8 a9) []).toArray) (.agg (I10 (l10 b0 b1 b2 b3 b4 b5 b6 b7 b8 b9) []).toArray)) = some () := by
   have hp : pureRun Try.prog program = some Try.prog := rfl
   have hgd : Try.prog.eqGuardType Try.prog.depth 89 = false := by kernel_rfl
   unfold eqGuard
   simp only [Bool.not_true,Bool.false_eq_true,if_false]
   rw [pureRun_bind hp,pureRun_bind hp,hgd]
   rfl
 split at h <;> cases h
 unfold evOp
 rw [hop]
 simp only [ha,hb]
 have : evBin Try.prog .eql 89 x y (.agg (I10 (l10 a0 a1 a2 a3 a4 a5 a6 a7 a8 a9) []).toArray) (.agg (I10 (l10 b0 b1 b2 b3 b4 b5 b6 b7 b8 b9) []).toArray) = some (.bool (eq10 (l10 a0 a1 a2 a3 a4 a5 a6 a7 a8 a9) (l10 b0 b1 b2 b3 b4 b5 b6 b7 b8 b9))) := by
   unfold evBin
   rw [if_pos ⟨hsc _,hsc _⟩,pureRun_bind hg]
   have : pureRun Try.prog (binOp .eql 89 (.agg (I10 (l10 a0 a1 a2 a3 a4 a5 a6 a7 a8 a9) []).toArray) (.agg (I10 (l10 b0 b1 b2 b3 b4 b5 b6 b7 b8 b9) []).toArray)) = some (.bool (eq10 (l10 a0 a1 a2 a3 a4 a5 a6 a7 a8 a9) (l10 b0 b1 b2 b3 b4 b5 b6 b7 b8 b9))) := by
     show pureRun Try.prog (Op.equalIn (9998 + 2) 89 _ _ >>= fun r => (pure (Value.bool r) : Sem Value)) = _
     rw [pureRun_bind (eqArr10 9998 _ _)]; rfl
   rw [this]; rfl
 have e : (outOf (some (Value.bool (eq10 (l10 a0 a1 a2 a3 a4 a5 a6 a7 a8 a9) (l10 b0 b1 b2 b3 b4 b5 b6 b7 b8 b9))))) = .value (.bool (eq10 (l10 a0 a1 a2 a3 a4 a5 a6 a7 a8 a9) (l10 b0 b1 b2 b3 b4 b5 b6 b7 b8 b9))) := rfl
 show Option.map _ (evBin Try.prog .eql 89 x y (.agg (I10 (l10 a0 a1 a2 a3 a4 a5 a6 a7 a8 a9) []).toArray) (.agg (I10 (l10 b0 b1 b2 b3 b4 b5 b6 b7 b8 b9) []).toArray)) = _
 rw [this]; rfl
end Go.Pier.Rd
