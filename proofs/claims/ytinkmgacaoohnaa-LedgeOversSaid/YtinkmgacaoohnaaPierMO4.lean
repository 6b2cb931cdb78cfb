import Derived.Test.YtinkmgacaoohnaaPierMO2
import Derived.KernelRfl
set_option linter.unusedSimpArgs false
set_option linter.unusedVariables false
set_option maxRecDepth 100000
set_option linter.unusedVariables false
set_option linter.unusedSimpArgs false
namespace Go.Pier.Lg
open Go Go.Pier Go.Proofs
def endAt (n : Nat) (tk : Nat→Bool) (d : Nat) : Nat := d + farM false n tk d
theorem endAt_spec {n : Nat} {tk : Nat→Bool} {d : Nat} (hd : d≤n) : d≤endAt n tk d∧endAt n tk d≤n∧(∀ i,d≤i→i < endAt n tk d→tk i = true)∧(endAt n tk d < n→tk (endAt n tk d) = false) := by
 obtain ⟨_,h2,h3,h4⟩ := ffB_spec (fun j => tk (posM false n d j)) (cntM false n d) 0
 have e : endAt n tk d = d + ffB (fun j => tk (posM false n d j)) (cntM false n d) 0 := rfl
 have hc : cntM false n d = n - d := rfl
 refine ⟨by omega,by omega,fun i h5 h6 => ?_,fun h5 => ?_⟩
 · have := h3 (i - d) (Nat.zero_le _) (by omega)
   rw [show posM false n d (i - d) = i by show d + (i - d) = i; omega] at this
   exact this
 · rw [e]; exact h4 (by omega)
def core (s : PS) : (Nat→Bool) × Int × Int := (s.tk,s.slid,s.fell)
def stepC (n : Nat) (s : (Nat→Bool) × Int × Int) (d : Nat) : (Nat→Bool) × Int × Int :=
 if endAt n s.1 d < n then (updB s.1 (endAt n s.1 d),s.2.1 + (endAt n s.1 d - d : Int),s.2.2) else (s.1,s.2.1 + (endAt n s.1 d - d : Int),s.2.2 + 1)
theorem core_step {n : Nat} {s : PS} {d : Int} (hd : 0≤d∧d < n) : core (stepP false n s d) = stepC n (core s) d.toNat := by
 obtain ⟨a,rfl⟩ := Int.eq_ofNat_of_zero_le hd.1
 have ha : a < n := by omega
 have h := endAt_spec (tk := s.tk) (show a≤n by omega)
 have e : endAt n s.tk a = a + farM false n s.tk a := rfl
 have hc : cntM false n (Int.toNat (a : Int)) = n - a := rfl
 unfold stepP stepC core
 rw [Int.toNat_natCast] at *
 by_cases hf : farM false n s.tk a < cntM false n a
 · rw [if_pos hf,if_pos (show endAt n s.tk a < n by omega)]
   simp only [Prod.mk.injEq,and_true]
   refine ⟨rfl,?_⟩
   rw [e]; push_cast; omega
 · rw [if_neg hf,if_neg (show ¬ endAt n s.tk a < n by omega)]
   simp only [Prod.mk.injEq,and_true,true_and]
   omega
theorem updB_ne {tk : Nat→Bool} {a i : Nat} (h : i ≠ a) : updB tk a i = tk i := by
 rw [Bool.eq_iff_iff,updB_at]
 exact ⟨fun k => k.resolve_left h,.inr⟩
theorem updB_self {tk : Nat→Bool} {a : Nat} : updB tk a a = true := updB_at.2 (.inl rfl)
theorem core_run {n : Nat} : ∀ {l : List Int} {s : PS},(∀ x ∈ l,0≤x∧x < (n : Int))→core (l.foldl (stepP false n) s) = l.foldl (fun t d => stepC n t d.toNat) (core s)
 | [],_,_ => rfl
 | x :: l,s,h => by
   rw [List.foldl_cons,List.foldl_cons,core_run fun y hy => h y (List.mem_cons_of_mem _ hy),core_step (h x List.mem_cons_self)]
end Go.Pier.Lg
set_option maxRecDepth 100000
set_option linter.unusedVariables false
set_option linter.unusedSimpArgs false
namespace Go.Pier.Lg
open Go Go.Pier Go.Proofs
end Go.Pier.Lg
set_option maxRecDepth 100000
set_option linter.unusedVariables false
set_option linter.unusedSimpArgs false
namespace Go.Pier.Lg
open Go Go.Pier Go.Proofs
noncomputable def hasB : Code := Try.f45.body.getD .skip
def hasI (l : List Int) (n : Int) (c : Nat) : Nat→Option LInv := invOf 0 (LInv.one Nat (fun i => i≤l.length∧∀ j,j < i→l.getD j 0 ≠ n) (fun i => [(0,.slice (some ⟨0,0,none⟩) l.length c),(1,vi n),(4,.bool false),(5,vi i)]) (fun _ => [.ro (l.map (.int .i64))]) (fun i => l.length - i))
def hasNI (n : Int) : Nat→Option LInv := invOf 0 (LInv.one Unit (fun _ => True) (fun _ => [(0,.slice none 0 0),(1,vi n),(4,.bool false),(5,vi 0)]) (fun _ => []) (fun _ => 0))
noncomputable def hasV :=
fun (l:List Int) (n:Int) (c:Nat)↦(∃ (y:Nat),Ob (y≤l.length∧∀ (j:Nat),j<y→l.getD j (0:Int)≠n)∧(Ob (AObj.ro (List.map (Value.int IntKind.i64) l)=AObj.ro (List.map (nmap1 fun (b:Nat)↦b) (List.map (Value.int IntKind.i64) l))∧AObj.sc 1 (AObj.ro (List.map (Value.int IntKind.i64) l))=true)∧True)∧Ob (Value.slice (some (ad0 0)) l.length c=Value.slice (some (ad0 0)) l.length c)∧Ob (n=n)∧Ob (false=false)∧Ob ((0:Int)=(y:Int))∧True)∧∀ (x:Nat),Ob (x≤l.length∧∀ (j:Nat),j<x→l.getD j (0:Int)≠n)→(decide ((x:Int)<(l.length:Int))=true→Ob ((0:Int)≤(x:Int)∧(x:Int)<(l.length:Int)∧true=true)∧Ob (IntAt IntKind.i64 (List.map (Value.int IntKind.i64) l) (0+(x:Int).toNat * 1))∧((getI (List.map (Value.int IntKind.i64) l) (0+(x:Int).toNat * 1)==n)=true→True∧Ob (Value.bool true=Value.bool (decide (n∈l))∧[AObj.ro (List.map (Value.int IntKind.i64) l)]=[AObj.ro (List.map (Value.int IntKind.i64) l)]))∧((getI (List.map (Value.int IntKind.i64) l) (0+(x:Int).toNat * 1)==n)=false→∃ (y:Nat),Ob (y≤l.length∧∀ (j:Nat),j<y→l.getD j (0:Int)≠n)∧Ob (l.length-y<l.length-x)∧(Ob (AObj.ro (List.map (Value.int IntKind.i64) l)=AObj.ro (List.map (nmap1 fun (b:Nat)↦b) (List.map (Value.int IntKind.i64) l))∧AObj.sc 1 (AObj.ro (List.map (Value.int IntKind.i64) l))=true)∧True)∧Ob (Value.slice (some (ad0 0)) l.length c=Value.slice (some (ad0 0)) l.length c)∧Ob (n=n)∧Ob (false=false)∧Ob (IntKind.i64.wrap ((x:Int)+(1:Int))=(y:Int))∧True))∧(decide ((x:Int)<(l.length:Int))=false→True∧Ob (Value.bool false=Value.bool (decide (n∈l))∧[AObj.ro (List.map (Value.int IntKind.i64) l)]=[AObj.ro (List.map (Value.int IntKind.i64) l)]))
theorem hasV_eq : hasV = fun (l : List Int) (n : Int) (c : Nat) => vc Try.prog {} 1 18 true (hasI l n c) hasB [] (argFr 0 [.slice (some ⟨0,0,none⟩) l.length c,vi n]) [.ro (l.map (.int .i64))] (retK Try.prog Try.f45 (fun v H1 => v = .bool (decide (n ∈ l))∧H1 = [.ro (l.map (.int .i64))])) := by kernel_rfl
noncomputable def hasN :=
fun (n:Int)↦(∃ (y:Unit),Ob True∧True∧Ob (Value.slice none 0 0=Value.slice none 0 0)∧Ob (n=n)∧Ob (false=false)∧Ob ((0:Int)=(0:Int))∧True)∧∀ (x:Unit),Ob True→(false=true→False)∧(false=false→True∧Ob (Value.bool false=Value.bool false))
theorem hasN_eq : hasN = fun (n : Int) => vc Try.prog {} 0 18 true (hasNI n) hasB [] (argFr 0 [.slice none 0 0,vi n]) [] (retK Try.prog Try.f45 (fun v _ => v = .bool false)) := by kernel_rfl
theorem getD_memR {l : List Int} {i : Nat} (h : i < l.length) : l.getD i 0 ∈ l := by
 rw [List.getD_eq_getElem?_getD,List.getElem?_eq_getElem h]; exact List.getElem_mem h
theorem hasV_ok (l : List Int) (n : Int) (c : Nat) (hl : l.length < 1000000) : hasV l n c := by
 unfold hasV
 simp only [ob_iff,map_nmap_int,sc_ro_int,getI_map,intAt_map,true_and,and_true,eq_self,Int.toNat_natCast,Nat.zero_add,Nat.mul_one,beq_iff_eq,beq_eq_false_iff_ne,decide_eq_true_eq,decide_eq_false_iff_not,Value.bool.injEq]
 refine ⟨⟨0,⟨by omega,fun j hj => by omega⟩,rfl⟩,fun x ⟨hx,hn⟩ => ⟨fun hlt => ⟨by omega,by omega,fun he => ?_,fun he => ⟨x + 1,⟨by omega,fun j hj => ?_⟩,by omega,?_⟩⟩,fun hge => ?_⟩⟩
 · have := getD_memR (l := l) (i := x) (by omega)
   rw [he] at this
   simp [this]
 · by_cases h : j = x
   · subst h; exact he
   · exact hn j (by omega)
 · rw [wrap_in (by omega) (by omega)]; rfl
 · symm
   rw [decide_eq_false_iff_not]
   intro hm
   obtain ⟨j,h1,h2⟩ := List.getElem_of_mem hm
   refine hn j (by omega) ?_
   rw [List.getD_eq_getElem?_getD,List.getElem?_eq_getElem h1]; exact h2
theorem has_call (l : List Int) (n : Int) (c : Nat) (hl : l.length < 1000000) : Call Try.prog 45 [.slice (some ⟨0,0,none⟩) l.length c,vi n] [.ro (l.map (.int .i64))] fun v H1 => v = .bool (decide (n ∈ l))∧H1 = [.ro (l.map (.int .i64))] :=
 Call.ofVc (VOk.ofCt CtOk.none) mixed (c := hasB) (inv := hasI l n c) Try.func45 (by kernel_rfl) (cast (congrFun (congrFun (congrFun hasV_eq l) n) c) (hasV_ok l n c hl))
theorem hasN_ok (n : Int) : hasN n := by
 unfold hasN
 simp only [ob_iff,true_and,and_true,exists_const,Bool.false_eq_true,false_implies,forall_const]
theorem has_nil (n : Int) : Call Try.prog 45 [.slice none 0 0,vi n] [] fun v _ => v = .bool false :=
 Call.ofVc (VOk.ofCt CtOk.none) mixed (c := hasB) (inv := hasNI n) Try.func45 (by kernel_rfl) (cast (congrFun hasN_eq n) (hasN_ok n))
def hasG : List Value→Heap→Option (Option Prop × Value × Heap × List Nat) := fun args H => match args with
 | [.slice none 0 0,.int .i64 n] => some (none,.bool false,H,[])
 | [s,.int .i64 n] => match sliceInts .i64 H s with
   | some (φ,l) => some (some (φ∧l.length < 1000000),.bool (decide (n ∈ l)),H,[])
   | none => none
 | _ => none
theorem hasG_ok : ∀ args H φ v H' l,hasG args H = some (φ,v,H',l)→Asks φ→Call Try.prog 45 args H (fun v' H2 => v' = v∧H2 = H')∧Kept H H' l := by
 intro args H φ v H' l h hφ
 unfold hasG at h
 split at h
 · cases h
   refine ⟨?_,Kept.refl _ _⟩
   exact Call.ofArgs («as» := [.plain (.slice none 0 0),.plain (vi _)]) (fun caps => has_nil _) rfl ⟨rfl,rfl,rfl,rfl,trivial⟩
 · split at h <;> simp only [Option.some.injEq,Prod.mk.injEq,reduceCtorEq] at h
   rename_i s n _ _ ψ m hs
   obtain ⟨rfl,rfl,rfl,rfl⟩ := h
   refine ⟨?_,Kept.refl _ _⟩
   exact Call.ofArgs («as» := [.ints .i64 m,.plain (vi n)]) (fun caps => (has_call m n _ hφ.2).mono fun v H h => h.1) rfl ⟨⟨ψ,hs,hφ.1⟩,rfl,rfl,trivial⟩
 · cases h
end Go.Pier.Lg
set_option maxRecDepth 100000
set_option linter.unusedVariables false
set_option linter.unusedSimpArgs false
namespace Go.Pier.Lg
open Go Go.Pier Go.Proofs
end Go.Pier.Lg
set_option maxRecDepth 100000
set_option linter.unusedVariables false
set_option linter.unusedSimpArgs false
namespace Go.Pier.Lg
open Go Go.Pier Go.Proofs
end Go.Pier.Lg
namespace Go.Pier
open Go
variable {P : Program} {H : Heap} {f : FuncId}
def Arg.two : Arg→Arg2
 | .plain v => .val v
 | .ints k l => .ints k l
 | .hole s => .hole s
theorem canonA_two (caps : Nat→Nat) : ∀ (i : Nat) (r : List Arg),canonA2 caps i (r.map Arg.two) = canonA caps i r
 | _,[] => rfl
 | i,.plain v :: r => by rw [List.map_cons,Arg.two,canonA2,canonA,canonA_two caps i r]
 | i,.ints k l :: r => by rw [List.map_cons,Arg.two,canonA2,canonA,canonA_two caps (i + 1) r]
 | i,.hole s :: r => by rw [List.map_cons,Arg.two,canonA2,canonA,canonA_two caps (i + 1) r]
theorem canonH_two : ∀ (r : List Arg),canonH2 (r.map Arg.two) = canonH r
 | [] => rfl
 | .plain v :: r => by rw [List.map_cons,Arg.two,canonH2,canonH,canonH_two r]
 | .ints k l :: r => by rw [List.map_cons,Arg.two,canonH2,canonH,canonH_two r]
 | .hole s :: r => by rw [List.map_cons,Arg.two,canonH2,canonH,canonH_two r]
theorem nmap0_closed {σ : Nat→Nat} {v : Value} (h : sc0 0 v = true) : nmap0 σ v = v := by
 unfold sc0 at h
 split at h <;> simp_all [nmap0]
theorem nmapA_closed {σ : Nat→Nat} {v : Value} (h : scA 0 v = true) : nmapA σ v = v := by
 simp only [scA,Bool.or_eq_true] at h
 rcases h with h | h
 · have : nmapA σ v = nmap0 σ v := by cases v <;> first | rfl | (simp [sc0] at h)
   rw [this,nmap0_closed h]
 · cases v <;> simp only [aggAll,Bool.false_eq_true] at h
   simp only [nmapA]
   rw [map_id_all (fun _ => nmap0_closed) _ h]
theorem nmap1_closed {σ : Nat→Nat} {v : Value} (h : sc1 0 v = true) : nmap1 σ v = v := by
 unfold sc1 at h
 split at h
 · simp only [Bool.and_eq_true] at h
   simp only [nmap1,nmapFn]
   rw [map_id_all (fun _ => nmapA_closed) _ h.1,map_id_all (fun _ => nmap0_closed) _ h.2]
 · simp at h
 · have : nmap1 σ v = nmap0 σ v := by cases v <;> first | rfl | (simp [sc0] at h)
   rw [this,nmap0_closed h]
theorem nmap2_closed {σ : Nat→Nat} {v : Value} (h : sc2 0 v = true) : nmap2 σ v = v := by
 unfold sc2 at h
 split at h
 · simp only [nmap2]; rw [map_id_all (fun _ => nmap1_closed) _ h]
 · have : nmap2 σ v = nmap1 σ v := by cases v <;> first | rfl | (simp [sc1,sc0] at h) | (rename_i h1 _; exact absurd rfl (h1 _))
   rw [this,nmap1_closed h]
theorem nmap_closed {σ : Nat→Nat} {v : Value} (h : sc 0 v = true) : nmap σ v = v := by
 unfold sc at h
 split at h
 · simp only [nmap]; rw [map_id_all (fun _ => nmap2_closed) _ h]
 · have : nmap σ v = nmap2 σ v := by cases v <;> first | rfl | (simp [sc2,sc1,sc0] at h) | (rename_i h1; exact absurd rfl (h1 _))
   rw [this,nmap2_closed h]
theorem read_two {B : List Nat} (hB : B = []) {σ : Nat→Nat} : ∀ {r : List Arg} {vs : List Value},ReadA H r vs→ReadA2 H σ B 0 (r.map Arg.two) vs
 | [],[],_ => trivial
 | .plain u :: r,v :: vs,h => ⟨by rw [h.1,nmap_closed h.2.1],by rw [h.1]; exact h.2.1,read_two hB h.2.2⟩
 | .ints k l :: r,v :: vs,h => ⟨h.1,fun b _ hm => (by rw [hB] at hm; cases hm),read_two hB h.2⟩
 | .hole s :: r,v :: vs,h => ⟨h.1,read_two hB h.2⟩
structure Fresh where
 ask : Prop
 val : Nat→Value
 new : Nat→Heap
structure Fresh.Good (s : Fresh) : Prop where
 val : ∀ e n,nmap (fun c => n + (c - e)) (s.val e) = s.val n
 new : ∀ e n,(s.new e).map (omap fun c => n + (c - e)) = s.new n
 ro : ∀ n,∀ o ∈ s.new n,o.isRo = false
 nmv : ∀ n,nm (fun d => decide (n≤d)) (s.val n) = true
 nmn : ∀ n,∀ o ∈ s.new n,o.nm (fun d => decide (n≤d)) = true
 scv : ∀ n,sc (n + (s.new n).length) (s.val n) = true
 scn : ∀ n,∀ o ∈ s.new n,o.sc (n + (s.new n).length) = true
theorem nm_weak {e : Nat} : (fun d => decide (d < 0) || decide (e≤d)) = fun d => decide (e≤d) := by
 funext d; simp
theorem nameL_nil {e n : Nat} : nameL [] e n = fun c => n + (c - e) := by
 funext c; unfold nameL; simp
theorem Fresh.call {s : Fresh} (g : s.Good) {r : List Arg} {args : List Value} (h4 : ∀ caps,Call P f (canonA caps 0 r) (canonH r) fun v H' => v = s.val (canonH r).length∧H' = canonH r ++ s.new (canonH r).length) (hR : ReadA H r args) :
   Call P f args H (fun v' H2 => v' = s.val H.length∧H2 = H ++ s.new H.length)∧Kept H (H ++ s.new H.length) [] := by
 refine ⟨?_,Kept.append _ _ _⟩
 have h5 : ∀ caps,Call P f (canonA2 caps 0 (r.map Arg.two)) ([] ++ canonH2 (r.map Arg.two)) fun v' F' => v' = s.val (canonH r).length∧F' = [] ++ canonH2 (r.map Arg.two) ++ s.new (canonH r).length := fun caps => by
   rw [canonA_two,canonH_two,List.nil_append]; exact h4 caps
 have := Call.frameL (P := P) (f := f) (H := H) (Et := []) (Ft := []) (N := s.new (canonH r).length) (L := []) (ags := r.map Arg.two) (vs := args) (v := s.val (canonH r).length) rfl rfl (by simp) (fun _ h => by cases h) (fun c o h => by simp at h) (fun _ h => by cases h)
   (read_two rfl hR) h5
   (by rw [List.nil_append,List.nil_append,canonH_two]; simp only [List.length_nil,nm_weak]; exact g.nmn _)
   (g.ro _)
   (by rw [List.nil_append,canonH_two]; simp only [List.length_nil,nm_weak]; exact g.nmv _)
   (by
     rw [List.nil_append,List.nil_append,canonH_two,nameL_nil]
     intro o ho
     have hm := List.mem_map_of_mem (f := omap fun c => H.length + (c - (canonH r).length)) ho
     rw [g.new] at hm
     have := g.scn H.length _ hm
     rw [show (s.new (canonH r).length).length = (s.new H.length).length by rw [← g.new (canonH r).length H.length,List.length_map]]
     exact this)
   (by
     rw [List.nil_append,canonH_two,nameL_nil,g.val]
     have := g.scv H.length
     rw [show (s.new (canonH r).length).length = (s.new H.length).length by rw [← g.new (canonH r).length H.length,List.length_map]]
     exact this)
 rw [List.nil_append,canonH_two,nameL_nil,g.val,g.new] at this
 exact this.1
def madeS (b n : Nat) : Value := .slice (some ⟨b,0,none⟩) n n
def aNothing (P : Program) (H : Heap) (tys : Array TypeId) (s x : Value) : Option (Prop × Value × Heap) :=
 match tys[0]?,tys[1]? with
 | some t0,some t1 => match P.underlying t0,P.underlying t1,s,x with
   | some (.slice elem),some (.slice _),.slice (some a) sLen sCap,.slice _ n _ => match a.spot,Nat.beq n 0 with
     | none,true => match P.info? elem,zeroT P elem with
       | some i,some z => some (sLen≤1099511627776∧(2 * sLen + 256) * i.bytes≤281474976710656∧z.cells.size = i.size∧sLen≤sCap,.slice (some a) sLen sCap,H)
       | _,_ => none
     | _,_ => none
   | _,_,_,_ => none
 | _,_ => none
theorem aNothing_ok {tys : Array TypeId} {s x v : Value} {φ : Prop} {H' : Heap} (h : aNothing P H tys s x = some (φ,v,H')) (hφ : φ) : aAppend P H tys s x = some (v,H') := by
 unfold aNothing at h
 split at h <;> try (cases h; done)
 rename_i t0 t1 h0 h1
 split at h <;> try (cases h; done)
 rename_i elem e1 a sLen sCap xb n xc hu0 hu1
 split at h <;> try (cases h; done)
 rename_i hs hn
 split at h <;> cases h
 rename_i i z hi hz
 obtain rfl := Nat.eq_of_beq_eq_true hn
 obtain ⟨k1,k2,k3,k4⟩ := hφ
 have hf : aFirst H i.size 0 (.slice xb 0 xc) = some [] := by
   unfold aFirst
   cases xb with
   | none => rfl
   | some b => simp only [Nat.zero_mul]
 unfold aAppend
 simp only [h0,h1,hu0,hu1,hi,hz,Option.bind_some,hf]
 rw [if_pos ⟨by omega,by simpa using k2,k3,by simp⟩]
 simp only [hs]
 rw [if_pos (by omega)]
 rfl
def orcAp0 (P : Program) : Orc := fun env H o => match o.op with
 | .call c => match c.callee with
   | .builtin .append => match envs env c.args.toList with
     | some [s,x] => match aNothing P H c.argTypes s x with
       | some (φ,v,H') => some (φ,some v,H')
       | none => none
     | _ => none
   | _ => none
 | _ => none
theorem orcAp0_ok : OrcOk P (orcAp0 P) := fun env H o φ v H' h hφ => by
 unfold orcAp0 at h
 split at h <;> try (cases h; done)
 rename_i c hop
 split at h <;> try (cases h; done)
 rename_i hcal
 split at h <;> try (cases h; done)
 rename_i s x hargs
 split at h <;> cases h
 rename_i v hr
 unfold evOp
 rw [hop]
 simp only [evCall,hargs,Option.bind_some,hcal,evBuiltin,aNothing_ok hr hφ,Option.map_some,outOf]
end Go.Pier
set_option maxRecDepth 100000
set_option linter.unusedVariables false
set_option linter.unusedSimpArgs false
namespace Go.Pier.Lg
open Go Go.Pier Go.Proofs
noncomputable def apT : Ct := ((Ct.none.add 23 (pureG [.int .i64,.ints .i64] cdS)).add 49 pushedG).add 51 (whG goodT)
noncomputable def apE : VEnv := { ct := apT }
noncomputable def acrB : Code := Try.f32.body.getD .skip
def madeA (l : List Int) : AObj := .rw (l.map (.int .i64)) none
def ledC (n : Nat) (l : List Int) : Int := if (runA n l).fell = 0 then 0 else 20
noncomputable def acrV0 (n:Nat) (l:List Int) (c:Nat) := (vi (n:Int)::T8 ((runA (n:Int).toNat (List.take l.length (List.drop 0 (intsOf (List.map (Value.int IntKind.i64) l))))).tk) [Value.slice (some ⟨1+1,0,some 0⟩) (List.take l.length (List.drop 0 (intsOf (List.map (Value.int IntKind.i64) l)))).length 0,vi (runA (n:Int).toNat (List.take l.length (List.drop 0 (intsOf (List.map (Value.int IntKind.i64) l))))).slid,vi (runA (n:Int).toNat (List.take l.length (List.drop 0 (intsOf (List.map (Value.int IntKind.i64) l))))).fell])
noncomputable def acrV1 (n:Nat) (l:List Int) (c:Nat) := (List.take l.length (List.drop 0 (intsOf (List.map (Value.int IntKind.i64) l))))
noncomputable def acrV :=
fun (n:Nat) (l:List Int) (c:Nat)↦Ob ((List.take l.length (List.drop 0 (List.map (Value.int IntKind.i64) l))=List.map (Value.int IntKind.i64) (acrV1 n l c)∧0+l.length≤(List.map (Value.int IntKind.i64) l).length∧true=true)∧errD (n:Int) (acrV1 n l c)=(0:Int)∧0<(acrV1 n l c).length∧(0:Int)≤(n:Int))∧(false=true→True∧Ob (vi (0:Int)=vi (ledC n l)))∧(false=false→Ob (IntAt IntKind.i64 (acrV0 n l c) (0+11))∧(decide ((0:Int)<getI (acrV0 n l c) (0+11))=true→True∧Ob (vi (20:Int)=vi (ledC n l)))∧(decide ((0:Int)<getI (acrV0 n l c) (0+11))=false→True∧Ob (vi (0:Int)=vi (ledC n l))))
theorem acrV_eq : acrV = fun (n : Nat) (l : List Int) (c : Nat) => vc Try.prog apE 1 21 true (fun _ => none) acrB [] (argFr 0 [vi n,.slice (some ⟨0,0,none⟩) l.length c]) [ros l] (retK Try.prog Try.f32 (fun v _ => v = vi (ledC n l))) := by kernel_rfl
noncomputable def acrN :=
fun (n:Nat)↦Ob (errD (n:Int) []=(0:Int))∧(false=true→True∧Ob (vi (0:Int)=vi (0:Int)))∧(false=false→Ob (some (vi (0:Int))=some (vi (0:Int)))∧(decide ((0:Int)<(0:Int))=true→True∧Ob (vi (20:Int)=vi (0:Int)))∧(decide ((0:Int)<(0:Int))=false→True∧Ob (vi (0:Int)=vi (0:Int))))
theorem acrN_eq : acrN = fun (n : Nat) => vc Try.prog apE 0 21 true (fun _ => none) acrB [] (argFr 0 [vi n,nilS]) [] (retK Try.prog Try.f32 (fun v _ => v = vi 0)) := by kernel_rfl
noncomputable def acrH :=
fun (n:Nat) (s:Option Nat) (c:Nat)↦Ob (errD (n:Int) []=(0:Int))∧(false=true→True∧Ob (vi (0:Int)=vi (0:Int)))∧(false=false→Ob (some (vi (0:Int))=some (vi (0:Int)))∧(decide ((0:Int)<(0:Int))=true→True∧Ob (vi (20:Int)=vi (0:Int)))∧(decide ((0:Int)<(0:Int))=false→True∧Ob (vi (0:Int)=vi (0:Int))))
theorem acrH_eq : acrH = fun (n : Nat) (s : Option Nat) (c : Nat) => vc Try.prog apE 1 21 true (fun _ => none) acrB [] (argFr 0 [vi n,.slice (some ⟨0,0,s⟩) 0 c]) [.gone] (retK Try.prog Try.f32 (fun v _ => v = vi 0)) := by kernel_rfl
theorem T8_10 {t : Nat→Bool} {n x y : Int} {a : Value} : getI (vi n :: T8 t [a,vi x,vi y]) 10 = x := rfl
theorem T8_11 {t : Nat→Bool} {n x y : Int} {a : Value} : getI (vi n :: T8 t [a,vi x,vi y]) 11 = y := rfl
theorem T8_i10 {t : Nat→Bool} {n x y : Int} {a : Value} : IntAt .i64 (vi n :: T8 t [a,vi x,vi y]) 10 := rfl
theorem T8_i11 {t : Nat→Bool} {n x y : Int} {a : Value} : IntAt .i64 (vi n :: T8 t [a,vi x,vi y]) 11 := rfl
theorem fell_nn {ar : Bool} {n : Nat} {l : List Int} (hl : ∀ x ∈ l,0≤x∧x < (n : Int)) : 0≤(runP ar n emp l).fell := by
 have := (stI_bd (ar := ar) (tk := emp) hl (Nat.le_refl l.length)).2.2.2.1
 rwa [stI_end (Nat.le_refl _)] at this
theorem acrV_ok (n : Nat) (l : List Int) (c : Nat) (he : errD n l = 0) (h0 : 0 < l.length) : acrV n l c := by
 obtain ⟨hn,hb,hl⟩ := pre_ok he
 have hf : 0≤(runA n l).fell := fell_nn (ar := false) hb
 unfold acrV acrV1 acrV0
 simp only [SS,reduceCtorEq,Arg.list,Arg.num,Arg.flag,intOf,andP,Nat.reduceLeDiff,Nat.reduceAdd,Nat.reduceMul,Nat.reduceLT,he,T8_10,T8_11,T8_i10,T8_i11,ledC]
 exact ⟨⟨h0,by omega⟩,fun h => by rw [if_neg (by omega)],fun h => by rw [if_pos (by omega)]⟩
theorem acrN_ok (n : Nat) (he : errD n [] = 0) : acrN n := by
 unfold acrN
 simp only [SS,reduceCtorEq,Arg.list,Arg.num,Arg.flag,intOf,andP,Nat.reduceLeDiff,Nat.reduceAdd,Nat.reduceMul,Nat.reduceLT,he]
 exact fun h => absurd h (by decide)
theorem acrH_ok (n : Nat) (s : Option Nat) (c : Nat) (he : errD n [] = 0) : acrH n s c := by
 unfold acrH
 simp only [SS,reduceCtorEq,Arg.list,Arg.num,Arg.flag,intOf,andP,Nat.reduceLeDiff,Nat.reduceAdd,Nat.reduceMul,Nat.reduceLT,he]
 exact fun h => absurd h (by decide)
def arowS (r : List Arg) : Prop × Value := match r with
 | [p,.ints _ l] => (errD p.num l = 0∧0 < l.length,vi (ledC p.num.toNat l))
 | [p,_] => (errD p.num [] = 0,vi 0)
 | _ => (False,undef)
theorem apE_ok : VOk Try.prog apE := VOk.ofCt (((CtOk.none.add cdG_ok).add pushedG_ok).add whTG_ok)
abbrev psA : List PK := [.int .i64,.ints .i64]
theorem arowG_ok : ∀ args H φ v H' l,pureG psA arowS args H = some (φ,v,H',l)→Asks φ→Call Try.prog 32 args H (fun v' H2 => v' = v∧H2 = H')∧Kept H H' l :=
 pureG_ok fun r hk hs => match r,hk with
   | [_,_],⟨⟨p,rfl⟩,ha,_⟩ => by
     rcases ha with rfl | ⟨s,rfl⟩ | ⟨l,rfl⟩
     · obtain ⟨n,rfl⟩ : ∃ n : Nat,p = n := errD_pos hs
       exact ⟨rfl,fun caps => Call.ofVc apE_ok mixed (c := acrB) Try.func32 (by kernel_rfl) (cast (congrFun acrN_eq n) (acrN_ok n hs))⟩
     · obtain ⟨n,rfl⟩ : ∃ n : Nat,p = n := errD_pos hs
       exact ⟨rfl,fun caps => Call.ofVc apE_ok mixed (c := acrB) Try.func32 (by kernel_rfl) (cast (congrFun (congrFun (congrFun acrH_eq n) s) _) (acrH_ok n s _ hs))⟩
     · obtain ⟨n,rfl⟩ : ∃ n : Nat,p = n := errD_pos hs.1
       exact ⟨rfl,fun caps => Call.ofVc apE_ok mixed (c := acrB) Try.func32 (by kernel_rfl) (cast (congrFun (congrFun (congrFun acrV_eq n) l) _) (acrV_ok n l _ hs.1 hs.2))⟩
end Go.Pier.Lg
set_option maxRecDepth 100000
set_option linter.unusedVariables false
set_option linter.unusedSimpArgs false
namespace Go.Pier.Lg
open Go Go.Pier Go.Proofs
end Go.Pier.Lg
set_option maxRecDepth 100000
set_option linter.unusedVariables false
set_option linter.unusedSimpArgs false
namespace Go.Pier.Lg
open Go Go.Pier Go.Proofs
noncomputable def lieRB : Code := Try.f50.body.getD .skip
noncomputable def lieRE : VEnv := { ct := Ct.none.add 45 hasG }
def slide (out : List Int) (p : Int) : Nat→Int→Int
 | 0,a => a
 | f + 1,a => if a < p∧a ∈ out then slide out p f (a + 1) else a
def slideAt (out : List Int) (p a : Int) : Int := slide out p (p - a).toNat a
def lieStep (p : Int) (s : List Int × Int) (d : Int) : List Int × Int := (s.1 ++ [if slideAt s.1 p d = p then -1 else slideAt s.1 p d],s.2 + (slideAt s.1 p d - d))
def lieOf (p : Int) (l : List Int) : List Int × Int := l.foldl (lieStep p) ([],0)
def lieAt (p : Int) (l : List Int) (i : Nat) : List Int × Int := lieOf p (l.take i)
def lieRI2 (p : Int) (l : List Int) (c : Nat) (i : Nat) : LInv := LInv.one Int
 (fun a => l.getD i 0≤a∧a≤p∧slideAt (lieAt p l i).1 p a = slideAt (lieAt p l i).1 p (l.getD i 0))
 (fun a => [(0,vi p),(1,.slice (some ⟨0,0,none⟩) l.length c),(6,.slice (some ⟨1,0,some 0⟩) i 0),(7,vi (lieAt p l i).2),(8,vi i),(9,vi a)])
 (fun _ => [ros l,rws (lieAt p l i).1]) (fun a => (p - a).toNat)
def lieRI1 (p : Int) (l : List Int) (c : Nat) : LInv := LInv.one Unit (fun _ => True)
 (fun _ => [(0,vi p),(1,.slice (some ⟨0,0,none⟩) l.length c),(6,.slice none 0 0),(7,vi 0),(8,vi 0),(9,vi (l.getD 0 0))]) (fun _ => [ros l]) (fun _ => 0)
def lieRI (p : Int) (l : List Int) (c : Nat) : Nat → Option LInv := invOf 0 (.mk [
     ⟨Unit,fun _ => True,fun _ => [(0,vi p),(1,.slice (some ⟨0,0,none⟩) l.length c),(6,.slice none 0 0),(7,vi 0),(8,vi 0)],fun _ => [ros l],fun _ => 20,fun _ => invOf 2 (lieRI1 p l c)⟩,
     ⟨Nat,fun i => 0 < i∧i≤l.length,fun i => [(0,vi p),(1,.slice (some ⟨0,0,none⟩) l.length c),(6,.slice (some ⟨1,0,some 0⟩) i 0),(7,vi (lieAt p l i).2),(8,vi i)],fun i => [ros l,rws (lieAt p l i).1],fun i => l.length - i,fun i => invOf 2 (lieRI2 p l c i)⟩]
   (fun _ b => b) (fun i _ => [nsub 1 (i + 2)]))
noncomputable def liV0 (p:Int) (l:List Int) (c:Nat) := (List.map (Value.int IntKind.i64) l)
noncomputable def liV1 (p:Int) (l:List Int) (c:Nat):Prop := (Value.slice (some (ad0 0)) l.length c=Value.slice (some (ad0 0)) l.length c)
noncomputable def liV2 (p:Int) (l:List Int) (c:Nat) (xq:Nat) := (andP (some (0+1≤1∧true=true)) (xq+1≤1099511627776∧(2 * (xq+1)+256) * 8≤281474976710656∧1=1∧(List.map (Value.int IntKind.i64) (lieAt p l xq).fst).length=xq * 1))
noncomputable def liV3 (p:Int) (l:List Int) (c:Nat) (x_1:Int) (xq:Nat) := ((lieAt p l xq).snd+IntKind.i64.wrap (x_1-getI (liV0 p l c) (0+(xq:Int).toNat * 1)))
noncomputable def liV4 (p:Int) (l:List Int) (c:Nat) := (andP (some (0+1≤1∧true=true)) (1≤1099511627776∧2064≤281474976710656∧1=1∧0=0∧0<1))
noncomputable def liV5 (p:Int) (l:List Int) (c:Nat) := ((0:Int)+IntKind.i64.wrap (l.getD 0 (0:Int)-getI (liV0 p l c) 0))
noncomputable def liV6 (p:Int) (l:List Int) (c:Nat) (xq:Nat) := (List.map (Value.int IntKind.i64) (lieAt p l xq).fst)
noncomputable def liV7 (p:Int) (l:List Int) (c:Nat) (xq:Nat):Prop := (Value.slice (some ⟨3,0,some 0⟩) (xq+1) 0=Value.slice none 0 0)
noncomputable def liV8 (p:Int) (l:List Int) (c:Nat):Prop := (AObj.ro (liV0 p l c)=AObj.ro (List.map (nmap1 (nsub 1 2)) (liV0 p l c))∧AObj.sc 1 (AObj.ro (liV0 p l c))=true)
noncomputable def liV9 (p:Int) (l:List Int) (c:Nat):Prop := (AObj.ro (liV0 p l c)=AObj.ro (List.map (nmap1 (nsub 1 2)) (liV0 p l c))∧AObj.sc 2 (AObj.ro (liV0 p l c))=true)
noncomputable def liV10 (p:Int) (l:List Int) (c:Nat):Prop := (AObj.ro (liV0 p l c)=AObj.ro (List.map (nmap1 (nsub 1 3)) (liV0 p l c))∧AObj.sc 1 (AObj.ro (liV0 p l c))=true)
noncomputable def liV11 (p:Int) (l:List Int) (c:Nat):Prop := (AObj.ro (liV0 p l c)=AObj.ro (List.map (nmap1 (nsub 1 3)) (liV0 p l c))∧AObj.sc 2 (AObj.ro (liV0 p l c))=true)
noncomputable def liV12 (p:Int) (l:List Int) (c:Nat):Prop := (Value.slice (some ⟨2,0,some 0⟩) 1 0=Value.slice none 0 0)
noncomputable def liV13 (p:Int) (l:List Int) (c:Nat) (xq:Nat):Prop := (Value.slice (some ⟨1,0,some 0⟩) xq 0=Value.slice (some ⟨1,0,some 0⟩) xq 0)
noncomputable def liV14 (p:Int) (l:List Int) (c:Nat):Array Value := ⟨[Value.slice (some ⟨1,0,some 0⟩) l.length 0,vi (lieOf p l).snd]⟩
noncomputable def liV15 (p:Int) (l:List Int) (c:Nat) (xq:Nat) := (IntAt IntKind.i64 (liV0 p l c) (0+(xq:Int).toNat * 1))
noncomputable def liV16 (p:Int) (l:List Int) (c:Nat):Prop := (Value.slice none 0 0=Value.slice none 0 0)
noncomputable def liV17 (p:Int) (l:List Int) (c:Nat) (xq:Nat):Prop := (IntKind.i64.wrap ((xq:Int)+(1:Int))=(0:Int))
noncomputable def liV18 (p:Int) (l:List Int) (c:Nat):Prop := (IntKind.i64.wrap ((0:Int)+(1:Int))=(0:Int))
noncomputable def liV19 (p:Int) (l:List Int) (c:Nat) (x_1:Int) (xq:Nat):Prop := (IntKind.i64.wrap (liV3 p l c x_1 xq)=(0:Int))
noncomputable def liV :=
fun (p:Int) (l:List Int) (c:Nat)↦((∃ (y:Unit),Ob True∧(Ob (AObj.ro (liV0 p l c)=AObj.ro (List.map (nmap1 fun (b:Nat)↦b) (liV0 p l c))∧AObj.sc 1 (AObj.ro (liV0 p l c))=true)∧True)∧Ob (p=p)∧Ob (liV1 p l c)∧Ob (liV16 p l c)∧Ob ((0:Int)=(0:Int))∧Ob ((0:Int)=(0:Int))∧True)∨∃ (yq:Nat),Ob (0<yq∧yq≤l.length)∧(Ob (AObj.ro (liV0 p l c)=AObj.ro (List.map (nmap1 fun (b:Nat)↦b) (liV0 p l c))∧AObj.sc 2 (AObj.ro (liV0 p l c))=true)∧False)∧Ob (p=p)∧Ob (liV1 p l c)∧Ob (Value.slice none 0 0=Value.slice (some ⟨1,0,some 0⟩) yq 0)∧Ob ((0:Int)=(lieAt p l yq).snd)∧Ob ((0:Int)=(yq:Int))∧True)∧(∀ (x:Unit),Ob True→(decide ((0:Int)<(l.length:Int))=true→Ob ((0:Int)≤(0:Int)∧(0:Int)<(l.length:Int)∧true=true)∧Ob (IntAt IntKind.i64 (liV0 p l c) 0)∧(∃ (y:Unit),Ob True∧(Ob (AObj.ro (liV0 p l c)=AObj.ro (List.map (nmap1 fun (b:Nat)↦b) (liV0 p l c))∧AObj.sc 1 (AObj.ro (liV0 p l c))=true)∧True)∧Ob (p=p)∧Ob (liV1 p l c)∧Ob (liV16 p l c)∧Ob ((0:Int)=(0:Int))∧Ob ((0:Int)=(0:Int))∧Ob (getI (liV0 p l c) 0=l.getD 0 (0:Int))∧True)∧∀ (x:Unit),Ob True→(decide (l.getD 0 (0:Int)<p)=true→(false=true→∃ (y:Unit),Ob True∧Ob (0<0)∧(Ob (AObj.ro (liV0 p l c)=AObj.ro (List.map (nmap1 fun (b:Nat)↦b) (liV0 p l c))∧AObj.sc 1 (AObj.ro (liV0 p l c))=true)∧True)∧Ob (p=p)∧Ob (liV1 p l c)∧Ob (liV16 p l c)∧Ob ((0:Int)=(0:Int))∧Ob ((0:Int)=(0:Int))∧Ob (IntKind.i64.wrap (l.getD 0 (0:Int)+(1:Int))=l.getD 0 (0:Int))∧True)∧(false=false→Ob ((0:Int)≤(0:Int)∧(0:Int)<(l.length:Int)∧true=true)∧Ob (IntAt IntKind.i64 (liV0 p l c) 0)∧((l.getD 0 (0:Int)==p)=true→Ob (liV4 p l c)∧((∃ (y:Unit),Ob True∧Ob (20<20)∧(Ob (liV8 p l c)∧True)∧Ob (p=p)∧Ob (liV1 p l c)∧Ob (liV12 p l c)∧Ob (IntKind.i64.wrap (liV5 p l c)=(0:Int))∧Ob (liV18 p l c)∧True)∨∃ (yqq:Nat),Ob (0<yqq∧yqq≤l.length)∧Ob (l.length-yqq<20)∧(Ob (liV9 p l c)∧Ob (AObj.rw [vi (-1:Int)] (some 1)=AObj.rw (List.map (nmap1 (nsub 1 2)) (List.map (Value.int IntKind.i64) (lieAt p l yqq).fst)) (some 1)∧AObj.sc 2 (AObj.rw (List.map (Value.int IntKind.i64) (lieAt p l yqq).fst) (some 1))=true)∧True)∧Ob (p=p)∧Ob (liV1 p l c)∧Ob (Value.slice (some ⟨2,0,some 0⟩) 1 0=Value.slice (some ⟨2,0,some 0⟩) yqq 0)∧Ob (IntKind.i64.wrap (liV5 p l c)=(lieAt p l yqq).snd)∧Ob (IntKind.i64.wrap ((0:Int)+(1:Int))=(yqq:Int))∧True))∧((l.getD 0 (0:Int)==p)=false→Ob (liV4 p l c)∧((∃ (y:Unit),Ob True∧Ob (20<20)∧(Ob (liV8 p l c)∧True)∧Ob (p=p)∧Ob (liV1 p l c)∧Ob (liV12 p l c)∧Ob (IntKind.i64.wrap (liV5 p l c)=(0:Int))∧Ob (liV18 p l c)∧True)∨∃ (yqqq:Nat),Ob (0<yqqq∧yqqq≤l.length)∧Ob (l.length-yqqq<20)∧(Ob (liV9 p l c)∧Ob (AObj.rw [vi (l.getD 0 (0:Int))] (some 1)=AObj.rw (List.map (nmap1 (nsub 1 2)) (List.map (Value.int IntKind.i64) (lieAt p l yqqq).fst)) (some 1)∧AObj.sc 2 (AObj.rw (List.map (Value.int IntKind.i64) (lieAt p l yqqq).fst) (some 1))=true)∧True)∧Ob (p=p)∧Ob (liV1 p l c)∧Ob (Value.slice (some ⟨2,0,some 0⟩) 1 0=Value.slice (some ⟨2,0,some 0⟩) yqqq 0)∧Ob (IntKind.i64.wrap (liV5 p l c)=(lieAt p l yqqq).snd)∧Ob (IntKind.i64.wrap ((0:Int)+(1:Int))=(yqqq:Int))∧True))))∧(decide (l.getD 0 (0:Int)<p)=false→Ob ((0:Int)≤(0:Int)∧(0:Int)<(l.length:Int)∧true=true)∧Ob (IntAt IntKind.i64 (liV0 p l c) 0)∧((l.getD 0 (0:Int)==p)=true→Ob (liV4 p l c)∧((∃ (y:Unit),Ob True∧Ob (20<20)∧(Ob (liV8 p l c)∧True)∧Ob (p=p)∧Ob (liV1 p l c)∧Ob (liV12 p l c)∧Ob (IntKind.i64.wrap (liV5 p l c)=(0:Int))∧Ob (liV18 p l c)∧True)∨∃ (yqqqq:Nat),Ob (0<yqqqq∧yqqqq≤l.length)∧Ob (l.length-yqqqq<20)∧(Ob (liV9 p l c)∧Ob (AObj.rw [vi (-1:Int)] (some 1)=AObj.rw (List.map (nmap1 (nsub 1 2)) (List.map (Value.int IntKind.i64) (lieAt p l yqqqq).fst)) (some 1)∧AObj.sc 2 (AObj.rw (List.map (Value.int IntKind.i64) (lieAt p l yqqqq).fst) (some 1))=true)∧True)∧Ob (p=p)∧Ob (liV1 p l c)∧Ob (Value.slice (some ⟨2,0,some 0⟩) 1 0=Value.slice (some ⟨2,0,some 0⟩) yqqqq 0)∧Ob (IntKind.i64.wrap (liV5 p l c)=(lieAt p l yqqqq).snd)∧Ob (IntKind.i64.wrap ((0:Int)+(1:Int))=(yqqqq:Int))∧True))∧((l.getD 0 (0:Int)==p)=false→Ob (liV4 p l c)∧((∃ (y:Unit),Ob True∧Ob (20<20)∧(Ob (liV8 p l c)∧True)∧Ob (p=p)∧Ob (liV1 p l c)∧Ob (liV12 p l c)∧Ob (IntKind.i64.wrap (liV5 p l c)=(0:Int))∧Ob (liV18 p l c)∧True)∨∃ (yqqqqq:Nat),Ob (0<yqqqqq∧yqqqqq≤l.length)∧Ob (l.length-yqqqqq<20)∧(Ob (liV9 p l c)∧Ob (AObj.rw [vi (l.getD 0 (0:Int))] (some 1)=AObj.rw (List.map (nmap1 (nsub 1 2)) (List.map (Value.int IntKind.i64) (lieAt p l yqqqqq).fst)) (some 1)∧AObj.sc 2 (AObj.rw (List.map (Value.int IntKind.i64) (lieAt p l yqqqqq).fst) (some 1))=true)∧True)∧Ob (p=p)∧Ob (liV1 p l c)∧Ob (Value.slice (some ⟨2,0,some 0⟩) 1 0=Value.slice (some ⟨2,0,some 0⟩) yqqqqq 0)∧Ob (IntKind.i64.wrap (liV5 p l c)=(lieAt p l yqqqqq).snd)∧Ob (IntKind.i64.wrap ((0:Int)+(1:Int))=(yqqqqq:Int))∧True))))∧(decide ((0:Int)<(l.length:Int))=false→True∧Ob (Value.tuple ⟨[Value.slice none 0 0,vi (0:Int)]⟩=Value.tuple (liV14 p l c)∧[AObj.ro (liV0 p l c)]=[AObj.ro (liV0 p l c),AObj.rw (List.map (Value.int IntKind.i64) (lieOf p l).fst) (some 1)])))∧∀ (xq:Nat),Ob (0<xq∧xq≤l.length)→(decide ((xq:Int)<(l.length:Int))=true→Ob ((0:Int)≤(xq:Int)∧(xq:Int)<(l.length:Int)∧true=true)∧Ob (liV15 p l c xq)∧(∃ (yqqqqqq:Int),Ob (l.getD xq (0:Int)≤yqqqqqq∧yqqqqqq≤p∧slideAt (lieAt p l xq).fst p yqqqqqq=slideAt (lieAt p l xq).fst p (l.getD xq (0:Int)))∧(Ob (AObj.ro (liV0 p l c)=AObj.ro (List.map (nmap1 fun (b:Nat)↦b) (liV0 p l c))∧AObj.sc 2 (AObj.ro (liV0 p l c))=true)∧Ob (AObj.rw (liV6 p l c xq) (some 1)=AObj.rw (List.map (nmap1 fun (b:Nat)↦b) (liV6 p l c xq)) (some 1)∧AObj.sc 2 (AObj.rw (liV6 p l c xq) (some 1))=true)∧True)∧Ob (p=p)∧Ob (liV1 p l c)∧Ob (liV13 p l c xq)∧Ob ((lieAt p l xq).snd=(lieAt p l xq).snd)∧Ob ((xq:Int)=(xq:Int))∧Ob (getI (liV0 p l c) (0+(xq:Int).toNat * 1)=yqqqqqq)∧True)∧∀ (x_1:Int),Ob (l.getD xq (0:Int)≤x_1∧x_1≤p∧slideAt (lieAt p l xq).fst p x_1=slideAt (lieAt p l xq).fst p (l.getD xq (0:Int)))→(decide (x_1<p)=true→Ob ((List.take xq (List.drop 0 (liV6 p l c xq))=List.map (Value.int IntKind.i64) (List.take xq (List.drop 0 (intsOf (liV6 p l c xq))))∧0+xq≤(liV6 p l c xq).length∧true=true)∧(List.take xq (List.drop 0 (intsOf (liV6 p l c xq)))).length<1000000)∧(decide (x_1∈List.take xq (List.drop 0 (intsOf (liV6 p l c xq))))=true→∃ (yqqqqqqq:Int),Ob (l.getD xq (0:Int)≤yqqqqqqq∧yqqqqqqq≤p∧slideAt (lieAt p l xq).fst p yqqqqqqq=slideAt (lieAt p l xq).fst p (l.getD xq (0:Int)))∧Ob ((p-yqqqqqqq).toNat<(p-x_1).toNat)∧(Ob (AObj.ro (liV0 p l c)=AObj.ro (List.map (nmap1 fun (b:Nat)↦b) (liV0 p l c))∧AObj.sc 2 (AObj.ro (liV0 p l c))=true)∧Ob (AObj.rw (liV6 p l c xq) (some 1)=AObj.rw (List.map (nmap1 fun (b:Nat)↦b) (liV6 p l c xq)) (some 1)∧AObj.sc 2 (AObj.rw (liV6 p l c xq) (some 1))=true)∧True)∧Ob (p=p)∧Ob (liV1 p l c)∧Ob (liV13 p l c xq)∧Ob ((lieAt p l xq).snd=(lieAt p l xq).snd)∧Ob ((xq:Int)=(xq:Int))∧Ob (IntKind.i64.wrap (x_1+(1:Int))=yqqqqqqq)∧True)∧(decide (x_1∈List.take xq (List.drop 0 (intsOf (liV6 p l c xq))))=false→Ob ((0:Int)≤(xq:Int)∧(xq:Int)<(l.length:Int)∧true=true)∧Ob (liV15 p l c xq)∧((x_1==p)=true→Ob (liV2 p l c xq)∧((∃ (y:Unit),Ob True∧Ob (20<l.length-xq)∧(Ob (liV10 p l c)∧True)∧Ob (p=p)∧Ob (liV1 p l c)∧Ob (liV7 p l c xq)∧Ob (liV19 p l c x_1 xq)∧Ob (liV17 p l c xq)∧True)∨∃ (yqqqqqqqq:Nat),Ob (0<yqqqqqqqq∧yqqqqqqqq≤l.length)∧Ob (l.length-yqqqqqqqq<l.length-xq)∧(Ob (liV11 p l c)∧Ob (AObj.rw (List.map (Value.int IntKind.i64) (lieAt p l xq).fst++[vi (-1:Int)]) (some 1)=AObj.rw (List.map (nmap1 (nsub 1 3)) (List.map (Value.int IntKind.i64) (lieAt p l yqqqqqqqq).fst)) (some 1)∧AObj.sc 2 (AObj.rw (List.map (Value.int IntKind.i64) (lieAt p l yqqqqqqqq).fst) (some 1))=true)∧True)∧Ob (p=p)∧Ob (liV1 p l c)∧Ob (Value.slice (some ⟨3,0,some 0⟩) (xq+1) 0=Value.slice (some ⟨3,0,some 0⟩) yqqqqqqqq 0)∧Ob (IntKind.i64.wrap (liV3 p l c x_1 xq)=(lieAt p l yqqqqqqqq).snd)∧Ob (IntKind.i64.wrap ((xq:Int)+(1:Int))=(yqqqqqqqq:Int))∧True))∧((x_1==p)=false→Ob (liV2 p l c xq)∧((∃ (y:Unit),Ob True∧Ob (20<l.length-xq)∧(Ob (liV10 p l c)∧True)∧Ob (p=p)∧Ob (liV1 p l c)∧Ob (liV7 p l c xq)∧Ob (liV19 p l c x_1 xq)∧Ob (liV17 p l c xq)∧True)∨∃ (yqqqqqqqqq:Nat),Ob (0<yqqqqqqqqq∧yqqqqqqqqq≤l.length)∧Ob (l.length-yqqqqqqqqq<l.length-xq)∧(Ob (liV11 p l c)∧Ob (AObj.rw (List.map (Value.int IntKind.i64) (lieAt p l xq).fst++[vi x_1]) (some 1)=AObj.rw (List.map (nmap1 (nsub 1 3)) (List.map (Value.int IntKind.i64) (lieAt p l yqqqqqqqqq).fst)) (some 1)∧AObj.sc 2 (AObj.rw (List.map (Value.int IntKind.i64) (lieAt p l yqqqqqqqqq).fst) (some 1))=true)∧True)∧Ob (p=p)∧Ob (liV1 p l c)∧Ob (Value.slice (some ⟨3,0,some 0⟩) (xq+1) 0=Value.slice (some ⟨3,0,some 0⟩) yqqqqqqqqq 0)∧Ob (IntKind.i64.wrap (liV3 p l c x_1 xq)=(lieAt p l yqqqqqqqqq).snd)∧Ob (IntKind.i64.wrap ((xq:Int)+(1:Int))=(yqqqqqqqqq:Int))∧True))))∧(decide (x_1<p)=false→Ob ((0:Int)≤(xq:Int)∧(xq:Int)<(l.length:Int)∧true=true)∧Ob (liV15 p l c xq)∧((x_1==p)=true→Ob (liV2 p l c xq)∧((∃ (y:Unit),Ob True∧Ob (20<l.length-xq)∧(Ob (liV10 p l c)∧True)∧Ob (p=p)∧Ob (liV1 p l c)∧Ob (liV7 p l c xq)∧Ob (liV19 p l c x_1 xq)∧Ob (liV17 p l c xq)∧True)∨∃ (yqqqqqqqqqq:Nat),Ob (0<yqqqqqqqqqq∧yqqqqqqqqqq≤l.length)∧Ob (l.length-yqqqqqqqqqq<l.length-xq)∧(Ob (liV11 p l c)∧Ob (AObj.rw (List.map (Value.int IntKind.i64) (lieAt p l xq).fst++[vi (-1:Int)]) (some 1)=AObj.rw (List.map (nmap1 (nsub 1 3)) (List.map (Value.int IntKind.i64) (lieAt p l yqqqqqqqqqq).fst)) (some 1)∧AObj.sc 2 (AObj.rw (List.map (Value.int IntKind.i64) (lieAt p l yqqqqqqqqqq).fst) (some 1))=true)∧True)∧Ob (p=p)∧Ob (liV1 p l c)∧Ob (Value.slice (some ⟨3,0,some 0⟩) (xq+1) 0=Value.slice (some ⟨3,0,some 0⟩) yqqqqqqqqqq 0)∧Ob (IntKind.i64.wrap (liV3 p l c x_1 xq)=(lieAt p l yqqqqqqqqqq).snd)∧Ob (IntKind.i64.wrap ((xq:Int)+(1:Int))=(yqqqqqqqqqq:Int))∧True))∧((x_1==p)=false→Ob (liV2 p l c xq)∧((∃ (y:Unit),Ob True∧Ob (20<l.length-xq)∧(Ob (liV10 p l c)∧True)∧Ob (p=p)∧Ob (liV1 p l c)∧Ob (liV7 p l c xq)∧Ob (liV19 p l c x_1 xq)∧Ob (liV17 p l c xq)∧True)∨∃ (yqqqqqqqqqqq:Nat),Ob (0<yqqqqqqqqqqq∧yqqqqqqqqqqq≤l.length)∧Ob (l.length-yqqqqqqqqqqq<l.length-xq)∧(Ob (liV11 p l c)∧Ob (AObj.rw (List.map (Value.int IntKind.i64) (lieAt p l xq).fst++[vi x_1]) (some 1)=AObj.rw (List.map (nmap1 (nsub 1 3)) (List.map (Value.int IntKind.i64) (lieAt p l yqqqqqqqqqqq).fst)) (some 1)∧AObj.sc 2 (AObj.rw (List.map (Value.int IntKind.i64) (lieAt p l yqqqqqqqqqqq).fst) (some 1))=true)∧True)∧Ob (p=p)∧Ob (liV1 p l c)∧Ob (Value.slice (some ⟨3,0,some 0⟩) (xq+1) 0=Value.slice (some ⟨3,0,some 0⟩) yqqqqqqqqqqq 0)∧Ob (IntKind.i64.wrap (liV3 p l c x_1 xq)=(lieAt p l yqqqqqqqqqqq).snd)∧Ob (IntKind.i64.wrap ((xq:Int)+(1:Int))=(yqqqqqqqqqqq:Int))∧True))))∧(decide ((xq:Int)<(l.length:Int))=false→True∧Ob (Value.tuple ⟨[Value.slice (some ⟨1,0,some 0⟩) xq 0,vi (lieAt p l xq).snd]⟩=Value.tuple (liV14 p l c)∧[AObj.ro (liV0 p l c),AObj.rw (liV6 p l c xq) (some 1)]=[AObj.ro (liV0 p l c),AObj.rw (List.map (Value.int IntKind.i64) (lieOf p l).fst) (some 1)]))
theorem liV_eq : liV = fun (p : Int) (l : List Int) (c : Nat) => vc Try.prog lieRE 1 47 true (lieRI p l c) lieRB [] (argFr 0 [vi p,.slice (some ⟨0,0,none⟩) l.length c]) [ros l] (retK Try.prog Try.f50 (fun v H1 => v = .tuple #[.slice (some ⟨1,0,some 0⟩) l.length 0,vi (lieOf p l).2]∧H1 = [ros l,rws (lieOf p l).1])) := by kernel_rfl
theorem slideAt_eq (out : List Int) (p a : Int) : slideAt out p a = if a < p∧a ∈ out then slideAt out p (a + 1) else a := by
 unfold slideAt
 by_cases h : a < p
 · rw [show (p - a).toNat = (p - (a + 1)).toNat + 1 by omega]
   rfl
 · rw [show (p - a).toNat = 0 by omega,if_neg (fun hh => h hh.1)]
   rfl
theorem slide_range (out : List Int) (p : Int) : ∀ (f : Nat) (a : Int),a≤p→a≤slide out p f a∧slide out p f a≤p
 | 0,a,h => ⟨Int.le_refl _,h⟩
 | f + 1,a,h => by
   unfold slide
   split
   · rename_i hh
     have := slide_range out p f (a + 1) (by omega)
     omega
   · exact ⟨Int.le_refl _,h⟩
theorem lieAt_succ {p : Int} {l : List Int} {i : Nat} (h : i < l.length) : lieAt p l (i + 1) = lieStep p (lieAt p l i) (l.getD i 0) := by
 unfold lieAt lieOf
 rw [List.take_succ_eq_append_getElem h,List.foldl_append,List.getD_eq_getElem?_getD,List.getElem?_eq_getElem h]
 rfl
theorem lieAt_len {p : Int} {l : List Int} : ∀ {i : Nat},i≤l.length→(lieAt p l i).1.length = i
 | 0,_ => rfl
 | i + 1,h => by
   rw [lieAt_succ (by omega)]
   show ((lieAt p l i).1 ++ [_]).length = _
   rw [List.length_append,lieAt_len (by omega)]; rfl
theorem lieAt_slid {p : Int} {l : List Int} (hp : p≤8) (hb : ∀ x ∈ l,0≤x∧x < p) : ∀ {i : Nat},i≤l.length→0≤(lieAt p l i).2∧(lieAt p l i).2≤8 * i
 | 0,_ => ⟨Int.le_refl 0,Int.le_refl 0⟩
 | i + 1,h => by
   rw [lieAt_succ (by omega)]
   show 0≤(lieAt p l i).2 + _∧(lieAt p l i).2 + _≤_
   have := lieAt_slid (i := i) hp hb (by omega)
   have hd := hb _ (getD_memR (l := l) (i := i) (by omega))
   have := slide_range (lieAt p l i).1 p (p - l.getD i 0).toNat (l.getD i 0) (by omega)
   unfold slideAt
   omega
theorem lieAt_end {p : Int} {l : List Int} {i : Nat} (h : l.length≤i) : lieAt p l i = lieOf p l := by
 unfold lieAt; rw [List.take_of_length_le h]
theorem lieNext_ok {p : Int} {l : List Int} {x : Nat} {a v : Int} (hp : 0 < p∧p≤8) (hb : ∀ x ∈ l,0≤x∧x < p) (hlen : l.length≤13) (hx : x < l.length) (h1 : l.getD x 0≤a) (h2 : a≤p) (h3 : slideAt (lieAt p l x).1 p (l.getD x 0) = a) (hv : v = if a = p then -1 else a) :
   (1≤1∧x + 1≤1099511627776∧(2 * (x + 1) + 256) * 8≤281474976710656∧(lieAt p l x).fst.length = x) ∧
     ∃ y,(0 < y∧y≤l.length)∧l.length - y < l.length - x∧List.map (Value.int IntKind.i64) (lieAt p l x).fst ++ [Value.int IntKind.i64 v] = List.map (Value.int IntKind.i64) (lieAt p l y).fst∧x + 1 = y ∧
       IntKind.i64.wrap ((lieAt p l x).snd + IntKind.i64.wrap (a - l.getD x 0)) = (lieAt p l y).snd∧IntKind.i64.wrap (↑x + 1) = (y : Int) := by
 have hd := hb _ (getD_memR hx)
 have hs := lieAt_slid hp.2 hb (i := x) (by omega)
 refine ⟨⟨by omega,by omega,by omega,lieAt_len (by omega)⟩,x + 1,⟨by omega,by omega⟩,by omega,?_,rfl,?_,?_⟩
 · rw [lieAt_succ hx]
   show _ = List.map _ ((lieAt p l x).1 ++ [_])
   rw [List.map_append,h3,hv]; rfl
 · rw [lieAt_succ hx]
   show _ = (lieAt p l x).2 + _
   rw [h3,wrap_in (x := a - l.getD x 0) (by omega) (by omega),wrap_in (by omega) (by omega)]
 · rw [wrap_in (by omega) (by omega)]; rfl
theorem liV_ok (p : Int) (l : List Int) (c : Nat) (hp : 0 < p∧p≤8) (hl : 0 < l.length) (hb : ∀ x ∈ l,0≤x∧x < p) (hlen : l.length≤13) : liV p l c := by
 unfold liV liV19 liV18 liV17 liV16 liV15 liV14 liV13 liV12 liV11 liV10 liV9 liV8 liV7 liV6 liV5 liV4 liV3 liV2 liV1 liV0
 simp only [ob_iff,map_nmap_int,sc_ro_int,sc_rw_int,getI_map,intAt_map,true_and,and_true,eq_self,Int.toNat_natCast,Nat.zero_add,Nat.mul_one,decide_eq_true_eq,decide_eq_false_iff_not,andP,List.set_cons_zero,List.length_cons,List.length_nil,List.drop_zero,List.take_succ_cons,List.take_zero,
   Value.slice.injEq,Value.tuple.injEq,Option.some.injEq,Addr.mk.injEq,AObj.rw.injEq,List.cons.injEq,reduceCtorEq,List.length_append,List.length_map,false_and,and_false,exists_const,or_false,false_or,true_or,Nat.lt_irrefl,forall_const,true_implies,List.length_set,beq_iff_eq,beq_eq_false_iff_ne,intsOf_map]
 have h0 := hb _ (getD_memR hl)
 have z : lieAt p l 0 = ([],0) := rfl
 have e0 : slideAt (lieAt p l 0).1 p (l.getD 0 0) = l.getD 0 0 := by rw [slideAt_eq,z]; simp
 have first : ∀ v : Int, v = (if l.getD 0 0 = p then -1 else l.getD 0 0) → (1 ≤ 1 ∧ 1 ≤ 1099511627776 ∧ 2064 ≤ 281474976710656 ∧ 0 < 1) ∧
     ∃ y,(0 < y∧y≤l.length)∧l.length - y < 20∧[Value.int IntKind.i64 v] = List.map (Value.int IntKind.i64) (lieAt p l y).fst∧1 = y ∧
       IntKind.i64.wrap (0 + IntKind.i64.wrap (l.getD 0 0 - l.getD 0 0)) = (lieAt p l y).snd∧IntKind.i64.wrap (0 + 1) = (y : Int) := fun v hv => by
   obtain ⟨_,y,h1,h2,h3,h4,h5,h6⟩ := lieNext_ok (a := l.getD 0 0) (v := v) hp hb hlen hl (Int.le_refl _) (by omega) e0 hv
   exact ⟨⟨by omega,by omega,by omega,by omega⟩,y,h1,by omega,h3,by omega,h5,h6⟩
 refine ⟨⟨fun _ => ⟨⟨by omega,by omega⟩,hl,fun _ => ⟨id,⟨by omega,by omega⟩,hl,fun h => first _ (by rw [if_pos h]),fun h => first _ (by rw [if_neg h])⟩,fun h => absurd h0.2 h⟩,fun h => by omega⟩,fun x ⟨h1,h2⟩ => ⟨fun h3 => ?_,fun h3 => ?_⟩⟩
 · have hx : x < l.length := by omega
   have hd := hb _ (getD_memR hx)
   have hlx : (lieAt p l x).1.length = x := lieAt_len h2
   refine ⟨⟨by omega,by omega⟩,hx,⟨_,⟨Int.le_refl _,by omega,rfl⟩,rfl⟩,fun a ⟨ha1,ha2,ha3⟩ => ?_⟩
   have fin : ¬ (a < p∧a ∈ (lieAt p l x).1)→slideAt (lieAt p l x).1 p (l.getD x 0) = a := fun hh => by rw [← ha3,slideAt_eq,if_neg hh]
   have tk : List.take x (lieAt p l x).1 = (lieAt p l x).1 := List.take_of_length_le (by omega)
   rw [tk]
   refine ⟨fun hap => ⟨⟨⟨?_,by omega⟩,by omega⟩,fun hm => ?_,fun hm => ?_⟩,fun hap => ?_⟩
   · exact List.take_of_length_le (by simp; omega)
   · refine ⟨a + 1,⟨by omega,by omega,?_⟩,by omega,wrap_in (by omega) (by omega)⟩
     rw [← ha3,slideAt_eq _ _ a,if_pos ⟨hap,hm⟩]
   · exact ⟨⟨by omega,by omega⟩,hx,fun h => lieNext_ok hp hb hlen hx ha1 ha2 (fin fun hh => hm hh.2) (by rw [if_pos h]),fun h => lieNext_ok hp hb hlen hx ha1 ha2 (fin fun hh => hm hh.2) (by rw [if_neg h])⟩
   · exact ⟨⟨by omega,by omega⟩,hx,fun h => lieNext_ok hp hb hlen hx ha1 ha2 (fin fun hh => hap hh.1) (by rw [if_pos h]),fun h => lieNext_ok hp hb hlen hx ha1 ha2 (fin fun hh => hap hh.1) (by rw [if_neg h])⟩
 · rw [lieAt_end (by omega)]
   refine ⟨?_,rfl⟩
   rw [show x = l.length by omega]
theorem li_call (p : Int) (l : List Int) (c : Nat) (hp : 0 < p∧p≤8) (hl : 0 < l.length) (hb : ∀ x ∈ l,0≤x∧x < p) (hlen : l.length≤13) :
   Call Try.prog 50 [vi p,.slice (some ⟨0,0,none⟩) l.length c] [ros l] fun v H1 => v = .tuple #[.slice (some ⟨1,0,some 0⟩) l.length 0,vi (lieOf p l).2]∧H1 = [ros l,rws (lieOf p l).1] :=
 Call.ofVc (VOk.ofCt (CtOk.none.add hasG_ok)) mixed (c := lieRB) (inv := lieRI p l c) Try.func50 (by kernel_rfl) (cast (congrFun (congrFun (congrFun liV_eq p) l) c) (liV_ok p l c hp hl hb hlen))
end Go.Pier.Lg
set_option maxRecDepth 100000
set_option linter.unusedVariables false
set_option linter.unusedSimpArgs false
namespace Go.Pier.Lg
open Go Go.Pier Go.Proofs
noncomputable def fullRB : Code := Try.f53.body.getD .skip
def lieRS (r : List Arg) : Option (Prop × Back) := match r with
 | [p,.ints _ l] => some ((0 < p.num∧p.num≤8)∧0 < l.length∧(∀ x ∈ l,0≤x∧x < p.num)∧l.length≤13,.both (lieOf p.num l).1 [vi (lieOf p.num l).2])
 | _ => none
noncomputable def fullRT : Ct := (Ct.none.add 45 hasG).add 50 (newG [.int .i64,.ints .i64] lieRS)
def fullTo (p : Int) (l : List Int) : Nat→List Int
 | 0 => []
 | i + 1 => if (i : Int) ∈ (lieOf p l).1 then fullTo p l i ++ [(i : Int)] else fullTo p l i
def fullRI (p : Int) (l : List Int) (c : Nat) : Nat → Option LInv := invOf 0 (.mk [
     ⟨Nat,fun i => (i : Int)≤p∧fullTo p l i = [],fun i => [(0,vi p),(1,.slice (some ⟨0,0,none⟩) l.length c),(6,.slice (some ⟨1,0,some 0⟩) (lieOf p l).1.length 0),(8,.slice none 0 0),(9,vi i)],fun _ => [ros l,rws (lieOf p l).1],fun i => (p - i).toNat,fun _ _ => none⟩,
     ⟨Nat,fun i => (i : Int)≤p,fun i => [(0,vi p),(1,.slice (some ⟨0,0,none⟩) l.length c),(6,.slice (some ⟨1,0,some 0⟩) (lieOf p l).1.length 0),(8,.slice (some ⟨2,0,some 0⟩) (fullTo p l i).length 0),(9,vi i)],fun i => [ros l,rws (lieOf p l).1,rws (fullTo p l i)],fun i => (p - i).toNat,fun _ _ => none⟩]
   (fun _ b => b) (fun i j => match i,j with | 0,0 => [fun b => b] | 0,_ => [nsub 2 3] | _,_ => [fun b => b,nsub 2 4]))
theorem fullTo_len (p : Int) (l : List Int) : ∀ i : Nat,(fullTo p l i).length≤i
 | 0 => Nat.le_refl _
 | i + 1 => by
   have := fullTo_len p l i
   unfold fullTo
   split
   · simp; omega
   · omega
theorem fullRT_ok (hlie : ∀ args H φ v H' l,newG [.int .i64,.ints .i64] lieRS args H = some (φ,v,H',l)→Asks φ→Call Try.prog 50 args H (fun v' H2 => v' = v∧H2 = H')∧Kept H H' l) : CtOk Try.prog fullRT := (CtOk.none.add hasG_ok).add hlie
theorem lieRG_ok : ∀ args H φ v H' l,newG [.int .i64,.ints .i64] lieRS args H = some (φ,v,H',l)→Asks φ→Call Try.prog 50 args H (fun v' H2 => v' = v∧H2 = H')∧Kept H H' l :=
 newG_ok fun r ψ b hk hs hψ => match r,hk with
   | [_,_],⟨⟨p,rfl⟩,ha,_⟩ => by
     rcases ha with rfl | ⟨s,rfl⟩ | ⟨l,rfl⟩ <;> cases hs
     obtain ⟨h1,h2,h3,h4⟩ := hψ
     refine ⟨rfl,fun caps => (li_call p l _ h1 h2 h3 h4).mono fun v H' h => ⟨?_,h.2⟩⟩
     rw [h.1]
     have hlen : (lieOf p l).1.length = l.length := by rw [← lieAt_end (Nat.le_refl _),lieAt_len (Nat.le_refl _)]
     show _ = Value.tuple [newSlice 1 (lieOf p l).1.length,vi (lieOf p l).2].toArray
     rw [hlen]; rfl
end Go.Pier.Lg
