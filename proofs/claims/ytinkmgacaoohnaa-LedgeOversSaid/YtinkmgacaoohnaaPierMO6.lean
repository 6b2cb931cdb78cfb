import Derived.Test.YtinkmgacaoohnaaPierMO4
import Derived.KernelRfl
import Derived.Test.YtinkmgacaoohnaaPierMO5
import Derived.Test.YtinkmgacaoohnaaPierZX
import Derived.Test.YtinkmgacaoohnaaPierLgS
import Derived.Test.YtinkmgacaoohnaaPierMO2
import Derived.Test.YtinkmgacaoohnaaPierLdropt
set_option linter.unusedSimpArgs false
set_option linter.unusedVariables false
set_option maxRecDepth 100000
set_option linter.unusedVariables false
set_option linter.unusedSimpArgs false
namespace Go.Pier.Lg
open Go Go.Pier Go.Proofs
end Go.Pier.Lg
set_option maxRecDepth 100000
set_option linter.unusedVariables false
set_option linter.unusedSimpArgs false
namespace Go.Pier.Lg
open Go Go.Pier Go.Proofs
def cntGe (l : List Int) (p : Nat) : Nat := (l.filter fun x => decide ((p : Int)≤x)).length
def takGe (n : Nat) (tk : Nat→Bool) (p : Nat) : Nat := ((List.range n).filter fun i => tk i && decide (p≤i)).length
def overI (n : Nat) (l : List Int) (p : Nat) : Int := (p : Int) - n + cntGe l p
theorem takGe_upd {n : Nat} {tk : Nat→Bool} {a p : Nat} (ha : a < n) (h : tk a = false) : takGe n (updB tk a) p = takGe n tk p + if p≤a then 1 else 0 := by
 unfold takGe
 induction n with
 | zero => omega
 | succ n ih =>
   rw [List.range_succ,List.filter_append,List.filter_append,List.length_append,List.length_append]
   by_cases e : a = n
   · subst e
     have e1 : (List.range a).filter (fun i => updB tk a i && decide (p≤i)) = (List.range a).filter fun i => tk i && decide (p≤i) := List.filter_congr fun x hx => by rw [updB_ne (by have := List.mem_range.1 hx; omega)]
     have e2 : updB tk a a = true := updB_self
     rw [e1]
     by_cases hp : p≤a <;> simp [e2,h,hp]
   · have e2 : updB tk a n = tk n := updB_ne (Ne.symm e)
     rw [ih (by omega)]
     simp only [List.filter_cons,e2,List.filter_nil]
     split <;> simp <;> omega
theorem takGe_le {n : Nat} {tk : Nat→Bool} {p : Nat} (hp : p≤n) : takGe n tk p≤n - p := by
 unfold takGe
 induction n with
 | zero => simp
 | succ n ih =>
   rw [List.range_succ,List.filter_append,List.length_append]
   by_cases e : p≤n
   · have := ih e
     simp only [List.filter_cons,List.filter_nil]
     split <;> simp <;> omega
   · have e1 : (List.range n).filter (fun i => tk i && decide (p≤i)) = [] := List.filter_eq_nil_iff.2 fun x hx => by have := List.mem_range.1 hx; simp; omega
     rw [e1]
     have : ¬ p≤n := e
     simp [this]
theorem takGe_all {n : Nat} {tk : Nat→Bool} {p : Nat} (hp : p≤n) (h : ∀ i,p≤i→i < n→tk i = true) : takGe n tk p = n - p := by
 unfold takGe
 induction n with
 | zero => simp
 | succ n ih =>
   rw [List.range_succ,List.filter_append,List.length_append]
   by_cases e : p≤n
   · rw [ih e fun i h1 h2 => h i h1 (by omega)]
     simp [e,h n e (by omega)]; omega
   · have e1 : (List.range n).filter (fun i => tk i && decide (p≤i)) = [] := List.filter_eq_nil_iff.2 fun x hx => by have := List.mem_range.1 hx; simp; omega
     rw [e1]
     have : ¬ p≤n := e
     simp [this]; omega
theorem cntGe_cons {x : Int} {l : List Int} {p : Nat} : cntGe (x :: l) p = cntGe l p + if (p : Int)≤x then 1 else 0 := by
 unfold cntGe
 rw [List.filter_cons]
 by_cases h : (p : Int)≤x <;> simp [h]
abbrev St3 := (Nat→Bool) × Int × Int
theorem stepC_ge {n : Nat} {s : St3} {d p : Nat} (hd : d < n) : (takGe n (stepC n s d).1 p : Int) + (stepC n s d).2.2 ≥ takGe n s.1 p + s.2.2 + if p≤d then 1 else 0 := by
 obtain ⟨tk,sl,fe⟩ := s
 obtain ⟨a1,a2,a3,a4⟩ := endAt_spec (tk := tk) (show d≤n by omega)
 unfold stepC
 by_cases e : endAt n tk d < n
 · simp only [e,if_true]
   rw [takGe_upd e (a4 e)]
   by_cases h1 : p≤d
   · rw [if_pos h1,if_pos (by omega)]; omega
   · rw [if_neg h1]; split <;> omega
 · simp only [e,if_false]
   split <;> omega
theorem stepC_mono {n : Nat} {s : St3} {d i : Nat} (h : s.1 i = true) : (stepC n s d).1 i = true := by
 unfold stepC
 split
 · exact updB_at.2 (.inr h)
 · exact h
theorem stepC_eq {n : Nat} {s : St3} {d q : Nat} (hd : d < n) (hq : q < n) (hf : (stepC n s d).1 q = false) : (takGe n (stepC n s d).1 (q + 1) : Int) + (stepC n s d).2.2 = takGe n s.1 (q + 1) + s.2.2 + if q + 1≤d then 1 else 0 := by
 have hf0 : s.1 q = false := by
   cases h : s.1 q with
   | false => rfl
   | true => rw [stepC_mono h] at hf; cases hf
 obtain ⟨tk,sl,fe⟩ := s
 obtain ⟨a1,a2,a3,a4⟩ := endAt_spec (tk := tk) (show d≤n by omega)
 simp only at hf0
 have hpast : d≤q→endAt n tk d≤q := fun h => by
   rcases Nat.lt_or_ge q (endAt n tk d) with k | k
   · have := a3 q h k
     rw [hf0] at this; cases this
   · exact k
 unfold stepC at hf ⊢
 by_cases e : endAt n tk d < n
 · simp only [e,if_true] at hf ⊢
   have hne : endAt n tk d ≠ q := fun h => by rw [h,updB_self] at hf; cases hf
   rw [takGe_upd e (a4 e)]
   by_cases h1 : q + 1≤d
   · rw [if_pos h1,if_pos (by omega)]; omega
   · have := hpast (by omega)
     rw [if_neg h1,if_neg (by omega)]; omega
 · simp only [e,if_false]
   by_cases h1 : q + 1≤d
   · rw [if_pos h1]; omega
   · have := hpast (by omega); omega
theorem stepC_all {n : Nat} {s : St3} {d : Nat} (hd : d < n) : (takGe n (stepC n s d).1 0 : Int) + (stepC n s d).2.2 = takGe n s.1 0 + s.2.2 + 1 := by
 obtain ⟨tk,sl,fe⟩ := s
 obtain ⟨a1,a2,a3,a4⟩ := endAt_spec (tk := tk) (show d≤n by omega)
 unfold stepC
 by_cases e : endAt n tk d < n
 · simp only [e,if_true]
   rw [takGe_upd e (a4 e),if_pos (Nat.zero_le _)]; omega
 · simp only [e,if_false]; omega
def foldC (n : Nat) (l : List Int) (s : St3) : St3 := l.foldl (fun t d => stepC n t d.toNat) s
theorem foldC_mono {n : Nat} {i : Nat} : ∀ {l : List Int} {s : St3},s.1 i = true→(foldC n l s).1 i = true
 | [],_,h => h
 | x :: l,s,h => foldC_mono (l := l) (stepC_mono h)
theorem foldC_ge {n p : Nat} : ∀ {l : List Int} {s : St3},(∀ x ∈ l,0≤x∧x < (n : Int))→(takGe n (foldC n l s).1 p : Int) + (foldC n l s).2.2 ≥ takGe n s.1 p + s.2.2 + cntGe l p
 | [],s,_ => by simp [foldC,cntGe]
 | x :: l,s,h => by
   have hx := h x List.mem_cons_self
   have h1 := foldC_ge (p := p) (l := l) (s := stepC n s x.toNat) fun y hy => h y (List.mem_cons_of_mem _ hy)
   have h2 := stepC_ge (n := n) (s := s) (d := x.toNat) (p := p) (by omega)
   rw [cntGe_cons]
   show (takGe n (foldC n l (stepC n s x.toNat)).1 p : Int) + (foldC n l (stepC n s x.toNat)).2.2 ≥ _
   by_cases hp : (p : Int)≤x
   · rw [if_pos (by omega)] at h2
     rw [if_pos hp]; push_cast; omega
   · rw [if_neg (by omega)] at h2
     rw [if_neg hp]; push_cast; omega
theorem foldC_eq {n q : Nat} (hq : q < n) : ∀ {l : List Int} {s : St3},(∀ x ∈ l,0≤x∧x < (n : Int))→(foldC n l s).1 q = false→(takGe n (foldC n l s).1 (q + 1) : Int) + (foldC n l s).2.2 = takGe n s.1 (q + 1) + s.2.2 + cntGe l (q + 1)
 | [],s,_,_ => by simp [foldC,cntGe]
 | x :: l,s,h,hf => by
   have hx := h x List.mem_cons_self
   have h1 := foldC_eq hq (l := l) (s := stepC n s x.toNat) (fun y hy => h y (List.mem_cons_of_mem _ hy)) hf
   have hf1 : (stepC n s x.toNat).1 q = false := by
     cases k : (stepC n s x.toNat).1 q with
     | false => rfl
     | true =>
       have : (foldC n (x :: l) s).1 q = true := foldC_mono (l := l) k
       rw [this] at hf; cases hf
   have h2 := stepC_eq (n := n) (s := s) (d := x.toNat) (by omega) hq hf1
   rw [cntGe_cons]
   show (takGe n (foldC n l (stepC n s x.toNat)).1 (q + 1) : Int) + (foldC n l (stepC n s x.toNat)).2.2 = _
   by_cases hp : ((q + 1 : Nat) : Int)≤x
   · rw [if_pos (by omega)] at h2
     rw [if_pos hp]; push_cast at *; omega
   · rw [if_neg (by omega)] at h2
     rw [if_neg hp]; push_cast at *; omega
theorem foldC_all {n : Nat} : ∀ {l : List Int} {s : St3},(∀ x ∈ l,0≤x∧x < (n : Int))→(takGe n (foldC n l s).1 0 : Int) + (foldC n l s).2.2 = takGe n s.1 0 + s.2.2 + l.length
 | [],s,_ => by simp [foldC]
 | x :: l,s,h => by
   have hx := h x List.mem_cons_self
   have h1 := foldC_all (l := l) (s := stepC n s x.toNat) (fun y hy => h y (List.mem_cons_of_mem _ hy))
   have h2 := stepC_all (n := n) (s := s) (d := x.toNat) (by omega)
   show (takGe n (foldC n l (stepC n s x.toNat)).1 0 : Int) + (foldC n l (stepC n s x.toNat)).2.2 = _
   rw [h1,h2,List.length_cons]; push_cast; omega
theorem takGe_emp {n p : Nat} : takGe n emp p = 0 := by unfold takGe emp; simp
theorem run_core {n : Nat} {l : List Int} (h : ∀ x ∈ l,0≤x∧x < (n : Int)) : core (runA n l) = foldC n l (emp,0,0) := by
 unfold runA runP
 rw [core_run h]; rfl
theorem last_free (tk : Nat→Bool) : ∀ n : Nat,(∀ i,i < n→tk i = true)∨∃ q,q < n∧tk q = false∧∀ i,q + 1≤i→i < n→tk i = true
 | 0 => .inl fun i h => absurd h (Nat.not_lt_zero _)
 | n + 1 => by
   cases h : tk n with
   | false => exact .inr ⟨n,by omega,h,fun i h1 h2 => by omega⟩
   | true =>
     rcases last_free tk n with k | ⟨q,k1,k2,k3⟩
     · exact .inl fun i hi => by
         rcases Nat.lt_or_ge i n with e | e
         · exact k i e
         · rw [show i = n by omega]; exact h
     · exact .inr ⟨q, by omega, k2, fun i h1 h2 => by
         rcases Nat.lt_or_ge i n with e | e
         · exact k3 i h1 e
         · rw [show i = n by omega]; exact h⟩
theorem over_le {n : Nat} {l : List Int} (h : ∀ x ∈ l,0≤x∧x < (n : Int)) {p : Nat} (hp : p≤n) : overI n l p≤(runA n l).fell := by
 have hc := run_core h
 have h1 : (runA n l).tk = (foldC n l (emp,0,0)).1 := congrArg (·.1) hc
 have h2 : (runA n l).fell = (foldC n l (emp,0,0)).2.2 := congrArg (·.2.2) hc
 have h3 := foldC_ge (p := p) (s := (emp,0,0)) h
 have h4 := takGe_le (tk := (foldC n l (emp,0,0)).1) hp
 rw [takGe_emp] at h3
 rw [h2]
 unfold overI
 simp only at h3
 omega
theorem over_is {n : Nat} {l : List Int} (h : ∀ x ∈ l,0≤x∧x < (n : Int)) : ∃ p,p≤n∧overI n l p = (runA n l).fell := by
 have hc := run_core h
 have h1 : (runA n l).tk = (foldC n l (emp,0,0)).1 := congrArg (·.1) hc
 have h2 : (runA n l).fell = (foldC n l (emp,0,0)).2.2 := congrArg (·.2.2) hc
 rcases last_free (foldC n l (emp,0,0)).1 n with k | ⟨q,k1,k2,k3⟩
 · refine ⟨0,Nat.zero_le _,?_⟩
   have h3 := foldC_all (s := (emp,0,0)) h
   rw [takGe_emp,takGe_all (Nat.zero_le _) fun i _ hi => k i hi] at h3
   have h5 : cntGe l 0 = l.length := by
     unfold cntGe
     rw [List.filter_eq_self.2 fun x hx => by have := h x hx; simp; omega]
   rw [h2]
   unfold overI
   rw [h5]
   simp only at h3
   omega
 · refine ⟨q + 1,k1,?_⟩
   have h3 := foldC_eq k1 (s := (emp,0,0)) h k2
   rw [takGe_emp,takGe_all k1 k3] at h3
   rw [h2]
   unfold overI
   simp only at h3
   omega
end Go.Pier.Lg
set_option maxRecDepth 100000
set_option linter.unusedVariables false
set_option linter.unusedSimpArgs false
namespace Go.Pier.Lg
open Go Go.Pier Go.Proofs
noncomputable def prB : Code := Try.f57.body.getD .skip
noncomputable def coB : Code := Try.f26.body.getD .skip
noncomputable def ovB : Code := Try.f28.body.getD .skip
def ovI (n p : Int) (l : List Int) : Int := p - n + (l.filter fun x => decide (p≤x)).length
def prI (n p : Int) (l : List Int) (c : Nat) : Nat→Option LInv := invOf 0 (LInv.one Nat (fun i => i≤l.length) (fun i => [(2,vi p),(7,vi (ovI n p (l.take i))),(13,.slice (some ⟨0,0,none⟩) l.length c),(14,vi l.length),(15,vi i)]) (fun _ => [ros l]) (fun i => l.length - i))
def pr0I (n p : Int) (sv : Value) (H : Heap) : Nat→Option LInv := invOf 0 (LInv.one Unit (fun _ => True) (fun _ => [(2,vi p),(7,vi (p - n)),(13,sv),(14,vi 0),(15,vi 0)]) (fun _ => H) (fun _ => 0))
noncomputable def prV0 (n p:Int) (l:List Int) (c:Nat) := (List.map (Value.int IntKind.i64) l)
noncomputable def prV :=
fun (n p:Int) (l:List Int) (c:Nat)↦(∃ (y:Nat),Ob (y≤l.length)∧(Ob (AObj.ro (prV0 n p l c)=AObj.ro (List.map (nmap1 fun (b:Nat)↦b) (prV0 n p l c))∧AObj.sc 1 (AObj.ro (prV0 n p l c))=true)∧True)∧Ob (p=p)∧Ob (IntKind.i64.wrap (p-n)=ovI n p (List.take y l))∧Ob (Value.slice (some (ad0 0)) l.length c=Value.slice (some (ad0 0)) l.length c)∧Ob ((l.length:Int)=(l.length:Int))∧Ob ((0:Int)=(y:Int))∧True)∧∀ (x:Nat),Ob (x≤l.length)→(decide ((x:Int)<(l.length:Int))=true→Ob ((0:Int)≤(x:Int)∧(x:Int)<(l.length:Int)∧true=true)∧Ob (IntAt IntKind.i64 (prV0 n p l c) (0+(x:Int).toNat * 1))∧(decide (p≤getI (prV0 n p l c) (0+(x:Int).toNat * 1))=true→∃ (y:Nat),Ob (y≤l.length)∧Ob (l.length-y<l.length-x)∧(Ob (AObj.ro (prV0 n p l c)=AObj.ro (List.map (nmap1 fun (b:Nat)↦b) (prV0 n p l c))∧AObj.sc 1 (AObj.ro (prV0 n p l c))=true)∧True)∧Ob (p=p)∧Ob (IntKind.i64.wrap (ovI n p (List.take x l)+(1:Int))=ovI n p (List.take y l))∧Ob (Value.slice (some (ad0 0)) l.length c=Value.slice (some (ad0 0)) l.length c)∧Ob ((l.length:Int)=(l.length:Int))∧Ob (IntKind.i64.wrap ((x:Int)+(1:Int))=(y:Int))∧True)∧(decide (p≤getI (prV0 n p l c) (0+(x:Int).toNat * 1))=false→∃ (y:Nat),Ob (y≤l.length)∧Ob (l.length-y<l.length-x)∧(Ob (AObj.ro (prV0 n p l c)=AObj.ro (List.map (nmap1 fun (b:Nat)↦b) (prV0 n p l c))∧AObj.sc 1 (AObj.ro (prV0 n p l c))=true)∧True)∧Ob (p=p)∧Ob (ovI n p (List.take x l)=ovI n p (List.take y l))∧Ob (Value.slice (some (ad0 0)) l.length c=Value.slice (some (ad0 0)) l.length c)∧Ob ((l.length:Int)=(l.length:Int))∧Ob (IntKind.i64.wrap ((x:Int)+(1:Int))=(y:Int))∧True))∧(decide ((x:Int)<(l.length:Int))=false→True∧Ob (vi (ovI n p (List.take x l))=vi (ovI n p l)))
theorem prV_eq : prV = fun (n p : Int) (l : List Int) (c : Nat) => vc Try.prog {} 1 26 true (prI n p l c) prB [] (argFr 0 [vi n,.slice (some ⟨0,0,none⟩) l.length c,vi p]) [ros l] (retK Try.prog Try.f57 (fun v _ => v = vi (ovI n p l))) := by kernel_rfl
noncomputable def prN :=
fun (n p:Int)↦(∃ (y:Unit),Ob True∧True∧Ob (p=p)∧Ob (IntKind.i64.wrap (p-n)=p-n)∧Ob (Value.slice none 0 0=Value.slice none 0 0)∧Ob ((↑(0:Nat):Int)=(0:Int))∧Ob ((0:Int)=(0:Int))∧True)∧∀ (x:Unit),Ob True→(false=true→False)∧(false=false→True∧Ob (vi (p-n)=vi (ovI n p [])))
theorem prN_eq : prN = fun (n p : Int) => vc Try.prog {} 0 26 true (pr0I n p nilS []) prB [] (argFr 0 [vi n,nilS,vi p]) [] (retK Try.prog Try.f57 (fun v _ => v = vi (ovI n p []))) := by kernel_rfl
noncomputable def prH :=
fun (n p:Int) (s:Option Nat) (c:Nat)↦(∃ (y:Unit),Ob True∧True∧Ob (p=p)∧Ob (IntKind.i64.wrap (p-n)=p-n)∧Ob (Value.slice (some ⟨0,0,s⟩) 0 c=Value.slice (some ⟨0,0,s⟩) 0 c)∧Ob ((↑(0:Nat):Int)=(0:Int))∧Ob ((0:Int)=(0:Int))∧True)∧∀ (x:Unit),Ob True→(false=true→Ob ((0:Int)≤(0:Int)∧(0:Int)<(↑(0:Nat):Int)∧std ⟨0,0,s⟩ c=true)∧False)∧(false=false→True∧Ob (vi (p-n)=vi (ovI n p [])))
theorem prH_eq : prH = fun (n p : Int) (s : Option Nat) (c : Nat) => vc Try.prog {} 1 26 true (pr0I n p (.slice (some ⟨0,0,s⟩) 0 c) [.gone]) prB [] (argFr 0 [vi n,.slice (some ⟨0,0,s⟩) 0 c,vi p]) [.gone] (retK Try.prog Try.f57 (fun v _ => v = vi (ovI n p []))) := by kernel_rfl
def prS (r : List Arg) : Prop × Value := match r with
 | [n,l,p] => ((0≤n.num∧n.num≤8)∧(0≤p.num∧p.num≤8)∧l.list.length≤12,vi (ovI n.num p.num l.list))
 | _ => (False,undef)
abbrev psB : List PK := [.int .i64,.ints .i64,.int .i64]
noncomputable def coE : VEnv := { ct := (Ct.none.add 23 (pureG psA cdS)).add 57 (pureG psB prS),cc := ccIn Try.prog cdE0 [⟨55,Try.f55,fun _ _ _ => none⟩] }
def coA (n p : Int) (l : List Int) : Array Value := #[vi (if errD n l = 0∧0≤p∧p < n then ovI n p l else 0),vi (if errD n l = 0 then (if 0≤p∧p < n then 0 else 2) else errD n l)]
def coF (n p : Int) (l : List Int) : Value := .tuple (coA n p l)
noncomputable def coV0 (n p:Int) (l:List Int) (c:Nat) := (List.take l.length (List.drop 0 (intsOf (List.map (Value.int IntKind.i64) l))))
noncomputable def coV1 (n p:Int) (l:List Int) (c:Nat):Array Value := ⟨[vi (if errD n l=(0:Int)∧(0:Int)≤p∧p<n then ovI n p l else (0:Int)),vi (if errD n l=(0:Int) then if (0:Int)≤p∧p<n then (0:Int) else (2:Int) else errD n l)]⟩
noncomputable def coV2 (n p:Int) (l:List Int) (c:Nat):Prop := (List.take l.length (List.drop 0 (List.map (Value.int IntKind.i64) l))=List.map (Value.int IntKind.i64) (coV0 n p l c)∧0+l.length≤(List.map (Value.int IntKind.i64) l).length∧true=true)
noncomputable def coV :=
fun (n p:Int) (l:List Int) (c:Nat)↦Ob ((coV2 n p l c)∧(Arg.ints IntKind.i64 (coV0 n p l c)).list.length≤1000000)∧((errD (Arg.plain (vi n)).num (Arg.ints IntKind.i64 (coV0 n p l c)).list !=(0:Int))=true→True∧Ob (Value.tuple ⟨[vi (0:Int),vi (errD (Arg.plain (vi n)).num (Arg.ints IntKind.i64 (coV0 n p l c)).list)]⟩=Value.tuple (coV1 n p l c)))∧((errD (Arg.plain (vi n)).num (Arg.ints IntKind.i64 (coV0 n p l c)).list !=(0:Int))=false→Ob (([vi p]=[vi (intOf (vi p))]∧0+1≤1∧true=true)∧1≤1000000)∧((!wiF (Arg.plain (vi (0:Int))).num (Arg.plain (vi (IntKind.i64.wrap (n-(1:Int))))).num [intOf (vi p)])=true→True∧Ob (Value.tuple ⟨[vi (0:Int),vi (2:Int)]⟩=Value.tuple (coV1 n p l c)))∧((!wiF (Arg.plain (vi (0:Int))).num (Arg.plain (vi (IntKind.i64.wrap (n-(1:Int))))).num [intOf (vi p)])=false→Ob ((coV2 n p l c)∧((0:Int)≤(Arg.plain (vi n)).num∧(Arg.plain (vi n)).num≤(8:Int))∧((0:Int)≤(Arg.plain (vi p)).num∧(Arg.plain (vi p)).num≤(8:Int))∧(Arg.ints IntKind.i64 (coV0 n p l c)).list.length≤12)∧True∧Ob (Value.tuple ⟨[vi (ovI (Arg.plain (vi n)).num (Arg.plain (vi p)).num (Arg.ints IntKind.i64 (coV0 n p l c)).list),vi (0:Int)]⟩=Value.tuple (coV1 n p l c))))
theorem coV_eq : coV = fun (n p : Int) (l : List Int) (c : Nat) => vc Try.prog coE 1 24 true (fun _ => none) coB [] (argFr 0 [vi n,.slice (some ⟨0,0,none⟩) l.length c,vi p]) [ros l] (retK Try.prog Try.f26 (fun v _ => v = coF n p l)) := by kernel_rfl
noncomputable def coN0 (n p:Int):Array Value := ⟨[vi (if errD n []=(0:Int)∧(0:Int)≤p∧p<n then ovI n p [] else (0:Int)),vi (if errD n []=(0:Int) then if (0:Int)≤p∧p<n then (0:Int) else (2:Int) else errD n [])]⟩
noncomputable def coN :=
fun (n p:Int)↦Ob (0≤1000000)∧((errD (Arg.plain (vi n)).num [] !=(0:Int))=true→True∧Ob (Value.tuple ⟨[vi (0:Int),vi (errD (Arg.plain (vi n)).num [])]⟩=Value.tuple (coN0 n p)))∧((errD (Arg.plain (vi n)).num [] !=(0:Int))=false→Ob (([vi p]=[vi (intOf (vi p))]∧1≤1∧true=true)∧1≤1000000)∧((!wiF (Arg.plain (vi (0:Int))).num (Arg.plain (vi (IntKind.i64.wrap (n-(1:Int))))).num [intOf (vi p)])=true→True∧Ob (Value.tuple ⟨[vi (0:Int),vi (2:Int)]⟩=Value.tuple (coN0 n p)))∧((!wiF (Arg.plain (vi (0:Int))).num (Arg.plain (vi (IntKind.i64.wrap (n-(1:Int))))).num [intOf (vi p)])=false→Ob (((0:Int)≤(Arg.plain (vi n)).num∧(Arg.plain (vi n)).num≤(8:Int))∧((0:Int)≤(Arg.plain (vi p)).num∧(Arg.plain (vi p)).num≤(8:Int))∧0≤12)∧True∧Ob (Value.tuple ⟨[vi (ovI (Arg.plain (vi n)).num (Arg.plain (vi p)).num []),vi (0:Int)]⟩=Value.tuple (coN0 n p))))
theorem coN_eq : coN = fun (n p : Int) => vc Try.prog coE 0 24 true (fun _ => none) coB [] (argFr 0 [vi n,nilS,vi p]) [] (retK Try.prog Try.f26 (fun v _ => v = coF n p [])) := by kernel_rfl
noncomputable def coH0 (n p:Int) (s:Option Nat) (c:Nat):Array Value := ⟨[vi (if errD n []=(0:Int)∧(0:Int)≤p∧p<n then ovI n p [] else (0:Int)),vi (if errD n []=(0:Int) then if (0:Int)≤p∧p<n then (0:Int) else (2:Int) else errD n [])]⟩
noncomputable def coH :=
fun (n p:Int) (s:Option Nat) (c:Nat)↦Ob (0≤1000000)∧((errD (Arg.plain (vi n)).num [] !=(0:Int))=true→True∧Ob (Value.tuple ⟨[vi (0:Int),vi (errD (Arg.plain (vi n)).num [])]⟩=Value.tuple (coH0 n p s c)))∧((errD (Arg.plain (vi n)).num [] !=(0:Int))=false→Ob (([vi p]=[vi (intOf (vi p))]∧1≤1∧true=true)∧1≤1000000)∧((!wiF (Arg.plain (vi (0:Int))).num (Arg.plain (vi (IntKind.i64.wrap (n-(1:Int))))).num [intOf (vi p)])=true→True∧Ob (Value.tuple ⟨[vi (0:Int),vi (2:Int)]⟩=Value.tuple (coH0 n p s c)))∧((!wiF (Arg.plain (vi (0:Int))).num (Arg.plain (vi (IntKind.i64.wrap (n-(1:Int))))).num [intOf (vi p)])=false→Ob (((0:Int)≤(Arg.plain (vi n)).num∧(Arg.plain (vi n)).num≤(8:Int))∧((0:Int)≤(Arg.plain (vi p)).num∧(Arg.plain (vi p)).num≤(8:Int))∧0≤12)∧True∧Ob (Value.tuple ⟨[vi (ovI (Arg.plain (vi n)).num (Arg.plain (vi p)).num []),vi (0:Int)]⟩=Value.tuple (coH0 n p s c))))
theorem coH_eq : coH = fun (n p : Int) (s : Option Nat) (c : Nat) => vc Try.prog coE 1 24 true (fun _ => none) coB [] (argFr 0 [vi n,.slice (some ⟨0,0,s⟩) 0 c,vi p]) [.gone] (retK Try.prog Try.f26 (fun v _ => v = coF n p [])) := by kernel_rfl
theorem ovI_succ {n p : Int} {l : List Int} {x : Nat} (hx : x < l.length) : ovI n p (l.take (x + 1)) = ovI n p (l.take x) + if p≤l.getD x 0 then 1 else 0 := by
 unfold ovI
 rw [List.take_succ_eq_append_getElem hx,List.filter_append,List.length_append,List.getD_eq_getElem?_getD,List.getElem?_eq_getElem hx,List.filter_cons]
 by_cases h : p≤l[x]
 · simp [h]; omega
 · simp [h]
theorem ovI_bd {n p : Int} {l : List Int} : p - n≤ovI n p l∧ovI n p l≤p - n + l.length := by
 unfold ovI
 have := List.length_filter_le (fun x => decide (p≤x)) l
 omega
theorem ovI_nil {n p : Int} : ovI n p [] = p - n := by simp [ovI]
theorem prV_ok (n p : Int) (l : List Int) (c : Nat) (hn : 0≤n∧n≤8) (hp : 0≤p∧p≤8) (hl : l.length≤12) : prV n p l c := by
 unfold prV prV0
 simp only [SS,reduceCtorEq,Arg.list,Arg.num,Arg.flag,intOf,andP,Nat.reduceLeDiff,Nat.reduceAdd,Nat.reduceMul,Nat.reduceLT]
 refine ⟨⟨0,by omega,?_,rfl⟩,fun x hx => ⟨fun h1 => ⟨⟨by omega,by omega⟩,by omega,fun h2 => ⟨x + 1,by omega,by omega,?_,?_⟩,fun h2 => ⟨x + 1,by omega,by omega,?_,?_⟩⟩,fun h1 => ?_⟩⟩
 · rw [List.take_zero,ovI_nil,wrap_in (by omega) (by omega)]
 · have := ovI_bd (n := n) (p := p) (l := l.take x)
   have h3 : (l.take x).length≤12 := by rw [List.length_take]; omega
   rw [ovI_succ (by omega),if_pos h2,wrap_in (by omega) (by omega)]
 · rw [wrap_in (by omega) (by omega)]; rfl
 · rw [ovI_succ (by omega),if_neg h2,Int.add_zero]
 · rw [wrap_in (by omega) (by omega)]; rfl
 · rw [List.take_of_length_le (by omega)]
theorem prN_ok (n p : Int) (hn : 0≤n∧n≤8) (hp : 0≤p∧p≤8) : prN n p := by
 have h : IntKind.i64.wrap (p - n) = p - n := wrap_in (by omega) (by omega)
 unfold prN
 simp only [SS,reduceCtorEq,Arg.list,Arg.num,Arg.flag,intOf,andP,Nat.reduceLeDiff,Nat.reduceAdd,Nat.reduceMul,Nat.reduceLT,ovI_nil,h]
 rfl
theorem prH_ok (n p : Int) (s : Option Nat) (c : Nat) (hn : 0≤n∧n≤8) (hp : 0≤p∧p≤8) : prH n p s c := by
 have h : IntKind.i64.wrap (p - n) = p - n := wrap_in (by omega) (by omega)
 unfold prH
 simp only [SS,reduceCtorEq,Arg.list,Arg.num,Arg.flag,intOf,andP,Nat.reduceLeDiff,Nat.reduceAdd,Nat.reduceMul,Nat.reduceLT,ovI_nil,h]
 rfl
theorem prG_ok : ∀ args H φ v H' l,pureG psB prS args H = some (φ,v,H',l)→Asks φ→Call Try.prog 57 args H (fun v' H2 => v' = v∧H2 = H')∧Kept H H' l :=
 pureG_ok fun r hk hs => match r,hk with
   | [_,_,_],⟨⟨n,rfl⟩,ha,⟨p,rfl⟩,_⟩ => by
     obtain ⟨h1,h2,h3⟩ := hs
     refine ⟨rfl,fun caps => ?_⟩
     rcases ha with rfl | ⟨s,rfl⟩ | ⟨l,rfl⟩
     · have h := prN_ok n p h1 h2
       rw [prN_eq] at h
       exact Call.ofVc (VOk.ofCt CtOk.none) mixed (c := prB) Try.func57 (by kernel_rfl) h
     · have h := prH_ok n p s (caps 0) h1 h2
       rw [prH_eq] at h
       exact Call.ofVc (VOk.ofCt CtOk.none) mixed (c := prB) Try.func57 (by kernel_rfl) h
     · have h := prV_ok n p l (caps 0) h1 h2 h3
       rw [prV_eq] at h
       exact Call.ofVc (VOk.ofCt CtOk.none) mixed (c := prB) Try.func57 (by kernel_rfl) h
theorem coF_ok {n p : Int} {l : List Int} : (¬errD n l = 0→#[vi 0,vi (errD n l)] = coA n p l)∧(errD n l = 0→(wiF 0 (IntKind.i64.wrap (n - 1)) [p] = false→#[vi 0,vi 2] = coA n p l) ∧
   (wiF 0 (IntKind.i64.wrap (n - 1)) [p] = true→((0≤n∧n≤8)∧(0≤p∧p≤8)∧l.length≤12)∧#[vi (ovI n p l),vi 0] = coA n p l)) := by
 unfold coA
 refine ⟨fun h => by rw [if_neg fun k => h k.1,if_neg h],fun h => ?_⟩
 have hb : 1≤n∧n≤8∧l.length≤12 := by
   unfold errD at h
   split at h
   · cases h
   · omega
 rw [wrap_in (x := n - 1) (by omega) (by omega),wiF_one,decide_eq_false_iff_not,decide_eq_true_eq]
 refine ⟨fun h2 => ?_,fun h2 => ⟨by omega,?_⟩⟩
 · rw [if_neg fun k => absurd k.2 (by omega),if_pos h,if_neg (by omega)]
 · rw [if_pos ⟨h,by omega⟩,if_pos h,if_pos (by omega)]
theorem coV_ok (n p : Int) (l : List Int) (c : Nat) (hl : l.length≤1000000) : coV n p l c := by
 unfold coV coV2 coV1 coV0
 simp only [SS,reduceCtorEq,Arg.list,Arg.num,Arg.flag,intOf,andP,Nat.reduceLeDiff,Nat.reduceAdd,Nat.reduceMul,Nat.reduceLT,hl]
 exact coF_ok
theorem coN_ok (n p : Int) : coN n p := by
 have := coF_ok (n := n) (p := p) (l := [])
 unfold coN coN0
 simp only [SS,reduceCtorEq,Arg.list,Arg.num,Arg.flag,intOf,andP,Nat.reduceLeDiff,Nat.reduceAdd,Nat.reduceMul,Nat.reduceLT]
 exact ⟨this.1,fun h => ⟨(this.2 h).1,fun h2 => ⟨⟨((this.2 h).2 h2).1.1,((this.2 h).2 h2).1.2.1⟩,((this.2 h).2 h2).2⟩⟩⟩
theorem coH_ok (n p : Int) (s : Option Nat) (c : Nat) : coH n p s c := by
 have := coF_ok (n := n) (p := p) (l := [])
 unfold coH coH0
 simp only [SS,reduceCtorEq,Arg.list,Arg.num,Arg.flag,intOf,andP,Nat.reduceLeDiff,Nat.reduceAdd,Nat.reduceMul,Nat.reduceLT]
 exact ⟨this.1,fun h => ⟨(this.2 h).1,fun h2 => ⟨⟨((this.2 h).2 h2).1.1,((this.2 h).2 h2).1.2.1⟩,((this.2 h).2 h2).2⟩⟩⟩
theorem coE_ok : VOk Try.prog coE := ⟨(CtOk.none.add cdG_ok).add prG_ok,ccIn_ok cdE0_ok mixed (inl_one Try.func55),cdE0_ok.yc,E0_ok.orc⟩
def coS (r : List Arg) : Prop × Value := match r with
 | [n,l,p] => (l.list.length≤1000000,coF n.num p.num l.list)
 | _ => (False,undef)
theorem sc_coF {n p : Int} {l : List Int} : sc 0 (coF n p l) = true := by simp [coF,coA,sc,sc2,sc1,sc0]
theorem coG_ok : ∀ args H φ v H' l,pureG psB coS args H = some (φ,v,H',l)→Asks φ→Call Try.prog 26 args H (fun v' H2 => v' = v∧H2 = H')∧Kept H H' l :=
 pureG_ok fun r hk hs => match r,hk with
   | [_,_,_],⟨⟨n,rfl⟩,ha,⟨p,rfl⟩,_⟩ => by
     refine ⟨sc_coF,fun caps => ?_⟩
     rcases ha with rfl | ⟨s,rfl⟩ | ⟨l,rfl⟩
     · have h := coN_ok n p
       rw [coN_eq] at h
       exact Call.ofVc coE_ok mixed (c := coB) Try.func26 (by kernel_rfl) h
     · have h := coH_ok n p s (caps 0)
       rw [coH_eq] at h
       exact Call.ofVc coE_ok mixed (c := coB) Try.func26 (by kernel_rfl) h
     · have h := coV_ok n p l (caps 0) hs
       rw [coV_eq] at h
       exact Call.ofVc coE_ok mixed (c := coB) Try.func26 (by kernel_rfl) h
end Go.Pier.Lg
set_option maxRecDepth 100000
set_option linter.unusedVariables false
set_option linter.unusedSimpArgs false
namespace Go.Pier.Lg
open Go Go.Pier Go.Proofs
def allV : Value := .func (.func 59) #[] #[]
noncomputable def waE : VEnv := { cc := ccIn Try.prog {} [⟨59,Try.f59,fun _ _ _ => none⟩],orc := orcW }
def allT : Nat→Bool := fun _ => true
noncomputable def whA0 (n:Nat) (tk:Nat→Bool) (x:Nat) := (List.take ((whL allT x).length.min (IntKind.i64.wrap (↑(whL allT x).length:Int)).toNat * 1) (List.drop 0 (List.map (Value.int IntKind.i64) (whC allT x))))
noncomputable def whA1 (n:Nat) (tk:Nat→Bool):Prop := (Value.func (Fn.func (59:FuncId)) ⟨[]⟩ ⟨[]⟩=Value.func (Fn.func (59:FuncId)) ⟨[]⟩ ⟨[]⟩)
noncomputable def whA2 (n:Nat) (tk:Nat→Bool) (y:Nat) := (List.map (Value.int IntKind.i64) (whC allT y))
noncomputable def whA3 (n:Nat) (tk:Nat→Bool):Prop := (AObj.rw (lgC (n:Int) tk) none=AObj.rw (lgC (n:Int) tk) none∧true=true)
noncomputable def whA :=
fun (n:Nat) (tk:Nat→Bool)↦Ob (some (vi (n:Int))=some (vi (n:Int)))∧Ob (((0:Int)≤(n:Int)∧(n:Int)≤(↑(8:Nat):Int))∧(0:Int)≤(0:Int)∧(0:Int)≤(↑(n:Int).toNat:Int))∧Ob (some (vi (n:Int))=some (vi (n:Int)))∧(∃ (y:Nat),Ob (y≤n)∧(Ob (whA3 n tk)∧Ob (AObj.rw [vi (0:Int),vi (0:Int),vi (0:Int),vi (0:Int),vi (0:Int),vi (0:Int),vi (0:Int),vi (0:Int)] none=AObj.rw (List.map (nmap1 fun (b:Nat)↦b) (whA2 n tk y)) none∧AObj.sc 2 (AObj.rw (whA2 n tk y) none)=true)∧True)∧Ob (whA1 n tk)∧Ob (Value.slice (some (ad0 1)) 0 (n:Int).toNat=Value.slice (some (ad0 1)) (whL allT y).length n)∧Ob ((n:Int)=(n:Int))∧Ob ((0:Int)=(y:Int))∧True)∧∀ (x:Nat),Ob (x≤n)→(decide ((x:Int)<(n:Int))=true→(true=true→Ob (andP (some (0+1≤1∧true=true)) ((whL allT x).length+1≤1099511627776∧(2 * ((whL allT x).length+1)+256) * 8≤281474976710656∧1=1∧1=1∧(whL allT x).length+1≤n∧0<1∧0+(whL allT x).length * 1+1≤(List.map (Value.int IntKind.i64) (whC allT x)).length∧true=true))∧∃ (y:Nat),Ob (y≤n)∧Ob (n-y<n-x)∧(Ob (whA3 n tk)∧Ob (AObj.rw (putL (List.map (Value.int IntKind.i64) (whC allT x)) (0+(whL allT x).length * 1) [vi (x:Int)]) none=AObj.rw (List.map (nmap1 fun (b:Nat)↦b) (whA2 n tk y)) none∧AObj.sc 2 (AObj.rw (whA2 n tk y) none)=true)∧True)∧Ob (whA1 n tk)∧Ob (Value.slice (some (ad0 1)) ((whL allT x).length+1) n=Value.slice (some (ad0 1)) (whL allT y).length n)∧Ob ((n:Int)=(n:Int))∧Ob (IntKind.i64.wrap ((x:Int)+(1:Int))=(y:Int))∧True)∧(true=false→∃ (y:Nat),Ob (y≤n)∧Ob (n-y<n-x)∧(Ob (whA3 n tk)∧Ob (AObj.rw (List.map (Value.int IntKind.i64) (whC allT x)) none=AObj.rw (List.map (nmap1 fun (b:Nat)↦b) (whA2 n tk y)) none∧AObj.sc 2 (AObj.rw (whA2 n tk y) none)=true)∧True)∧Ob (whA1 n tk)∧Ob (Value.slice (some (ad0 1)) (whL allT x).length n=Value.slice (some (ad0 1)) (whL allT y).length n)∧Ob ((n:Int)=(n:Int))∧Ob (IntKind.i64.wrap ((x:Int)+(1:Int))=(y:Int))∧True))∧(decide ((x:Int)<(n:Int))=false→Ob ((0:Int)≤IntKind.i64.wrap (↑(whL allT x).length:Int)∧IntKind.i64.wrap (↑(whL allT x).length:Int)≤IntKind.i64.wrap (↑(whL allT x).length:Int)∧(↑(8:Nat):Int) * IntKind.i64.wrap (↑(whL allT x).length:Int)≤(281474976710656:Int))∧Ob (andP (some (0+(whL allT x).length.min (IntKind.i64.wrap (↑(whL allT x).length:Int)).toNat * 1≤(List.map (Value.int IntKind.i64) (whC allT x)).length∧true=true)) (0+(whA0 n tk x).length≤(List.replicate (IntKind.i64.wrap (↑(whL allT x).length:Int)).toNat (vi (0:Int))).length∧(whA0 n tk x).all (sc1 3)=true))∧(Ob (AObj.rw (putL (List.replicate (IntKind.i64.wrap (↑(whL allT x).length:Int)).toNat (vi (0:Int))) 0 (whA0 n tk x)) none=AObj.rw (List.map (nmap1 (nsub 0 2)) (List.map (Value.int IntKind.i64) (whL allT n))) none∧AObj.sc 1 (AObj.rw (List.map (Value.int IntKind.i64) (whL allT n)) none)=true)∧True)∧Ob (Value.slice (some (ad0 2)) (IntKind.i64.wrap (↑(whL allT x).length:Int)).toNat (IntKind.i64.wrap (↑(whL allT x).length:Int)).toNat=Value.slice (some (ad0 2)) (whL allT n).length (whL allT n).length)∧True)
theorem whA_eq : whA = fun (n : Nat) (tk : Nat→Bool) => vc Try.prog waE 0 32 true (whI allT n tk allV) whB [] (argFr 0 [lgV n tk,allV]) [] (retR Try.prog Try.f51 0 (nsub 0 2) (.slice (some ⟨0,0,none⟩) (whL allT n).length (whL allT n).length) [.rw ((whL allT n).map (.int .i64)) none]) := by kernel_rfl
def goodA (_ : Int) (_ gv : Value) : Prop × (Nat→Bool) := (gv = allV,allT)
noncomputable def ovC : Ct := ((Ct.none.add 49 pushedG).add 51 (whG goodA)).add 57 (pureG psB prS)
noncomputable def ovE1 : VEnv := { ct := ovC,cc := ccIn Try.prog { ct := ovC } [⟨61,Try.f61,fun _ _ _ => none⟩] }
def bestTo (w : Nat→Int) : Nat→Nat
 | 0 => 0
 | i + 1 => if w (bestTo w i) < w (i + 1) then i + 1 else bestTo w i
def ovIv (n : Nat) (l : List Int) : List Value→Heap→Nat→Option LInv := fun args H => match args with
 | [.slice (some ad) _ _,fv] => invOf 0 (LInv.one Nat (fun i => i + 1≤n) (fun i => [(1,fv),(5,vi (bestTo (fun p => ovI n p l) i)),(12,.slice (some ⟨ad.block,if n = 1 then 0 else 1,none⟩) (n - 1) (n - 1)),(13,vi ((n - 1 : Nat) : Int)),(14,vi i)]) (fun _ => H) (fun i => n - i))
 | _ => fun _ => none
noncomputable def ovE (n : Nat) (l : List Int) (tk : Nat→Bool) (sl fe : Int) (la : List Int) : VEnv := { ct := ovC.add 49 (nameCt pushedG (fun b => .tuple #[ptr0 b,vi 0]) (fun b => [pu n tk (newS (b + 1) l.length) sl fe,rws la])),cc := ccIn Try.prog ovE1 [⟨60,Try.f60,ovIv n l⟩] }
noncomputable def ovEZ (n : Nat) : VEnv := { ct := ovC.add 49 (nameCt pushedG (fun b => .tuple #[ptr0 b,vi 0]) (fun _ => [pu n emp nilS 0 0])) }
def ovF (n : Nat) (l : List Int) (fe : Int) : Value := .tuple #[vi (if fe = 0 then 0 else (bestTo (fun p => ovI n p l) (n - 1) : Int)),vi (if fe = 0 then 20 else 0)]
noncomputable def ovV0 (n:Nat) (l:List Int) (c:Nat) (tk:Nat→Bool) (sl fe:Int) (la:List Int) := (List.take l.length (List.drop 0 (intsOf (List.map (Value.int IntKind.i64) l))))
noncomputable def ovV1 (n:Nat) (l:List Int) (c:Nat) (tk:Nat→Bool) (sl fe:Int) (la:List Int) := (vi (n:Int)::T8 tk [Value.slice (some ⟨3+1,0,some 0⟩) l.length 0,vi sl,vi fe])
noncomputable def ovV2 (n:Nat) (l:List Int) (c:Nat) (tk:Nat→Bool) (sl fe:Int) (la:List Int) := (List.map (Value.int IntKind.i64) (whL allT (fN (lgC (n:Int) tk)).toNat))
noncomputable def ovV3 (n:Nat) (l:List Int) (c:Nat) (tk:Nat→Bool) (sl fe:Int) (la:List Int):Prop := (List.take l.length (List.drop 0 (List.map (Value.int IntKind.i64) l))=List.map (Value.int IntKind.i64) (ovV0 n l c tk sl fe la)∧0+l.length≤(List.map (Value.int IntKind.i64) l).length∧true=true)
noncomputable def ovV4 (n:Nat) (l:List Int) (c:Nat) (tk:Nat→Bool) (sl fe:Int) (la:List Int):Prop := (AObj.rw (ovV1 n l c tk sl fe la) none=AObj.rw (vi (n:Int)::T8 tk [Value.slice (some ⟨4,0,some 0⟩) l.length 0,vi sl,vi fe]) none∧true=true)
noncomputable def ovV5 (n:Nat) (l:List Int) (c:Nat) (tk:Nat→Bool) (sl fe:Int) (la:List Int) (x:Nat) := (Arg.plain (vi (getI (ovV2 n l c tk sl fe la) ((if n=1 then 0 else 1)+(x:Int).toNat * 1))))
noncomputable def ovV6 (n:Nat) (l:List Int) (c:Nat) (tk:Nat→Bool) (sl fe:Int) (la:List Int):Prop := (Value.func (Fn.func 61) ⟨[]⟩ ⟨[ptr0 1,ptr0 2]⟩=Value.func (Fn.func 61) ⟨[]⟩ ⟨[ptr0 1,ptr0 2]⟩)
noncomputable def ovV7 (n:Nat) (l:List Int) (c:Nat) (tk:Nat→Bool) (sl fe:Int) (la:List Int):Prop := (Value.slice (some ⟨5,if n=1 then 0 else 1,none⟩) (n-1) (n-1)=Value.slice (some ⟨5,if n=1 then 0 else 1,none⟩) (n-1) (n-1))
noncomputable def ovV8 (n:Nat) (l:List Int) (c:Nat) (tk:Nat→Bool) (sl fe:Int) (la:List Int):Prop := (AObj.rw [Value.slice (some (ad0 0)) l.length c] none=AObj.rw [Value.slice (some (ad0 0)) l.length c] none∧true=true)
noncomputable def ovV :=
fun (n:Nat) (l:List Int) (c:Nat) (tk:Nat→Bool) (sl fe:Int) (la:List Int)↦Ob (some (vi (n:Int))=some (vi (n:Int)))∧Ob (((ovV3 n l c tk sl fe la)∧errD (n:Int) (ovV0 n l c tk sl fe la)=(0:Int)∧0<(ovV0 n l c tk sl fe la).length∧(0:Int)≤(n:Int))∧Value.tuple ⟨[ptr0 3,vi (0:Int)]⟩=Value.tuple ⟨[ptr0 3,vi (0:Int)]⟩∧[AObj.ro (List.map (Value.int IntKind.i64) l),AObj.rw [vi (n:Int)] none,AObj.rw [Value.slice (some (ad0 0)) l.length c] none,AObj.rw (vi (n:Int)::T8 ((runA (n:Int).toNat (ovV0 n l c tk sl fe la)).tk) [Value.slice (some ⟨3+1,0,some 0⟩) (ovV0 n l c tk sl fe la).length 0,vi (runA (n:Int).toNat (ovV0 n l c tk sl fe la)).slid,vi (runA (n:Int).toNat (ovV0 n l c tk sl fe la)).fell]) none,AObj.rw (List.map (Value.int IntKind.i64) (runA (n:Int).toNat (ovV0 n l c tk sl fe la)).lies) (some 1)]=[AObj.ro (List.map (Value.int IntKind.i64) l),AObj.rw [vi (n:Int)] none,AObj.rw [Value.slice (some (ad0 0)) l.length c] none,AObj.rw (ovV1 n l c tk sl fe la) none,AObj.rw (List.map (Value.int IntKind.i64) la) (some 1)])∧(false=true→True∧Ob (Value.tuple ⟨[vi (0:Int),vi (0:Int)]⟩=Value.tuple ⟨[vi (if fe=(0:Int) then (0:Int) else (↑(bestTo (fun (p:Nat)↦ovI (n:Int) (p:Int) l) (n-1)):Int)),vi (if fe=(0:Int) then (20:Int) else (0:Int))]⟩))∧(false=false→Ob (IntAt IntKind.i64 (ovV1 n l c tk sl fe la) (0+11))∧((getI (ovV1 n l c tk sl fe la) (0+11)==(0:Int))=true→True∧Ob (Value.tuple ⟨[vi (0:Int),vi (20:Int)]⟩=Value.tuple ⟨[vi (if fe=(0:Int) then (0:Int) else (↑(bestTo (fun (p:Nat)↦ovI (n:Int) (p:Int) l) (n-1)):Int)),vi (if fe=(0:Int) then (20:Int) else (0:Int))]⟩))∧((getI (ovV1 n l c tk sl fe la) (0+11)==(0:Int))=false→Ob (Value.agg { toList := (lgC (n:Int) tk) }=Value.agg { toList := (lgC (fN (lgC (n:Int) tk)) (fT (lgC (n:Int) tk))) }∧(0:Int)≤fN (lgC (n:Int) tk)∧fN (lgC (n:Int) tk)≤(8:Int)∧Value.func (Fn.func 59) ⟨[]⟩ ⟨[]⟩=Value.func (Fn.func (59:FuncId)) ⟨[]⟩ ⟨[]⟩)∧Ob ((0:Int)≤(0:Int)∧(0:Int)<(↑(whL allT (fN (lgC (n:Int) tk)).toNat).length:Int)∧true=true)∧Ob (IntAt IntKind.i64 (ovV2 n l c tk sl fe la) (0+0))∧Ob ((whL allT (fN (lgC (n:Int) tk)).toNat).length≤(whL allT (fN (lgC (n:Int) tk)).toNat).length∧(0:Int)≤(1:Int)∧(1:Int)≤(↑(whL allT (fN (lgC (n:Int) tk)).toNat).length:Int))∧(∃ (y:Nat),Ob (y+1≤n)∧(Ob (AObj.ro (List.map (Value.int IntKind.i64) l)=AObj.ro (List.map (nmap1 fun (b:Nat)↦b) (List.map (Value.int IntKind.i64) l))∧AObj.sc 6 (AObj.ro (List.map (Value.int IntKind.i64) l))=true)∧Ob (AObj.rw [vi (n:Int)] none=AObj.rw [vi (n:Int)] none∧true=true)∧Ob (ovV8 n l c tk sl fe la)∧Ob (ovV4 n l c tk sl fe la)∧Ob (AObj.rw (List.map (Value.int IntKind.i64) la) (some 1)=AObj.rw (List.map (nmap1 fun (b:Nat)↦b) (List.map (Value.int IntKind.i64) la)) (some 1)∧AObj.sc 6 (AObj.rw (List.map (Value.int IntKind.i64) la) (some 1))=true)∧Ob (AObj.rw (ovV2 n l c tk sl fe la) none=AObj.rw (List.map (nmap1 fun (b:Nat)↦b) (ovV2 n l c tk sl fe la)) none∧AObj.sc 6 (AObj.rw (ovV2 n l c tk sl fe la) none)=true)∧True)∧Ob (ovV6 n l c tk sl fe la)∧Ob (getI (ovV2 n l c tk sl fe la) (0+0)=(↑(bestTo (fun (p:Nat)↦ovI (n:Int) (p:Int) l) y):Int))∧Ob (Value.slice (some ⟨5,if (whL allT (fN (lgC (n:Int) tk)).toNat).length=1 then 0 else 0+1,none⟩) ((whL allT (fN (lgC (n:Int) tk)).toNat).length-1) ((whL allT (fN (lgC (n:Int) tk)).toNat).length-1)=Value.slice (some ⟨5,if n=1 then 0 else 1,none⟩) (n-1) (n-1))∧Ob ((↑((whL allT (fN (lgC (n:Int) tk)).toNat).length-1):Int)=(↑(n-1):Int))∧Ob ((0:Int)=(y:Int))∧True)∧∀ (x:Nat),Ob (x+1≤n)→(decide ((x:Int)<(↑(n-1):Int))=true→Ob ((0:Int)≤(x:Int)∧(x:Int)<(↑(n-1):Int)∧true=true)∧Ob (IntAt IntKind.i64 (ovV2 n l c tk sl fe la) ((if n=1 then 0 else 1)+(x:Int).toNat * 1))∧Ob (some (vi (n:Int))=some (vi (n:Int)))∧Ob ((ovV3 n l c tk sl fe la)∧((0:Int)≤(Arg.plain (vi (n:Int))).num∧(Arg.plain (vi (n:Int))).num≤(8:Int))∧((0:Int)≤(ovV5 n l c tk sl fe la x).num∧(ovV5 n l c tk sl fe la x).num≤(8:Int))∧(Arg.ints IntKind.i64 (ovV0 n l c tk sl fe la)).list.length≤12)∧Ob (some (vi (n:Int))=some (vi (n:Int)))∧Ob ((ovV3 n l c tk sl fe la)∧((0:Int)≤(Arg.plain (vi (n:Int))).num∧(Arg.plain (vi (n:Int))).num≤(8:Int))∧((0:Int)≤(Arg.plain (vi (↑(bestTo (fun (p:Nat)↦ovI (n:Int) (p:Int) l) x):Int))).num∧(Arg.plain (vi (↑(bestTo (fun (p:Nat)↦ovI (n:Int) (p:Int) l) x):Int))).num≤(8:Int))∧(Arg.ints IntKind.i64 (ovV0 n l c tk sl fe la)).list.length≤12)∧(decide (ovI (Arg.plain (vi (n:Int))).num (Arg.plain (vi (↑(bestTo (fun (p:Nat)↦ovI (n:Int) (p:Int) l) x):Int))).num (Arg.ints IntKind.i64 (ovV0 n l c tk sl fe la)).list<ovI (Arg.plain (vi (n:Int))).num (ovV5 n l c tk sl fe la x).num (Arg.ints IntKind.i64 (ovV0 n l c tk sl fe la)).list)=true→∃ (y:Nat),Ob (y+1≤n)∧Ob (n-y<n-x)∧(Ob (AObj.ro (List.map (Value.int IntKind.i64) l)=AObj.ro (List.map (nmap1 fun (b:Nat)↦b) (List.map (Value.int IntKind.i64) l))∧AObj.sc 6 (AObj.ro (List.map (Value.int IntKind.i64) l))=true)∧Ob (AObj.rw [vi (n:Int)] none=AObj.rw [vi (n:Int)] none∧true=true)∧Ob (ovV8 n l c tk sl fe la)∧Ob (ovV4 n l c tk sl fe la)∧Ob (AObj.rw (List.map (Value.int IntKind.i64) la) (some 1)=AObj.rw (List.map (nmap1 fun (b:Nat)↦b) (List.map (Value.int IntKind.i64) la)) (some 1)∧AObj.sc 6 (AObj.rw (List.map (Value.int IntKind.i64) la) (some 1))=true)∧Ob (AObj.rw (ovV2 n l c tk sl fe la) none=AObj.rw (List.map (nmap1 fun (b:Nat)↦b) (ovV2 n l c tk sl fe la)) none∧AObj.sc 6 (AObj.rw (ovV2 n l c tk sl fe la) none)=true)∧True)∧Ob (ovV6 n l c tk sl fe la)∧Ob (getI (ovV2 n l c tk sl fe la) ((if n=1 then 0 else 1)+(x:Int).toNat * 1)=(↑(bestTo (fun (p:Nat)↦ovI (n:Int) (p:Int) l) y):Int))∧Ob (ovV7 n l c tk sl fe la)∧Ob ((↑(n-1):Int)=(↑(n-1):Int))∧Ob (IntKind.i64.wrap ((x:Int)+(1:Int))=(y:Int))∧True)∧(decide (ovI (Arg.plain (vi (n:Int))).num (Arg.plain (vi (↑(bestTo (fun (p:Nat)↦ovI (n:Int) (p:Int) l) x):Int))).num (Arg.ints IntKind.i64 (ovV0 n l c tk sl fe la)).list<ovI (Arg.plain (vi (n:Int))).num (ovV5 n l c tk sl fe la x).num (Arg.ints IntKind.i64 (ovV0 n l c tk sl fe la)).list)=false→∃ (y:Nat),Ob (y+1≤n)∧Ob (n-y<n-x)∧(Ob (AObj.ro (List.map (Value.int IntKind.i64) l)=AObj.ro (List.map (nmap1 fun (b:Nat)↦b) (List.map (Value.int IntKind.i64) l))∧AObj.sc 6 (AObj.ro (List.map (Value.int IntKind.i64) l))=true)∧Ob (AObj.rw [vi (n:Int)] none=AObj.rw [vi (n:Int)] none∧true=true)∧Ob (ovV8 n l c tk sl fe la)∧Ob (ovV4 n l c tk sl fe la)∧Ob (AObj.rw (List.map (Value.int IntKind.i64) la) (some 1)=AObj.rw (List.map (nmap1 fun (b:Nat)↦b) (List.map (Value.int IntKind.i64) la)) (some 1)∧AObj.sc 6 (AObj.rw (List.map (Value.int IntKind.i64) la) (some 1))=true)∧Ob (AObj.rw (ovV2 n l c tk sl fe la) none=AObj.rw (List.map (nmap1 fun (b:Nat)↦b) (ovV2 n l c tk sl fe la)) none∧AObj.sc 6 (AObj.rw (ovV2 n l c tk sl fe la) none)=true)∧True)∧Ob (ovV6 n l c tk sl fe la)∧Ob ((↑(bestTo (fun (p:Nat)↦ovI (n:Int) (p:Int) l) x):Int)=(↑(bestTo (fun (p:Nat)↦ovI (n:Int) (p:Int) l) y):Int))∧Ob (ovV7 n l c tk sl fe la)∧Ob ((↑(n-1):Int)=(↑(n-1):Int))∧Ob (IntKind.i64.wrap ((x:Int)+(1:Int))=(y:Int))∧True))∧(decide ((x:Int)<(↑(n-1):Int))=false→True∧Ob (Value.tuple ⟨[vi (↑(bestTo (fun (p:Nat)↦ovI (n:Int) (p:Int) l) x):Int),vi (0:Int)]⟩=Value.tuple ⟨[vi (if fe=(0:Int) then (0:Int) else (↑(bestTo (fun (p:Nat)↦ovI (n:Int) (p:Int) l) (n-1)):Int)),vi (if fe=(0:Int) then (20:Int) else (0:Int))]⟩))))
theorem ovV_eq : ovV = fun (n : Nat) (l : List Int) (c : Nat) (tk : Nat→Bool) (sl fe : Int) (la : List Int) => vc Try.prog (ovE n l tk sl fe la) 1 31 true (fun _ => none) ovB [] (argFr 0 [vi n,.slice (some ⟨0,0,none⟩) l.length c]) [ros l] (retK Try.prog Try.f28 (fun v _ => v = ovF n l fe)) := by kernel_rfl
noncomputable def ovN0 (n:Nat) := (vi (n:Int)::T8 emp [Value.slice none 0 0,vi (0:Int),vi (0:Int)])
noncomputable def ovN :=
fun (n:Nat)↦Ob (some (vi (n:Int))=some (vi (n:Int)))∧Ob (errD (n:Int) []=(0:Int)∧Value.tuple ⟨[ptr0 2,vi (0:Int)]⟩=Value.tuple ⟨[ptr0 2,vi (0:Int)]⟩∧[AObj.rw [vi (n:Int)] none,AObj.rw [Value.slice none 0 0] none,AObj.rw (ovN0 n) none]=[AObj.rw [vi (n:Int)] none,AObj.rw [Value.slice none 0 0] none,AObj.rw (ovN0 n) none])∧(false=true→True∧Ob (Value.tuple ⟨[vi (0:Int),vi (0:Int)]⟩=Value.tuple ⟨[vi (0:Int),vi (20:Int)]⟩))∧(false=false→Ob (IntAt IntKind.i64 (ovN0 n) (0+11))∧((getI (ovN0 n) (0+11)==(0:Int))=true→True∧Ob (Value.tuple ⟨[vi (0:Int),vi (20:Int)]⟩=Value.tuple ⟨[vi (0:Int),vi (20:Int)]⟩))∧((getI (ovN0 n) (0+11)==(0:Int))=false→Ob (Value.agg { toList := (lgC (n:Int) emp) }=Value.agg { toList := (lgC (fN (lgC (n:Int) emp)) emp) }∧(0:Int)≤fN (lgC (n:Int) emp)∧fN (lgC (n:Int) emp)≤(8:Int)∧Value.func (Fn.func 59) ⟨[]⟩ ⟨[]⟩=Value.func (Fn.func (59:FuncId)) ⟨[]⟩ ⟨[]⟩)∧False))
theorem ovN_eq : ovN = fun (n : Nat) => vc Try.prog (ovEZ n) 0 31 true (fun _ => none) ovB [] (argFr 0 [vi n,nilS]) [] (retK Try.prog Try.f28 (fun v _ => v = .tuple #[vi 0,vi 20])) := by kernel_rfl
noncomputable def ovH0 (n:Nat) (s:Option Nat) (c:Nat) := (vi (n:Int)::T8 emp [Value.slice none 0 0,vi (0:Int),vi (0:Int)])
noncomputable def ovH :=
fun (n:Nat) (s:Option Nat) (c:Nat)↦Ob (some (vi (n:Int))=some (vi (n:Int)))∧Ob (errD (n:Int) []=(0:Int)∧Value.tuple ⟨[ptr0 3,vi (0:Int)]⟩=Value.tuple ⟨[ptr0 3,vi (0:Int)]⟩∧[AObj.gone,AObj.rw [vi (n:Int)] none,AObj.rw [Value.slice (some ⟨0,0,s⟩) 0 c] none,AObj.rw (ovH0 n s c) none]=[AObj.gone,AObj.rw [vi (n:Int)] none,AObj.rw [Value.slice (some ⟨0,0,s⟩) 0 c] none,AObj.rw (ovH0 n s c) none])∧(false=true→True∧Ob (Value.tuple ⟨[vi (0:Int),vi (0:Int)]⟩=Value.tuple ⟨[vi (0:Int),vi (20:Int)]⟩))∧(false=false→Ob (IntAt IntKind.i64 (ovH0 n s c) (0+11))∧((getI (ovH0 n s c) (0+11)==(0:Int))=true→True∧Ob (Value.tuple ⟨[vi (0:Int),vi (20:Int)]⟩=Value.tuple ⟨[vi (0:Int),vi (20:Int)]⟩))∧((getI (ovH0 n s c) (0+11)==(0:Int))=false→Ob (Value.agg { toList := (lgC (n:Int) emp) }=Value.agg { toList := (lgC (fN (lgC (n:Int) emp)) emp) }∧(0:Int)≤fN (lgC (n:Int) emp)∧fN (lgC (n:Int) emp)≤(8:Int)∧Value.func (Fn.func 59) ⟨[]⟩ ⟨[]⟩=Value.func (Fn.func (59:FuncId)) ⟨[]⟩ ⟨[]⟩)∧False))
theorem ovH_eq : ovH = fun (n : Nat) (s : Option Nat) (c : Nat) => vc Try.prog (ovEZ n) 1 31 true (fun _ => none) ovB [] (argFr 0 [vi n,.slice (some ⟨0,0,s⟩) 0 c]) [.gone] (retK Try.prog Try.f28 (fun v _ => v = .tuple #[vi 0,vi 20])) := by kernel_rfl
theorem whA_ok (n : Nat) (tk : Nat→Bool) (hn : n≤8) : whA n tk := by
 unfold whA whA3 whA2 whA1 whA0
 simp only [SS,reduceCtorEq,Arg.list,Arg.num,Arg.flag,intOf,andP,Nat.reduceLeDiff,Nat.reduceAdd,Nat.reduceMul,Nat.reduceLT]
 refine ⟨⟨by omega,by omega⟩,⟨0,by omega,rfl,rfl,rfl⟩,fun x hx => ⟨fun h1 => ?_,fun h1 => ?_⟩⟩
 · have hl := whL_len (g := allT) (i := x)
   refine ⟨⟨by omega,by omega,by omega,by rw [whC_len (by omega)]; omega⟩,x + 1,by omega,by omega,whC_yes (by omega) rfl,?_,?_⟩
   · rw [whL_succ,if_pos (show allT x = true from rfl)]; simp
   · rw [wrap_in (by omega) (by omega)]; push_cast; rfl
 · obtain rfl : x = n := by omega
   have hl := whL_len (g := allT) (i := x)
   have hc := whC_len (g := allT) (i := x) (by omega)
   have ht : List.take (whL allT x).length (whC allT x) = whL allT x := by unfold whC; rw [List.take_append_of_le_length (Nat.le_refl _),List.take_length]
   rw [wrap_in (x := ((whL allT x).length : Int)) (by omega) (by omega)]
   simp only [Int.toNat_natCast,Nat.min_self,← List.map_take,ht,List.length_replicate,List.length_map,hc]
   exact ⟨⟨by omega,by omega,by omega⟩,⟨by omega,by omega,all_sc_int⟩,by simpa using putL_full ((whL allT x).map (Value.int .i64)) (vi 0) [],trivial,trivial⟩
theorem waE_ok : VOk Try.prog waE := ⟨E0_ok.ct,ccIn_ok E0_ok mixed (inl_one Try.func59),E0_ok.yc,orcOr_ok orcSl_ok (orcOr_ok orcAp_ok orcCp_ok)⟩
theorem whAG_ok : ∀ args H φ v H' l,whG goodA args H = some (φ,v,H',l)→Asks φ→Call Try.prog 51 args H (fun v' H2 => v' = v∧H2 = H')∧Kept H H' l :=
 whG_ok fun n tk gv hn hg => by
   have hg' : gv = allV := hg
   subst hg'
   have h := whA_ok n tk hn
   rw [whA_eq] at h
   exact ⟨fun σ => by simp [allV,nmap,nmap2,nmap1,nmapA,nmap0,nmapFn],fun m => by simp [allV,sc,sc2,sc1,scA,sc0,aggAll],Call.ofVcR waE_ok mixed (c := whB) (inv := whI allT n tk allV) Try.func51 (by kernel_rfl) h⟩
theorem ovC_ok : CtOk Try.prog ovC := ((CtOk.none.add pushedG_ok).add whAG_ok).add prG_ok
theorem whL_all : ∀ n : Nat,whL allT n = (List.range n).map Int.ofNat := fun n => by
 unfold whL; rw [List.filter_eq_self.2 fun x _ => (show allT x = true from rfl)]
theorem fN_lg {n : Int} {tk : Nat→Bool} : fN (lgC n tk) = n := rfl
theorem rg_get {n i : Nat} (h : i < n) : ((List.range n).map Int.ofNat).getD i 0 = (i : Int) := by
 rw [List.getD_eq_getElem?_getD,List.getElem?_map,List.getElem?_range h]; rfl
theorem bestTo_le {w : Nat→Int} : ∀ {i : Nat},bestTo w i≤i
 | 0 => Nat.le_refl _
 | i + 1 => by
   have := bestTo_le (w := w) (i := i)
   unfold bestTo; split <;> omega
theorem bestTo_max {w : Nat→Int} : ∀ {i j : Nat},j≤i→w j≤w (bestTo w i)
 | 0,j,h => by rw [show j = 0 by omega]; exact Int.le_refl _
 | i + 1,j,h => by
   unfold bestTo
   rcases Nat.eq_or_lt_of_le h with e | e
   · subst e; split <;> omega
   · have := bestTo_max (w := w) (i := i) (j := j) (by omega)
     split <;> omega
theorem bestTo_first {w : Nat→Int} : ∀ {i j : Nat},j < bestTo w i→w j < w (bestTo w i)
 | 0,j,h => absurd h (Nat.not_lt_zero _)
 | i + 1,j,h => by
   unfold bestTo at h ⊢
   by_cases e : w (bestTo w i) < w (i + 1)
   · rw [if_pos e] at h ⊢
     have := bestTo_max (w := w) (i := i) (j := j) (by omega)
     omega
   · rw [if_neg e] at h ⊢
     exact bestTo_first h
theorem ovV_ok (n : Nat) (l : List Int) (c : Nat) (he : errD n l = 0) (h0 : 0 < l.length) : ovV n l c (runA n l).tk (runA n l).slid (runA n l).fell (runA n l).lies := by
 obtain ⟨hn,hb,hl⟩ := pre_ok he
 have hn1 : 1≤n := by
   unfold errD at he
   split at he
   · cases he
   · omega
 unfold ovV ovV8 ovV7 ovV6 ovV5 ovV4 ovV3 ovV2 ovV1 ovV0
 simp only [SS,reduceCtorEq,Arg.list,Arg.num,Arg.flag,intOf,andP,Nat.reduceLeDiff,Nat.reduceAdd,Nat.reduceMul,Nat.reduceLT,he,T8_10,T8_11,T8_i10,T8_i11,ovF,whL_all,List.length_range,fN_lg]
 generalize hw : (fun p : Nat => ovI n p l) = w
 have hwp : ∀ p : Nat,ovI n p l = w p := fun p => by rw [← hw]
 refine ⟨⟨h0,by omega⟩,fun h => by rw [if_pos h,if_pos h],fun h => ⟨⟨rfl,by omega,by omega⟩,⟨by omega,by omega⟩,by omega,⟨by omega,by omega⟩,⟨0,by omega,rg_get (by omega),rfl⟩,fun x hx => ⟨fun h1 => ?_,fun h1 => ?_⟩⟩⟩
 · have hle := bestTo_le (w := w) (i := x)
   rw [if_neg (show ¬ n = 1 by omega),rg_get (show 1 + x < n by omega)]
   refine ⟨⟨by omega,by omega⟩,by omega,⟨⟨by omega,by omega⟩,⟨by omega,by omega⟩,hl⟩,⟨⟨by omega,by omega⟩,⟨by omega,by omega⟩,hl⟩,fun h2 => ⟨x + 1,by omega,by omega,?_,?_⟩,fun h2 => ⟨x + 1,by omega,by omega,?_,?_⟩⟩
   · rw [hwp,hwp,Nat.add_comm 1 x] at h2
     rw [bestTo,if_pos h2,Nat.add_comm]
   · rw [wrap_in (by omega) (by omega)]; rfl
   · rw [hwp,hwp,Nat.add_comm 1 x] at h2
     rw [bestTo,if_neg h2]
   · rw [wrap_in (by omega) (by omega)]; rfl
 · rw [if_neg h,if_neg h,show x = n - 1 by omega]
theorem ovN_ok (n : Nat) (he : errD n [] = 0) : ovN n := by
 unfold ovN ovN0
 simp only [SS,reduceCtorEq,Arg.list,Arg.num,Arg.flag,intOf,andP,Nat.reduceLeDiff,Nat.reduceAdd,Nat.reduceMul,Nat.reduceLT,he,T8_10,T8_11,T8_i10,T8_i11]
theorem ovH_ok (n : Nat) (s : Option Nat) (c : Nat) (he : errD n [] = 0) : ovH n s c := by
 unfold ovH ovH0
 simp only [SS,reduceCtorEq,Arg.list,Arg.num,Arg.flag,intOf,andP,Nat.reduceLeDiff,Nat.reduceAdd,Nat.reduceMul,Nat.reduceLT,he,T8_10,T8_11,T8_i10,T8_i11]
theorem ovE1_ok : VOk Try.prog ovE1 := ⟨ovC_ok,ccIn_ok (VOk.ofCt ovC_ok) mixed (inl_one Try.func61),(VOk.ofCt ovC_ok).yc,(VOk.ofCt ovC_ok).orc⟩
theorem ovE_ok (n : Nat) (l : List Int) (tk : Nat→Bool) (sl fe : Int) (la : List Int) : VOk Try.prog (ovE n l tk sl fe la) :=
 ⟨ovC_ok.add (nameCt_ok pushedG_ok),ccIn_ok ovE1_ok mixed (inl_one Try.func60),(VOk.ofCt ovC_ok).yc,(VOk.ofCt ovC_ok).orc⟩
theorem ovEZ_ok (n : Nat) : VOk Try.prog (ovEZ n) := VOk.ofCt (ovC_ok.add (nameCt_ok pushedG_ok))
def ovrS (r : List Arg) : Prop × Value := match r with
 | [p,.ints _ l] => (errD p.num l = 0∧0 < l.length,ovF p.num.toNat l (runA p.num.toNat l).fell)
 | [p,_] => (errD p.num [] = 0,.tuple #[vi 0,vi 20])
 | _ => (False,undef)
theorem ovrG_ok : ∀ args H φ v H' l,pureG psA ovrS args H = some (φ,v,H',l)→Asks φ→Call Try.prog 28 args H (fun v' H2 => v' = v∧H2 = H')∧Kept H H' l :=
 pureG_ok fun r hk hs => match r,hk with
   | [_,_],⟨⟨p,rfl⟩,ha,_⟩ => by
     rcases ha with rfl | ⟨s,rfl⟩ | ⟨l,rfl⟩
     · obtain ⟨n,rfl⟩ : ∃ n : Nat,p = n := errD_pos hs
       have h := ovN_ok n hs
       rw [ovN_eq] at h
       exact ⟨by simp [ovrS,sc,sc2,sc1,sc0],fun caps => Call.ofVc (ovEZ_ok n) mixed (c := ovB) Try.func28 (by kernel_rfl) h⟩
     · obtain ⟨n,rfl⟩ : ∃ n : Nat,p = n := errD_pos hs
       refine ⟨by simp [ovrS,sc,sc2,sc1,sc0],fun caps => ?_⟩
       have h := ovH_ok n s (caps 0) hs
       rw [ovH_eq] at h
       exact Call.ofVc (ovEZ_ok n) mixed (c := ovB) Try.func28 (by kernel_rfl) h
     · obtain ⟨n,rfl⟩ : ∃ n : Nat,p = n := errD_pos hs.1
       refine ⟨by simp [ovrS,ovF,sc,sc2,sc1,sc0],fun caps => ?_⟩
       have h := ovV_ok n l (caps 0) hs.1 hs.2
       rw [ovV_eq] at h
       exact Call.ofVc (ovE_ok ..) mixed (c := ovB) Try.func28 (by kernel_rfl) h
end Go.Pier.Lg
set_option maxRecDepth 100000
set_option linter.unusedVariables false
set_option linter.unusedSimpArgs false
namespace Go.Pier.Lg
open Go Go.Pier Go.Proofs
def l0I (p : Int) (a : Value) (H : Heap) : Nat→Option LInv := invOf 0 (LInv.one Unit (fun _ => True) (fun _ => [(0,vi p),(1,a),(4,nilS),(5,vi 0),(6,nilS),(7,vi 0),(8,vi 0)]) (fun _ => H) (fun _ => 0))
noncomputable def l0N0 (p:Int):Prop := (Value.slice none 0 0=Value.slice none 0 0)
noncomputable def l0N :=
fun (p:Int)↦(∃ (y:Unit),Ob True∧True∧Ob (p=p)∧Ob (l0N0 p)∧Ob (l0N0 p)∧Ob ((0:Int)=(0:Int))∧Ob (l0N0 p)∧Ob ((0:Int)=(0:Int))∧Ob ((0:Int)=(0:Int))∧True)∧∀ (x:Unit),Ob True→(false=true→False)∧(false=false→True∧Ob (Value.tuple ⟨[Value.slice none 0 0,vi (0:Int)]⟩=Value.tuple ⟨[Value.slice none 0 0,vi (0:Int)]⟩∧([]:List AObj)=[]))
theorem l0N_eq : l0N = fun (p : Int) => vc Try.prog lieRE 0 47 true (l0I p nilS []) lieRB [] (argFr 0 [vi p,nilS]) [] (retK Try.prog Try.f50 (fun v H1 => v = .tuple #[nilS,vi 0]∧H1 = [])) := by kernel_rfl
noncomputable def l0H :=
fun (p:Int) (s:Option Nat) (c:Nat)↦(∃ (y:Unit),Ob True∧True∧Ob (p=p)∧Ob (Value.slice (some ⟨0,0,s⟩) 0 c=Value.slice (some ⟨0,0,s⟩) 0 c)∧Ob (Value.slice none 0 0=Value.slice none 0 0)∧Ob ((0:Int)=(0:Int))∧Ob (Value.slice none 0 0=Value.slice none 0 0)∧Ob ((0:Int)=(0:Int))∧Ob ((0:Int)=(0:Int))∧True)∧∀ (x:Unit),Ob True→(false=true→Ob ((0:Int)≤(0:Int)∧(0:Int)<(↑(0:Nat):Int)∧std ⟨0,0,s⟩ c=true)∧False)∧(false=false→True∧Ob (Value.tuple ⟨[Value.slice none 0 0,vi (0:Int)]⟩=Value.tuple ⟨[Value.slice none 0 0,vi (0:Int)]⟩∧[AObj.gone]=[AObj.gone]))
theorem l0H_eq : l0H = fun (p : Int) (s : Option Nat) (c : Nat) => vc Try.prog lieRE 1 47 true (l0I p (.slice (some ⟨0,0,s⟩) 0 c) [.gone]) lieRB [] (argFr 0 [vi p,.slice (some ⟨0,0,s⟩) 0 c]) [.gone] (retK Try.prog Try.f50 (fun v H1 => v = .tuple #[nilS,vi 0]∧H1 = [.gone])) := by kernel_rfl
def lie0S (r : List Arg) : Prop × Value := match r with
 | [_,a] => (a.list.length = 0,.tuple #[nilS,vi 0])
 | _ => (False,undef)
noncomputable def full0T : Ct := (Ct.none.add 45 hasG).add 50 (pureG [.int .i64,.ints .i64] lie0S)
def f0I (n : Nat) (a : Value) (H : Heap) : Nat→Option LInv := invOf 0 (LInv.one Nat (fun i => i≤n) (fun i => [(0,vi n),(1,a),(4,nilS),(5,vi 0),(6,nilS),(8,nilS),(9,vi i)]) (fun _ => H) (fun i => n - i))
noncomputable def f0N0 (n:Nat):Prop := (Value.slice none 0 0=Value.slice none 0 0)
noncomputable def f0N :=
fun (n:Nat)↦Ob (0=0)∧(∃ (y:Nat),Ob (y≤n)∧True∧Ob ((n:Int)=(n:Int))∧Ob (f0N0 n)∧Ob (f0N0 n)∧Ob ((0:Int)=(0:Int))∧Ob (f0N0 n)∧Ob (f0N0 n)∧Ob ((0:Int)=(y:Int))∧True)∧∀ (x:Nat),Ob (x≤n)→(decide ((x:Int)<(n:Int))=true→(false=true→Ob (andP (some (0+1≤1∧true=true)) (1≤1099511627776∧2064≤281474976710656∧1=1∧0=0∧0<1))∧∃ (y:Nat),Ob (y≤n)∧Ob (n-y<n-x)∧True∧Ob ((n:Int)=(n:Int))∧Ob (f0N0 n)∧Ob (f0N0 n)∧Ob ((0:Int)=(0:Int))∧Ob (f0N0 n)∧Ob (Value.slice (some ⟨1,0,some 0⟩) 1 0=Value.slice none 0 0)∧Ob (IntKind.i64.wrap ((x:Int)+(1:Int))=(y:Int))∧True)∧(false=false→∃ (y:Nat),Ob (y≤n)∧Ob (n-y<n-x)∧True∧Ob ((n:Int)=(n:Int))∧Ob (f0N0 n)∧Ob (f0N0 n)∧Ob ((0:Int)=(0:Int))∧Ob (f0N0 n)∧Ob (f0N0 n)∧Ob (IntKind.i64.wrap ((x:Int)+(1:Int))=(y:Int))∧True))∧(decide ((x:Int)<(n:Int))=false→True∧Ob (Value.tuple ⟨[Value.slice none 0 0,vi (IntKind.i64.wrap ((↑(0:Nat):Int)-(↑(0:Nat):Int)))]⟩=Value.tuple ⟨[Value.slice none 0 0,vi (0:Int)]⟩∧([]:List AObj)=[]))
theorem f0N_eq : f0N = fun (n : Nat) => vc Try.prog { ct := full0T } 0 34 true (f0I n nilS []) fullRB [] (argFr 0 [vi n,nilS]) [] (retK Try.prog Try.f53 (fun v H1 => v = .tuple #[nilS,vi 0]∧H1 = [])) := by kernel_rfl
noncomputable def f0H0 (n:Nat) (s:Option Nat) (c:Nat):Prop := (Value.slice none 0 0=Value.slice none 0 0)
noncomputable def f0H1 (n:Nat) (s:Option Nat) (c:Nat):Prop := (Value.slice (some ⟨0,0,s⟩) 0 c=Value.slice (some ⟨0,0,s⟩) 0 c)
noncomputable def f0H :=
fun (n:Nat) (s:Option Nat) (c:Nat)↦Ob (0=0)∧(∃ (y:Nat),Ob (y≤n)∧True∧Ob ((n:Int)=(n:Int))∧Ob (f0H1 n s c)∧Ob (f0H0 n s c)∧Ob ((0:Int)=(0:Int))∧Ob (f0H0 n s c)∧Ob (f0H0 n s c)∧Ob ((0:Int)=(y:Int))∧True)∧∀ (x:Nat),Ob (x≤n)→(decide ((x:Int)<(n:Int))=true→(false=true→Ob (andP (some (0+1≤1∧true=true)) (1≤1099511627776∧2064≤281474976710656∧1=1∧0=0∧0<1))∧∃ (y:Nat),Ob (y≤n)∧Ob (n-y<n-x)∧True∧Ob ((n:Int)=(n:Int))∧Ob (f0H1 n s c)∧Ob (f0H0 n s c)∧Ob ((0:Int)=(0:Int))∧Ob (f0H0 n s c)∧Ob (Value.slice (some ⟨2,0,some 0⟩) 1 0=Value.slice none 0 0)∧Ob (IntKind.i64.wrap ((x:Int)+(1:Int))=(y:Int))∧True)∧(false=false→∃ (y:Nat),Ob (y≤n)∧Ob (n-y<n-x)∧True∧Ob ((n:Int)=(n:Int))∧Ob (f0H1 n s c)∧Ob (f0H0 n s c)∧Ob ((0:Int)=(0:Int))∧Ob (f0H0 n s c)∧Ob (f0H0 n s c)∧Ob (IntKind.i64.wrap ((x:Int)+(1:Int))=(y:Int))∧True))∧(decide ((x:Int)<(n:Int))=false→True∧Ob (Value.tuple ⟨[Value.slice none 0 0,vi (IntKind.i64.wrap ((↑(0:Nat):Int)-(↑(0:Nat):Int)))]⟩=Value.tuple ⟨[Value.slice none 0 0,vi (0:Int)]⟩∧[AObj.gone]=[AObj.gone]))
theorem f0H_eq : f0H = fun (n : Nat) (s : Option Nat) (c : Nat) => vc Try.prog { ct := full0T } 1 34 true (f0I n (.slice (some ⟨0,0,s⟩) 0 c) [.gone]) fullRB [] (argFr 0 [vi n,.slice (some ⟨0,0,s⟩) 0 c]) [.gone] (retK Try.prog Try.f53 (fun v H1 => v = .tuple #[nilS,vi 0]∧H1 = [.gone])) := by kernel_rfl
noncomputable def l0R :=
fun (p:Int) (c:Nat)↦(∃ (y:Unit),Ob True∧(Ob (AObj.ro []=AObj.ro []∧true=true)∧True)∧Ob (p=p)∧Ob (Value.slice (some (ad0 0)) 0 c=Value.slice (some (ad0 0)) 0 c)∧Ob (Value.slice none 0 0=Value.slice none 0 0)∧Ob ((0:Int)=(0:Int))∧Ob (Value.slice none 0 0=Value.slice none 0 0)∧Ob ((0:Int)=(0:Int))∧Ob ((0:Int)=(0:Int))∧True)∧∀ (x:Unit),Ob True→(false=true→Ob ((0:Int)≤(0:Int)∧(0:Int)<(↑(0:Nat):Int)∧true=true)∧Ob (IntAt IntKind.i64 [] 0)∧False)∧(false=false→True∧Ob (Value.tuple ⟨[Value.slice none 0 0,vi (0:Int)]⟩=Value.tuple ⟨[Value.slice none 0 0,vi (0:Int)]⟩∧[AObj.ro []]=[AObj.ro []]))
theorem l0R_eq : l0R = fun (p : Int) (c : Nat) => vc Try.prog lieRE 1 47 true (l0I p (.slice (some ⟨0,0,none⟩) 0 c) [ros []]) lieRB [] (argFr 0 [vi p,.slice (some ⟨0,0,none⟩) 0 c]) [ros []] (retK Try.prog Try.f50 (fun v H1 => v = .tuple #[nilS,vi 0]∧H1 = [ros []])) := by kernel_rfl
noncomputable def f0R0 (n:Nat) (l:List Int) (c:Nat):Prop := (Value.slice none 0 0=Value.slice none 0 0)
noncomputable def f0R1 (n:Nat) (l:List Int) (c:Nat) := (List.map (Value.int IntKind.i64) l)
noncomputable def f0R2 (n:Nat) (l:List Int) (c:Nat):Prop := (Value.slice (some (ad0 0)) l.length c=Value.slice (some (ad0 0)) l.length c)
noncomputable def f0R :=
fun (n:Nat) (l:List Int) (c:Nat)↦Ob ((List.take l.length (List.drop 0 (f0R1 n l c))=List.map (Value.int IntKind.i64) (List.take l.length (List.drop 0 (intsOf (f0R1 n l c))))∧0+l.length≤(f0R1 n l c).length∧true=true)∧(Arg.ints IntKind.i64 (List.take l.length (List.drop 0 (intsOf (f0R1 n l c))))).list.length=0)∧(∃ (y:Nat),Ob (y≤n)∧(Ob (AObj.ro (f0R1 n l c)=AObj.ro (List.map (nmap1 fun (b:Nat)↦b) (f0R1 n l c))∧AObj.sc 1 (AObj.ro (f0R1 n l c))=true)∧True)∧Ob ((n:Int)=(n:Int))∧Ob (f0R2 n l c)∧Ob (f0R0 n l c)∧Ob ((0:Int)=(0:Int))∧Ob (f0R0 n l c)∧Ob (f0R0 n l c)∧Ob ((0:Int)=(y:Int))∧True)∧∀ (x:Nat),Ob (x≤n)→(decide ((x:Int)<(n:Int))=true→(false=true→Ob (andP (some (0+1≤1∧true=true)) (1≤1099511627776∧2064≤281474976710656∧1=1∧0=0∧0<1))∧∃ (y:Nat),Ob (y≤n)∧Ob (n-y<n-x)∧(Ob (AObj.ro (f0R1 n l c)=AObj.ro (List.map (nmap1 fun (b:Nat)↦b) (f0R1 n l c))∧AObj.sc 1 (AObj.ro (f0R1 n l c))=true)∧True)∧Ob ((n:Int)=(n:Int))∧Ob (f0R2 n l c)∧Ob (f0R0 n l c)∧Ob ((0:Int)=(0:Int))∧Ob (f0R0 n l c)∧Ob (Value.slice (some ⟨2,0,some 0⟩) 1 0=Value.slice none 0 0)∧Ob (IntKind.i64.wrap ((x:Int)+(1:Int))=(y:Int))∧True)∧(false=false→∃ (y:Nat),Ob (y≤n)∧Ob (n-y<n-x)∧(Ob (AObj.ro (f0R1 n l c)=AObj.ro (List.map (nmap1 fun (b:Nat)↦b) (f0R1 n l c))∧AObj.sc 1 (AObj.ro (f0R1 n l c))=true)∧True)∧Ob ((n:Int)=(n:Int))∧Ob (f0R2 n l c)∧Ob (f0R0 n l c)∧Ob ((0:Int)=(0:Int))∧Ob (f0R0 n l c)∧Ob (f0R0 n l c)∧Ob (IntKind.i64.wrap ((x:Int)+(1:Int))=(y:Int))∧True))∧(decide ((x:Int)<(n:Int))=false→True∧Ob (Value.tuple ⟨[Value.slice none 0 0,vi (IntKind.i64.wrap ((l.length:Int)-(↑(0:Nat):Int)))]⟩=Value.tuple ⟨[Value.slice none 0 0,vi (0:Int)]⟩∧[AObj.ro (f0R1 n l c)]=[AObj.ro (f0R1 n l c)]))
theorem f0R_eq : f0R = fun (n : Nat) (l : List Int) (c : Nat) => vc Try.prog { ct := full0T } 1 34 true (f0I n (.slice (some ⟨0,0,none⟩) l.length c) [ros l]) fullRB [] (argFr 0 [vi n,.slice (some ⟨0,0,none⟩) l.length c]) [ros l] (retK Try.prog Try.f53 (fun v H1 => v = .tuple #[nilS,vi 0]∧H1 = [ros l])) := by kernel_rfl
noncomputable def foW0 (p:Int) (l:List Int) (c:Nat):Prop := (Value.slice (some ⟨1,0,some 0⟩) (lieOf p l).fst.length 0=Value.slice (some ⟨1,0,some 0⟩) (lieOf p l).fst.length 0)
noncomputable def foW1 (p:Int) (l:List Int) (c:Nat) := (List.map (Value.int IntKind.i64) (lieOf p l).fst)
noncomputable def foW2 (p:Int) (l:List Int) (c:Nat) := (List.map (Value.int IntKind.i64) l)
noncomputable def foW3 (p:Int) (l:List Int) (c:Nat):Prop := (Value.slice (some (ad0 0)) l.length c=Value.slice (some (ad0 0)) l.length c)
noncomputable def foW4 (p:Int) (l:List Int) (c:Nat):Prop := ((List.take (lieOf p l).fst.length (List.drop 0 (foW1 p l c))=List.map (Value.int IntKind.i64) (List.take (lieOf p l).fst.length (List.drop 0 (intsOf (foW1 p l c))))∧0+(lieOf p l).fst.length≤(foW1 p l c).length∧true=true)∧(List.take (lieOf p l).fst.length (List.drop 0 (intsOf (foW1 p l c)))).length<1000000)
noncomputable def foW5 (p:Int) (l:List Int) (c:Nat):Prop := (Value.slice (some ⟨1,0,some 0⟩) (lieOf (Arg.plain (vi p)).num (List.take l.length (List.drop 0 (intsOf (foW2 p l c))))).fst.length 0=Value.slice (some ⟨1,0,some 0⟩) (lieOf p l).fst.length 0)
noncomputable def foW6 (p:Int) (l:List Int) (c:Nat) := (AObj.rw (foW1 p l c) (some 1))
noncomputable def foW7 (p:Int) (l:List Int) (c:Nat) (xqq:Nat) (y:Nat):Prop := (IntKind.i64.wrap ((xqq:Int)+(1:Int))=(y:Int))
noncomputable def foW8 (p:Int) (l:List Int) (c:Nat) (xqq:Nat) (y:Nat):Prop := ((p-(y:Int)).toNat<(p-(xqq:Int)).toNat)
noncomputable def foW9 (p:Int) (l:List Int) (c:Nat) (y:Nat) := (List.map (Value.int IntKind.i64) (fullTo p l y))
noncomputable def foW10 (p:Int) (l:List Int) (c:Nat) := (List.take l.length (List.drop 0 (intsOf (foW2 p l c))))
noncomputable def foW11 (p:Int) (l:List Int) (c:Nat):Array Value := ⟨[Value.slice (some ⟨2,0,some 0⟩) (fullTo p l p.toNat).length 0,vi ((l.length:Int)-(↑(fullTo p l p.toNat).length:Int))]⟩
noncomputable def foW12 (p:Int) (l:List Int) (c:Nat) (xqq:Nat):Prop := (Value.slice (some ⟨4,0,some 0⟩) ((fullTo p l xqq).length+1) 0=Value.slice none 0 0)
noncomputable def foW13 (p:Int) (l:List Int) (c:Nat):Prop := (AObj.rw (foW1 p l c) (some 1)=AObj.rw (List.map (nmap1 (nsub 2 3)) (foW1 p l c)) (some 1)∧AObj.sc 3 (foW6 p l c)=true)
noncomputable def foW14 (p:Int) (l:List Int) (c:Nat):Prop := (AObj.rw (foW1 p l c) (some 1)=AObj.rw (List.map (nmap1 (nsub 2 4)) (foW1 p l c)) (some 1)∧AObj.sc 2 (foW6 p l c)=true)
noncomputable def foW15 (p:Int) (l:List Int) (c:Nat):Prop := (AObj.rw (foW1 p l c) (some 1)=AObj.rw (List.map (nmap1 (nsub 2 4)) (foW1 p l c)) (some 1)∧AObj.sc 3 (foW6 p l c)=true)
noncomputable def foW16 (p:Int) (l:List Int) (c:Nat) (xqq:Nat):Prop := (Value.slice (some ⟨2,0,some 0⟩) (fullTo p l xqq).length 0=Value.slice none 0 0)
noncomputable def foW17 (p:Int) (l:List Int) (c:Nat):Prop := (AObj.ro (foW2 p l c)=AObj.ro (List.map (nmap1 (nsub 2 3)) (foW2 p l c))∧AObj.sc 3 (AObj.ro (foW2 p l c))=true)
noncomputable def foW18 (p:Int) (l:List Int) (c:Nat):Prop := (AObj.ro (foW2 p l c)=AObj.ro (List.map (nmap1 (nsub 1 2)) (foW2 p l c))∧AObj.sc 2 (AObj.ro (foW2 p l c))=true)
noncomputable def foW19 (p:Int) (l:List Int) (c:Nat):Prop := (AObj.ro (foW2 p l c)=AObj.ro (List.map (nmap1 (nsub 2 4)) (foW2 p l c))∧AObj.sc 2 (AObj.ro (foW2 p l c))=true)
noncomputable def foW20 (p:Int) (l:List Int) (c:Nat):Prop := (AObj.ro (foW2 p l c)=AObj.ro (List.map (nmap1 (nsub 2 4)) (foW2 p l c))∧AObj.sc 3 (AObj.ro (foW2 p l c))=true)
noncomputable def foW21 (p:Int) (l:List Int) (c:Nat) (xq:Nat) (y:Nat):Prop := (IntKind.i64.wrap ((xq:Int)+(1:Int))=(y:Int))
noncomputable def foW22 (p:Int) (l:List Int) (c:Nat) (y:Nat):Prop := ((y:Int)≤p∧fullTo p l y=[])
noncomputable def foW23 (p:Int) (l:List Int) (c:Nat) (xq:Nat) (y:Nat):Prop := ((p-(y:Int)).toNat<(p-(xq:Int)).toNat)
noncomputable def foW :=
fun (p:Int) (l:List Int) (c:Nat)↦Ob ((List.take l.length (List.drop 0 (foW2 p l c))=List.map (Value.int IntKind.i64) (foW10 p l c)∧0+l.length≤(foW2 p l c).length∧true=true)∧((0:Int)<(Arg.plain (vi p)).num∧(Arg.plain (vi p)).num≤(8:Int))∧0<(foW10 p l c).length∧(∀ (x:Int),x∈List.take l.length (List.drop 0 (intsOf (foW2 p l c)))→(0:Int)≤x∧x<(Arg.plain (vi p)).num)∧(foW10 p l c).length≤13)∧((∃ (y:Nat),Ob (foW22 p l c y)∧(Ob (AObj.ro (foW2 p l c)=AObj.ro (List.map (nmap1 fun (b:Nat)↦b) (foW2 p l c))∧AObj.sc 2 (AObj.ro (foW2 p l c))=true)∧Ob (AObj.rw (List.map (Value.int IntKind.i64) (lieOf (Arg.plain (vi p)).num (foW10 p l c)).fst) (some 1)=AObj.rw (List.map (nmap1 fun (b:Nat)↦b) (foW1 p l c)) (some 1)∧AObj.sc 2 (foW6 p l c)=true)∧True)∧Ob (p=p)∧Ob (foW3 p l c)∧Ob (foW5 p l c)∧Ob (Value.slice none 0 0=Value.slice none 0 0)∧Ob ((0:Int)=(y:Int))∧True)∨∃ (y:Nat),Ob ((y:Int)≤p)∧(Ob (AObj.ro (foW2 p l c)=AObj.ro (List.map (nmap1 fun (b:Nat)↦b) (foW2 p l c))∧AObj.sc 3 (AObj.ro (foW2 p l c))=true)∧Ob (AObj.rw (List.map (Value.int IntKind.i64) (lieOf (Arg.plain (vi p)).num (foW10 p l c)).fst) (some 1)=AObj.rw (List.map (nmap1 fun (b:Nat)↦b) (foW1 p l c)) (some 1)∧AObj.sc 3 (foW6 p l c)=true)∧False)∧Ob (p=p)∧Ob (foW3 p l c)∧Ob (foW5 p l c)∧Ob (Value.slice none 0 0=Value.slice (some ⟨2,0,some 0⟩) (fullTo p l y).length 0)∧Ob ((0:Int)=(y:Int))∧True)∧(∀ (xq:Nat),Ob ((xq:Int)≤p∧fullTo p l xq=[])→(decide ((xq:Int)<p)=true→Ob (foW4 p l c)∧(decide ((xq:Int)∈List.take (lieOf p l).fst.length (List.drop 0 (intsOf (foW1 p l c))))=true→Ob (andP (some (0+1≤1∧true=true)) (1≤1099511627776∧2064≤281474976710656∧1=1∧0=0∧0<1))∧((∃ (y:Nat),Ob (foW22 p l c y)∧Ob (foW23 p l c xq y)∧(Ob (AObj.ro (foW2 p l c)=AObj.ro (List.map (nmap1 fun (b:Nat)↦b) (foW2 p l c))∧AObj.sc 2 (AObj.ro (foW2 p l c))=true)∧Ob (AObj.rw (foW1 p l c) (some 1)=AObj.rw (List.map (nmap1 fun (b:Nat)↦b) (foW1 p l c)) (some 1)∧AObj.sc 2 (foW6 p l c)=true)∧True)∧Ob (p=p)∧Ob (foW3 p l c)∧Ob (foW0 p l c)∧Ob (Value.slice (some ⟨3,0,some 0⟩) 1 0=Value.slice none 0 0)∧Ob (foW21 p l c xq y)∧True)∨∃ (y:Nat),Ob ((y:Int)≤p)∧Ob (foW23 p l c xq y)∧(Ob (foW17 p l c)∧Ob (foW13 p l c)∧Ob (AObj.rw [vi (xq:Int)] (some 1)=AObj.rw (List.map (nmap1 (nsub 2 3)) (foW9 p l c y)) (some 1)∧AObj.sc 3 (AObj.rw (foW9 p l c y) (some 1))=true)∧True)∧Ob (p=p)∧Ob (foW3 p l c)∧Ob (foW0 p l c)∧Ob (Value.slice (some ⟨3,0,some 0⟩) 1 0=Value.slice (some ⟨3,0,some 0⟩) (fullTo p l y).length 0)∧Ob (foW21 p l c xq y)∧True))∧(decide ((xq:Int)∈List.take (lieOf p l).fst.length (List.drop 0 (intsOf (foW1 p l c))))=false→(∃ (y:Nat),Ob (foW22 p l c y)∧Ob (foW23 p l c xq y)∧(Ob (AObj.ro (foW2 p l c)=AObj.ro (List.map (nmap1 fun (b:Nat)↦b) (foW2 p l c))∧AObj.sc 2 (AObj.ro (foW2 p l c))=true)∧Ob (AObj.rw (foW1 p l c) (some 1)=AObj.rw (List.map (nmap1 fun (b:Nat)↦b) (foW1 p l c)) (some 1)∧AObj.sc 2 (foW6 p l c)=true)∧True)∧Ob (p=p)∧Ob (foW3 p l c)∧Ob (foW0 p l c)∧Ob (Value.slice none 0 0=Value.slice none 0 0)∧Ob (foW21 p l c xq y)∧True)∨∃ (y:Nat),Ob ((y:Int)≤p)∧Ob (foW23 p l c xq y)∧(Ob (foW17 p l c)∧Ob (foW13 p l c)∧False)∧Ob (p=p)∧Ob (foW3 p l c)∧Ob (foW0 p l c)∧Ob (Value.slice none 0 0=Value.slice (some ⟨3,0,some 0⟩) (fullTo p l y).length 0)∧Ob (foW21 p l c xq y)∧True))∧(decide ((xq:Int)<p)=false→(Ob (foW18 p l c)∧False)∧Ob (Value.tuple ⟨[Value.slice none 0 0,vi (IntKind.i64.wrap ((l.length:Int)-(↑(0:Nat):Int)))]⟩=Value.tuple (foW11 p l c))∧True))∧∀ (xqq:Nat),Ob ((xqq:Int)≤p)→(decide ((xqq:Int)<p)=true→Ob (foW4 p l c)∧(decide ((xqq:Int)∈List.take (lieOf p l).fst.length (List.drop 0 (intsOf (foW1 p l c))))=true→Ob (andP (some (0+1≤1∧true=true)) ((fullTo p l xqq).length+1≤1099511627776∧(2 * ((fullTo p l xqq).length+1)+256) * 8≤281474976710656∧1=1∧(List.map (Value.int IntKind.i64) (fullTo p l xqq)).length=(fullTo p l xqq).length * 1))∧(((∃ (y:Nat),Ob (foW22 p l c y)∧Ob (foW8 p l c xqq y)∧(Ob (AObj.ro (foW2 p l c)=AObj.ro (List.map (nmap1 fun (b:Nat)↦b) (foW2 p l c))∧AObj.sc 2 (AObj.ro (foW2 p l c))=true)∧Ob (AObj.rw (foW1 p l c) (some 1)=AObj.rw (List.map (nmap1 fun (b:Nat)↦b) (foW1 p l c)) (some 1)∧AObj.sc 2 (foW6 p l c)=true)∧True)∧Ob (p=p)∧Ob (foW3 p l c)∧Ob (foW0 p l c)∧Ob (foW12 p l c xqq)∧Ob (foW7 p l c xqq y)∧True)∨∃ (y:Nat),Ob (foW22 p l c y)∧Ob (foW8 p l c xqq y)∧(Ob (foW19 p l c)∧Ob (foW14 p l c)∧True)∧Ob (p=p)∧Ob (foW3 p l c)∧Ob (foW0 p l c)∧Ob (foW12 p l c xqq)∧Ob (foW7 p l c xqq y)∧True)∨(∃ (y:Nat),Ob ((y:Int)≤p)∧Ob (foW8 p l c xqq y)∧(Ob (AObj.ro (foW2 p l c)=AObj.ro (List.map (nmap1 fun (b:Nat)↦b) (foW2 p l c))∧AObj.sc 3 (AObj.ro (foW2 p l c))=true)∧Ob (AObj.rw (foW1 p l c) (some 1)=AObj.rw (List.map (nmap1 fun (b:Nat)↦b) (foW1 p l c)) (some 1)∧AObj.sc 3 (foW6 p l c)=true)∧Ob (AObj.gone=AObj.rw (List.map (nmap1 fun (b:Nat)↦b) (foW9 p l c y)) (some 1)∧AObj.sc 3 (AObj.rw (foW9 p l c y) (some 1))=true)∧True)∧Ob (p=p)∧Ob (foW3 p l c)∧Ob (foW0 p l c)∧Ob (Value.slice (some ⟨4,0,some 0⟩) ((fullTo p l xqq).length+1) 0=Value.slice (some ⟨2,0,some 0⟩) (fullTo p l y).length 0)∧Ob (foW7 p l c xqq y)∧True)∨∃ (y:Nat),Ob ((y:Int)≤p)∧Ob (foW8 p l c xqq y)∧(Ob (foW20 p l c)∧Ob (foW15 p l c)∧Ob (AObj.rw (List.map (Value.int IntKind.i64) (fullTo p l xqq)++[vi (xqq:Int)]) (some 1)=AObj.rw (List.map (nmap1 (nsub 2 4)) (foW9 p l c y)) (some 1)∧AObj.sc 3 (AObj.rw (foW9 p l c y) (some 1))=true)∧True)∧Ob (p=p)∧Ob (foW3 p l c)∧Ob (foW0 p l c)∧Ob (Value.slice (some ⟨4,0,some 0⟩) ((fullTo p l xqq).length+1) 0=Value.slice (some ⟨4,0,some 0⟩) (fullTo p l y).length 0)∧Ob (foW7 p l c xqq y)∧True))∧(decide ((xqq:Int)∈List.take (lieOf p l).fst.length (List.drop 0 (intsOf (foW1 p l c))))=false→((∃ (y:Nat),Ob (foW22 p l c y)∧Ob (foW8 p l c xqq y)∧(Ob (AObj.ro (foW2 p l c)=AObj.ro (List.map (nmap1 fun (b:Nat)↦b) (foW2 p l c))∧AObj.sc 2 (AObj.ro (foW2 p l c))=true)∧Ob (AObj.rw (foW1 p l c) (some 1)=AObj.rw (List.map (nmap1 fun (b:Nat)↦b) (foW1 p l c)) (some 1)∧AObj.sc 2 (foW6 p l c)=true)∧True)∧Ob (p=p)∧Ob (foW3 p l c)∧Ob (foW0 p l c)∧Ob (foW16 p l c xqq)∧Ob (foW7 p l c xqq y)∧True)∨∃ (y:Nat),Ob (foW22 p l c y)∧Ob (foW8 p l c xqq y)∧(Ob (foW19 p l c)∧Ob (foW14 p l c)∧True)∧Ob (p=p)∧Ob (foW3 p l c)∧Ob (foW0 p l c)∧Ob (foW16 p l c xqq)∧Ob (foW7 p l c xqq y)∧True)∨(∃ (y:Nat),Ob ((y:Int)≤p)∧Ob (foW8 p l c xqq y)∧(Ob (AObj.ro (foW2 p l c)=AObj.ro (List.map (nmap1 fun (b:Nat)↦b) (foW2 p l c))∧AObj.sc 3 (AObj.ro (foW2 p l c))=true)∧Ob (AObj.rw (foW1 p l c) (some 1)=AObj.rw (List.map (nmap1 fun (b:Nat)↦b) (foW1 p l c)) (some 1)∧AObj.sc 3 (foW6 p l c)=true)∧Ob (AObj.rw (List.map (Value.int IntKind.i64) (fullTo p l xqq)) (some 1)=AObj.rw (List.map (nmap1 fun (b:Nat)↦b) (foW9 p l c y)) (some 1)∧AObj.sc 3 (AObj.rw (foW9 p l c y) (some 1))=true)∧True)∧Ob (p=p)∧Ob (foW3 p l c)∧Ob (foW0 p l c)∧Ob (Value.slice (some ⟨2,0,some 0⟩) (fullTo p l xqq).length 0=Value.slice (some ⟨2,0,some 0⟩) (fullTo p l y).length 0)∧Ob (foW7 p l c xqq y)∧True)∨∃ (y:Nat),Ob ((y:Int)≤p)∧Ob (foW8 p l c xqq y)∧(Ob (foW20 p l c)∧Ob (foW15 p l c)∧False)∧Ob (p=p)∧Ob (foW3 p l c)∧Ob (foW0 p l c)∧Ob (Value.slice (some ⟨2,0,some 0⟩) (fullTo p l xqq).length 0=Value.slice (some ⟨4,0,some 0⟩) (fullTo p l y).length 0)∧Ob (foW7 p l c xqq y)∧True))∧(decide ((xqq:Int)<p)=false→(Ob (foW18 p l c)∧Ob (AObj.rw (List.map (Value.int IntKind.i64) (fullTo p l xqq)) (some 1)=AObj.rw (List.map (nmap1 (nsub 1 2)) (List.map (Value.int IntKind.i64) (fullTo p l p.toNat))) (some 1)∧AObj.sc 2 (AObj.rw (List.map (Value.int IntKind.i64) (fullTo p l p.toNat)) (some 1))=true)∧True)∧Ob (Value.tuple ⟨[Value.slice (some ⟨2,0,some 0⟩) (fullTo p l xqq).length 0,vi (IntKind.i64.wrap ((l.length:Int)-(↑(fullTo p l xqq).length:Int)))]⟩=Value.tuple (foW11 p l c))∧True)
theorem foW_eq : foW = fun (p : Int) (l : List Int) (c : Nat) => vc Try.prog { ct := fullRT } 1 34 true (fullRI p l c) fullRB [] (argFr 0 [vi p,.slice (some ⟨0,0,none⟩) l.length c]) [ros l] (retR Try.prog Try.f53 1 (nsub 1 2) (.tuple #[newS 1 (fullTo p l p.toNat).length,vi (l.length - (fullTo p l p.toNat).length)]) [ros l,rws (fullTo p l p.toNat)]) := by kernel_rfl
theorem l0N_ok (p : Int) : l0N p := by
 unfold l0N l0N0
 simp only [ob_iff,map_nmap_int,sc_ro_int,sc_rw_int,getI_map,intAt_map,getB_map,boolAt_map,true_and,and_true,eq_self,Int.toNat_natCast,Nat.zero_add,Nat.add_zero,Nat.mul_one,Nat.one_mul,decide_eq_true_eq,decide_eq_false_iff_not,Value.bool.injEq,Value.int.injEq,Value.slice.injEq,Value.tuple.injEq,Option.some.injEq,Addr.mk.injEq,AObj.rw.injEq,AObj.ro.injEq,List.cons.injEq,reduceCtorEq,List.length_append,List.length_map,List.length_cons,List.length_nil,List.length_set,List.set_cons_zero,List.set_cons_succ,List.take_succ_cons,List.take_zero,List.take_nil,List.drop_nil,List.drop_zero,List.drop_succ_cons,intsOf_map,sl_id,sl_cells,Arg.list,Arg.num,Arg.flag,intOf,List.map_cons,List.map_nil,false_and,and_false,exists_const,or_false,false_or,true_or,forall_const,true_implies,false_implies,implies_true,beq_iff_eq,bne_iff_ne,beq_eq_false_iff_ne,bne_eq_false_iff_eq,Bool.not_eq_true',Bool.not_eq_false',ne_eq,not_true_eq_false,not_false_eq_true,Nat.le_refl,Nat.lt_irrefl,andP,Bool.not_true,Bool.not_false,Bool.true_eq_false,Bool.false_eq_true,Nat.reduceLeDiff,Nat.reduceAdd,Nat.reduceMul,Nat.reduceLT,Nat.zero_le,beq_self_eq_true,take_map_len,List.take_length,int_snoc,nilS]
theorem l0H_ok (p : Int) (s : Option Nat) (c : Nat) : l0H p s c := by
 unfold l0H
 simp only [ob_iff,map_nmap_int,sc_ro_int,sc_rw_int,getI_map,intAt_map,getB_map,boolAt_map,true_and,and_true,eq_self,Int.toNat_natCast,Nat.zero_add,Nat.add_zero,Nat.mul_one,Nat.one_mul,decide_eq_true_eq,decide_eq_false_iff_not,Value.bool.injEq,Value.int.injEq,Value.slice.injEq,Value.tuple.injEq,Option.some.injEq,Addr.mk.injEq,AObj.rw.injEq,AObj.ro.injEq,List.cons.injEq,reduceCtorEq,List.length_append,List.length_map,List.length_cons,List.length_nil,List.length_set,List.set_cons_zero,List.set_cons_succ,List.take_succ_cons,List.take_zero,List.take_nil,List.drop_nil,List.drop_zero,List.drop_succ_cons,intsOf_map,sl_id,sl_cells,Arg.list,Arg.num,Arg.flag,intOf,List.map_cons,List.map_nil,false_and,and_false,exists_const,or_false,false_or,true_or,forall_const,true_implies,false_implies,implies_true,beq_iff_eq,bne_iff_ne,beq_eq_false_iff_ne,bne_eq_false_iff_eq,Bool.not_eq_true',Bool.not_eq_false',ne_eq,not_true_eq_false,not_false_eq_true,Nat.le_refl,Nat.lt_irrefl,andP,Bool.not_true,Bool.not_false,Bool.true_eq_false,Bool.false_eq_true,Nat.reduceLeDiff,Nat.reduceAdd,Nat.reduceMul,Nat.reduceLT,Nat.zero_le,beq_self_eq_true,take_map_len,List.take_length,int_snoc,nilS]
theorem l0R_ok (p : Int) (c : Nat) : l0R p c := by
 unfold l0R
 simp only [ob_iff,map_nmap_int,sc_ro_int,sc_rw_int,getI_map,intAt_map,getB_map,boolAt_map,true_and,and_true,eq_self,Int.toNat_natCast,Nat.zero_add,Nat.add_zero,Nat.mul_one,Nat.one_mul,decide_eq_true_eq,decide_eq_false_iff_not,Value.bool.injEq,Value.int.injEq,Value.slice.injEq,Value.tuple.injEq,Option.some.injEq,Addr.mk.injEq,AObj.rw.injEq,AObj.ro.injEq,List.cons.injEq,reduceCtorEq,List.length_append,List.length_map,List.length_cons,List.length_nil,List.length_set,List.set_cons_zero,List.set_cons_succ,List.take_succ_cons,List.take_zero,List.take_nil,List.drop_nil,List.drop_zero,List.drop_succ_cons,intsOf_map,sl_id,sl_cells,Arg.list,Arg.num,Arg.flag,intOf,List.map_cons,List.map_nil,false_and,and_false,exists_const,or_false,false_or,true_or,forall_const,true_implies,false_implies,implies_true,beq_iff_eq,bne_iff_ne,beq_eq_false_iff_ne,bne_eq_false_iff_eq,Bool.not_eq_true',Bool.not_eq_false',ne_eq,not_true_eq_false,not_false_eq_true,Nat.le_refl,Nat.lt_irrefl,andP,Bool.not_true,Bool.not_false,Bool.true_eq_false,Bool.false_eq_true,Nat.reduceLeDiff,Nat.reduceAdd,Nat.reduceMul,Nat.reduceLT,Nat.zero_le,beq_self_eq_true,take_map_len,List.take_length,int_snoc,nilS,ros]
theorem f0N_ok (n : Nat) (hn : n≤8) : f0N n := by
 unfold f0N f0N0
 simp only [ob_iff,map_nmap_int,sc_ro_int,sc_rw_int,getI_map,intAt_map,getB_map,boolAt_map,true_and,and_true,eq_self,Int.toNat_natCast,Nat.zero_add,Nat.add_zero,Nat.mul_one,Nat.one_mul,decide_eq_true_eq,decide_eq_false_iff_not,Value.bool.injEq,Value.int.injEq,Value.slice.injEq,Value.tuple.injEq,Option.some.injEq,Addr.mk.injEq,AObj.rw.injEq,AObj.ro.injEq,List.cons.injEq,reduceCtorEq,List.length_append,List.length_map,List.length_cons,List.length_nil,List.length_set,List.set_cons_zero,List.set_cons_succ,List.take_succ_cons,List.take_zero,List.take_nil,List.drop_nil,List.drop_zero,List.drop_succ_cons,intsOf_map,sl_id,sl_cells,Arg.list,Arg.num,Arg.flag,intOf,List.map_cons,List.map_nil,false_and,and_false,exists_const,or_false,false_or,true_or,forall_const,true_implies,false_implies,implies_true,beq_iff_eq,bne_iff_ne,beq_eq_false_iff_ne,bne_eq_false_iff_eq,Bool.not_eq_true',Bool.not_eq_false',ne_eq,not_true_eq_false,not_false_eq_true,Nat.le_refl,Nat.lt_irrefl,andP,Bool.not_true,Bool.not_false,Bool.true_eq_false,Bool.false_eq_true,Nat.reduceLeDiff,Nat.reduceAdd,Nat.reduceMul,Nat.reduceLT,Nat.zero_le,beq_self_eq_true,take_map_len,List.take_length,int_snoc,nilS]
 exact ⟨⟨0,Nat.zero_le _,rfl⟩,fun x hx => ⟨fun h => ⟨x + 1,by omega,by omega,by rw [wrap_in (by omega) (by omega)]; push_cast; rfl⟩,fun h => by rfl⟩⟩
theorem f0H_ok (n : Nat) (s : Option Nat) (c : Nat) (hn : n≤8) : f0H n s c := by
 unfold f0H f0H1 f0H0
 simp only [ob_iff,map_nmap_int,sc_ro_int,sc_rw_int,getI_map,intAt_map,getB_map,boolAt_map,true_and,and_true,eq_self,Int.toNat_natCast,Nat.zero_add,Nat.add_zero,Nat.mul_one,Nat.one_mul,decide_eq_true_eq,decide_eq_false_iff_not,Value.bool.injEq,Value.int.injEq,Value.slice.injEq,Value.tuple.injEq,Option.some.injEq,Addr.mk.injEq,AObj.rw.injEq,AObj.ro.injEq,List.cons.injEq,reduceCtorEq,List.length_append,List.length_map,List.length_cons,List.length_nil,List.length_set,List.set_cons_zero,List.set_cons_succ,List.take_succ_cons,List.take_zero,List.take_nil,List.drop_nil,List.drop_zero,List.drop_succ_cons,intsOf_map,sl_id,sl_cells,Arg.list,Arg.num,Arg.flag,intOf,List.map_cons,List.map_nil,false_and,and_false,exists_const,or_false,false_or,true_or,forall_const,true_implies,false_implies,implies_true,beq_iff_eq,bne_iff_ne,beq_eq_false_iff_ne,bne_eq_false_iff_eq,Bool.not_eq_true',Bool.not_eq_false',ne_eq,not_true_eq_false,not_false_eq_true,Nat.le_refl,Nat.lt_irrefl,andP,Bool.not_true,Bool.not_false,Bool.true_eq_false,Bool.false_eq_true,Nat.reduceLeDiff,Nat.reduceAdd,Nat.reduceMul,Nat.reduceLT,Nat.zero_le,beq_self_eq_true,take_map_len,List.take_length,int_snoc,nilS]
 exact ⟨⟨0,Nat.zero_le _,rfl⟩,fun x hx => ⟨fun h => ⟨x + 1,by omega,by omega,by rw [wrap_in (by omega) (by omega)]; push_cast; rfl⟩,fun h => by rfl⟩⟩
theorem f0R_ok (n : Nat) (l : List Int) (c : Nat) (hn : n≤8) (hl : l.length = 0) : f0R n l c := by
 obtain rfl := List.length_eq_zero_iff.1 hl
 unfold f0R f0R2 f0R1 f0R0
 simp only [ob_iff,map_nmap_int,sc_ro_int,sc_rw_int,getI_map,intAt_map,getB_map,boolAt_map,true_and,and_true,eq_self,Int.toNat_natCast,Nat.zero_add,Nat.add_zero,Nat.mul_one,Nat.one_mul,decide_eq_true_eq,decide_eq_false_iff_not,Value.bool.injEq,Value.int.injEq,Value.slice.injEq,Value.tuple.injEq,Option.some.injEq,Addr.mk.injEq,AObj.rw.injEq,AObj.ro.injEq,List.cons.injEq,reduceCtorEq,List.length_append,List.length_map,List.length_cons,List.length_nil,List.length_set,List.set_cons_zero,List.set_cons_succ,List.take_succ_cons,List.take_zero,List.take_nil,List.drop_nil,List.drop_zero,List.drop_succ_cons,intsOf_map,sl_id,sl_cells,Arg.list,Arg.num,Arg.flag,intOf,List.map_cons,List.map_nil,false_and,and_false,exists_const,or_false,false_or,true_or,forall_const,true_implies,false_implies,implies_true,beq_iff_eq,bne_iff_ne,beq_eq_false_iff_ne,bne_eq_false_iff_eq,Bool.not_eq_true',Bool.not_eq_false',ne_eq,not_true_eq_false,not_false_eq_true,Nat.le_refl,Nat.lt_irrefl,andP,Bool.not_true,Bool.not_false,Bool.true_eq_false,Bool.false_eq_true,Nat.reduceLeDiff,Nat.reduceAdd,Nat.reduceMul,Nat.reduceLT,Nat.zero_le,beq_self_eq_true,take_map_len,List.take_length,int_snoc,nilS,ros]
 exact ⟨⟨0,Nat.zero_le _,by simp [AObj.sc],rfl⟩,fun x hx => ⟨fun h => ⟨x + 1,by omega,by omega,by simp [AObj.sc],by rw [wrap_in (by omega) (by omega)]; push_cast; rfl⟩,fun h => by rfl⟩⟩
theorem foW_ok (p : Int) (l : List Int) (c : Nat) (hp : 0 < p∧p≤8) (hl : 0 < l.length) (hb : ∀ x ∈ l,0≤x∧x < p) (hlen : l.length≤13) (hne : fullTo p l p.toNat ≠ []) : foW p l c := by
 unfold foW foW23 foW22 foW21 foW20 foW19 foW18 foW17 foW16 foW15 foW14 foW13 foW12 foW11 foW10 foW9 foW8 foW7 foW6 foW5 foW4 foW3 foW2 foW1 foW0
 simp only [ob_iff,sl_id,sl_cells,Arg.num,map_nmap_int,sc_ro_int,sc_rw_int,getI_map,intAt_map,true_and,and_true,eq_self,Int.toNat_natCast,Nat.zero_add,Nat.mul_one,decide_eq_true_eq,decide_eq_false_iff_not,andP,List.set_cons_zero,List.length_cons,List.length_nil,List.drop_zero,List.take_succ_cons,List.take_zero,
   Value.slice.injEq,Value.tuple.injEq,Option.some.injEq,Addr.mk.injEq,AObj.rw.injEq,List.cons.injEq,reduceCtorEq,List.length_append,List.length_map,false_and,and_false,exists_const,or_false,false_or,true_or,Nat.lt_irrefl,forall_const,true_implies,List.length_set,beq_iff_eq,beq_eq_false_iff_ne,intsOf_map,List.take_length,take_map_len]
 have more : ∀ {x : Nat},(x : Int) ∈ (lieOf p l).1→fullTo p l (x + 1) = fullTo p l x ++ [(x : Int)] := fun h => by rw [fullTo,if_pos h]
 have same : ∀ {x : Nat},¬ (x : Int) ∈ (lieOf p l).1→fullTo p l (x + 1) = fullTo p l x := fun h => by rw [fullTo,if_neg h]
 have hlie : (lieOf p l).1.length = l.length := by rw [← lieAt_end (Nat.le_refl _),lieAt_len (Nat.le_refl _)]
 have hw : ∀ {x : Nat},(x : Int) < p→IntKind.i64.wrap ((x : Int) + 1) = ((x + 1 : Nat) : Int) := fun h => by rw [wrap_in (by omega) (by omega)]; rfl
 refine ⟨⟨by omega,⟨by omega,by omega⟩,by omega,hb,by omega⟩,⟨0,⟨by omega,rfl⟩,rfl⟩,fun x ⟨h1,h2⟩ => ⟨fun h3 => ⟨⟨by omega,by omega⟩,fun h4 => ⟨⟨by omega,by omega,by omega,by omega⟩,x + 1,by omega,by omega,?_,?_,hw h3⟩,fun h4 => ⟨x + 1,⟨by omega,?_⟩,by omega,hw h3⟩⟩,fun h3 => ?_⟩,
   fun x h1 => ⟨fun h3 => ⟨⟨by omega,by omega⟩,fun h4 => ⟨⟨by omega,?_,?_⟩,x + 1,by omega,by omega,?_,?_,hw h3⟩,fun h4 => ⟨x + 1,by omega,by omega,?_,?_,hw h3⟩⟩,fun h3 => ?_⟩⟩
 · rw [more h4,h2]; rfl
 · rw [more h4,h2]; rfl
 · rw [same h4,h2]
 · obtain rfl : p.toNat = x := by omega
   exact absurd h2 hne
 · have := fullTo_len p l x; omega
 · have := fullTo_len p l x; omega
 · rw [more h4,List.map_append]; rfl
 · rw [more h4,List.length_append]; rfl
 · rw [same h4]
 · rw [same h4]
 · obtain rfl : p.toNat = x := by omega
   have := fullTo_len p l p.toNat
   rw [wrap_in (by omega) (by omega)]
   exact ⟨rfl,rfl⟩
theorem lie0G_ok : ∀ args H φ v H' l,pureG [.int .i64,.ints .i64] lie0S args H = some (φ,v,H',l)→Asks φ→Call Try.prog 50 args H (fun v' H2 => v' = v∧H2 = H')∧Kept H H' l :=
 pureG_ok fun r hk hs => match r,hk with
   | [_,_],⟨⟨p,rfl⟩,ha,_⟩ => ⟨by show sc 0 (.tuple #[nilS,vi 0]) = true; simp [nilS,sc,sc2,sc1,sc0],fun caps => by
     have e : VOk Try.prog lieRE := VOk.ofCt (CtOk.none.add hasG_ok)
     rcases ha with rfl | ⟨s,rfl⟩ | ⟨l,rfl⟩
     · exact (Call.ofVc e mixed (c := lieRB) Try.func50 (by kernel_rfl) (cast (congrFun l0N_eq p) (l0N_ok p))).mono fun v H h => h.1
     · exact (Call.ofVc e mixed (c := lieRB) Try.func50 (by kernel_rfl) (cast (congrFun (congrFun (congrFun l0H_eq p) s) _) (l0H_ok p s _))).mono fun v H h => h.1
     · cases l with
       | nil => exact (Call.ofVc e mixed (c := lieRB) Try.func50 (by kernel_rfl) (cast (congrFun (congrFun l0R_eq p) _) (l0R_ok p _))).mono fun v H h => h.1
       | cons x l => exact absurd (show (x :: l).length = 0 from hs) (by simp)⟩
def full0S (r : List Arg) : Prop × Value := match r with
 | [p,a] => ((0≤p.num∧p.num≤8)∧a.list.length = 0,.tuple #[nilS,vi 0])
 | _ => (False,undef)
theorem full0G_ok : ∀ args H φ v H' l,pureG [.int .i64,.ints .i64] full0S args H = some (φ,v,H',l)→Asks φ→Call Try.prog 53 args H (fun v' H2 => v' = v∧H2 = H')∧Kept H H' l :=
 pureG_ok fun r hk hs => match r,hk with
   | [_,_],⟨⟨p,rfl⟩,ha,_⟩ => ⟨by show sc 0 (.tuple #[nilS,vi 0]) = true; simp [nilS,sc,sc2,sc1,sc0],fun caps => by
     have e : VOk Try.prog { ct := full0T } := VOk.ofCt ((CtOk.none.add hasG_ok).add lie0G_ok)
     obtain ⟨n,rfl⟩ := Int.eq_ofNat_of_zero_le (show 0≤p from hs.1.1)
     have hn : n≤8 := by have : (n : Int)≤8 := hs.1.2; omega
     rcases ha with rfl | ⟨s,rfl⟩ | ⟨l,rfl⟩
     · exact (Call.ofVc e mixed (c := fullRB) Try.func53 (by kernel_rfl) (cast (congrFun f0N_eq n) (f0N_ok n hn))).mono fun v H h => h.1
     · exact (Call.ofVc e mixed (c := fullRB) Try.func53 (by kernel_rfl) (cast (congrFun (congrFun (congrFun f0H_eq n) s) _) (f0H_ok n s _ hn))).mono fun v H h => h.1
     · exact (Call.ofVc e mixed (c := fullRB) Try.func53 (by kernel_rfl) (cast (congrFun (congrFun (congrFun f0R_eq n) l) _) (f0R_ok n l _ hn hs.2))).mono fun v H h => h.1⟩
theorem fullTo_mem {p : Int} {l : List Int} {x : Int} : ∀ {i : Nat},x ∈ fullTo p l i ↔ (0≤x∧x < i)∧x ∈ (lieOf p l).1
 | 0 => by simp [fullTo]; omega
 | i + 1 => by
   rw [fullTo]
   have ih := fullTo_mem (p := p) (l := l) (x := x) (i := i)
   split
   · rename_i h
     rw [List.mem_append,ih,List.mem_singleton]
     constructor
     · rintro (⟨h1,h2⟩ | rfl)
       · exact ⟨by omega,h2⟩
       · exact ⟨by omega,h⟩
     · rintro ⟨h1,h2⟩
       by_cases e : x = i
       · exact .inr e
       · exact .inl ⟨by omega,h2⟩
   · rename_i h
     rw [ih]
     constructor
     · rintro ⟨h1,h2⟩; exact ⟨by omega,h2⟩
     · rintro ⟨h1,h2⟩
       have : x ≠ i := fun e => h (e ▸ h2)
       exact ⟨by omega,h2⟩
theorem lie_first {p : Int} {l : List Int} (h0 : 0 < l.length) (hb : ∀ x ∈ l,0≤x∧x < p) : l.getD 0 0 ∈ (lieOf p l).1 := by
 cases l with
 | nil => cases h0
 | cons d l =>
   have grow : ∀ (m : List Int) (s : List Int × Int) (x : Int),x ∈ s.1→x ∈ (m.foldl (lieStep p) s).1 := by
     intro m
     induction m with
     | nil => exact fun s x h => h
     | cons a m ih => exact fun s x h => ih _ x (List.mem_append_left _ h)
   have hd := hb d List.mem_cons_self
   have e : slideAt [] p d = d := by rw [slideAt_eq]; simp
   refine grow l (lieStep p ([],0) d) d ?_
   unfold lieStep
   simp only [e,List.nil_append,List.mem_singleton]
   rw [if_neg (by omega)]
theorem full_ne {p : Int} {l : List Int} (h0 : 0 < l.length) (hb : ∀ x ∈ l,0≤x∧x < p) : fullTo p l p.toNat ≠ [] := fun e => by
 have hd := hb _ (getD_memR (l := l) (i := 0) h0)
 have := (fullTo_mem (p := p) (l := l) (x := l.getD 0 0) (i := p.toNat)).2 ⟨by omega,lie_first h0 hb⟩
 rw [e] at this
 cases this
def fullRS (r : List Arg) : Option (Prop × Back) := match r with
 | [p,.ints _ l] => some ((0 < p.num∧p.num≤8)∧0 < l.length∧(∀ x ∈ l,0≤x∧x < p.num)∧l.length≤13,.both (fullTo p.num l p.num.toNat) [vi (l.length - (fullTo p.num l p.num.toNat).length)])
 | _ => none
theorem fullRG_ok : ∀ args H φ v H' l,newG [.int .i64,.ints .i64] fullRS args H = some (φ,v,H',l)→Asks φ→Call Try.prog 53 args H (fun v' H2 => v' = v∧H2 = H')∧Kept H H' l :=
 newG_ok fun r ψ b hk hs hψ => match r,hk with
   | [_,_],⟨⟨p,rfl⟩,ha,_⟩ => by
     rcases ha with rfl | ⟨s,rfl⟩ | ⟨l,rfl⟩ <;> cases hs
     obtain ⟨h1,h2,h3,h4⟩ := hψ
     exact ⟨rfl,fun caps => Call.ofVcR (VOk.ofCt (fullRT_ok lieRG_ok)) mixed (c := fullRB) (inv := fullRI p l _) Try.func53 (by kernel_rfl) (cast (congrFun (congrFun (congrFun foW_eq p) l) _) (foW_ok p l _ h1 h2 h3 h4 (full_ne h2 h3)))⟩
end Go.Pier.Lg
set_option maxRecDepth 100000
set_option linter.unusedVariables false
set_option linter.unusedSimpArgs false
namespace Go.Pier.Lg
open Go Go.Pier Go.Proofs
structure Same (n : Nat) (s : PS) (t : List Int × Int) : Prop where
 lies : s.lies = t.1
 slid : s.slid = t.2
 tk : ∀ i : Nat,i < n→(s.tk i = true ↔ (i : Int) ∈ t.1)
 out : ∀ x ∈ t.1,x = -1∨(0≤x∧x < n)
 fell : s.fell = (t.1.filter fun x => decide (x = -1)).length
 nodup : (t.1.filter fun x => decide (0≤x)).Nodup
theorem slide_is {out : List Int} {n a j : Nat} (hj : a + j≤n) (h : ∀ i,i < j→((a + i : Nat) : Int) ∈ out) (hb : a + j < n→¬ ((a + j : Nat) : Int) ∈ out) : slideAt out n a = (a + j : Nat) := by
 induction j generalizing a with
 | zero =>
   rw [slideAt_eq,Nat.add_zero]
   rw [if_neg (fun hh => hb (by omega) (by rw [Nat.add_zero]; exact hh.2))]
 | succ j ih =>
   rw [slideAt_eq,if_pos ⟨by omega,by have := h 0 (by omega); rwa [Nat.add_zero] at this⟩]
   have := ih (a := a + 1) (by omega) (fun i hi => by have := h (i + 1) (by omega); rwa [show a + (i + 1) = a + 1 + i by omega] at this) (fun hh => by rw [show a + 1 + j = a + (j + 1) by omega]; exact hb (by omega))
   rw [show a + 1 + j = a + (j + 1) by omega] at this
   rw [← this]; rfl
theorem same_step {n : Nat} {s : PS} {t : List Int × Int} {d : Int} (h : Same n s t) (hd : 0≤d∧d < n) : Same n (stepP false n s d) (lieStep n t d) := by
 obtain ⟨a,rfl⟩ := Int.eq_ofNat_of_zero_le hd.1
 have ha : a < n := by omega
 have pos : ∀ j,posM false n (Int.toNat (a : Int)) j = a + j := fun j => rfl
 have cnt : cntM false n (Int.toNat (a : Int)) = n - a := rfl
 obtain ⟨h1,h2,h3,h4⟩ := ffB_spec (fun j => s.tk (a + j)) (n - a) 0
 generalize hj : ffB (fun j => s.tk (a + j)) (n - a) 0 = j at *
 by_cases hlt : j < n - a
 · have hb := h4 (by omega)
   rw [step_found (ar := false) (j := j) (by rw [cnt]; exact hlt) (fun i hi => h3 i (Nat.zero_le _) hi) hb]
   have hsl : slideAt t.1 n a = (a + j : Nat) := slide_is (by omega) (fun i hi => (h.tk _ (by omega)).1 (h3 i (Nat.zero_le _) hi)) (fun hh hm => by
     have := (h.tk _ hh).2 hm
     rw [hb] at this; cases this)
   have hnm : ¬ ((a + j : Nat) : Int) ∈ t.1 := fun hm => by
     have := (h.tk _ (by omega)).2 hm
     rw [hb] at this; cases this
   unfold lieStep
   rw [hsl,if_neg (by omega)]
   refine ⟨by simp only [pos,h.lies],by simp only [h.slid]; omega,fun i hi => ?_,fun x hx => ?_,?_,?_⟩
   · simp only [pos]
     rw [updB_at,h.tk i hi,List.mem_append,List.mem_singleton]
     constructor
     · rintro (e | e)
       · exact .inr (by rw [e])
       · exact .inl e
     · rintro (e | e)
       · exact .inr e
       · exact .inl (by omega)
   · rcases List.mem_append.1 hx with hx | hx
     · exact h.out x hx
     · rw [List.mem_singleton.1 hx]; omega
   · simp only
     rw [List.filter_append,List.length_append,h.fell,List.filter_cons,if_neg (by simp; omega)]
     simp
   · rw [List.filter_append,List.filter_cons,if_pos (by simp; omega),List.filter_nil,List.nodup_append]
     refine ⟨h.nodup,by simp,fun x hx y hy e => ?_⟩
     rw [List.mem_singleton.1 hy] at e
     exact hnm (e ▸ (List.mem_filter.1 hx).1)
 · have ej : j = n - a := by omega
   have hall : ∀ i,i < n - a→s.tk (a + i) = true := fun i hi => h3 i (Nat.zero_le _) (by omega)
   rw [step_lost (ar := false) (n := n) (d := (a : Int)) (fun i hi => hall i hi)]
   have hsl : slideAt t.1 n a = (a + (n - a) : Nat) := slide_is (by omega) (fun i hi => (h.tk _ (by omega)).1 (hall i hi)) (fun hh => absurd hh (by omega))
   unfold lieStep
   rw [hsl,if_pos (by omega)]
   refine ⟨by simp only [h.lies],by simp only [h.slid]; omega,fun i hi => ?_,fun x hx => ?_,?_,?_⟩
   · simp only
     rw [h.tk i hi,List.mem_append,List.mem_singleton]
     constructor
     · exact .inl
     · rintro (e | e)
       · exact e
       · omega
   · rcases List.mem_append.1 hx with hx | hx
     · exact h.out x hx
     · exact .inl (List.mem_singleton.1 hx)
   · simp only
     rw [List.filter_append,List.length_append,h.fell]
     simp
   · rw [List.filter_append]
     simpa using h.nodup
theorem same_run {n : Nat} {l : List Int} (hb : ∀ x ∈ l,0≤x∧x < (n : Int)) : Same n (runA n l) (lieOf n l) := by
 have key : ∀ (m : List Int) (s : PS) (t : List Int × Int),Same n s t→(∀ x ∈ m,0≤x∧x < (n : Int))→Same n (m.foldl (stepP false n) s) (m.foldl (lieStep n) t) := by
   intro m
   induction m with
   | nil => exact fun s t h _ => h
   | cons x m ih => exact fun s t h hm => ih _ _ (same_step h (hm x List.mem_cons_self)) fun y hy => hm y (List.mem_cons_of_mem _ hy)
 exact key l ⟨emp,[],0,0⟩ ([],0) ⟨rfl,rfl,fun i _ => by simp [emp],(fun x hx => by cases hx),rfl,by simp⟩ hb
theorem errD_eq {p : Int} {l : List Int} : errD p l = errDrops p l := by
 unfold errD errDrops
 by_cases h : p < 1∨8 < p∨12 < l.length
 · rw [if_pos h,if_pos h]
 · rw [if_neg h,if_neg h]
   by_cases h2 : ∀ d ∈ l,0≤d∧d < p
   · rw [if_pos h2,if_pos]
     rw [wiF,decide_eq_true_eq]
     intro x hx
     have := h2 x hx
     omega
   · rw [if_neg h2,if_neg]
     rw [wiF,decide_eq_true_eq]
     exact fun hh => h2 fun d hd => by have := hh d hd; omega
theorem len_le {l : List Int} : ∀ {k : List Int},k.Nodup→(∀ x ∈ k,x ∈ l)→k.length≤l.length
 | [],_,_ => Nat.zero_le _
 | x :: k,hn,h => by
   obtain ⟨h1,h2⟩ := List.nodup_cons.1 hn
   have hx := h x List.mem_cons_self
   have := len_le (l := l.erase x) (k := k) h2 fun y hy => (List.mem_erase_of_ne (fun (e : y = x) => h1 (e ▸ hy))).2 (h y (List.mem_cons_of_mem _ hy))
   rw [List.length_erase_of_mem hx] at this
   have : 0 < l.length := List.length_pos_of_mem hx
   rw [List.length_cons]
   omega
theorem fullTo_nodup {p : Int} {l : List Int} : ∀ i : Nat,(fullTo p l i).Nodup
 | 0 => List.nodup_nil
 | i + 1 => by
   rw [fullTo]
   split
   · rw [List.nodup_append]
     refine ⟨fullTo_nodup i,by simp,fun x hx y hy e => ?_⟩
     rw [List.mem_singleton.1 hy] at e
     have := (fullTo_mem.1 hx).1
     omega
   · exact fullTo_nodup i
theorem lie_len {p : Int} {l : List Int} : (lieOf p l).1.length = l.length := by rw [← lieAt_end (Nat.le_refl _),lieAt_len (Nat.le_refl _)]
theorem fell_is {n : Nat} {l : List Int} (hb : ∀ x ∈ l,0≤x∧x < (n : Int)) : (runA n l).fell = l.length - (fullTo n l n).length := by
 have h := same_run hb
 have e1 : ((lieOf n l).1.filter fun x => decide (x = -1)).length + ((lieOf n l).1.filter fun x => decide (0≤x)).length = l.length := by
   rw [← lie_len (p := n) (l := l)]
   have : ∀ (m : List Int),(∀ x ∈ m,x = -1∨(0≤x∧x < (n : Int)))→(m.filter fun x => decide (x = -1)).length + (m.filter fun x => decide (0≤x)).length = m.length := by
     intro m
     induction m with
     | nil => exact fun _ => rfl
     | cons x m ih =>
       intro hm
       have := ih fun y hy => hm y (List.mem_cons_of_mem _ hy)
       rcases hm x List.mem_cons_self with e | e
       · rw [List.filter_cons,List.filter_cons,if_pos (by simp [e]),if_neg (by simp; omega),List.length_cons,List.length_cons]; omega
       · rw [List.filter_cons,List.filter_cons,if_neg (by simp; omega),if_pos (by simp; omega),List.length_cons,List.length_cons]; omega
   exact this _ h.out
 have e2 : ((lieOf n l).1.filter fun x => decide (0≤x)).length = (fullTo n l n).length := by
   apply Nat.le_antisymm
   · refine len_le h.nodup fun x hx => ?_
     obtain ⟨h1,h2⟩ := List.mem_filter.1 hx
     have h3 : 0≤x := of_decide_eq_true h2
     have := h.out x h1
     exact fullTo_mem.2 ⟨by omega,h1⟩
   · refine len_le (fullTo_nodup _) fun x hx => ?_
     obtain ⟨h1,h2⟩ := fullTo_mem.1 hx
     exact List.mem_filter.2 ⟨h2,by simp; omega⟩
 rw [h.fell,← e2]
 omega
end Go.Pier.Lg
set_option maxRecDepth 100000
set_option linter.unusedVariables false
set_option linter.unusedSimpArgs false
namespace Go.Pier.Lg
open Go Go.Pier Go.Proofs
noncomputable def pr2B : Code := Try.f58.body.getD .skip
noncomputable def co2B : Code := Try.f27.body.getD .skip
noncomputable def ov2B : Code := Try.f29.body.getD .skip
noncomputable def cr2B : Code := Try.f33.body.getD .skip
def pr2I (n p : Int) (l : List Int) (c : Nat) : Nat→Option LInv := invOf 0 (LInv.one Nat (fun i => i≤l.length) (fun i => [(1,.slice (some ⟨0,0,none⟩) l.length c),(2,vi p),(6,vi 0),(7,vi (ovI n p (l.take i))),(8,vi i)]) (fun _ => [ros l]) (fun i => l.length - i))
def pr20I (n p : Int) (sv : Value) (H : Heap) : Nat→Option LInv := invOf 0 (LInv.one Unit (fun _ => True) (fun _ => [(1,sv),(2,vi p),(6,vi 0),(7,vi (p - n)),(8,vi 0)]) (fun _ => H) (fun _ => 0))
noncomputable def pr2V0 (n p:Int) (l:List Int) (c:Nat) := (List.map (Value.int IntKind.i64) l)
noncomputable def pr2V :=
fun (n p:Int) (l:List Int) (c:Nat)↦(∃ (y:Nat),Ob (y≤l.length)∧(Ob (AObj.ro (pr2V0 n p l c)=AObj.ro (List.map (nmap1 fun (b:Nat)↦b) (pr2V0 n p l c))∧AObj.sc 1 (AObj.ro (pr2V0 n p l c))=true)∧True)∧Ob (Value.slice (some (ad0 0)) l.length c=Value.slice (some (ad0 0)) l.length c)∧Ob (p=p)∧Ob ((0:Int)=(0:Int))∧Ob (IntKind.i64.wrap (p-n)=ovI n p (List.take y l))∧Ob ((0:Int)=(y:Int))∧True)∧∀ (x:Nat),Ob (x≤l.length)→(decide ((x:Int)<(l.length:Int))=true→Ob ((0:Int)≤(x:Int)∧(x:Int)<(l.length:Int)∧true=true)∧Ob (IntAt IntKind.i64 (pr2V0 n p l c) (0+(x:Int).toNat * 1))∧(decide (p≤getI (pr2V0 n p l c) (0+(x:Int).toNat * 1))=true→∃ (y:Nat),Ob (y≤l.length)∧Ob (l.length-y<l.length-x)∧(Ob (AObj.ro (pr2V0 n p l c)=AObj.ro (List.map (nmap1 fun (b:Nat)↦b) (pr2V0 n p l c))∧AObj.sc 1 (AObj.ro (pr2V0 n p l c))=true)∧True)∧Ob (Value.slice (some (ad0 0)) l.length c=Value.slice (some (ad0 0)) l.length c)∧Ob (p=p)∧Ob ((0:Int)=(0:Int))∧Ob (IntKind.i64.wrap (ovI n p (List.take x l)+(1:Int))=ovI n p (List.take y l))∧Ob (IntKind.i64.wrap ((x:Int)+(1:Int))=(y:Int))∧True)∧(decide (p≤getI (pr2V0 n p l c) (0+(x:Int).toNat * 1))=false→∃ (y:Nat),Ob (y≤l.length)∧Ob (l.length-y<l.length-x)∧(Ob (AObj.ro (pr2V0 n p l c)=AObj.ro (List.map (nmap1 fun (b:Nat)↦b) (pr2V0 n p l c))∧AObj.sc 1 (AObj.ro (pr2V0 n p l c))=true)∧True)∧Ob (Value.slice (some (ad0 0)) l.length c=Value.slice (some (ad0 0)) l.length c)∧Ob (p=p)∧Ob ((0:Int)=(0:Int))∧Ob (ovI n p (List.take x l)=ovI n p (List.take y l))∧Ob (IntKind.i64.wrap ((x:Int)+(1:Int))=(y:Int))∧True))∧(decide ((x:Int)<(l.length:Int))=false→True∧Ob (vi (ovI n p (List.take x l))=vi (ovI n p l)))
theorem pr2V_eq : pr2V = fun (n p : Int) (l : List Int) (c : Nat) => vc Try.prog {} 1 27 true (pr2I n p l c) pr2B [] (argFr 0 [vi n,.slice (some ⟨0,0,none⟩) l.length c,vi p]) [ros l] (retK Try.prog Try.f58 (fun v _ => v = vi (ovI n p l))) := by kernel_rfl
noncomputable def pr2N :=
fun (n p:Int)↦(∃ (y:Unit),Ob True∧True∧Ob (Value.slice none 0 0=Value.slice none 0 0)∧Ob (p=p)∧Ob ((0:Int)=(0:Int))∧Ob (IntKind.i64.wrap (p-n)=p-n)∧Ob ((0:Int)=(0:Int))∧True)∧∀ (x:Unit),Ob True→(false=true→False)∧(false=false→True∧Ob (vi (p-n)=vi (ovI n p [])))
theorem pr2N_eq : pr2N = fun (n p : Int) => vc Try.prog {} 0 27 true (pr20I n p nilS []) pr2B [] (argFr 0 [vi n,nilS,vi p]) [] (retK Try.prog Try.f58 (fun v _ => v = vi (ovI n p []))) := by kernel_rfl
noncomputable def pr2H :=
fun (n p:Int) (s:Option Nat) (c:Nat)↦(∃ (y:Unit),Ob True∧True∧Ob (Value.slice (some ⟨0,0,s⟩) 0 c=Value.slice (some ⟨0,0,s⟩) 0 c)∧Ob (p=p)∧Ob ((0:Int)=(0:Int))∧Ob (IntKind.i64.wrap (p-n)=p-n)∧Ob ((0:Int)=(0:Int))∧True)∧∀ (x:Unit),Ob True→(false=true→Ob ((0:Int)≤(0:Int)∧(0:Int)<(↑(0:Nat):Int)∧std ⟨0,0,s⟩ c=true)∧False)∧(false=false→True∧Ob (vi (p-n)=vi (ovI n p [])))
theorem pr2H_eq : pr2H = fun (n p : Int) (s : Option Nat) (c : Nat) => vc Try.prog {} 1 27 true (pr20I n p (.slice (some ⟨0,0,s⟩) 0 c) [.gone]) pr2B [] (argFr 0 [vi n,.slice (some ⟨0,0,s⟩) 0 c,vi p]) [.gone] (retK Try.prog Try.f58 (fun v _ => v = vi (ovI n p []))) := by kernel_rfl
noncomputable def rfC : Ct := (Ct.none.add 24 (pureG psA rcdS)).add 58 (pureG psB prS)
noncomputable def rfV : VEnv := { ct := rfC.add 53 (newG psA fullRS) }
noncomputable def rfN : VEnv := { ct := rfC.add 53 (pureG psA full0S) }
noncomputable def co2V0 (n p:Int) (l:List Int) (c:Nat) := (List.take l.length (List.drop 0 (intsOf (List.map (Value.int IntKind.i64) l))))
noncomputable def co2V1 (n p:Int) (l:List Int) (c:Nat):Array Value := ⟨[vi (if errD n l=(0:Int)∧(0:Int)≤p∧p<n then ovI n p l else (0:Int)),vi (if errD n l=(0:Int) then if (0:Int)≤p∧p<n then (0:Int) else (2:Int) else errD n l)]⟩
noncomputable def co2V2 (n p:Int) (l:List Int) (c:Nat):Prop := (List.take l.length (List.drop 0 (List.map (Value.int IntKind.i64) l))=List.map (Value.int IntKind.i64) (co2V0 n p l c)∧0+l.length≤(List.map (Value.int IntKind.i64) l).length∧true=true)
noncomputable def co2V :=
fun (n p:Int) (l:List Int) (c:Nat)↦Ob ((co2V2 n p l c)∧(Arg.ints IntKind.i64 (co2V0 n p l c)).list.length≤1000000)∧((errDrops (Arg.plain (vi n)).num (Arg.ints IntKind.i64 (co2V0 n p l c)).list !=(0:Int))=true→Ob ((co2V2 n p l c)∧(Arg.ints IntKind.i64 (co2V0 n p l c)).list.length≤1000000)∧True∧Ob (Value.tuple ⟨[vi (0:Int),vi (errDrops (Arg.plain (vi n)).num (Arg.ints IntKind.i64 (co2V0 n p l c)).list)]⟩=Value.tuple (co2V1 n p l c)))∧((errDrops (Arg.plain (vi n)).num (Arg.ints IntKind.i64 (co2V0 n p l c)).list !=(0:Int))=false→(decide (p<(0:Int))=false→(decide (n≤p)=true→True∧Ob (Value.tuple ⟨[vi (0:Int),vi (2:Int)]⟩=Value.tuple (co2V1 n p l c)))∧(decide (n≤p)=false→Ob ((co2V2 n p l c)∧((0:Int)≤(Arg.plain (vi n)).num∧(Arg.plain (vi n)).num≤(8:Int))∧((0:Int)≤(Arg.plain (vi p)).num∧(Arg.plain (vi p)).num≤(8:Int))∧(Arg.ints IntKind.i64 (co2V0 n p l c)).list.length≤12)∧True∧Ob (Value.tuple ⟨[vi (ovI (Arg.plain (vi n)).num (Arg.plain (vi p)).num (Arg.ints IntKind.i64 (co2V0 n p l c)).list),vi (0:Int)]⟩=Value.tuple (co2V1 n p l c))))∧(decide (p<(0:Int))=true→True∧Ob (Value.tuple ⟨[vi (0:Int),vi (2:Int)]⟩=Value.tuple (co2V1 n p l c))))
theorem co2V_eq : co2V = fun (n p : Int) (l : List Int) (c : Nat) => vc Try.prog { ct := rfC } 1 26 true (fun _ => none) co2B [] (argFr 0 [vi n,.slice (some ⟨0,0,none⟩) l.length c,vi p]) [ros l] (retK Try.prog Try.f27 (fun v _ => v = coF n p l)) := by kernel_rfl
noncomputable def co2N0 (n p:Int):Array Value := ⟨[vi (if errD n []=(0:Int)∧(0:Int)≤p∧p<n then ovI n p [] else (0:Int)),vi (if errD n []=(0:Int) then if (0:Int)≤p∧p<n then (0:Int) else (2:Int) else errD n [])]⟩
noncomputable def co2N :=
fun (n p:Int)↦Ob (0≤1000000)∧((errDrops (Arg.plain (vi n)).num [] !=(0:Int))=true→Ob (0≤1000000)∧True∧Ob (Value.tuple ⟨[vi (0:Int),vi (errDrops (Arg.plain (vi n)).num [])]⟩=Value.tuple (co2N0 n p)))∧((errDrops (Arg.plain (vi n)).num [] !=(0:Int))=false→(decide (p<(0:Int))=false→(decide (n≤p)=true→True∧Ob (Value.tuple ⟨[vi (0:Int),vi (2:Int)]⟩=Value.tuple (co2N0 n p)))∧(decide (n≤p)=false→Ob (((0:Int)≤(Arg.plain (vi n)).num∧(Arg.plain (vi n)).num≤(8:Int))∧((0:Int)≤(Arg.plain (vi p)).num∧(Arg.plain (vi p)).num≤(8:Int))∧0≤12)∧True∧Ob (Value.tuple ⟨[vi (ovI (Arg.plain (vi n)).num (Arg.plain (vi p)).num []),vi (0:Int)]⟩=Value.tuple (co2N0 n p))))∧(decide (p<(0:Int))=true→True∧Ob (Value.tuple ⟨[vi (0:Int),vi (2:Int)]⟩=Value.tuple (co2N0 n p))))
theorem co2N_eq : co2N = fun (n p : Int) => vc Try.prog { ct := rfC } 0 26 true (fun _ => none) co2B [] (argFr 0 [vi n,nilS,vi p]) [] (retK Try.prog Try.f27 (fun v _ => v = coF n p [])) := by kernel_rfl
noncomputable def co2H0 (n p:Int) (s:Option Nat) (c:Nat):Array Value := ⟨[vi (if errD n []=(0:Int)∧(0:Int)≤p∧p<n then ovI n p [] else (0:Int)),vi (if errD n []=(0:Int) then if (0:Int)≤p∧p<n then (0:Int) else (2:Int) else errD n [])]⟩
noncomputable def co2H :=
fun (n p:Int) (s:Option Nat) (c:Nat)↦Ob (0≤1000000)∧((errDrops (Arg.plain (vi n)).num [] !=(0:Int))=true→Ob (0≤1000000)∧True∧Ob (Value.tuple ⟨[vi (0:Int),vi (errDrops (Arg.plain (vi n)).num [])]⟩=Value.tuple (co2H0 n p s c)))∧((errDrops (Arg.plain (vi n)).num [] !=(0:Int))=false→(decide (p<(0:Int))=false→(decide (n≤p)=true→True∧Ob (Value.tuple ⟨[vi (0:Int),vi (2:Int)]⟩=Value.tuple (co2H0 n p s c)))∧(decide (n≤p)=false→Ob (((0:Int)≤(Arg.plain (vi n)).num∧(Arg.plain (vi n)).num≤(8:Int))∧((0:Int)≤(Arg.plain (vi p)).num∧(Arg.plain (vi p)).num≤(8:Int))∧0≤12)∧True∧Ob (Value.tuple ⟨[vi (ovI (Arg.plain (vi n)).num (Arg.plain (vi p)).num []),vi (0:Int)]⟩=Value.tuple (co2H0 n p s c))))∧(decide (p<(0:Int))=true→True∧Ob (Value.tuple ⟨[vi (0:Int),vi (2:Int)]⟩=Value.tuple (co2H0 n p s c))))
theorem co2H_eq : co2H = fun (n p : Int) (s : Option Nat) (c : Nat) => vc Try.prog { ct := rfC } 1 26 true (fun _ => none) co2B [] (argFr 0 [vi n,.slice (some ⟨0,0,s⟩) 0 c,vi p]) [.gone] (retK Try.prog Try.f27 (fun v _ => v = coF n p [])) := by kernel_rfl
def ov2I (n : Nat) (l : List Int) (c : Nat) (fe : Int) : Nat→Option LInv := invOf 0 (.mk [⟨Nat,fun i => i≤n∧∀ j : Nat,j < i→ovI n j l ≠ fe,fun i => [(0,vi n),(1,.slice (some ⟨0,0,none⟩) l.length c),(4,vi 0),(5,vi 0),(7,vi fe),(8,vi i)],fun _ => [ros l],fun i => n - i,fun _ _ => none⟩] (fun _ b => b) (fun _ _ => [fun b => b]))
def ov20I (n : Nat) (a : Value) (H : Heap) : Nat→Option LInv := invOf 0 (.mk [⟨Unit,fun _ => True,fun _ => [(0,vi n),(1,a),(4,vi 0),(5,vi 0),(7,vi 0),(8,vi 0)],fun _ => H,fun _ => 0,fun _ _ => none⟩] (fun _ b => b) (fun _ _ => [fun b => b]))
noncomputable def ov2V0 (n:Nat) (l:List Int) (c:Nat) (fe:Int) := (List.take l.length (List.drop 0 (intsOf (List.map (Value.int IntKind.i64) l))))
noncomputable def ov2V1 (n:Nat) (l:List Int) (c:Nat) (fe:Int):Prop := (List.take l.length (List.drop 0 (List.map (Value.int IntKind.i64) l))=List.map (Value.int IntKind.i64) (ov2V0 n l c fe)∧0+l.length≤(List.map (Value.int IntKind.i64) l).length∧true=true)
noncomputable def ov2V :=
fun (n:Nat) (l:List Int) (c:Nat) (fe:Int)↦Ob ((ov2V1 n l c fe)∧(Arg.ints IntKind.i64 (ov2V0 n l c fe)).list.length≤1000000)∧((errDrops (Arg.plain (vi (n:Int))).num (Arg.ints IntKind.i64 (ov2V0 n l c fe)).list !=(0:Int))=true→Ob ((ov2V1 n l c fe)∧(Arg.ints IntKind.i64 (ov2V0 n l c fe)).list.length≤1000000)∧True∧Ob (Value.tuple ⟨[vi (0:Int),vi (errDrops (Arg.plain (vi (n:Int))).num (Arg.ints IntKind.i64 (ov2V0 n l c fe)).list)]⟩=Value.tuple ⟨[vi (if fe=(0:Int) then (0:Int) else (↑(bestTo (fun (p:Nat)↦ovI (n:Int) (p:Int) l) (n-1)):Int)),vi (if fe=(0:Int) then (20:Int) else (0:Int))]⟩))∧((errDrops (Arg.plain (vi (n:Int))).num (Arg.ints IntKind.i64 (ov2V0 n l c fe)).list !=(0:Int))=false→Ob ((ov2V1 n l c fe)∧((0:Int)<(Arg.plain (vi (n:Int))).num∧(Arg.plain (vi (n:Int))).num≤(8:Int))∧0<(ov2V0 n l c fe).length∧(∀ (x:Int),x∈List.take l.length (List.drop 0 (intsOf (List.map (Value.int IntKind.i64) l)))→(0:Int)≤x∧x<(Arg.plain (vi (n:Int))).num)∧(ov2V0 n l c fe).length≤13)∧(∃ (y:Nat),Ob (y≤n∧∀ (j:Nat),j<y→ovI (n:Int) (j:Int) l≠fe)∧(Ob (AObj.ro (List.map (Value.int IntKind.i64) l)=AObj.ro (List.map (nmap1 fun (b:Nat)↦b) (List.map (Value.int IntKind.i64) l))∧AObj.sc 1 (AObj.ro (List.map (Value.int IntKind.i64) l))=true)∧True)∧Ob ((n:Int)=(n:Int))∧Ob (Value.slice (some (ad0 0)) l.length c=Value.slice (some (ad0 0)) l.length c)∧Ob ((0:Int)=(0:Int))∧Ob ((0:Int)=(0:Int))∧Ob ((↑(ov2V0 n l c fe).length:Int)-(↑(fullTo (Arg.plain (vi (n:Int))).num (ov2V0 n l c fe) (Arg.plain (vi (n:Int))).num.toNat).length:Int)=fe)∧Ob ((0:Int)=(y:Int))∧True)∧∀ (xq:Nat),Ob (xq≤n∧∀ (j:Nat),j<xq→ovI (n:Int) (j:Int) l≠fe)→(decide ((0:Int)<fe)=true→(decide ((xq:Int)<(n:Int))=true→Ob ((ov2V1 n l c fe)∧((0:Int)≤(Arg.plain (vi (n:Int))).num∧(Arg.plain (vi (n:Int))).num≤(8:Int))∧((0:Int)≤(Arg.plain (vi (xq:Int))).num∧(Arg.plain (vi (xq:Int))).num≤(8:Int))∧(Arg.ints IntKind.i64 (ov2V0 n l c fe)).list.length≤12)∧((ovI (Arg.plain (vi (n:Int))).num (Arg.plain (vi (xq:Int))).num (Arg.ints IntKind.i64 (ov2V0 n l c fe)).list==fe)=true→True∧Ob (Value.tuple ⟨[vi (xq:Int),vi (0:Int)]⟩=Value.tuple ⟨[vi (if fe=(0:Int) then (0:Int) else (↑(bestTo (fun (p:Nat)↦ovI (n:Int) (p:Int) l) (n-1)):Int)),vi (if fe=(0:Int) then (20:Int) else (0:Int))]⟩))∧((ovI (Arg.plain (vi (n:Int))).num (Arg.plain (vi (xq:Int))).num (Arg.ints IntKind.i64 (ov2V0 n l c fe)).list==fe)=false→∃ (y:Nat),Ob (y≤n∧∀ (j:Nat),j<y→ovI (n:Int) (j:Int) l≠fe)∧Ob (n-y<n-xq)∧(Ob (AObj.ro (List.map (Value.int IntKind.i64) l)=AObj.ro (List.map (nmap1 fun (b:Nat)↦b) (List.map (Value.int IntKind.i64) l))∧AObj.sc 1 (AObj.ro (List.map (Value.int IntKind.i64) l))=true)∧True)∧Ob ((n:Int)=(n:Int))∧Ob (Value.slice (some (ad0 0)) l.length c=Value.slice (some (ad0 0)) l.length c)∧Ob ((0:Int)=(0:Int))∧Ob ((0:Int)=(0:Int))∧Ob (fe=fe)∧Ob (IntKind.i64.wrap ((xq:Int)+(1:Int))=(y:Int))∧True))∧(decide ((xq:Int)<(n:Int))=false→True∧Ob (Value.tuple ⟨[vi (0:Int),vi (20:Int)]⟩=Value.tuple ⟨[vi (if fe=(0:Int) then (0:Int) else (↑(bestTo (fun (p:Nat)↦ovI (n:Int) (p:Int) l) (n-1)):Int)),vi (if fe=(0:Int) then (20:Int) else (0:Int))]⟩)))∧(decide ((0:Int)<fe)=false→True∧Ob (Value.tuple ⟨[vi (0:Int),vi (20:Int)]⟩=Value.tuple ⟨[vi (if fe=(0:Int) then (0:Int) else (↑(bestTo (fun (p:Nat)↦ovI (n:Int) (p:Int) l) (n-1)):Int)),vi (if fe=(0:Int) then (20:Int) else (0:Int))]⟩)))
theorem ov2V_eq : ov2V = fun (n : Nat) (l : List Int) (c : Nat) (fe : Int) => vc Try.prog rfV 1 38 true (ov2I n l c fe) ov2B [] (argFr 0 [vi n,.slice (some ⟨0,0,none⟩) l.length c]) [ros l] (retK Try.prog Try.f29 (fun v _ => v = ovF n l fe)) := by kernel_rfl
noncomputable def ov2N0 (n:Nat):Array Value := ⟨[vi (0:Int),vi (20:Int)]⟩
noncomputable def ov2N :=
fun (n:Nat)↦Ob (0≤1000000)∧((errDrops (Arg.plain (vi (n:Int))).num [] !=(0:Int))=true→Ob (0≤1000000)∧True∧Ob (Value.tuple ⟨[vi (0:Int),vi (errDrops (Arg.plain (vi (n:Int))).num [])]⟩=Value.tuple (ov2N0 n)))∧((errDrops (Arg.plain (vi (n:Int))).num [] !=(0:Int))=false→Ob (((0:Int)≤(Arg.plain (vi (n:Int))).num∧(Arg.plain (vi (n:Int))).num≤(8:Int))∧0=0)∧(∃ (y:Unit),Ob True∧True∧Ob ((n:Int)=(n:Int))∧Ob (Value.slice none 0 0=Value.slice none 0 0)∧Ob ((0:Int)=(0:Int))∧Ob ((0:Int)=(0:Int))∧Ob ((0:Int)=(0:Int))∧Ob ((0:Int)=(0:Int))∧True)∧∀ (x:Unit),Ob True→(false=true→(decide ((0:Int)<(n:Int))=true→Ob (((0:Int)≤(Arg.plain (vi (n:Int))).num∧(Arg.plain (vi (n:Int))).num≤(8:Int))∧((0:Int)≤(Arg.plain (vi (0:Int))).num∧(Arg.plain (vi (0:Int))).num≤(8:Int))∧0≤12)∧((ovI (Arg.plain (vi (n:Int))).num (Arg.plain (vi (0:Int))).num []==(0:Int))=true→True∧Ob (Value.tuple ⟨[vi (0:Int),vi (0:Int)]⟩=Value.tuple (ov2N0 n)))∧((ovI (Arg.plain (vi (n:Int))).num (Arg.plain (vi (0:Int))).num []==(0:Int))=false→∃ (y:Unit),Ob True∧Ob (0<0)∧True∧Ob ((n:Int)=(n:Int))∧Ob (Value.slice none 0 0=Value.slice none 0 0)∧Ob ((0:Int)=(0:Int))∧Ob ((0:Int)=(0:Int))∧Ob ((0:Int)=(0:Int))∧Ob (IntKind.i64.wrap ((0:Int)+(1:Int))=(0:Int))∧True))∧(decide ((0:Int)<(n:Int))=false→True∧Ob (Value.tuple (ov2N0 n)=Value.tuple (ov2N0 n))))∧(false=false→True∧Ob (Value.tuple (ov2N0 n)=Value.tuple (ov2N0 n))))
theorem ov2N_eq : ov2N = fun (n : Nat) => vc Try.prog rfN 0 38 true (ov20I n nilS []) ov2B [] (argFr 0 [vi n,nilS]) [] (retK Try.prog Try.f29 (fun v _ => v = .tuple #[vi 0,vi 20])) := by kernel_rfl
noncomputable def ov2H0 (n:Nat) (s:Option Nat) (c:Nat):Prop := (Value.slice (some ⟨0,0,s⟩) 0 c=Value.slice (some ⟨0,0,s⟩) 0 c)
noncomputable def ov2H :=
fun (n:Nat) (s:Option Nat) (c:Nat)↦Ob (0≤1000000)∧((errDrops (Arg.plain (vi (n:Int))).num [] !=(0:Int))=true→Ob (0≤1000000)∧True∧Ob (Value.tuple ⟨[vi (0:Int),vi (errDrops (Arg.plain (vi (n:Int))).num [])]⟩=Value.tuple ⟨[vi (0:Int),vi (20:Int)]⟩))∧((errDrops (Arg.plain (vi (n:Int))).num [] !=(0:Int))=false→Ob (((0:Int)≤(Arg.plain (vi (n:Int))).num∧(Arg.plain (vi (n:Int))).num≤(8:Int))∧0=0)∧(∃ (y:Unit),Ob True∧True∧Ob ((n:Int)=(n:Int))∧Ob (ov2H0 n s c)∧Ob ((0:Int)=(0:Int))∧Ob ((0:Int)=(0:Int))∧Ob ((0:Int)=(0:Int))∧Ob ((0:Int)=(0:Int))∧True)∧∀ (x:Unit),Ob True→(false=true→(decide ((0:Int)<(n:Int))=true→Ob (((0:Int)≤(Arg.plain (vi (n:Int))).num∧(Arg.plain (vi (n:Int))).num≤(8:Int))∧((0:Int)≤(Arg.plain (vi (0:Int))).num∧(Arg.plain (vi (0:Int))).num≤(8:Int))∧0≤12)∧((ovI (Arg.plain (vi (n:Int))).num (Arg.plain (vi (0:Int))).num []==(0:Int))=true→True∧Ob (Value.tuple ⟨[vi (0:Int),vi (0:Int)]⟩=Value.tuple ⟨[vi (0:Int),vi (20:Int)]⟩))∧((ovI (Arg.plain (vi (n:Int))).num (Arg.plain (vi (0:Int))).num []==(0:Int))=false→∃ (y:Unit),Ob True∧Ob (0<0)∧True∧Ob ((n:Int)=(n:Int))∧Ob (ov2H0 n s c)∧Ob ((0:Int)=(0:Int))∧Ob ((0:Int)=(0:Int))∧Ob ((0:Int)=(0:Int))∧Ob (IntKind.i64.wrap ((0:Int)+(1:Int))=(0:Int))∧True))∧(decide ((0:Int)<(n:Int))=false→True∧Ob (Value.tuple ⟨[vi (0:Int),vi (20:Int)]⟩=Value.tuple ⟨[vi (0:Int),vi (20:Int)]⟩)))∧(false=false→True∧Ob (Value.tuple ⟨[vi (0:Int),vi (20:Int)]⟩=Value.tuple ⟨[vi (0:Int),vi (20:Int)]⟩)))
theorem ov2H_eq : ov2H = fun (n : Nat) (s : Option Nat) (c : Nat) => vc Try.prog rfN 1 38 true (ov20I n (.slice (some ⟨0,0,s⟩) 0 c) [.gone]) ov2B [] (argFr 0 [vi n,.slice (some ⟨0,0,s⟩) 0 c]) [.gone] (retK Try.prog Try.f29 (fun v _ => v = .tuple #[vi 0,vi 20])) := by kernel_rfl
noncomputable def cr2V0 (n:Nat) (l:List Int) (c:Nat) := (List.take l.length (List.drop 0 (intsOf (List.map (Value.int IntKind.i64) l))))
noncomputable def cr2V1 (n:Nat) (l:List Int) (c:Nat):Prop := (List.take l.length (List.drop 0 (List.map (Value.int IntKind.i64) l))=List.map (Value.int IntKind.i64) (cr2V0 n l c)∧0+l.length≤(List.map (Value.int IntKind.i64) l).length∧true=true)
noncomputable def cr2V :=
fun (n:Nat) (l:List Int) (c:Nat)↦Ob ((cr2V1 n l c)∧(Arg.ints IntKind.i64 (cr2V0 n l c)).list.length≤1000000)∧((errDrops (Arg.plain (vi (n:Int))).num (Arg.ints IntKind.i64 (cr2V0 n l c)).list !=(0:Int))=true→Ob ((cr2V1 n l c)∧(Arg.ints IntKind.i64 (cr2V0 n l c)).list.length≤1000000)∧True∧Ob (vi (errDrops (Arg.plain (vi (n:Int))).num (Arg.ints IntKind.i64 (cr2V0 n l c)).list)=vi (ledC n l)))∧((errDrops (Arg.plain (vi (n:Int))).num (Arg.ints IntKind.i64 (cr2V0 n l c)).list !=(0:Int))=false→Ob ((cr2V1 n l c)∧((0:Int)<(Arg.plain (vi (n:Int))).num∧(Arg.plain (vi (n:Int))).num≤(8:Int))∧0<(cr2V0 n l c).length∧(∀ (x:Int),x∈List.take l.length (List.drop 0 (intsOf (List.map (Value.int IntKind.i64) l)))→(0:Int)≤x∧x<(Arg.plain (vi (n:Int))).num)∧(cr2V0 n l c).length≤13)∧(decide ((0:Int)<(↑(cr2V0 n l c).length:Int)-(↑(fullTo (Arg.plain (vi (n:Int))).num (cr2V0 n l c) (Arg.plain (vi (n:Int))).num.toNat).length:Int))=true→True∧Ob (vi (20:Int)=vi (ledC n l)))∧(decide ((0:Int)<(↑(cr2V0 n l c).length:Int)-(↑(fullTo (Arg.plain (vi (n:Int))).num (cr2V0 n l c) (Arg.plain (vi (n:Int))).num.toNat).length:Int))=false→True∧Ob (vi (0:Int)=vi (ledC n l))))
theorem cr2V_eq : cr2V = fun (n : Nat) (l : List Int) (c : Nat) => vc Try.prog rfV 1 22 true (fun _ => none) cr2B [] (argFr 0 [vi n,.slice (some ⟨0,0,none⟩) l.length c]) [ros l] (retK Try.prog Try.f33 (fun v _ => v = vi (ledC n l))) := by kernel_rfl
noncomputable def cr2N :=
fun (n:Nat)↦Ob (0≤1000000)∧((errDrops (Arg.plain (vi (n:Int))).num [] !=(0:Int))=true→Ob (0≤1000000)∧True∧Ob (vi (errDrops (Arg.plain (vi (n:Int))).num [])=vi (0:Int)))∧((errDrops (Arg.plain (vi (n:Int))).num [] !=(0:Int))=false→Ob (((0:Int)≤(Arg.plain (vi (n:Int))).num∧(Arg.plain (vi (n:Int))).num≤(8:Int))∧0=0)∧(false=true→True∧Ob (vi (20:Int)=vi (0:Int)))∧(false=false→True∧Ob (vi (0:Int)=vi (0:Int))))
theorem cr2N_eq : cr2N = fun (n : Nat) => vc Try.prog rfN 0 22 true (fun _ => none) cr2B [] (argFr 0 [vi n,nilS]) [] (retK Try.prog Try.f33 (fun v _ => v = vi 0)) := by kernel_rfl
noncomputable def cr2H :=
fun (n:Nat) (s:Option Nat) (c:Nat)↦Ob (0≤1000000)∧((errDrops (Arg.plain (vi (n:Int))).num [] !=(0:Int))=true→Ob (0≤1000000)∧True∧Ob (vi (errDrops (Arg.plain (vi (n:Int))).num [])=vi (0:Int)))∧((errDrops (Arg.plain (vi (n:Int))).num [] !=(0:Int))=false→Ob (((0:Int)≤(Arg.plain (vi (n:Int))).num∧(Arg.plain (vi (n:Int))).num≤(8:Int))∧0=0)∧(false=true→True∧Ob (vi (20:Int)=vi (0:Int)))∧(false=false→True∧Ob (vi (0:Int)=vi (0:Int))))
theorem cr2H_eq : cr2H = fun (n : Nat) (s : Option Nat) (c : Nat) => vc Try.prog rfN 1 22 true (fun _ => none) cr2B [] (argFr 0 [vi n,.slice (some ⟨0,0,s⟩) 0 c]) [.gone] (retK Try.prog Try.f33 (fun v _ => v = vi 0)) := by kernel_rfl
theorem pr2V_ok (n p : Int) (l : List Int) (c : Nat) (hn : 0≤n∧n≤8) (hp : 0≤p∧p≤8) (hl : l.length≤12) : pr2V n p l c := by
 unfold pr2V pr2V0
 simp only [SS,reduceCtorEq,Arg.list,Arg.num,Arg.flag,intOf,andP,Nat.reduceLeDiff,Nat.reduceAdd,Nat.reduceMul,Nat.reduceLT]
 refine ⟨⟨0,by omega,?_,rfl⟩,fun x hx => ⟨fun h1 => ⟨⟨by omega,by omega⟩,by omega,fun h2 => ⟨x + 1,by omega,by omega,?_,?_⟩,fun h2 => ⟨x + 1,by omega,by omega,?_,?_⟩⟩,fun h1 => ?_⟩⟩
 · rw [List.take_zero,ovI_nil,wrap_in (by omega) (by omega)]
 · have := ovI_bd (n := n) (p := p) (l := l.take x)
   have h3 : (l.take x).length≤12 := by rw [List.length_take]; omega
   rw [ovI_succ (by omega),if_pos h2,wrap_in (by omega) (by omega)]
 · rw [wrap_in (by omega) (by omega)]; rfl
 · rw [ovI_succ (by omega),if_neg h2,Int.add_zero]
 · rw [wrap_in (by omega) (by omega)]; rfl
 · rw [List.take_of_length_le (by omega)]
theorem pr2N_ok (n p : Int) (hn : 0≤n∧n≤8) (hp : 0≤p∧p≤8) : pr2N n p := by
 have h : IntKind.i64.wrap (p - n) = p - n := wrap_in (by omega) (by omega)
 unfold pr2N
 simp only [SS,reduceCtorEq,Arg.list,Arg.num,Arg.flag,intOf,andP,Nat.reduceLeDiff,Nat.reduceAdd,Nat.reduceMul,Nat.reduceLT,ovI_nil,h]
theorem pr2H_ok (n p : Int) (s : Option Nat) (c : Nat) (hn : 0≤n∧n≤8) (hp : 0≤p∧p≤8) : pr2H n p s c := by
 have h : IntKind.i64.wrap (p - n) = p - n := wrap_in (by omega) (by omega)
 unfold pr2H
 simp only [SS,reduceCtorEq,Arg.list,Arg.num,Arg.flag,intOf,andP,Nat.reduceLeDiff,Nat.reduceAdd,Nat.reduceMul,Nat.reduceLT,ovI_nil,h]
theorem pr2G_ok : ∀ args H φ v H' l,pureG psB prS args H = some (φ,v,H',l)→Asks φ→Call Try.prog 58 args H (fun v' H2 => v' = v∧H2 = H')∧Kept H H' l :=
 pureG_ok fun r hk hs => match r,hk with
   | [_,_,_],⟨⟨n,rfl⟩,ha,⟨p,rfl⟩,_⟩ => by
     obtain ⟨h1,h2,h3⟩ := hs
     refine ⟨rfl,fun caps => ?_⟩
     rcases ha with rfl | ⟨s,rfl⟩ | ⟨l,rfl⟩
     · have h := pr2N_ok n p h1 h2
       rw [pr2N_eq] at h
       exact Call.ofVc (VOk.ofCt CtOk.none) mixed (c := pr2B) Try.func58 (by kernel_rfl) h
     · have h := pr2H_ok n p s (caps 0) h1 h2
       rw [pr2H_eq] at h
       exact Call.ofVc (VOk.ofCt CtOk.none) mixed (c := pr2B) Try.func58 (by kernel_rfl) h
     · have h := pr2V_ok n p l (caps 0) h1 h2 h3
       rw [pr2V_eq] at h
       exact Call.ofVc (VOk.ofCt CtOk.none) mixed (c := pr2B) Try.func58 (by kernel_rfl) h
theorem rfC_ok : CtOk Try.prog rfC := (CtOk.none.add rcdG_ok).add pr2G_ok
theorem rfV_ok : VOk Try.prog rfV := VOk.ofCt (rfC_ok.add fullRG_ok)
theorem rfN_ok : VOk Try.prog rfN := VOk.ofCt (rfC_ok.add full0G_ok)
theorem coF2_ok {n p : Int} {l : List Int} : (¬errD n l = 0→#[vi 0,vi (errD n l)] = coA n p l)∧(errD n l = 0→(¬ p < 0→(n≤p→#[vi 0,vi 2] = coA n p l) ∧
   (¬ n≤p→((0≤n∧n≤8)∧(0≤p∧p≤8)∧l.length≤12)∧#[vi (ovI n p l),vi 0] = coA n p l))∧(p < 0→#[vi 0,vi 2] = coA n p l)) := by
 unfold coA
 refine ⟨fun h => by rw [if_neg fun k => h k.1,if_neg h],fun h => ?_⟩
 have hb : 1≤n∧n≤8∧l.length≤12 := by
   unfold errD at h
   split at h
   · cases h
   · omega
 refine ⟨fun h1 => ⟨fun h2 => ?_,fun h2 => ⟨by omega,?_⟩⟩,fun h1 => ?_⟩
 · rw [if_neg fun k => absurd k.2 (by omega),if_pos h,if_neg (by omega)]
 · rw [if_pos ⟨h,by omega⟩,if_pos h,if_pos (by omega)]
 · rw [if_neg fun k => absurd k.2 (by omega),if_pos h,if_neg (by omega)]
theorem co2V_ok (n p : Int) (l : List Int) (c : Nat) (hl : l.length≤1000000) : co2V n p l c := by
 unfold co2V co2V2 co2V1 co2V0
 simp only [SS,reduceCtorEq,Arg.list,Arg.num,Arg.flag,intOf,andP,Nat.reduceLeDiff,Nat.reduceAdd,Nat.reduceMul,Nat.reduceLT,hl,← errD_eq]
 exact coF2_ok
theorem co2N_ok (n p : Int) : co2N n p := by
 have := coF2_ok (n := n) (p := p) (l := [])
 unfold co2N co2N0
 simp only [SS,reduceCtorEq,Arg.list,Arg.num,Arg.flag,intOf,andP,Nat.reduceLeDiff,Nat.reduceAdd,Nat.reduceMul,Nat.reduceLT,← errD_eq]
 exact ⟨this.1,fun h => ⟨fun h1 => ⟨((this.2 h).1 h1).1,fun h2 => ⟨⟨(((this.2 h).1 h1).2 h2).1.1,(((this.2 h).1 h1).2 h2).1.2.1⟩,(((this.2 h).1 h1).2 h2).2⟩⟩,(this.2 h).2⟩⟩
theorem co2H_ok (n p : Int) (s : Option Nat) (c : Nat) : co2H n p s c := by
 have := coF2_ok (n := n) (p := p) (l := [])
 unfold co2H co2H0
 simp only [SS,reduceCtorEq,Arg.list,Arg.num,Arg.flag,intOf,andP,Nat.reduceLeDiff,Nat.reduceAdd,Nat.reduceMul,Nat.reduceLT,← errD_eq]
 exact ⟨this.1,fun h => ⟨fun h1 => ⟨((this.2 h).1 h1).1,fun h2 => ⟨⟨(((this.2 h).1 h1).2 h2).1.1,(((this.2 h).1 h1).2 h2).1.2.1⟩,(((this.2 h).1 h1).2 h2).2⟩⟩,(this.2 h).2⟩⟩
theorem co2G_ok : ∀ args H φ v H' l,pureG psB coS args H = some (φ,v,H',l)→Asks φ→Call Try.prog 27 args H (fun v' H2 => v' = v∧H2 = H')∧Kept H H' l :=
 pureG_ok fun r hk hs => match r,hk with
   | [_,_,_],⟨⟨n,rfl⟩,ha,⟨p,rfl⟩,_⟩ => by
     refine ⟨sc_coF,fun caps => ?_⟩
     rcases ha with rfl | ⟨s,rfl⟩ | ⟨l,rfl⟩
     · have h := co2N_ok n p
       rw [co2N_eq] at h
       exact Call.ofVc (VOk.ofCt rfC_ok) mixed (c := co2B) Try.func27 (by kernel_rfl) h
     · have h := co2H_ok n p s (caps 0)
       rw [co2H_eq] at h
       exact Call.ofVc (VOk.ofCt rfC_ok) mixed (c := co2B) Try.func27 (by kernel_rfl) h
     · have h := co2V_ok n p l (caps 0) hs
       rw [co2V_eq] at h
       exact Call.ofVc (VOk.ofCt rfC_ok) mixed (c := co2B) Try.func27 (by kernel_rfl) h
theorem n_pos {n : Nat} {l : List Int} (he : errD n l = 0) : 1≤n := by
 unfold errD at he
 split at he
 · cases he
 · omega
theorem cr2V_ok (n : Nat) (l : List Int) (c : Nat) (he : errD n l = 0) (h0 : 0 < l.length) : cr2V n l c := by
 have hr : errDrops n l = 0 := by rw [← errD_eq]; exact he
 have h1 := n_pos he
 obtain ⟨hn,hb,hl⟩ := pre_ok he
 have hf := fell_is hb
 have nn : 0≤(runA n l).fell := fell_nn hb
 have fl := fullTo_len n l n
 unfold cr2V cr2V1 cr2V0
 simp only [SS,reduceCtorEq,Arg.list,Arg.num,Arg.flag,intOf,andP,Nat.reduceLeDiff,Nat.reduceAdd,Nat.reduceMul,Nat.reduceLT,hr,← hf,ledC]
 refine ⟨by omega,⟨⟨by omega,by omega⟩,h0,hb,by omega⟩,fun h => ?_,fun h => ?_⟩
 · rw [if_neg (by omega)]
 · rw [if_pos (by omega)]
theorem cr2N_ok (n : Nat) (he : errD n [] = 0) : cr2N n := by
 have hr : errDrops n [] = 0 := by rw [← errD_eq]; exact he
 obtain ⟨hn,_,_⟩ := pre_ok he
 unfold cr2N
 simp only [SS,reduceCtorEq,Arg.list,Arg.num,Arg.flag,intOf,andP,Nat.reduceLeDiff,Nat.reduceAdd,Nat.reduceMul,Nat.reduceLT,hr]
 omega
theorem cr2H_ok (n : Nat) (s : Option Nat) (c : Nat) (he : errD n [] = 0) : cr2H n s c := by
 have hr : errDrops n [] = 0 := by rw [← errD_eq]; exact he
 obtain ⟨hn,_,_⟩ := pre_ok he
 unfold cr2H
 simp only [SS,reduceCtorEq,Arg.list,Arg.num,Arg.flag,intOf,andP,Nat.reduceLeDiff,Nat.reduceAdd,Nat.reduceMul,Nat.reduceLT,hr]
 omega
theorem ov2N_ok (n : Nat) (he : errD n [] = 0) : ov2N n := by
 have hr : errDrops n [] = 0 := by rw [← errD_eq]; exact he
 obtain ⟨hn,_,_⟩ := pre_ok he
 unfold ov2N ov2N0
 simp only [SS,reduceCtorEq,Arg.list,Arg.num,Arg.flag,intOf,andP,Nat.reduceLeDiff,Nat.reduceAdd,Nat.reduceMul,Nat.reduceLT,hr]
 omega
theorem ov2H_ok (n : Nat) (s : Option Nat) (c : Nat) (he : errD n [] = 0) : ov2H n s c := by
 have hr : errDrops n [] = 0 := by rw [← errD_eq]; exact he
 obtain ⟨hn,_,_⟩ := pre_ok he
 unfold ov2H ov2H0
 simp only [SS,reduceCtorEq,Arg.list,Arg.num,Arg.flag,intOf,andP,Nat.reduceLeDiff,Nat.reduceAdd,Nat.reduceMul,Nat.reduceLT,hr]
 omega
theorem ov_first {n : Nat} {l : List Int} (hb : ∀ x ∈ l,0≤x∧x < (n : Int)) {x : Nat} (hx : x < n) (hj : ∀ j : Nat,j < x→¬ovI n j l = (runA n l).fell) (he : ovI n x l = (runA n l).fell) : bestTo (fun p => ovI n p l) (n - 1) = x := by
 have hle := bestTo_le (w := fun p : Nat => ovI n p l) (i := n - 1)
 have hm := bestTo_max (w := fun p : Nat => ovI n p l) (i := n - 1) (j := x) (by omega)
 have hm' : ovI n x l≤ovI n (bestTo (fun p : Nat => ovI n p l) (n - 1) : Nat) l := hm
 have ho : ovI n (bestTo (fun p : Nat => ovI n p l) (n - 1) : Nat) l≤(runA n l).fell := over_le hb (show bestTo (fun p : Nat => ovI n p l) (n - 1)≤n by omega)
 have hf := bestTo_first (w := fun p : Nat => ovI n p l) (i := n - 1) (j := x)
 generalize bestTo (fun p : Nat => ovI n p l) (n - 1) = b at *
 rcases Nat.lt_trichotomy b x with h | h | h
 · exact absurd (show ovI n b l = (runA n l).fell by omega) (hj b h)
 · exact h
 · have : ovI n x l < ovI n b l := hf h
   omega
theorem ov_none {n : Nat} {l : List Int} (hb : ∀ x ∈ l,0≤x∧x < (n : Int)) (hj : ∀ j : Nat,j < n→¬ovI n j l = (runA n l).fell) : (runA n l).fell = 0 := by
 obtain ⟨p,hp,e⟩ := over_is hb
 have e' : ovI n p l = (runA n l).fell := e
 by_cases h : p < n
 · exact absurd e' (hj p h)
 · obtain rfl : p = n := by omega
   rw [← e']
   unfold ovI
   rw [List.filter_eq_nil_iff.2 fun x hx => by have := hb x hx; simp; omega]
   simp
theorem ov2V_ok (n : Nat) (l : List Int) (c : Nat) (he : errD n l = 0) (h0 : 0 < l.length) : ov2V n l c (runA n l).fell := by
 have hr : errDrops n l = 0 := by rw [← errD_eq]; exact he
 have h1 := n_pos he
 obtain ⟨hn,hb,hl⟩ := pre_ok he
 have hf := fell_is hb
 have nn : 0≤(runA n l).fell := fell_nn hb
 have fl := fullTo_len n l n
 unfold ov2V ov2V1 ov2V0
 simp only [SS,reduceCtorEq,Arg.list,Arg.num,Arg.flag,intOf,andP,Nat.reduceLeDiff,Nat.reduceAdd,Nat.reduceMul,Nat.reduceLT,hr,← hf]
 have e20 : (runA n l).fell = 0→#[vi 0,vi 20] = #[vi (if (runA n l).fell = 0 then 0 else (bestTo (fun p => ovI n p l) (n - 1) : Int)),vi (if (runA n l).fell = 0 then 20 else 0)] := fun h => by rw [if_pos h,if_pos h]
 refine ⟨by omega,⟨⟨by omega,by omega⟩,h0,hb,by omega⟩,⟨0,⟨by omega,fun j hj => by omega⟩,rfl⟩,fun x hx => ⟨fun h => ⟨fun h2 => ⟨⟨⟨by omega,by omega⟩,⟨by omega,by omega⟩,hl⟩,fun h3 => ?_,fun h3 => ⟨x + 1,⟨by omega,fun j hj => ?_⟩,by omega,?_⟩⟩,fun h2 => ?_⟩,fun h => e20 (by omega)⟩⟩
 · rw [if_neg (by omega),if_neg (by omega),ov_first hb (by omega) hx.2 h3]
 · rcases Nat.lt_succ_iff_lt_or_eq.1 hj with h4 | rfl
   · exact hx.2 j h4
   · exact h3
 · rw [wrap_in (by omega) (by omega)]; rfl
 · obtain rfl : x = n := by omega
   exact e20 (ov_none hb hx.2)
theorem ov2G_ok : ∀ args H φ v H' l,pureG psA ovrS args H = some (φ,v,H',l)→Asks φ→Call Try.prog 29 args H (fun v' H2 => v' = v∧H2 = H')∧Kept H H' l :=
 pureG_ok fun r hk hs => match r,hk with
   | [_,_],⟨⟨p,rfl⟩,ha,_⟩ => by
     rcases ha with rfl | ⟨s,rfl⟩ | ⟨l,rfl⟩
     · obtain ⟨n,rfl⟩ : ∃ n : Nat,p = n := errD_pos hs
       have h := ov2N_ok n hs
       rw [ov2N_eq] at h
       exact ⟨by simp [ovrS,sc,sc2,sc1,sc0],fun caps => Call.ofVc rfN_ok mixed (c := ov2B) Try.func29 (by kernel_rfl) h⟩
     · obtain ⟨n,rfl⟩ : ∃ n : Nat,p = n := errD_pos hs
       refine ⟨by simp [ovrS,sc,sc2,sc1,sc0],fun caps => ?_⟩
       have h := ov2H_ok n s (caps 0) hs
       rw [ov2H_eq] at h
       exact Call.ofVc rfN_ok mixed (c := ov2B) Try.func29 (by kernel_rfl) h
     · obtain ⟨n,rfl⟩ : ∃ n : Nat,p = n := errD_pos hs.1
       refine ⟨by simp [ovrS,ovF,sc,sc2,sc1,sc0],fun caps => ?_⟩
       have h := ov2V_ok n l (caps 0) hs.1 hs.2
       rw [ov2V_eq] at h
       exact Call.ofVc rfV_ok mixed (c := ov2B) Try.func29 (by kernel_rfl) h
theorem cr2G_ok : ∀ args H φ v H' l,pureG psA arowS args H = some (φ,v,H',l)→Asks φ→Call Try.prog 33 args H (fun v' H2 => v' = v∧H2 = H')∧Kept H H' l :=
 pureG_ok fun r hk hs => match r,hk with
   | [_,_],⟨⟨p,rfl⟩,ha,_⟩ => by
     refine ⟨by rcases ha with rfl | ⟨s,rfl⟩ | ⟨l,rfl⟩ <;> simp [arowS,sc,sc2,sc1,sc0],fun caps => ?_⟩
     rcases ha with rfl | ⟨s,rfl⟩ | ⟨l,rfl⟩
     · obtain ⟨n,rfl⟩ : ∃ n : Nat,p = n := errD_pos hs
       have h := cr2N_ok n hs
       rw [cr2N_eq] at h
       exact Call.ofVc rfN_ok mixed (c := cr2B) Try.func33 (by kernel_rfl) h
     · obtain ⟨n,rfl⟩ : ∃ n : Nat,p = n := errD_pos hs
       have h := cr2H_ok n s (caps 0) hs
       rw [cr2H_eq] at h
       exact Call.ofVc rfN_ok mixed (c := cr2B) Try.func33 (by kernel_rfl) h
     · obtain ⟨n,rfl⟩ : ∃ n : Nat,p = n := errD_pos hs.1
       have h := cr2V_ok n l (caps 0) hs.1 hs.2
       rw [cr2V_eq] at h
       exact Call.ofVc rfV_ok mixed (c := cr2B) Try.func33 (by kernel_rfl) h
end Go.Pier.Lg
set_option maxRecDepth 100000
set_option linter.unusedVariables false
set_option linter.unusedSimpArgs false
namespace Go.Pier.Lg
open Go Go.Pier Go.Proofs
end Go.Pier.Lg
set_option maxRecDepth 100000
set_option linter.unusedVariables false
set_option linter.unusedSimpArgs false
namespace Go.Pier.Lg
open Go Go.Pier Go.Proofs
noncomputable def hoB : Code := Try.f64.body.getD .skip
noncomputable def hoE1 : VEnv := { ct := Ct.none.add 74 (dropG false) }
noncomputable def hoE : VEnv := { ct := Ct.none.add 74 (dropG false),cc := ccIn Try.prog hoE1 [⟨78,Try.f78,fun _ _ _ => none⟩] }
noncomputable def hoN0 (n:Nat) (tk:Nat→Bool) (s f:Int) (l:List Int) (c:Nat) := (runP false (fN (vi (n:Int)::T8 emp [Value.slice none 0 0,vi (0:Int),vi (0:Int)])).toNat (fT (vi (n:Int)::T8 emp [Value.slice none 0 0,vi (0:Int),vi (0:Int)])) (List.take l.length (List.drop 0 (intsOf (List.map (Value.int IntKind.i64) l)))))
noncomputable def hoN1 (n:Nat) (tk:Nat→Bool) (s f:Int) (l:List Int) (c:Nat) := (List.take l.length (List.drop 0 (intsOf (List.map (Value.int IntKind.i64) l))))
noncomputable def hoN :=
fun (n:Nat) (tk:Nat→Bool) (s f:Int) (l:List Int) (c:Nat)↦Ob (10≤12)∧Ob (11≤12)∧Ob (12≤12)∧Ob ((List.take l.length (List.drop 0 (List.map (Value.int IntKind.i64) l))=List.map (Value.int IntKind.i64) (hoN1 n tk s f l c)∧0+l.length≤(List.map (Value.int IntKind.i64) l).length∧true=true)∧dropPre false (vi (n:Int)::T8 emp [Value.slice none 0 0,vi (0:Int),vi (0:Int)]) (Value.func (Fn.func 77) ⟨[Value.agg { toList := (lgC (n:Int) emp) }]⟩ ⟨[]⟩) (hoN1 n tk s f l c)∧0<(hoN1 n tk s f l c).length∧some 1≠some 0)∧Ob (some (vi (hoN0 n tk s f l c).fell)=some (vi (hoN0 n tk s f l c).fell))∧(Ob (AObj.rw (vi (fN (vi (n:Int)::T8 emp [Value.slice none 0 0,vi (0:Int),vi (0:Int)]))::T8 ((hoN0 n tk s f l c).tk) [Value.slice (some ⟨2,0,some 0⟩) (hoN1 n tk s f l c).length 0,vi (hoN0 n tk s f l c).slid,vi (hoN0 n tk s f l c).fell]) none=AObj.rw (vi (n:Int)::T8 ((runA n l).tk) [Value.slice (some ⟨2,0,some 0⟩) l.length 0,vi (runA n l).slid,vi (runA n l).fell]) none∧true=true)∧Ob (AObj.ro (List.map (Value.int IntKind.i64) l)=AObj.ro (List.map (nmap1 fun (b:Nat)↦b) (List.map (Value.int IntKind.i64) l))∧AObj.sc 3 (AObj.ro (List.map (Value.int IntKind.i64) l))=true)∧Ob (AObj.rw (List.map (Value.int IntKind.i64) (hoN0 n tk s f l c).lies) (some 1)=AObj.rw (List.map (nmap1 fun (b:Nat)↦b) (List.map (Value.int IntKind.i64) (runA n l).lies)) (some 1)∧AObj.sc 3 (AObj.rw (List.map (Value.int IntKind.i64) (runA n l).lies) (some 1))=true)∧True)∧Ob (((hoN0 n tk s f l c).fell==(0:Int))=decide ((runA n l).fell=(0:Int)))∧True
theorem hoN_eq : hoN = fun (n : Nat) (tk : Nat→Bool) (s f : Int) (l : List Int) (c : Nat) => vc Try.prog hoE 2 20 true (fun _ => none) hoB [] (argFr 0 [ptr0 0,.slice (some ⟨1,0,none⟩) l.length c]) [pu n tk nilS s f,ros l] (retR Try.prog Try.f64 2 (fun b => b) (.bool (decide ((runA n l).fell = 0))) [pu n (runA n l).tk (newS 2 l.length) (runA n l).slid (runA n l).fell,ros l,rws (runA n l).lies]) := by kernel_rfl
noncomputable def hoG0 (n:Nat) (tk:Nat→Bool) (m:Nat) (s f:Int) (la l:List Int) (c:Nat) := (runP false (fN (vi (n:Int)::T8 emp [Value.slice none 0 0,vi (0:Int),vi (0:Int)])).toNat (fT (vi (n:Int)::T8 emp [Value.slice none 0 0,vi (0:Int),vi (0:Int)])) (List.take l.length (List.drop 0 (intsOf (List.map (Value.int IntKind.i64) l)))))
noncomputable def hoG :=
fun (n:Nat) (tk:Nat→Bool) (m:Nat) (s f:Int) (la l:List Int) (c:Nat)↦Ob (10≤12)∧Ob (11≤12)∧Ob (12≤12)∧Ob ((List.take l.length (List.drop 0 (List.map (Value.int IntKind.i64) l))=List.map (Value.int IntKind.i64) (List.take l.length (List.drop 0 (intsOf (List.map (Value.int IntKind.i64) l))))∧0+l.length≤(List.map (Value.int IntKind.i64) l).length∧true=true)∧dropPre false (vi (n:Int)::T8 emp [Value.slice none 0 0,vi (0:Int),vi (0:Int)]) (Value.func (Fn.func 77) ⟨[Value.agg { toList := (lgC (n:Int) emp) }]⟩ ⟨[]⟩) (List.take l.length (List.drop 0 (intsOf (List.map (Value.int IntKind.i64) l))))∧0<(List.take l.length (List.drop 0 (intsOf (List.map (Value.int IntKind.i64) l)))).length∧some 2≠some 0)∧Ob (some (vi (hoG0 n tk m s f la l c).fell)=some (vi (hoG0 n tk m s f la l c).fell))∧(Ob (AObj.rw (vi (fN (vi (n:Int)::T8 emp [Value.slice none 0 0,vi (0:Int),vi (0:Int)]))::T8 ((hoG0 n tk m s f la l c).tk) [Value.slice (some ⟨3,0,some 0⟩) (List.take l.length (List.drop 0 (intsOf (List.map (Value.int IntKind.i64) l)))).length 0,vi (hoG0 n tk m s f la l c).slid,vi (hoG0 n tk m s f la l c).fell]) none=AObj.rw (vi (n:Int)::T8 ((runA n l).tk) [Value.slice (some ⟨3,0,some 0⟩) l.length 0,vi (runA n l).slid,vi (runA n l).fell]) none∧true=true)∧Ob (AObj.rw (List.map (Value.int IntKind.i64) la) (some 1)=AObj.rw (List.map (nmap1 fun (b:Nat)↦b) (List.map (Value.int IntKind.i64) la)) (some 1)∧AObj.sc 4 (AObj.rw (List.map (Value.int IntKind.i64) la) (some 1))=true)∧Ob (AObj.ro (List.map (Value.int IntKind.i64) l)=AObj.ro (List.map (nmap1 fun (b:Nat)↦b) (List.map (Value.int IntKind.i64) l))∧AObj.sc 4 (AObj.ro (List.map (Value.int IntKind.i64) l))=true)∧Ob (AObj.rw (List.map (Value.int IntKind.i64) (hoG0 n tk m s f la l c).lies) (some 1)=AObj.rw (List.map (nmap1 fun (b:Nat)↦b) (List.map (Value.int IntKind.i64) (runA n l).lies)) (some 1)∧AObj.sc 4 (AObj.rw (List.map (Value.int IntKind.i64) (runA n l).lies) (some 1))=true)∧True)∧Ob (((hoG0 n tk m s f la l c).fell==(0:Int))=decide ((runA n l).fell=(0:Int)))∧True
theorem hoG_eq : hoG = fun (n : Nat) (tk : Nat→Bool) (m : Nat) (s f : Int) (la l : List Int) (c : Nat) => vc Try.prog hoE 3 20 true (fun _ => none) hoB [] (argFr 0 [ptr0 0,.slice (some ⟨2,0,none⟩) l.length c]) [pu n tk (newS 1 m) s f,rws la,ros l] (retR Try.prog Try.f64 3 (fun b => b) (.bool (decide ((runA n l).fell = 0))) [pu n (runA n l).tk (newS 3 l.length) (runA n l).slid (runA n l).fell,rws la,ros l,rws (runA n l).lies]) := by kernel_rfl
def holdsG : List Value→Heap→Option (Option Prop × Value × Heap × List Nat) := fun args H => match args with
 | [.pointer (some ⟨b,0,none⟩),sv] => match H[b]? with
   | some (.rw cs none) => match toArg H (.ints .i64) sv with
     | some (φ,.ints _ l) => match fL cs with
       | .slice none 0 0 => some (andO φ (some (cs = puC (fN cs) (fT cs) nilS (fS cs) (fF cs) ∧ errD (fN cs) l = 0 ∧ 0 < l.length ∧ sliceBlock sv ≠ some b)), .bool (decide ((runA (fN cs).toNat l).fell = 0)),
           H.set b (pu (fN cs) (runA (fN cs).toNat l).tk (newS H.length l.length) (runA (fN cs).toNat l).slid (runA (fN cs).toNat l).fell) ++ [rws (runA (fN cs).toNat l).lies],[b])
       | .slice (some ⟨b2,0,some 0⟩) m 0 => match H[b2]? with
         | some (.rw c2 (some 1)) => some (andO φ (some (cs = puC (fN cs) (fT cs) (newS b2 m) (fS cs) (fF cs)∧c2 = (intsOf c2).map (.int .i64)∧errD (fN cs) l = 0∧0 < l.length∧sliceBlock sv ≠ some b∧sliceBlock sv ≠ some b2∧b ≠ b2)),.bool (decide ((runA (fN cs).toNat l).fell = 0)),
           H.set b (pu (fN cs) (runA (fN cs).toNat l).tk (newS H.length l.length) (runA (fN cs).toNat l).slid (runA (fN cs).toNat l).fell) ++ [rws (runA (fN cs).toNat l).lies],[b,b2])
         | _ => none
       | _ => none
     | _ => none
   | _ => none
 | _ => none
theorem hoN_ok (n : Nat) (tk : Nat→Bool) (s f : Int) (l : List Int) (c : Nat) (h : errD n l = 0) (h0 : 0 < l.length) : hoN n tk s f l c := by
 unfold hoN hoN1 hoN0
 simp only [SS,reduceCtorEq,Arg.list,Arg.num,Arg.flag,intOf,andP,Nat.reduceLeDiff,Nat.reduceAdd,Nat.reduceMul,Nat.reduceLT,h,fN_T8,fT_emp,T8_fT,fF_T8,fS_T8]
 exact ⟨⟨pre_mk h,h0⟩,⟨rfl,rfl⟩,rfl⟩
theorem hoG_ok (n : Nat) (tk : Nat→Bool) (m : Nat) (s f : Int) (la l : List Int) (c : Nat) (h : errD n l = 0) (h0 : 0 < l.length) : hoG n tk m s f la l c := by
 unfold hoG hoG0
 simp only [SS,reduceCtorEq,Arg.list,Arg.num,Arg.flag,intOf,andP,Nat.reduceLeDiff,Nat.reduceAdd,Nat.reduceMul,Nat.reduceLT,h,fN_T8,fT_emp,T8_fT,fF_T8,fS_T8]
 exact ⟨⟨pre_mk h,h0⟩,⟨rfl,rfl⟩,rfl⟩
theorem hoE1_ok : VOk Try.prog hoE1 := VOk.ofCt (CtOk.none.add dropA_ok)
theorem hoE_ok : VOk Try.prog hoE := ⟨CtOk.none.add dropA_ok,ccIn_ok hoE1_ok mixed (inl_one Try.func78),E0_ok.yc,E0_ok.orc⟩
theorem toArg_ints {H : Heap} {sv : Value} {φ : Option Prop} {k : IntKind} {l : List Int} (ht : toArg H (.ints .i64) sv = some (φ,.ints k l)) (hψ : Asks φ) : ∃ a m c,sv = .slice (some a) m c∧(∃ φ,sliceInts .i64 H (.slice (some a) m c) = some (φ,l)∧φ)∧k = .i64 := by
 unfold toArg at ht
 split at ht <;> try (cases ht; done)
 · rename_i h0; cases h0
 · rename_i k' a m c h0
   cases h0
   split at ht
   · rename_i φ' l' hs; cases ht; exact ⟨a,m,c,rfl,⟨_,hs,hψ⟩,rfl⟩
   · split at ht <;> cases ht
theorem holdsG_ok : ∀ args H φ v H' l,holdsG args H = some (φ,v,H',l)→Asks φ→Call Try.prog 64 args H (fun v' H2 => v' = v∧H2 = H')∧Kept H H' l := by
 intro args H φ v H' l h hφ
 unfold holdsG at h
 split at h <;> try (cases h; done)
 rename_i b sv
 split at h <;> try (cases h; done)
 rename_i cs hb
 have hlt := (List.getElem?_eq_some_iff.1 hb).1
 split at h <;> try (cases h; done)
 rename_i ψ k li ht
 split at h <;> try (cases h; done)
 · cases h
   obtain ⟨hψ,h1,h2,h3,h4⟩ := andO_iff.1 hφ
   obtain ⟨n,hn⟩ := errD_pos h2
   generalize fT cs = tk at *
   generalize fS cs = s at *
   generalize fF cs = f at *
   rw [hn] at h1 h2 ⊢
   simp only [Int.toNat_natCast]
   subst h1
   obtain ⟨a,m,c,rfl,hi,rfl⟩ := toArg_ints ht hψ
   have hc := fun caps : Nat→Nat => Call.ofVcR hoE_ok mixed (c := hoB) (args := [ptr0 0,.slice (some ⟨1,0,none⟩) li.length (caps 1)]) Try.func64 (by kernel_rfl) (cast (congrFun (congrFun (congrFun (congrFun (congrFun (congrFun hoN_eq n) tk) s) f) li) (caps 1)) (hoN_ok n tk s f li (caps 1) h2 h3))
   have := Call.frameL (P := Try.prog) (f := 64) (H := H) (Et := [pu n tk nilS s f]) (Ft := [pu n (runA n li).tk (newS 2 li.length) (runA n li).slid (runA n li).fell]) (N := [rws (runA n li).lies]) (L := [b])
     (ags := [.val (ptr0 0),.ints .i64 li]) (vs := [ptr0 b,.slice (some a) m c]) (v := .bool (decide ((runA n li).fell = 0))) rfl rfl (by simp) (mem_one hlt)
     (forall_one (by rw [omap_puN]; exact hb)) (mem_one ⟨rfl,sc_puN⟩) ⟨rfl,rfl,hi,(fun b' hb' hm => h4 (by rw [hb',List.mem_singleton.1 hm])),trivial⟩ hc
     (mem_two (nm_pu rfl) nm_ints) (mem_one rfl) (by simp [nm,nm2,nm1,nm0]) (mem_two (by rw [omap_pu]; exact sc_pu (by simp [nameL,canonH2])) (by rw [omap_rws]; exact sc_ints)) (by simp [nmap,nmap2,nmap1,nmap0,sc,sc2,sc1,sc0])
   simp only [List.map_cons,List.map_nil,omap_pu,omap_rws] at this
   exact this
 · rename_i b2 m2 hlv
   split at h <;> try (cases h; done)
   rename_i c2 hb2
   cases h
   have hlt2 := (List.getElem?_eq_some_iff.1 hb2).1
   obtain ⟨hψ,h1,h1b,h2,h3,h4,h5,h6⟩ := andO_iff.1 hφ
   obtain ⟨n,hn⟩ := errD_pos h2
   generalize fT cs = tk at *
   generalize fS cs = s at *
   generalize fF cs = f at *
   generalize intsOf c2 = la at *
   rw [hn] at h1 h2 ⊢
   simp only [Int.toNat_natCast]
   subst h1; subst h1b
   obtain ⟨a,m,c,rfl,hi,rfl⟩ := toArg_ints ht hψ
   have hc := fun caps : Nat→Nat => Call.ofVcR hoE_ok mixed (c := hoB) (args := [ptr0 0,.slice (some ⟨2,0,none⟩) li.length (caps 2)]) Try.func64 (by kernel_rfl) (cast (congrFun (congrFun (congrFun (congrFun (congrFun (congrFun (congrFun (congrFun hoG_eq n) tk) m2) s) f) la) li) (caps 2)) (hoG_ok n tk m2 s f la li (caps 2) h2 h3))
   have hr : ReadA2 H (fun c => [b, b2].getD c 0) [b, b2] 2 [.val (ptr0 0), .ints .i64 li] [ptr0 b, .slice (some a) m c] := ⟨by simp [nmap, nmap2, nmap1, nmap0, am], by simp [sc, sc2, sc1, sc0], hi, (fun b' hb' hm => by
       rcases List.mem_cons.1 hm with e | hm
       · exact h4 (by rw [hb',e])
       · exact h5 (by rw [hb',List.mem_singleton.1 hm])),trivial⟩
   have ho : ∀ (c : Nat) (o : AObj),([pu n tk (newS 1 m2) s f,rws la] : Heap)[c]? = some o→H[[b,b2].getD c 0]? = some (omap (fun c => [b,b2].getD c 0) o) := forall_two (by rw [omap_pu]; exact hb) (by rw [omap_rws]; exact hb2)
   have hs : ∀ o ∈ ([pu n tk (newS 1 m2) s f,rws la] : Heap),o.wr = true∧o.sc 2 = true := mem_two ⟨rfl,sc_pu (by decide)⟩ ⟨rfl,sc_ints⟩
   have hnm : ∀ o ∈ [pu n (runA n li).tk (newS 3 li.length) (runA n li).slid (runA n li).fell,rws la] ++ [rws (runA n li).lies],o.nm (fun d => decide (d < 2) || decide (3≤d)) = true := mem_three (nm_pu rfl) nm_ints nm_ints
   have hsn : ∀ o ∈ [pu n (runA n li).tk (newS 3 li.length) (runA n li).slid (runA n li).fell,rws la] ++ [rws (runA n li).lies],(omap (nameL [b,b2] 3 H.length) o).sc (H.length + 1) = true :=
     mem_three (by rw [omap_pu]; exact sc_pu (by simp [nameL])) (by rw [omap_rws]; exact sc_ints) (by rw [omap_rws]; exact sc_ints)
   have := Call.frameL (P := Try.prog) (f := 64) (H := H) (Et := [pu n tk (newS 1 m2) s f,rws la]) (Ft := [pu n (runA n li).tk (newS 3 li.length) (runA n li).slid (runA n li).fell,rws la]) (N := [rws (runA n li).lies]) (L := [b,b2])
     (ags := [.val (ptr0 0),.ints .i64 li]) (vs := [ptr0 b,.slice (some a) m c]) (v := .bool (decide ((runA n li).fell = 0))) rfl rfl (by simp [h6]) (mem_two hlt hlt2)
     ho hs hr hc hnm (mem_one rfl) (by simp [nm,nm2,nm1,nm0]) hsn (by simp [nmap,nmap2,nmap1,nmap0,sc,sc2,sc1,sc0])
   simp only [List.map_cons,List.map_nil,omap_pu,omap_rws] at this
   have e : setL H [b,b2] [pu n (runA n li).tk (newS (nameL [b,b2] ([pu n tk (newS 1 m2) s f,rws la] ++ canonH2 [.val (ptr0 0),.ints .i64 li]).length H.length 3) li.length) (runA n li).slid (runA n li).fell,rws la] = H.set b (pu n (runA n li).tk (newS H.length li.length) (runA n li).slid (runA n li).fell) := by
     show (H.set b _).set b2 (rws la) = _
     apply List.ext_getElem?
     intro j
     by_cases e1 : b2 = j
     · subst e1
       rw [List.getElem?_set_self (by rw [List.length_set]; exact hlt2),List.getElem?_set_ne h6,hb2]; rfl
     · rw [List.getElem?_set_ne e1]; rfl
   rw [e] at this
   exact this
end Go.Pier.Lg
set_option maxRecDepth 100000
set_option linter.unusedVariables false
set_option linter.unusedSimpArgs false
namespace Go.Pier.Lg
open Go Go.Pier Go.Proofs
noncomputable def maB : Code := Try.f30.body.getD .skip
def mayG (n : Nat) (l : List Int) : Nat→Bool := fun i => decide ((runA n (l ++ [(i : Int)])).fell = 0)
noncomputable def maE2 : VEnv := { ct := Ct.none.add 64 holdsG }
noncomputable def maE3 : VEnv := { cc := ccIn Try.prog maE2 [⟨63,Try.f63,fun _ _ _ => none⟩],orc := orcW }
def maIv (n : Nat) (l : List Int) (k : Nat) : List Value→Heap→Nat→Option LInv := fun args H => match args with
 | [_, gv] => invOf 0 (.mk [
     ⟨Unit,fun _ => True,fun _ => [(1,gv),(6,.slice (some ⟨k + 4,0,none⟩) 0 n),(13,vi n),(14,vi 0)],fun _ => H ++ [.rw (lgC n emp) none,.rw ((whC emp 0).map (.int .i64)) none],fun _ => 20,fun _ _ => none⟩,
     ⟨Nat,fun i => 0 < i∧i≤n,fun i => [(1,gv),(6,.slice (some ⟨k + 4,0,none⟩) (whL (mayG n l) i).length n),(13,vi n),(14,vi i)],
       fun i => H.set (k + 1) (pu n (runA n (l ++ [((i - 1 : Nat) : Int)])).tk (newS (k + 5) (l.length + 1)) (runA n (l ++ [((i - 1 : Nat) : Int)])).slid (runA n (l ++ [((i - 1 : Nat) : Int)])).fell) ++ [.rw (lgC n emp) none,.rw ((whC (mayG n l) i).map (.int .i64)) none,rws (runA n (l ++ [((i - 1 : Nat) : Int)])).lies],fun i => n - i,fun _ _ => none⟩]
   (fun _ b => b) (fun i _ => [nsub (k + 5) (k + 7 + i)]))
 | _ => fun _ => none
noncomputable def maE (n : Nat) (l : List Int) (k : Nat) : VEnv := { ct := Ct.none.add 32 (pureG psA arowS),cc := ccOr (ccIn Try.prog {} [⟨62,Try.f62,fun _ _ _ => none⟩]) (ccIn Try.prog maE3 [⟨51,Try.f51,maIv n l k⟩]) }
noncomputable def maEX : VEnv := { ct := Ct.none.add 32 (pureG psA arowS) }
noncomputable def maV0 (n:Nat) (l:List Int) (c:Nat) (xq:Nat) := (runA (fN (vi (n:Int)::T8 ((runA n (l++[(↑(xq-1):Int)])).tk) [Value.slice (some ⟨6,0,some 0⟩) (l.length+1) 0,vi (runA n (l++[(↑(xq-1):Int)])).slid,vi (runA n (l++[(↑(xq-1):Int)])).fell])).toNat (List.take ((l.length:Int).toNat+1) (List.drop 0 (intsOf (List.take ((l.length:Int).toNat * 1) (List.drop 0 (List.map (Value.int IntKind.i64) l))++[vi (xq:Int)])))))
noncomputable def maV1 (n:Nat) (l:List Int) (c:Nat) := (runA (fN (vi (n:Int)::T8 emp [Value.slice none 0 0,vi (0:Int),vi (0:Int)])).toNat (List.take ((l.length:Int).toNat+1) (List.drop 0 (intsOf (List.take ((l.length:Int).toNat * 1) (List.drop 0 (List.map (Value.int IntKind.i64) l))++[vi (0:Int)])))))
noncomputable def maV2 (n:Nat) (l:List Int) (c:Nat) (xq:Nat) := (vi (n:Int)::T8 ((runA n (l++[(↑(xq-1):Int)])).tk) [Value.slice (some ⟨6,0,some 0⟩) (l.length+1) 0,vi (runA n (l++[(↑(xq-1):Int)])).slid,vi (runA n (l++[(↑(xq-1):Int)])).fell])
noncomputable def maV3 (n:Nat) (l:List Int) (c:Nat) := (vi (fN (vi (n:Int)::T8 emp [Value.slice none 0 0,vi (0:Int),vi (0:Int)]))::T8 ((maV1 n l c).tk) [Value.slice (some ⟨8,0,some 0⟩) (List.take ((l.length:Int).toNat+1) (List.drop 0 (intsOf (List.take ((l.length:Int).toNat * 1) (List.drop 0 (List.map (Value.int IntKind.i64) l))++[vi (0:Int)])))).length 0,vi (maV1 n l c).slid,vi (maV1 n l c).fell])
noncomputable def maV4 (n:Nat) (l:List Int) (c:Nat) (xq:Nat) := (vi (fN (maV2 n l c xq))::T8 ((maV0 n l c xq).tk) [Value.slice (some ⟨9,0,some 0⟩) (List.take ((l.length:Int).toNat+1) (List.drop 0 (intsOf (List.take ((l.length:Int).toNat * 1) (List.drop 0 (List.map (Value.int IntKind.i64) l))++[vi (xq:Int)])))).length 0,vi (maV0 n l c xq).slid,vi (maV0 n l c xq).fell])
noncomputable def maV5 (n:Nat) (l:List Int) (c:Nat):Prop := (Value.func (Fn.func 63) ⟨[]⟩ ⟨[ptr0 3,ptr0 1]⟩=Value.func (Fn.func 63) ⟨[]⟩ ⟨[Value.pointer (some ⟨nsub 6 8 3,0,none⟩),Value.pointer (some ⟨nsub 6 8 1,0,none⟩)]⟩)
noncomputable def maV6 (n:Nat) (l:List Int) (c:Nat):Prop := (Value.func (Fn.func 63) ⟨[]⟩ ⟨[ptr0 3,ptr0 1]⟩=Value.func (Fn.func 63) ⟨[]⟩ ⟨[Value.pointer (some ⟨nsub 6 9 3,0,none⟩),Value.pointer (some ⟨nsub 6 9 1,0,none⟩)]⟩)
noncomputable def maV7 (n:Nat) (l:List Int) (c:Nat) := (List.map (Value.int IntKind.i64) l)
noncomputable def maV8 (n:Nat) (l:List Int) (c:Nat):Prop := (AObj.rw [Value.slice (some (ad0 0)) l.length c] none=AObj.rw [Value.slice (some (ad0 0)) l.length c] none∧true=true)
noncomputable def maV9 (n:Nat) (l:List Int) (c:Nat):List Value := [vi (0:Int),vi (0:Int),vi (0:Int),vi (0:Int),vi (0:Int),vi (0:Int),vi (0:Int),vi (0:Int)]
noncomputable def maV10 (n:Nat) (l:List Int) (c:Nat) := (vi (n:Int)::T8 emp [Value.slice none 0 0,vi (0:Int),vi (0:Int)])
noncomputable def maV11 (n:Nat) (l:List Int) (c:Nat):Prop := (AObj.rw (lgC (n:Int) emp) none=AObj.rw (lgC (n:Int) emp) none∧true=true)
noncomputable def maV12 (n:Nat) (l:List Int) (c:Nat):Prop := (andP (some (andP (some (0+1≤1∧true=true)) ((l.length:Int).toNat+1≤1099511627776∧(2 * ((l.length:Int).toNat+1)+256) * 8≤281474976710656∧1=1∧(l.length:Int).toNat<(l.length:Int).toNat+1∧0+(l.length:Int).toNat * 1≤(maV7 n l c).length))) ¬(l.length:Int).toNat+1≤(l.length:Int).toNat)
noncomputable def maV13 (n:Nat) (l:List Int) (c:Nat):Prop := (AObj.rw [ptr0 2] none=AObj.rw [ptr0 2] none∧true=true)
noncomputable def maV14 (n:Nat) (l:List Int) (c:Nat) (xq:Nat) := (List.take ((whL (mayG n l) xq).length.min (IntKind.i64.wrap (↑(whL (mayG n l) xq).length:Int)).toNat * 1) (List.drop 0 (List.map (Value.int IntKind.i64) (whC (mayG n l) xq))))
noncomputable def maV15 (n:Nat) (l:List Int) (c:Nat) (xq:Nat) := (List.take ((l.length:Int).toNat * 1) (List.drop 0 (maV7 n l c))++[vi (xq:Int)])
noncomputable def maV16 (n:Nat) (l:List Int) (c:Nat) := (List.take ((l.length:Int).toNat * 1) (List.drop 0 (maV7 n l c))++[vi (0:Int)])
noncomputable def maV17 (n:Nat) (l:List Int) (c:Nat):Prop := (AObj.ro (maV7 n l c)=AObj.ro (List.map (nmap1 (nsub 1 7)) (maV7 n l c))∧AObj.sc 2 (AObj.ro (maV7 n l c))=true)
noncomputable def maV18 (n:Nat) (l:List Int) (c:Nat) := (List.take l.length (List.drop 0 (intsOf (maV7 n l c))))
noncomputable def maV19 (n:Nat) (l:List Int) (c:Nat):Array Value := ⟨[Value.slice (some (ad0 7)) (whL (mayG n l) n).length (whL (mayG n l) n).length,vi (0:Int)]⟩
noncomputable def maV20 (n:Nat) (l:List Int) (c:Nat) (xq:Nat) := (List.map (Value.int IntKind.i64) (whC (mayG n l) xq))
noncomputable def maV21 (n:Nat) (l:List Int) (c:Nat) := ((l.length:Int).toNat+1)
noncomputable def maV22 (n:Nat) (l:List Int) (c:Nat):Prop := (l.length≤c∧((0:Int)≤(l.length:Int)∧(l.length:Int)≤(c:Int))∧(0:Int)≤(l.length:Int)∧(l.length:Int)≤(↑(l.length:Int).toNat:Int))
noncomputable def maV23 (n:Nat) (l:List Int) (c:Nat):Prop := (Value.func (Fn.func 63) ⟨[]⟩ ⟨[ptr0 3,ptr0 1]⟩=Value.func (Fn.func 63) ⟨[]⟩ ⟨[ptr0 3,ptr0 1]⟩)
noncomputable def maV24 (n:Nat) (l:List Int) (c:Nat) (xq:Nat) := (IntKind.i64.wrap (↑(whL (mayG n l) xq).length:Int))
noncomputable def maV25 (n:Nat) (l:List Int) (c:Nat):Prop := (AObj.ro (maV7 n l c)=AObj.ro (List.map (nmap1 (nsub 6 8)) (maV7 n l c))∧AObj.sc 6 (AObj.ro (maV7 n l c))=true)
noncomputable def maV26 (n:Nat) (l:List Int) (c:Nat):Prop := (AObj.ro (maV7 n l c)=AObj.ro (List.map (nmap1 (nsub 6 8)) (maV7 n l c))∧AObj.sc 7 (AObj.ro (maV7 n l c))=true)
noncomputable def maV27 (n:Nat) (l:List Int) (c:Nat):Prop := (AObj.ro (maV7 n l c)=AObj.ro (List.map (nmap1 (nsub 6 9)) (maV7 n l c))∧AObj.sc 6 (AObj.ro (maV7 n l c))=true)
noncomputable def maV28 (n:Nat) (l:List Int) (c:Nat):Prop := (AObj.ro (maV7 n l c)=AObj.ro (List.map (nmap1 (nsub 6 9)) (maV7 n l c))∧AObj.sc 7 (AObj.ro (maV7 n l c))=true)
noncomputable def maV29 (n:Nat) (l:List Int) (c:Nat) := (Value.int IntKind.i64)
noncomputable def maV30 (n:Nat) (l:List Int) (c:Nat) (xq:Nat) := (List.take (maV21 n l c) (List.drop 0 (intsOf (maV15 n l c xq))))
noncomputable def maV31 (n:Nat) (l:List Int) (c:Nat) (yqqqqq:Nat) := (runA n (l++[(↑(yqqqqq-1):Int)]))
noncomputable def maV32 (n:Nat) (l:List Int) (c:Nat) := (List.take (maV21 n l c) (List.drop 0 (intsOf (maV16 n l c))))
noncomputable def maV33 (n:Nat) (l:List Int) (c:Nat):Prop := (AObj.rw (maV9 n l c) none=AObj.rw (maV9 n l c) none∧true=true)
noncomputable def maV34 (n:Nat) (l:List Int) (c:Nat) (yqqqq:Nat) := (runA n (l++[(↑(yqqqq-1):Int)]))
noncomputable def maV35 (n:Nat) (l:List Int) (c:Nat) (yqqq:Nat) := (runA n (l++[(↑(yqqq-1):Int)]))
noncomputable def maV36 (n:Nat) (l:List Int) (c:Nat) (yqq:Nat) := (runA n (l++[(↑(yqq-1):Int)]))
noncomputable def maV :=
fun (n:Nat) (l:List Int) (c:Nat)↦Ob ((List.take l.length (List.drop 0 (maV7 n l c))=List.map (maV29 n l c) (maV18 n l c)∧0+l.length≤(maV7 n l c).length∧true=true)∧errD (Arg.plain (vi (n:Int))).num (maV18 n l c)=(0:Int)∧0<(maV18 n l c).length)∧((ledC (Arg.plain (vi (n:Int))).num.toNat (maV18 n l c) !=(0:Int))=true→(Ob (maV17 n l c)∧False)∧Ob (Value.tuple ⟨[Value.slice none 0 0,vi (ledC (Arg.plain (vi (n:Int))).num.toNat (maV18 n l c))]⟩=Value.tuple (maV19 n l c))∧True)∧((ledC (Arg.plain (vi (n:Int))).num.toNat (maV18 n l c) !=(0:Int))=false→Ob (0+1≤1)∧Ob (some (vi (n:Int))=some (vi (n:Int)))∧Ob (((0:Int)≤(n:Int)∧(n:Int)≤(↑(8:Nat):Int))∧(0:Int)≤(0:Int)∧(0:Int)≤(↑(n:Int).toNat:Int))∧Ob (some (vi (n:Int))=some (vi (n:Int)))∧((∃ (y:Unit),Ob True∧(Ob (AObj.ro (maV7 n l c)=AObj.ro (List.map (nmap1 fun (b:Nat)↦b) (maV7 n l c))∧AObj.sc 6 (AObj.ro (maV7 n l c))=true)∧Ob (maV8 n l c)∧Ob (AObj.rw (maV10 n l c) none=AObj.rw (maV10 n l c) none∧true=true)∧Ob (maV13 n l c)∧Ob (maV11 n l c)∧Ob (maV33 n l c)∧True)∧Ob (maV23 n l c)∧Ob (Value.slice (some (ad0 5)) 0 (n:Int).toNat=Value.slice (some (ad0 5)) 0 n)∧Ob ((n:Int)=(n:Int))∧Ob ((0:Int)=(0:Int))∧True)∨∃ (yq:Nat),Ob (0<yq∧yq≤n)∧(Ob (AObj.ro (maV7 n l c)=AObj.ro (List.map (nmap1 fun (b:Nat)↦b) (maV7 n l c))∧AObj.sc 7 (AObj.ro (maV7 n l c))=true)∧Ob (maV8 n l c)∧Ob (AObj.rw (maV10 n l c) none=AObj.rw (vi (n:Int)::T8 ((runA n (l++[(↑(yq-1):Int)])).tk) [Value.slice (some ⟨6,0,some 0⟩) (l.length+1) 0,vi (runA n (l++[(↑(yq-1):Int)])).slid,vi (runA n (l++[(↑(yq-1):Int)])).fell]) none∧true=true)∧Ob (maV13 n l c)∧Ob (maV11 n l c)∧Ob (AObj.rw (maV9 n l c) none=AObj.rw (List.map (nmap1 fun (b:Nat)↦b) (List.map (maV29 n l c) (whC (mayG n l) yq))) none∧AObj.sc 7 (AObj.rw (List.map (maV29 n l c) (whC (mayG n l) yq)) none)=true)∧False)∧Ob (maV23 n l c)∧Ob (Value.slice (some (ad0 5)) 0 (n:Int).toNat=Value.slice (some (ad0 5)) (whL (mayG n l) yq).length n)∧Ob ((n:Int)=(n:Int))∧Ob ((0:Int)=(yq:Int))∧True)∧(∀ (x:Unit),Ob True→(decide ((0:Int)<(n:Int))=true→Ob (maV22 n l c)∧Ob (maV12 n l c)∧Ob ((List.take (maV21 n l c) (List.drop 0 (maV16 n l c))=List.map (maV29 n l c) (maV32 n l c)∧0+(maV21 n l c)≤(maV16 n l c).length∧true=true)∧(maV10 n l c)=(vi (fN (maV10 n l c))::T8 emp [Value.slice none 0 0,vi (fS (maV10 n l c)),vi (fF (maV10 n l c))])∧errD (fN (maV10 n l c)) (maV32 n l c)=(0:Int)∧0<(maV32 n l c).length∧some 7≠some 2)∧(decide ((maV1 n l c).fell=(0:Int))=true→Ob (andP (some (0+1≤1∧true=true)) (1≤1099511627776∧2064≤281474976710656∧1=1∧1=1∧1≤n∧0<1∧0+1≤8∧true=true))∧((∃ (y:Unit),Ob True∧Ob (20<20)∧(Ob (maV25 n l c)∧Ob (maV8 n l c)∧Ob (AObj.rw (maV3 n l c) none=AObj.rw (maV10 n l c) none∧true=true)∧Ob (maV13 n l c)∧Ob (maV11 n l c)∧Ob (maV33 n l c)∧True)∧Ob (maV5 n l c)∧Ob (Value.slice (some (ad0 5)) 1 n=Value.slice (some (ad0 5)) 0 n)∧Ob ((n:Int)=(n:Int))∧Ob (IntKind.i64.wrap ((0:Int)+(1:Int))=(0:Int))∧True)∨∃ (yqq:Nat),Ob (0<yqq∧yqq≤n)∧Ob (n-yqq<20)∧(Ob (maV26 n l c)∧Ob (maV8 n l c)∧Ob (AObj.rw (maV3 n l c) none=AObj.rw (vi (n:Int)::T8 ((maV36 n l c yqq).tk) [Value.slice (some ⟨8,0,some 0⟩) (l.length+1) 0,vi (maV36 n l c yqq).slid,vi (maV36 n l c yqq).fell]) none∧true=true)∧Ob (maV13 n l c)∧Ob (maV11 n l c)∧Ob (AObj.rw (maV9 n l c) none=AObj.rw (List.map (nmap1 (nsub 6 8)) (List.map (maV29 n l c) (whC (mayG n l) yqq))) none∧AObj.sc 7 (AObj.rw (List.map (maV29 n l c) (whC (mayG n l) yqq)) none)=true)∧Ob (AObj.rw (List.map (maV29 n l c) (maV1 n l c).lies) (some 1)=AObj.rw (List.map (nmap1 (nsub 6 8)) (List.map (maV29 n l c) (maV36 n l c yqq).lies)) (some 1)∧AObj.sc 7 (AObj.rw (List.map (maV29 n l c) (maV36 n l c yqq).lies) (some 1))=true)∧True)∧Ob (maV5 n l c)∧Ob (Value.slice (some (ad0 5)) 1 n=Value.slice (some (ad0 5)) (whL (mayG n l) yqq).length n)∧Ob ((n:Int)=(n:Int))∧Ob (IntKind.i64.wrap ((0:Int)+(1:Int))=(yqq:Int))∧True))∧(decide ((maV1 n l c).fell=(0:Int))=false→(∃ (y:Unit),Ob True∧Ob (20<20)∧(Ob (maV25 n l c)∧Ob (maV8 n l c)∧Ob (AObj.rw (maV3 n l c) none=AObj.rw (maV10 n l c) none∧true=true)∧Ob (maV13 n l c)∧Ob (maV11 n l c)∧Ob (maV33 n l c)∧True)∧Ob (maV5 n l c)∧Ob (Value.slice (some (ad0 5)) 0 n=Value.slice (some (ad0 5)) 0 n)∧Ob ((n:Int)=(n:Int))∧Ob (IntKind.i64.wrap ((0:Int)+(1:Int))=(0:Int))∧True)∨∃ (yqqq:Nat),Ob (0<yqqq∧yqqq≤n)∧Ob (n-yqqq<20)∧(Ob (maV26 n l c)∧Ob (maV8 n l c)∧Ob (AObj.rw (maV3 n l c) none=AObj.rw (vi (n:Int)::T8 ((maV35 n l c yqqq).tk) [Value.slice (some ⟨8,0,some 0⟩) (l.length+1) 0,vi (maV35 n l c yqqq).slid,vi (maV35 n l c yqqq).fell]) none∧true=true)∧Ob (maV13 n l c)∧Ob (maV11 n l c)∧Ob (AObj.rw (maV9 n l c) none=AObj.rw (List.map (nmap1 (nsub 6 8)) (List.map (maV29 n l c) (whC (mayG n l) yqqq))) none∧AObj.sc 7 (AObj.rw (List.map (maV29 n l c) (whC (mayG n l) yqqq)) none)=true)∧Ob (AObj.rw (List.map (maV29 n l c) (maV1 n l c).lies) (some 1)=AObj.rw (List.map (nmap1 (nsub 6 8)) (List.map (maV29 n l c) (maV35 n l c yqqq).lies)) (some 1)∧AObj.sc 7 (AObj.rw (List.map (maV29 n l c) (maV35 n l c yqqq).lies) (some 1))=true)∧True)∧Ob (maV5 n l c)∧Ob (Value.slice (some (ad0 5)) 0 n=Value.slice (some (ad0 5)) (whL (mayG n l) yqqq).length n)∧Ob ((n:Int)=(n:Int))∧Ob (IntKind.i64.wrap ((0:Int)+(1:Int))=(yqqq:Int))∧True))∧(decide ((0:Int)<(n:Int))=false→Ob ((0:Int)≤IntKind.i64.wrap (↑(0:Nat):Int)∧IntKind.i64.wrap (↑(0:Nat):Int)≤IntKind.i64.wrap (↑(0:Nat):Int)∧(↑(8:Nat):Int) * IntKind.i64.wrap (↑(0:Nat):Int)≤(281474976710656:Int))∧Ob (andP (some (0≤8∧true=true)) (0+0≤0∧true=true))∧(Ob (maV17 n l c)∧False)∧Ob (Value.tuple ⟨[Value.slice (some (ad0 6)) 0 0,vi (0:Int)]⟩=Value.tuple (maV19 n l c))∧True))∧∀ (xq:Nat),Ob (0<xq∧xq≤n)→(decide ((xq:Int)<(n:Int))=true→Ob (maV22 n l c)∧Ob (maV12 n l c)∧Ob ((List.take (maV21 n l c) (List.drop 0 (maV15 n l c xq))=List.map (maV29 n l c) (maV30 n l c xq)∧0+(maV21 n l c)≤(maV15 n l c xq).length∧true=true)∧(maV2 n l c xq)=(vi (fN (maV2 n l c xq))::T8 (fT (maV2 n l c xq)) [Value.slice (some ⟨6,0,some 0⟩) (l.length+1) 0,vi (fS (maV2 n l c xq)),vi (fF (maV2 n l c xq))])∧List.map (maV29 n l c) (runA n (l++[(↑(xq-1):Int)])).lies=List.map (maV29 n l c) (intsOf (List.map (maV29 n l c) (runA n (l++[(↑(xq-1):Int)])).lies))∧errD (fN (maV2 n l c xq)) (maV30 n l c xq)=(0:Int)∧0<(maV30 n l c xq).length∧some 8≠some 2∧some 8≠some 6∧2≠6)∧(decide ((maV0 n l c xq).fell=(0:Int))=true→Ob (andP (some (0+1≤1∧true=true)) ((whL (mayG n l) xq).length+1≤1099511627776∧(2 * ((whL (mayG n l) xq).length+1)+256) * 8≤281474976710656∧1=1∧1=1∧(whL (mayG n l) xq).length+1≤n∧0<1∧0+(whL (mayG n l) xq).length * 1+1≤(maV20 n l c xq).length∧true=true))∧((∃ (y:Unit),Ob True∧Ob (20<n-xq)∧(Ob (maV27 n l c)∧Ob (maV8 n l c)∧Ob (AObj.rw (maV4 n l c xq) none=AObj.rw (maV10 n l c) none∧true=true)∧Ob (maV13 n l c)∧Ob (maV11 n l c)∧Ob (AObj.rw (putL (maV20 n l c xq) (0+(whL (mayG n l) xq).length * 1) [vi (xq:Int)]) none=AObj.rw (maV9 n l c) none∧true=true)∧True)∧Ob (maV6 n l c)∧Ob (Value.slice (some (ad0 5)) ((whL (mayG n l) xq).length+1) n=Value.slice (some (ad0 5)) 0 n)∧Ob ((n:Int)=(n:Int))∧Ob (IntKind.i64.wrap ((xq:Int)+(1:Int))=(0:Int))∧True)∨∃ (yqqqq:Nat),Ob (0<yqqqq∧yqqqq≤n)∧Ob (n-yqqqq<n-xq)∧(Ob (maV28 n l c)∧Ob (maV8 n l c)∧Ob (AObj.rw (maV4 n l c xq) none=AObj.rw (vi (n:Int)::T8 ((maV34 n l c yqqqq).tk) [Value.slice (some ⟨9,0,some 0⟩) (l.length+1) 0,vi (maV34 n l c yqqqq).slid,vi (maV34 n l c yqqqq).fell]) none∧true=true)∧Ob (maV13 n l c)∧Ob (maV11 n l c)∧Ob (AObj.rw (putL (maV20 n l c xq) (0+(whL (mayG n l) xq).length * 1) [vi (xq:Int)]) none=AObj.rw (List.map (nmap1 (nsub 6 9)) (List.map (maV29 n l c) (whC (mayG n l) yqqqq))) none∧AObj.sc 7 (AObj.rw (List.map (maV29 n l c) (whC (mayG n l) yqqqq)) none)=true)∧Ob (AObj.rw (List.map (maV29 n l c) (maV0 n l c xq).lies) (some 1)=AObj.rw (List.map (nmap1 (nsub 6 9)) (List.map (maV29 n l c) (maV34 n l c yqqqq).lies)) (some 1)∧AObj.sc 7 (AObj.rw (List.map (maV29 n l c) (maV34 n l c yqqqq).lies) (some 1))=true)∧True)∧Ob (maV6 n l c)∧Ob (Value.slice (some (ad0 5)) ((whL (mayG n l) xq).length+1) n=Value.slice (some (ad0 5)) (whL (mayG n l) yqqqq).length n)∧Ob ((n:Int)=(n:Int))∧Ob (IntKind.i64.wrap ((xq:Int)+(1:Int))=(yqqqq:Int))∧True))∧(decide ((maV0 n l c xq).fell=(0:Int))=false→(∃ (y:Unit),Ob True∧Ob (20<n-xq)∧(Ob (maV27 n l c)∧Ob (maV8 n l c)∧Ob (AObj.rw (maV4 n l c xq) none=AObj.rw (maV10 n l c) none∧true=true)∧Ob (maV13 n l c)∧Ob (maV11 n l c)∧Ob (AObj.rw (maV20 n l c xq) none=AObj.rw (maV9 n l c) none∧true=true)∧True)∧Ob (maV6 n l c)∧Ob (Value.slice (some (ad0 5)) (whL (mayG n l) xq).length n=Value.slice (some (ad0 5)) 0 n)∧Ob ((n:Int)=(n:Int))∧Ob (IntKind.i64.wrap ((xq:Int)+(1:Int))=(0:Int))∧True)∨∃ (yqqqqq:Nat),Ob (0<yqqqqq∧yqqqqq≤n)∧Ob (n-yqqqqq<n-xq)∧(Ob (maV28 n l c)∧Ob (maV8 n l c)∧Ob (AObj.rw (maV4 n l c xq) none=AObj.rw (vi (n:Int)::T8 ((maV31 n l c yqqqqq).tk) [Value.slice (some ⟨9,0,some 0⟩) (l.length+1) 0,vi (maV31 n l c yqqqqq).slid,vi (maV31 n l c yqqqqq).fell]) none∧true=true)∧Ob (maV13 n l c)∧Ob (maV11 n l c)∧Ob (AObj.rw (maV20 n l c xq) none=AObj.rw (List.map (nmap1 (nsub 6 9)) (List.map (maV29 n l c) (whC (mayG n l) yqqqqq))) none∧AObj.sc 7 (AObj.rw (List.map (maV29 n l c) (whC (mayG n l) yqqqqq)) none)=true)∧Ob (AObj.rw (List.map (maV29 n l c) (maV0 n l c xq).lies) (some 1)=AObj.rw (List.map (nmap1 (nsub 6 9)) (List.map (maV29 n l c) (maV31 n l c yqqqqq).lies)) (some 1)∧AObj.sc 7 (AObj.rw (List.map (maV29 n l c) (maV31 n l c yqqqqq).lies) (some 1))=true)∧True)∧Ob (maV6 n l c)∧Ob (Value.slice (some (ad0 5)) (whL (mayG n l) xq).length n=Value.slice (some (ad0 5)) (whL (mayG n l) yqqqqq).length n)∧Ob ((n:Int)=(n:Int))∧Ob (IntKind.i64.wrap ((xq:Int)+(1:Int))=(yqqqqq:Int))∧True))∧(decide ((xq:Int)<(n:Int))=false→Ob ((0:Int)≤IntKind.i64.wrap (↑(whL (mayG n l) xq).length:Int)∧IntKind.i64.wrap (↑(whL (mayG n l) xq).length:Int)≤IntKind.i64.wrap (↑(whL (mayG n l) xq).length:Int)∧(↑(8:Nat):Int) * IntKind.i64.wrap (↑(whL (mayG n l) xq).length:Int)≤(281474976710656:Int))∧Ob (andP (some (0+(whL (mayG n l) xq).length.min (maV24 n l c xq).toNat * 1≤(maV20 n l c xq).length∧true=true)) (0+(maV14 n l c xq).length≤(List.replicate (maV24 n l c xq).toNat (vi (0:Int))).length∧(maV14 n l c xq).all (sc1 8)=true))∧(Ob (maV17 n l c)∧Ob (AObj.rw (putL (List.replicate (maV24 n l c xq).toNat (vi (0:Int))) 0 (maV14 n l c xq)) none=AObj.rw (List.map (nmap1 (nsub 1 7)) (List.map (maV29 n l c) (whL (mayG n l) n))) none∧AObj.sc 2 (AObj.rw (List.map (maV29 n l c) (whL (mayG n l) n)) none)=true)∧True)∧Ob (Value.tuple ⟨[Value.slice (some (ad0 7)) (maV24 n l c xq).toNat (maV24 n l c xq).toNat,vi (0:Int)]⟩=Value.tuple (maV19 n l c))∧True))
theorem maV_eq : maV = fun (n : Nat) (l : List Int) (c : Nat) => vc Try.prog (maE n l 1) 1 22 true (fun _ => none) maB [] (argFr 0 [vi n,.slice (some ⟨0,0,none⟩) l.length c]) [ros l] (retR Try.prog Try.f30 1 (nsub 1 7) (.tuple #[madeS 1 (whL (mayG n l) n).length,vi 0]) [ros l,madeA (whL (mayG n l) n)]) := by kernel_rfl
noncomputable def maN0 (n:Nat) (xq:Nat) := (vi (n:Int)::T8 ((runA n [(↑(xq-1):Int)]).tk) [Value.slice (some ⟨5,0,some 0⟩) 1 0,vi (runA n [(↑(xq-1):Int)]).slid,vi (runA n [(↑(xq-1):Int)]).fell])
noncomputable def maN1 (n:Nat) := (vi (n:Int)::T8 emp [Value.slice none 0 0,vi (0:Int),vi (0:Int)])
noncomputable def maN2 (n:Nat):List Value := [vi (0:Int),vi (0:Int),vi (0:Int),vi (0:Int),vi (0:Int),vi (0:Int),vi (0:Int),vi (0:Int)]
noncomputable def maN3 (n:Nat):Prop := (AObj.rw [Value.slice none 0 0] none=AObj.rw [Value.slice none 0 0] none∧true=true)
noncomputable def maN4 (n:Nat) (xq:Nat) := (vi (fN (maN0 n xq))::T8 ((runA (fN (maN0 n xq)).toNat [intOf (vi (xq:Int))]).tk) [Value.slice (some ⟨8,0,some 0⟩) 1 0,vi (runA (fN (maN0 n xq)).toNat [intOf (vi (xq:Int))]).slid,vi (runA (fN (maN0 n xq)).toNat [intOf (vi (xq:Int))]).fell])
noncomputable def maN5 (n:Nat) := (vi (fN (maN1 n))::T8 ((runA (fN (maN1 n)).toNat [intOf (vi (0:Int))]).tk) [Value.slice (some ⟨7,0,some 0⟩) 1 0,vi (runA (fN (maN1 n)).toNat [intOf (vi (0:Int))]).slid,vi (runA (fN (maN1 n)).toNat [intOf (vi (0:Int))]).fell])
noncomputable def maN6 (n:Nat):Prop := (Value.func (Fn.func 63) ⟨[]⟩ ⟨[ptr0 2,ptr0 0]⟩=Value.func (Fn.func 63) ⟨[]⟩ ⟨[Value.pointer (some ⟨nsub 5 7 2,0,none⟩),ptr0 0]⟩)
noncomputable def maN7 (n:Nat):Prop := (Value.func (Fn.func 63) ⟨[]⟩ ⟨[ptr0 2,ptr0 0]⟩=Value.func (Fn.func 63) ⟨[]⟩ ⟨[Value.pointer (some ⟨nsub 5 8 2,0,none⟩),ptr0 0]⟩)
noncomputable def maN8 (n:Nat):Prop := (AObj.rw (lgC (n:Int) emp) none=AObj.rw (lgC (n:Int) emp) none∧true=true)
noncomputable def maN9 (n:Nat):Prop := (AObj.rw [ptr0 1] none=AObj.rw [ptr0 1] none∧true=true)
noncomputable def maN10 (n:Nat) (xq:Nat) := (List.take ((whL (mayG n []) xq).length.min (IntKind.i64.wrap (↑(whL (mayG n []) xq).length:Int)).toNat * 1) (List.drop 0 (List.map (Value.int IntKind.i64) (whC (mayG n []) xq))))
noncomputable def maN11 (n:Nat) := (Value.int IntKind.i64)
noncomputable def maN12 (n:Nat) := (andP (some (0+1≤1∧true=true)) (1≤1099511627776∧2064≤281474976710656∧1=1∧0=0∧0<1))
noncomputable def maN13 (n:Nat):Array Value := ⟨[Value.slice (some (ad0 6)) (whL (mayG n []) n).length (whL (mayG n []) n).length,vi (0:Int)]⟩
noncomputable def maN14 (n:Nat) (xq:Nat) := (↑(whL (mayG n []) xq).length:Int)
noncomputable def maN15 (n:Nat):Prop := (Value.func (Fn.func 63) ⟨[]⟩ ⟨[ptr0 2,ptr0 0]⟩=Value.func (Fn.func 63) ⟨[]⟩ ⟨[ptr0 2,ptr0 0]⟩)
noncomputable def maN16 (n:Nat) (xq:Nat) := (List.map (maN11 n) (whC (mayG n []) xq))
noncomputable def maN17 (n:Nat) (xq:Nat) := (runA (fN (maN0 n xq)).toNat [intOf (vi (xq:Int))])
noncomputable def maN18 (n:Nat) := (runA (fN (maN1 n)).toNat [intOf (vi (0:Int))])
noncomputable def maN19 (n:Nat):Prop := (AObj.rw (maN2 n) none=AObj.rw (maN2 n) none∧true=true)
noncomputable def maN20 (n:Nat) (yqqqqq:Nat) := (runA n [(↑(yqqqqq-1):Int)])
noncomputable def maN21 (n:Nat) (yqqqq:Nat) := (runA n [(↑(yqqqq-1):Int)])
noncomputable def maN22 (n:Nat) (yqqq:Nat) := (runA n [(↑(yqqq-1):Int)])
noncomputable def maN23 (n:Nat):Prop := ((n:Int)=(n:Int))
noncomputable def maN24 (n:Nat) (yqq:Nat) := (runA n [(↑(yqq-1):Int)])
noncomputable def maN25 (n:Nat) (xq:Nat) := (putL (maN16 n xq) (0+(whL (mayG n []) xq).length * 1) [vi (xq:Int)])
noncomputable def maN26 (n:Nat) (xq:Nat) := (IntKind.i64.wrap (maN14 n xq))
noncomputable def maN :=
fun (n:Nat)↦Ob (errD (Arg.plain (vi (n:Int))).num []=(0:Int))∧(false=true→False∧Ob (Value.tuple ⟨[Value.slice none 0 0,vi (0:Int)]⟩=Value.tuple (maN13 n))∧True)∧(false=false→Ob (0+1≤1)∧Ob (some (vi (n:Int))=some (vi (n:Int)))∧Ob (((0:Int)≤(n:Int)∧(n:Int)≤(↑(8:Nat):Int))∧(0:Int)≤(0:Int)∧(0:Int)≤(↑(n:Int).toNat:Int))∧Ob (some (vi (n:Int))=some (vi (n:Int)))∧((∃ (y:Unit),Ob True∧(Ob (maN3 n)∧Ob (AObj.rw (maN1 n) none=AObj.rw (maN1 n) none∧true=true)∧Ob (maN9 n)∧Ob (maN8 n)∧Ob (maN19 n)∧True)∧Ob (maN15 n)∧Ob (Value.slice (some (ad0 4)) 0 (n:Int).toNat=Value.slice (some (ad0 4)) 0 n)∧Ob (maN23 n)∧Ob ((0:Int)=(0:Int))∧True)∨∃ (yq:Nat),Ob (0<yq∧yq≤n)∧(Ob (maN3 n)∧Ob (AObj.rw (maN1 n) none=AObj.rw (vi (n:Int)::T8 ((runA n [(↑(yq-1):Int)]).tk) [Value.slice (some ⟨5,0,some 0⟩) 1 0,vi (runA n [(↑(yq-1):Int)]).slid,vi (runA n [(↑(yq-1):Int)]).fell]) none∧true=true)∧Ob (maN9 n)∧Ob (maN8 n)∧Ob (AObj.rw (maN2 n) none=AObj.rw (List.map (nmap1 fun (b:Nat)↦b) (List.map (maN11 n) (whC (mayG n []) yq))) none∧AObj.sc 6 (AObj.rw (List.map (maN11 n) (whC (mayG n []) yq)) none)=true)∧False)∧Ob (maN15 n)∧Ob (Value.slice (some (ad0 4)) 0 (n:Int).toNat=Value.slice (some (ad0 4)) (whL (mayG n []) yq).length n)∧Ob (maN23 n)∧Ob ((0:Int)=(yq:Int))∧True)∧(∀ (x:Unit),Ob True→(decide ((0:Int)<(n:Int))=true→Ob (maN12 n)∧Ob (([vi (0:Int)]=[vi (intOf (vi (0:Int)))]∧0+1≤1∧true=true)∧(maN1 n)=(vi (fN (maN1 n))::T8 emp [Value.slice none 0 0,vi (fS (maN1 n)),vi (fF (maN1 n))])∧errD (fN (maN1 n)) [intOf (vi (0:Int))]=(0:Int)∧0<1∧some 6≠some 1)∧(decide ((maN18 n).fell=(0:Int))=true→Ob (andP (some (0+1≤1∧true=true)) (1≤1099511627776∧2064≤281474976710656∧1=1∧1=1∧1≤n∧0<1∧0+1≤8∧true=true))∧((∃ (y:Unit),Ob True∧Ob (20<20)∧(Ob (maN3 n)∧Ob (AObj.rw (maN5 n) none=AObj.rw (maN1 n) none∧true=true)∧Ob (maN9 n)∧Ob (maN8 n)∧Ob (maN19 n)∧True)∧Ob (maN6 n)∧Ob (Value.slice (some (ad0 4)) 1 n=Value.slice (some (ad0 4)) 0 n)∧Ob (maN23 n)∧Ob (IntKind.i64.wrap ((0:Int)+(1:Int))=(0:Int))∧True)∨∃ (yqq:Nat),Ob (0<yqq∧yqq≤n)∧Ob (n-yqq<20)∧(Ob (maN3 n)∧Ob (AObj.rw (maN5 n) none=AObj.rw (vi (n:Int)::T8 ((maN24 n yqq).tk) [Value.slice (some ⟨7,0,some 0⟩) 1 0,vi (maN24 n yqq).slid,vi (maN24 n yqq).fell]) none∧true=true)∧Ob (maN9 n)∧Ob (maN8 n)∧Ob (AObj.rw (maN2 n) none=AObj.rw (List.map (nmap1 (nsub 5 7)) (List.map (maN11 n) (whC (mayG n []) yqq))) none∧AObj.sc 6 (AObj.rw (List.map (maN11 n) (whC (mayG n []) yqq)) none)=true)∧Ob (AObj.rw (List.map (maN11 n) (maN18 n).lies) (some 1)=AObj.rw (List.map (nmap1 (nsub 5 7)) (List.map (maN11 n) (maN24 n yqq).lies)) (some 1)∧AObj.sc 6 (AObj.rw (List.map (maN11 n) (maN24 n yqq).lies) (some 1))=true)∧True)∧Ob (maN6 n)∧Ob (Value.slice (some (ad0 4)) 1 n=Value.slice (some (ad0 4)) (whL (mayG n []) yqq).length n)∧Ob (maN23 n)∧Ob (IntKind.i64.wrap ((0:Int)+(1:Int))=(yqq:Int))∧True))∧(decide ((maN18 n).fell=(0:Int))=false→(∃ (y:Unit),Ob True∧Ob (20<20)∧(Ob (maN3 n)∧Ob (AObj.rw (maN5 n) none=AObj.rw (maN1 n) none∧true=true)∧Ob (maN9 n)∧Ob (maN8 n)∧Ob (maN19 n)∧True)∧Ob (maN6 n)∧Ob (Value.slice (some (ad0 4)) 0 n=Value.slice (some (ad0 4)) 0 n)∧Ob (maN23 n)∧Ob (IntKind.i64.wrap ((0:Int)+(1:Int))=(0:Int))∧True)∨∃ (yqqq:Nat),Ob (0<yqqq∧yqqq≤n)∧Ob (n-yqqq<20)∧(Ob (maN3 n)∧Ob (AObj.rw (maN5 n) none=AObj.rw (vi (n:Int)::T8 ((maN22 n yqqq).tk) [Value.slice (some ⟨7,0,some 0⟩) 1 0,vi (maN22 n yqqq).slid,vi (maN22 n yqqq).fell]) none∧true=true)∧Ob (maN9 n)∧Ob (maN8 n)∧Ob (AObj.rw (maN2 n) none=AObj.rw (List.map (nmap1 (nsub 5 7)) (List.map (maN11 n) (whC (mayG n []) yqqq))) none∧AObj.sc 6 (AObj.rw (List.map (maN11 n) (whC (mayG n []) yqqq)) none)=true)∧Ob (AObj.rw (List.map (maN11 n) (maN18 n).lies) (some 1)=AObj.rw (List.map (nmap1 (nsub 5 7)) (List.map (maN11 n) (maN22 n yqqq).lies)) (some 1)∧AObj.sc 6 (AObj.rw (List.map (maN11 n) (maN22 n yqqq).lies) (some 1))=true)∧True)∧Ob (maN6 n)∧Ob (Value.slice (some (ad0 4)) 0 n=Value.slice (some (ad0 4)) (whL (mayG n []) yqqq).length n)∧Ob (maN23 n)∧Ob (IntKind.i64.wrap ((0:Int)+(1:Int))=(yqqq:Int))∧True))∧(decide ((0:Int)<(n:Int))=false→Ob ((0:Int)≤IntKind.i64.wrap (↑(0:Nat):Int)∧IntKind.i64.wrap (↑(0:Nat):Int)≤IntKind.i64.wrap (↑(0:Nat):Int)∧(↑(8:Nat):Int) * IntKind.i64.wrap (↑(0:Nat):Int)≤(281474976710656:Int))∧Ob (andP (some (0≤8∧true=true)) (0+0≤0∧true=true))∧False∧Ob (Value.tuple ⟨[Value.slice (some (ad0 5)) 0 0,vi (0:Int)]⟩=Value.tuple (maN13 n))∧True))∧∀ (xq:Nat),Ob (0<xq∧xq≤n)→(decide ((xq:Int)<(n:Int))=true→Ob (maN12 n)∧Ob (([vi (xq:Int)]=[vi (intOf (vi (xq:Int)))]∧0+1≤1∧true=true)∧(maN0 n xq)=(vi (fN (maN0 n xq))::T8 (fT (maN0 n xq)) [Value.slice (some ⟨5,0,some 0⟩) 1 0,vi (fS (maN0 n xq)),vi (fF (maN0 n xq))])∧List.map (maN11 n) (runA n [(↑(xq-1):Int)]).lies=List.map (maN11 n) (intsOf (List.map (maN11 n) (runA n [(↑(xq-1):Int)]).lies))∧errD (fN (maN0 n xq)) [intOf (vi (xq:Int))]=(0:Int)∧0<1∧some 7≠some 1∧some 7≠some 5∧1≠5)∧(decide ((maN17 n xq).fell=(0:Int))=true→Ob (andP (some (0+1≤1∧true=true)) ((whL (mayG n []) xq).length+1≤1099511627776∧(2 * ((whL (mayG n []) xq).length+1)+256) * 8≤281474976710656∧1=1∧1=1∧(whL (mayG n []) xq).length+1≤n∧0<1∧0+(whL (mayG n []) xq).length * 1+1≤(maN16 n xq).length∧true=true))∧((∃ (y:Unit),Ob True∧Ob (20<n-xq)∧(Ob (maN3 n)∧Ob (AObj.rw (maN4 n xq) none=AObj.rw (maN1 n) none∧true=true)∧Ob (maN9 n)∧Ob (maN8 n)∧Ob (AObj.rw (maN25 n xq) none=AObj.rw (maN2 n) none∧true=true)∧True)∧Ob (maN7 n)∧Ob (Value.slice (some (ad0 4)) ((whL (mayG n []) xq).length+1) n=Value.slice (some (ad0 4)) 0 n)∧Ob (maN23 n)∧Ob (IntKind.i64.wrap ((xq:Int)+(1:Int))=(0:Int))∧True)∨∃ (yqqqq:Nat),Ob (0<yqqqq∧yqqqq≤n)∧Ob (n-yqqqq<n-xq)∧(Ob (maN3 n)∧Ob (AObj.rw (maN4 n xq) none=AObj.rw (vi (n:Int)::T8 ((maN21 n yqqqq).tk) [Value.slice (some ⟨8,0,some 0⟩) 1 0,vi (maN21 n yqqqq).slid,vi (maN21 n yqqqq).fell]) none∧true=true)∧Ob (maN9 n)∧Ob (maN8 n)∧Ob (AObj.rw (maN25 n xq) none=AObj.rw (List.map (nmap1 (nsub 5 8)) (List.map (maN11 n) (whC (mayG n []) yqqqq))) none∧AObj.sc 6 (AObj.rw (List.map (maN11 n) (whC (mayG n []) yqqqq)) none)=true)∧Ob (AObj.rw (List.map (maN11 n) (maN17 n xq).lies) (some 1)=AObj.rw (List.map (nmap1 (nsub 5 8)) (List.map (maN11 n) (maN21 n yqqqq).lies)) (some 1)∧AObj.sc 6 (AObj.rw (List.map (maN11 n) (maN21 n yqqqq).lies) (some 1))=true)∧True)∧Ob (maN7 n)∧Ob (Value.slice (some (ad0 4)) ((whL (mayG n []) xq).length+1) n=Value.slice (some (ad0 4)) (whL (mayG n []) yqqqq).length n)∧Ob (maN23 n)∧Ob (IntKind.i64.wrap ((xq:Int)+(1:Int))=(yqqqq:Int))∧True))∧(decide ((maN17 n xq).fell=(0:Int))=false→(∃ (y:Unit),Ob True∧Ob (20<n-xq)∧(Ob (maN3 n)∧Ob (AObj.rw (maN4 n xq) none=AObj.rw (maN1 n) none∧true=true)∧Ob (maN9 n)∧Ob (maN8 n)∧Ob (AObj.rw (maN16 n xq) none=AObj.rw (maN2 n) none∧true=true)∧True)∧Ob (maN7 n)∧Ob (Value.slice (some (ad0 4)) (whL (mayG n []) xq).length n=Value.slice (some (ad0 4)) 0 n)∧Ob (maN23 n)∧Ob (IntKind.i64.wrap ((xq:Int)+(1:Int))=(0:Int))∧True)∨∃ (yqqqqq:Nat),Ob (0<yqqqqq∧yqqqqq≤n)∧Ob (n-yqqqqq<n-xq)∧(Ob (maN3 n)∧Ob (AObj.rw (maN4 n xq) none=AObj.rw (vi (n:Int)::T8 ((maN20 n yqqqqq).tk) [Value.slice (some ⟨8,0,some 0⟩) 1 0,vi (maN20 n yqqqqq).slid,vi (maN20 n yqqqqq).fell]) none∧true=true)∧Ob (maN9 n)∧Ob (maN8 n)∧Ob (AObj.rw (maN16 n xq) none=AObj.rw (List.map (nmap1 (nsub 5 8)) (List.map (maN11 n) (whC (mayG n []) yqqqqq))) none∧AObj.sc 6 (AObj.rw (List.map (maN11 n) (whC (mayG n []) yqqqqq)) none)=true)∧Ob (AObj.rw (List.map (maN11 n) (maN17 n xq).lies) (some 1)=AObj.rw (List.map (nmap1 (nsub 5 8)) (List.map (maN11 n) (maN20 n yqqqqq).lies)) (some 1)∧AObj.sc 6 (AObj.rw (List.map (maN11 n) (maN20 n yqqqqq).lies) (some 1))=true)∧True)∧Ob (maN7 n)∧Ob (Value.slice (some (ad0 4)) (whL (mayG n []) xq).length n=Value.slice (some (ad0 4)) (whL (mayG n []) yqqqqq).length n)∧Ob (maN23 n)∧Ob (IntKind.i64.wrap ((xq:Int)+(1:Int))=(yqqqqq:Int))∧True))∧(decide ((xq:Int)<(n:Int))=false→Ob ((0:Int)≤IntKind.i64.wrap (maN14 n xq)∧IntKind.i64.wrap (maN14 n xq)≤IntKind.i64.wrap (maN14 n xq)∧(↑(8:Nat):Int) * IntKind.i64.wrap (maN14 n xq)≤(281474976710656:Int))∧Ob (andP (some (0+(whL (mayG n []) xq).length.min (maN26 n xq).toNat * 1≤(maN16 n xq).length∧true=true)) (0+(maN10 n xq).length≤(List.replicate (maN26 n xq).toNat (vi (0:Int))).length∧(maN10 n xq).all (sc1 7)=true))∧(Ob (AObj.rw (putL (List.replicate (maN26 n xq).toNat (vi (0:Int))) 0 (maN10 n xq)) none=AObj.rw (List.map (nmap1 (nsub 0 6)) (List.map (maN11 n) (whL (mayG n []) n))) none∧AObj.sc 1 (AObj.rw (List.map (maN11 n) (whL (mayG n []) n)) none)=true)∧True)∧Ob (Value.tuple ⟨[Value.slice (some (ad0 6)) (maN26 n xq).toNat (maN26 n xq).toNat,vi (0:Int)]⟩=Value.tuple (maN13 n))∧True))
theorem maN_eq : maN = fun (n : Nat) => vc Try.prog (maE n [] 0) 0 22 true (fun _ => none) maB [] (argFr 0 [vi n,nilS]) [] (retR Try.prog Try.f30 0 (nsub 0 6) (.tuple #[madeS 0 (whL (mayG n []) n).length,vi 0]) [madeA (whL (mayG n []) n)]) := by kernel_rfl
noncomputable def maX0 (n:Nat) (l:List Int) (c:Nat) := (List.take l.length (List.drop 0 (intsOf (List.map (Value.int IntKind.i64) l))))
noncomputable def maX :=
fun (n:Nat) (l:List Int) (c:Nat)↦Ob ((List.take l.length (List.drop 0 (List.map (Value.int IntKind.i64) l))=List.map (Value.int IntKind.i64) (maX0 n l c)∧0+l.length≤(List.map (Value.int IntKind.i64) l).length∧true=true)∧errD (Arg.plain (vi (n:Int))).num (maX0 n l c)=(0:Int)∧0<(maX0 n l c).length)∧((ledC (Arg.plain (vi (n:Int))).num.toNat (maX0 n l c) !=(0:Int))=true→True∧Ob (Value.tuple ⟨[Value.slice none 0 0,vi (ledC (Arg.plain (vi (n:Int))).num.toNat (maX0 n l c))]⟩=Value.tuple ⟨[Value.slice none 0 0,vi (20:Int)]⟩))∧((ledC (Arg.plain (vi (n:Int))).num.toNat (maX0 n l c) !=(0:Int))=false→False)
theorem maX_eq : maX = fun (n : Nat) (l : List Int) (c : Nat) => vc Try.prog maEX 1 22 true (fun _ => none) maB [] (argFr 0 [vi n,.slice (some ⟨0,0,none⟩) l.length c]) [ros l] (retK Try.prog Try.f30 (fun v _ => v = .tuple #[nilS,vi 20])) := by kernel_rfl
theorem fell_len {n : Nat} {l : List Int} (hb : ∀ x ∈ l,0≤x∧x < (n : Int)) (hf : (runA n l).fell = 0) : l.length≤n := by
 have hc := run_core hb
 have c1 : (runA n l).tk = (foldC n l (emp,0,0)).1 := congrArg (·.1) hc
 have c2 : (runA n l).fell = (foldC n l (emp,0,0)).2.2 := congrArg (·.2.2) hc
 have k2 : (takGe n (foldC n l (emp,0,0)).1 0 : Int) + (foldC n l (emp,0,0)).2.2 = (takGe n emp 0 : Int) + 0 + l.length := foldC_all (s := (emp,0,0)) hb
 have k3 := takGe_le (tk := (foldC n l (emp,0,0)).1) (Nat.zero_le n)
 rw [takGe_emp,← c2,hf] at k2
 omega
theorem maV_ok (n : Nat) (l : List Int) (c : Nat) (he : errD n l = 0) (h0 : 0 < l.length) (hf : (runA n l).fell = 0) (hc : l.length≤c) : maV n l c := by
 obtain ⟨hn,hb,hl⟩ := pre_ok he
 have hln := fell_len hb hf
 have hled : ledC n l = 0 := if_pos hf
 have n1 : 1≤n := by omega
 have ee : ∀ x : Int,0≤x→x < n→errD n (l ++ [x]) = 0 := fun x h1 h2 => err0 ⟨n1,hn⟩ (by rw [List.length_append,List.length_singleton]; omega) fun y hy => by
   rcases List.mem_append.1 hy with hy | hy
   · exact hb y hy
   · rw [List.mem_singleton.1 hy]; omega
 have tkl : ∀ x : Int,List.take (l.length + 1) (l ++ [x]) = l ++ [x] := fun x => List.take_of_length_le (by rw [List.length_append,List.length_singleton]; exact Nat.le_refl _)
 have tkm : ∀ x : Int,List.take (l.length + 1) (List.map (Value.int .i64) (l ++ [x])) = List.map (Value.int .i64) (l ++ [x]) := fun x => List.take_of_length_le (by rw [List.length_map,List.length_append,List.length_singleton]; exact Nat.le_refl _)
 unfold maV maV36 maV35 maV34 maV33 maV32 maV31 maV30 maV29 maV28 maV27 maV26 maV25 maV24 maV23 maV22 maV21 maV20 maV19 maV18 maV17 maV16 maV15 maV14 maV13 maV12 maV11 maV10 maV9 maV8 maV7 maV6 maV5 maV4 maV3 maV2 maV1 maV0
 simp only [SS,reduceCtorEq,Arg.list,Arg.num,Arg.flag,intOf,andP,Nat.reduceLeDiff,Nat.reduceAdd,Nat.reduceMul,Nat.reduceLT,he,hled,T8_10,T8_11,T8_i10,T8_i11,fN_T8,fT_emp,T8_fT,fF_T8,fS_T8,Int.toNat_natCast,tkl,tkm]
 have yes : ∀ x : Nat,(runA n (l ++ [(x : Int)])).fell = 0→mayG n l x = true := fun x h => decide_eq_true h
 have no : ∀ x : Nat,¬ (runA n (l ++ [(x : Int)])).fell = 0→mayG n l x = false := fun x h => decide_eq_false h
 generalize mayG n l = g at *
 refine ⟨h0,⟨⟨by omega,by omega⟩,by omega,by omega⟩,⟨fun _ => ⟨⟨hc,⟨by omega,by omega⟩,by omega,by omega⟩,⟨⟨by omega,by omega,by omega⟩,by omega⟩,⟨ee 0 (by omega) (by omega),by omega,by decide⟩,fun h => ?_,fun h => ?_⟩,fun h => absurd (show (0 : Int) < n by omega) h⟩,fun x hx => ⟨fun h1 => ⟨⟨hc,⟨by omega,by omega⟩,by omega,by omega⟩,⟨⟨by omega,by omega,by omega⟩,by omega⟩,⟨ee x (by omega) (by omega),by omega,by decide,by decide,by decide⟩,fun h => ?_,fun h => ?_⟩,fun h1 => ?_⟩⟩
 · have hg := yes 0 h
   exact ⟨by omega,1,⟨by omega,by omega⟩,by omega,⟨rfl,whC_yes (g := g) (x := 0) (by omega) hg,rfl⟩,rfl,by rw [whL_succ,if_pos hg]; rfl,rfl⟩
 · have hg := no 0 h
   exact ⟨1,⟨by omega,by omega⟩,by omega,⟨rfl,by rw [whC_no hg]; rfl,rfl⟩,rfl,by rw [whL_succ,if_neg (by rw [hg]; exact Bool.false_ne_true)]; rfl,rfl⟩
 · have hg := yes x h
   have hll := whL_len (g := g) (i := x)
   exact ⟨⟨by omega,by omega,by omega,by rw [whC_len (by omega)]; omega⟩,x + 1,⟨by omega,by omega⟩,by omega,⟨rfl,whC_yes (by omega) hg,rfl⟩,rfl,by rw [whL_succ,if_pos hg]; simp,by rw [wrap_in (by omega) (by omega)]; push_cast; rfl⟩
 · have hg := no x h
   exact .inr ⟨x + 1,⟨by omega,by omega⟩,by omega,⟨rfl,by rw [whC_no hg],rfl⟩,rfl,by rw [whL_succ,if_neg (by rw [hg]; exact Bool.false_ne_true)],by rw [wrap_in (by omega) (by omega)]; push_cast; rfl⟩
 · obtain rfl : x = n := by omega
   have hll := whL_len (g := g) (i := x)
   have hcl := whC_len (g := g) (i := x) (by omega)
   have ht : List.take (whL g x).length (whC g x) = whL g x := by unfold whC; rw [List.take_append_of_le_length (Nat.le_refl _),List.take_length]
   have hw : IntKind.i64.wrap ((whL g x).length : Int) = ((whL g x).length : Int) := wrap_in (by omega) (by omega)
   have hm : (whL g x).length.min (whL g x).length = (whL g x).length := Nat.min_self _
   simp only [hw,Int.toNat_natCast,hm,← List.map_take,ht,List.length_replicate,List.length_map,hcl]
   exact ⟨⟨by omega,by omega,by omega⟩,⟨by omega,by omega,all_sc_int⟩,by simpa using putL_full ((whL g x).map (Value.int .i64)) (vi 0) [],trivial⟩
theorem maN_ok (n : Nat) (he : errD n [] = 0) : maN n := by
 obtain ⟨hn,hb,hl⟩ := pre_ok he
 have n1 : 1≤n := by
   unfold errD at he
   split at he
   · cases he
   · omega
 have ee : ∀ x : Int,0≤x→x < n→errD n [x] = 0 := fun x h1 h2 => err0 ⟨n1,hn⟩ (by simp) fun y hy => by
   rw [List.mem_singleton.1 hy]; omega
 unfold maN maN26 maN25 maN24 maN23 maN22 maN21 maN20 maN19 maN18 maN17 maN16 maN15 maN14 maN13 maN12 maN11 maN10 maN9 maN8 maN7 maN6 maN5 maN4 maN3 maN2 maN1 maN0
 simp only [SS,reduceCtorEq,Arg.list,Arg.num,Arg.flag,intOf,andP,Nat.reduceLeDiff,Nat.reduceAdd,Nat.reduceMul,Nat.reduceLT,he,T8_10,T8_11,T8_i10,T8_i11,fN_T8,fT_emp,T8_fT,fF_T8,fS_T8,Int.toNat_natCast]
 have yes : ∀ x : Nat,(runA n [(x : Int)]).fell = 0→mayG n [] x = true := fun x h => decide_eq_true h
 have no : ∀ x : Nat,¬ (runA n [(x : Int)]).fell = 0→mayG n [] x = false := fun x h => decide_eq_false h
 generalize mayG n [] = g at *
 refine ⟨⟨⟨by omega,by omega⟩,by omega,by omega⟩,⟨fun _ => ⟨⟨ee 0 (by omega) (by omega),by decide⟩,fun h => ?_,fun h => ?_⟩,fun h => absurd (show (0 : Int) < n by omega) h⟩,fun x hx => ⟨fun h1 => ⟨⟨ee x (by omega) (by omega),by decide,by decide,by decide⟩,fun h => ?_,fun h => ?_⟩,fun h1 => ?_⟩⟩
 · have hg := yes 0 h
   exact ⟨by omega,1,⟨by omega,by omega⟩,by omega,⟨rfl,whC_yes (g := g) (x := 0) (by omega) hg,rfl⟩,rfl,by rw [whL_succ,if_pos hg]; rfl,rfl⟩
 · have hg := no 0 h
   exact ⟨1,⟨by omega,by omega⟩,by omega,⟨rfl,by rw [whC_no hg]; rfl,rfl⟩,rfl,by rw [whL_succ,if_neg (by rw [hg]; exact Bool.false_ne_true)]; rfl,rfl⟩
 · have hg := yes x h
   have hll := whL_len (g := g) (i := x)
   exact ⟨⟨by omega,by omega,by omega,by rw [whC_len (by omega)]; omega⟩,x + 1,⟨by omega,by omega⟩,by omega,⟨rfl,whC_yes (by omega) hg,rfl⟩,rfl,by rw [whL_succ,if_pos hg]; simp,by rw [wrap_in (by omega) (by omega)]; push_cast; rfl⟩
 · have hg := no x h
   exact .inr ⟨x + 1,⟨by omega,by omega⟩,by omega,⟨rfl,by rw [whC_no hg],rfl⟩,rfl,by rw [whL_succ,if_neg (by rw [hg]; exact Bool.false_ne_true)],by rw [wrap_in (by omega) (by omega)]; push_cast; rfl⟩
 · obtain rfl : x = n := by omega
   have hll := whL_len (g := g) (i := x)
   have hcl := whC_len (g := g) (i := x) (by omega)
   have ht : List.take (whL g x).length (whC g x) = whL g x := by unfold whC; rw [List.take_append_of_le_length (Nat.le_refl _),List.take_length]
   have hw : IntKind.i64.wrap ((whL g x).length : Int) = ((whL g x).length : Int) := wrap_in (by omega) (by omega)
   have hm : (whL g x).length.min (whL g x).length = (whL g x).length := Nat.min_self _
   simp only [hw,Int.toNat_natCast,hm,← List.map_take,ht,List.length_replicate,List.length_map,hcl]
   exact ⟨⟨by omega,by omega,by omega⟩,⟨by omega,by omega,all_sc_int⟩,by simpa using putL_full ((whL g x).map (Value.int .i64)) (vi 0) [],trivial⟩
theorem maX_ok (n : Nat) (l : List Int) (c : Nat) (he : errD n l = 0) (h0 : 0 < l.length) (hf : (runA n l).fell ≠ 0) : maX n l c := by
 have hled : ledC n l = 20 := if_neg hf
 unfold maX maX0
 simp only [SS,reduceCtorEq,Arg.list,Arg.num,Arg.flag,intOf,andP,Nat.reduceLeDiff,Nat.reduceAdd,Nat.reduceMul,Nat.reduceLT,he,hled,nilS]
 exact ⟨h0,fun h => absurd h (by decide)⟩
end Go.Pier.Lg
