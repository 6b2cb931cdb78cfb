import Derived.Test.YtbehncpoppoglaaPierK
set_option linter.unusedSimpArgs false
set_option linter.unusedVariables false
namespace Go.Pier
open Go
variable {P : Program}
structure DRec where
 g : Nat
 E : Heap
 F : Heap
 T : List Nat
 V : Value
 tm : Array Value
 deriving Inhabited
def avoid (lo hi : Nat) (c : Nat) : Bool := decide (c < lo) || decide (hi≤c)
def names (ops : Array Oper) (o : Oper) : List Tmp :=
 o.dst.toList ++ (o.op.operands.toList.filterMap fun | .tmp t => some t | _ => none) ++ (match o.guard with | some (j,_) => ((ops[j]?).bind (·.dst)).toList | none => [])
def dstOf (ops : Array Oper) (j : Nat) : Option Tmp := (ops[j]?).bind (·.dst)
def OpTri (P : Program) (ops : Array Oper) (o : Oper) (r : DRec) : Prop :=
 if Region.wanted o (yielded ops r.tm) = true then
   match evOp P (aeval r.tm) r.E o with
   | some (.value v,H1) => v = r.V∧H1 = r.F
   | some (.skip,H1) => r.V = undef∧H1 = r.F
   | some (.enter f args,H1) => Call P f args H1 fun v H2 => v = r.V∧H2 = r.F
   | none => match rowOf P (aeval r.tm) r.E o with
     | some (v,F1) => v = r.V∧F1 = r.F
     | none => match yieldOf (aeval r.tm) o with
       | some (b,args) => Yield P b args r.E fun v H2 => v = r.V∧H2 = r.F
       | none => False
 else r.V = undef∧r.E = r.F
structure DagOk (P : Program) (ops : Array Oper) (A : Nat→List Nat) (d : Nat→DRec) (G : Nat→Heap) (H0 : Heap) (t0 : Array Value) (sf : Nat→Option (Nat × Nat)) : Prop where
 select : Region.noSelect ops = true
 anc : ∀ (i : Nat) (o : Oper),ops[i]? = some o→∀ j ∈ A i,j < i∧∃ e ∈ o.after,Region.binds .any e = true∧(e.on = j∨j ∈ A e.on)
 ancLt : ∀ (i : Nat) (o : Oper),ops[i]? = some o→∀ e ∈ o.after,Region.binds .any e = true→e.on < i
 step : ∀ (i : Nat) (o : Oper),ops[i]? = some o→OpTri P ops o (d i)
 nms : ∀ (i : Nat) (o : Oper),ops[i]? = some o→∀ t ∈ names ops o,∀ j,j < ops.size→j ≠ i→dstOf ops j = some t→(j < i→j ∈ A i)∧(i < j→i ∈ A j)
 g0 : (d 0).g = H0.length
 lenE : ∀ i,i < ops.size→(d i).E.length = (d i).g
 lenF : ∀ i,i < ops.size→(d i).F.length = (d (i + 1)).g
 mono : ∀ i,i < ops.size→(d i).g≤(d (i + 1)).g
 tNew : ∀ i,i < ops.size→∀ b,(d i).g≤b→b < (d (i + 1)).g→b ∈ (d i).T
 tLt : ∀ i,i < ops.size→∀ b ∈ (d i).T,b < (d (i + 1)).g
 tOld : ∀ i,i < ops.size→∀ b,b < (d i).g→b ∉ (d i).T→(d i).F[b]? = (d i).E[b]?
 tVis : ∀ i,i < ops.size→∀ b ∈ (d i).T,b < (d i).g→(d i).E[b]? ≠ some .gone
 apart : ∀ i j,i < ops.size→j < ops.size→i ≠ j→i ∉ A j→j ∉ A i→∀ b ∈ (d j).T,b < (d i).g→(d i).E[b]? = some .gone∨sf i = some (j,b)
 soft : ∀ i j b,i < ops.size→sf i = some (j,b)→i < j∧j < ops.size∧(d i).T = []∧(d i).F.length = (d i).E.length∧b ∈ (d j).T∧b < (d i).g∧(d i).E[b]? ≠ some .gone ∧
   ∃ o',(d j).F[b]? = some o'∧o'.sc (d i).g = true∧∀ o,ops[i]? = some o→OpTri P ops o { d i with E := (d i).E.set b o',F := (d i).E.set b o' }
 heap0 : G 0 = H0
 heapT : ∀ i,i < ops.size→∀ b,b ∈ (d i).T→(G (i + 1))[b]? = (d i).F[b]?
 heapN : ∀ i,i < ops.size→∀ b,b ∉ (d i).T→(G (i + 1))[b]? = (G i)[b]?
 seen : ∀ i,i < ops.size→∀ b,b < (d i).g→(d i).E[b]? = some .gone∨(d i).E[b]? = (G i)[b]?
 tm0 : (d 0).tm = t0
 tmS : ∀ i,i < ops.size→(d (i + 1)).tm = aput (d i).tm (dstOf ops i) (d i).V
 valSc : ∀ i,i < ops.size→sc (d (i + 1)).g (d i).V = true
 away : ∀ i j,i < ops.size→j < i→j ∉ A i→nm (avoid (d j).g (d (j + 1)).g) (d i).V = true∧∀ b ∈ (d i).T,∀ o,(d i).F[b]? = some o→o.nm (avoid (d j).g (d (j + 1)).g) = true
theorem sc0_nm {n : Nat} {p : Nat→Bool} (hp : ∀ b,b < n→p b = true) {v : Value} (h : sc0 n v = true) : nm0 p v = true := by
 cases v with
 | pointer a => cases a with
   | none => rfl
   | some a => simp only [sc0,Bool.and_eq_true,decide_eq_true_eq] at h; exact hp _ h.1
 | slice a n c => cases a with
   | none => rfl
   | some a => simp only [sc0,decide_eq_true_eq] at h; exact hp _ h
 | map r => cases r with
   | none => rfl
   | some r => simp only [sc0,decide_eq_true_eq] at h; exact hp _ h
 | _ => rfl
theorem scA_nm {n : Nat} {p : Nat→Bool} (hp : ∀ b,b < n→p b = true) {v : Value} (h : scA n v = true) : nmA p v = true := by
 simp only [scA,Bool.or_eq_true] at h
 rcases h with h | h
 · have := sc0_nm hp h
   cases v <;> first | exact this | (simp [sc0] at h)
 · cases v <;> simp only [aggAll,Bool.false_eq_true] at h
   exact all_mono (fun _ => sc0_nm hp) _ h
theorem sc1_nm {n : Nat} {p : Nat→Bool} (hp : ∀ b,b < n→p b = true) {v : Value} (h : sc1 n v = true) : nm1 p v = true := by
 cases v with
 | func f a b =>
   cases f with
   | func g =>
     simp only [sc1,Bool.and_eq_true] at h
     simp only [nm1,Bool.and_eq_true]
     exact ⟨rfl,all_mono (fun _ => scA_nm hp) _ h.1,all_mono (fun _ => sc0_nm hp) _ h.2⟩
   | yield l =>
     simp only [sc1,Bool.and_eq_true,decide_eq_true_eq] at h
     simp only [nm1,Bool.and_eq_true]
     exact ⟨hp l h.1,all_mono (fun _ hv => scA_nm hp (scA_of_sc0 hv)) _ h.2.1,all_mono (fun _ => sc0_nm hp) _ h.2.2⟩
   | _ => simp [sc1,sc0] at h
 | pointer a => exact sc0_nm hp (v := .pointer a) h
 | slice a n c => exact sc0_nm hp (v := .slice a n c) h
 | map r => exact sc0_nm hp (v := .map r) h
 | _ => rfl
theorem sc2_nm {n : Nat} {p : Nat→Bool} (hp : ∀ b,b < n→p b = true) {v : Value} (h : sc2 n v = true) : nm2 p v = true := by
 cases v with
 | agg cs => exact all_mono (fun _ => sc1_nm hp) _ h
 | pointer a => exact sc1_nm hp (v := .pointer a) h
 | slice a n c => exact sc1_nm hp (v := .slice a n c) h
 | map r => exact sc1_nm hp (v := .map r) h
 | func f a b => exact sc1_nm hp (v := .func f a b) h
 | _ => rfl
theorem sc_nm {n : Nat} {p : Nat→Bool} (hp : ∀ b,b < n→p b = true) {v : Value} (h : sc n v = true) : nm p v = true := by
 cases v with
 | tuple vs => exact all_mono (fun _ => sc2_nm hp) _ h
 | agg cs => exact sc2_nm hp (v := .agg cs) h
 | pointer a => exact sc2_nm hp (v := .pointer a) h
 | slice a n c => exact sc2_nm hp (v := .slice a n c) h
 | map r => exact sc2_nm hp (v := .map r) h
 | func f a b => exact sc2_nm hp (v := .func f a b) h
 | _ => rfl
theorem AObj.sc_nm {n : Nat} {p : Nat→Bool} (hp : ∀ b,b < n→p b = true) {o : AObj} (h : o.sc n = true) : o.nm p = true := by
 cases o with
 | gone => rfl
 | mix cs => rfl
 | ro cs => exact List.all_eq_true.2 fun v hv => sc1_nm hp (List.all_eq_true.1 h v hv)
 | rw cs r => exact List.all_eq_true.2 fun v hv => sc1_nm hp (List.all_eq_true.1 h v hv)
 | map es c =>
   refine List.all_eq_true.2 fun e he => ?_
   have := List.all_eq_true.1 h e he
   simp only [Bool.and_eq_true] at this
   exact sc2_nm hp this.2
 | iter m a b c => simp only [AObj.sc,decide_eq_true_eq] at h; exact hp _ h
 | loop _ _ t _ _ _ => exact all_mono (p := Pier.sc n) (q := Pier.nm p) (fun _ => Pier.sc_nm hp) t h
structure DInv (ops : Array Oper) (A : Nat→List Nat) (d : Nat→DRec) (H0 : Heap) (t0 : Array Value) (ρ0 : Ren) (w0 : World) (S : Nat→Prop) (ρ : Ren) (t : Array Value) (Hs : Heap) (w : World) : Prop where
 rel : Rel ρ Hs w
 ext : Ext ρ0 H0 w0 ρ Hs w
 len : Hs.length = (d ops.size).g
 tsize : t.size = t0.size
 closed : ∀ i,i < ops.size→S i→∀ j ∈ A i,S j
 hpT : ∀ b j,j < ops.size→S j→b ∈ (d j).T→(∀ k,k < ops.size→S k→b ∈ (d k).T→k≤j)→Hs[b]? = (d j).F[b]?∧∀ o,Hs[b]? = some o→o.sc (d (j + 1)).g = true
 hpN : ∀ b,b < (d ops.size).g→(∀ j,j < ops.size→S j→b ∉ (d j).T)→Hs[b]? = (if b < (d 0).g then H0[b]? else some .gone)∧∀ o,Hs[b]? = some o→o.sc (d 0).g = true
 tmT : ∀ x j,j < ops.size→S j→dstOf ops j = some x→(∀ k,k < ops.size→S k→dstOf ops k = some x→k≤j)→x < t0.size→t[x]? = some (d j).V
 tmN : ∀ x,(∀ j,j < ops.size→S j→dstOf ops j ≠ some x)→t[x]? = t0[x]?
 away : ∀ i,i < ops.size→¬ S i→(∀ (b : Nat) (o : AObj),Hs[b]? = some o→o.nm (avoid (d i).g (d (i + 1)).g) = true)∧t.all (nm (avoid (d i).g (d (i + 1)).g)) = true
 tsc : t.all (sc Hs.length) = true
theorem exists_max {p : Nat→Prop} (n : Nat) (h : ∃ j,j < n∧p j) : ∃ j,j < n∧p j∧∀ k,k < n→p k→k≤j := by
 induction n with
 | zero => obtain ⟨j,hj,_⟩ := h; omega
 | succ n ih =>
   by_cases hn : p n
   · exact ⟨n,by omega,hn,fun k hk _ => by omega⟩
   · obtain ⟨j,hj,hp⟩ := h
     have hjn : j ≠ n := fun e => hn (e ▸ hp)
     obtain ⟨m,h1,h2,h3⟩ := ih ⟨j,by omega,hp⟩
     exact ⟨m,by omega,h2,fun k hk hpk => by
       by_cases hkn : k = n
       · exact absurd (hkn ▸ hpk) hn
       · exact h3 k (by omega) hpk⟩
variable {ops : Array Oper} {A : Nat→List Nat} {d : Nat→DRec} {G : Nat→Heap} {H0 : Heap} {t0 : Array Value} {sf : Nat→Option (Nat × Nat)}
theorem DagOk.mono' (D : DagOk P ops A d G H0 t0 sf) : ∀ {i j : Nat},i≤j→j≤ops.size→(d i).g≤(d j).g := by
 intro i j hij hj
 induction j with
 | zero => have : i = 0 := by omega
           subst this; exact Nat.le_refl _
 | succ j ih =>
   by_cases h : i = j + 1
   · subst h; exact Nat.le_refl _
   · exact Nat.le_trans (ih (by omega) (by omega)) (D.mono j (by omega))
theorem DagOk.textHeap (D : DagOk P ops A d G H0 t0 sf) (b : Nat) : ∀ i,i≤ops.size →
   (∀ j,j < i→b ∈ (d j).T→(∀ k,k < i→b ∈ (d k).T→k≤j)→(G i)[b]? = (d j).F[b]?)∧((∀ j,j < i→b ∉ (d j).T)→(G i)[b]? = H0[b]?) := by
 intro i
 induction i with
 | zero => intro _; exact ⟨fun j hj => by omega,fun _ => by rw [D.heap0]⟩
 | succ i ih =>
   intro hi
   obtain ⟨h1,h2⟩ := ih (by omega)
   by_cases hb : b ∈ (d i).T
   · refine ⟨fun j hj hbj hmax => ?_,fun hn => absurd hb (hn i (by omega))⟩
     have : j = i := by have := hmax i (by omega) hb; omega
     subst this
     exact D.heapT j (by omega) b hb
   · refine ⟨fun j hj hbj hmax => ?_,fun hn => ?_⟩
     · have hji : j ≠ i := fun e => hb (e ▸ hbj)
       rw [D.heapN i (by omega) b hb]
       exact h1 j (by omega) hbj fun k hk hbk => hmax k (by omega) hbk
     · rw [D.heapN i (by omega) b hb]
       exact h2 fun j hj => hn j (by omega)
theorem DagOk.textTm (D : DagOk P ops A d G H0 t0 sf) (x : Nat) : ∀ i,i≤ops.size→(d i).tm.size = t0.size ∧
   (∀ j,j < i→dstOf ops j = some x→(∀ k,k < i→dstOf ops k = some x→k≤j)→x < t0.size→(d i).tm[x]? = some (d j).V)∧((∀ j,j < i→dstOf ops j ≠ some x)→(d i).tm[x]? = t0[x]?) := by
 intro i
 induction i with
 | zero => intro _; exact ⟨by rw [D.tm0],fun j hj => by omega,fun _ => by rw [D.tm0]⟩
 | succ i ih =>
   intro hi
   obtain ⟨h0,h1,h2⟩ := ih (by omega)
   have e := D.tmS i (by omega)
   have hsz : (d (i + 1)).tm.size = t0.size := by rw [e]; cases dstOf ops i <;> simp [aput,h0]
   refine ⟨hsz,?_⟩
   by_cases hd : dstOf ops i = some x
   · refine ⟨fun j hj hbj hmax hx => ?_,fun hn => absurd hd (hn i (by omega))⟩
     have : j = i := by have := hmax i (by omega) hd; omega
     subst this
     rw [e,hd]
     have : x < (d j).tm.size := by omega
     simp [aput,this]
   · have hne : (d (i + 1)).tm[x]? = (d i).tm[x]? := by
       rw [e]
       cases hq : dstOf ops i with
       | none => rfl
       | some y =>
         have : y ≠ x := fun e => hd (by rw [hq,e])
         simp [aput,Array.getElem?_setIfInBounds_ne this]
     refine ⟨fun j hj hbj hmax hx => ?_,fun hn => ?_⟩
     · have hji : j ≠ i := fun e => hd (e ▸ hbj)
       rw [hne]
       exact h1 j (by omega) hbj (fun k hk hbk => hmax k (by omega) hbk) hx
     · rw [hne]
       exact h2 fun j hj => hn j (by omega)
theorem DagOk.textSc (D : DagOk P ops A d G H0 t0 sf) (h0 : t0.all (sc H0.length) = true) : ∀ i,i≤ops.size→(d i).tm.all (sc (d i).g) = true := by
 intro i
 induction i with
 | zero => intro _; rw [D.tm0,D.g0]; exact h0
 | succ i ih =>
   intro hi
   rw [D.tmS i (by omega)]
   exact aput_sc (all_mono (fun _ => sc_mono (D.mono i (by omega))) _ (ih (by omega))) (D.valSc i (by omega))
end Go.Pier
