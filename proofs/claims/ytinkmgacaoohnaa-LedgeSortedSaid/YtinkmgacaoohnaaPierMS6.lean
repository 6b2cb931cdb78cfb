import Derived.Test.YtinkmgacaoohnaaPierMS4
import Derived.KernelRfl
import Derived.Test.YtinkmgacaoohnaaPierMS5
set_option linter.unusedSimpArgs false
set_option linter.unusedVariables false
set_option maxRecDepth 100000
set_option linter.unusedVariables false
set_option linter.unusedSimpArgs false
namespace Go.Pier.Lg
open Go Go.Pier Go.Proofs
end Go.Pier.Lg
set_option maxRecDepth 100000
set_option linter.unusedVariables false
set_option linter.unusedSimpArgs false
namespace Go.Pier.Lg
open Go Go.Pier Go.Proofs
def cntGe (l : List Int) (p : Nat) : Nat := (l.filter fun x => decide ((p : Int) ≤ x)).length
def takGe (n : Nat) (tk : Nat → Bool) (p : Nat) : Nat := ((List.range n).filter fun i => tk i && decide (p ≤ i)).length
def overI (n : Nat) (l : List Int) (p : Nat) : Int := (p : Int) - n + cntGe l p
theorem takGe_upd {n : Nat} {tk : Nat → Bool} {a p : Nat} (ha : a < n) (h : tk a = false) : takGe n (updB tk a) p = takGe n tk p + if p ≤ a then 1 else 0 := by
  unfold takGe
  induction n with
  | zero => omega
  | succ n ih =>
    rw [List.range_succ, List.filter_append, List.filter_append, List.length_append, List.length_append]
    by_cases e : a = n
    · subst e
      have e1 : (List.range a).filter (fun i => updB tk a i && decide (p ≤ i)) = (List.range a).filter fun i => tk i && decide (p ≤ i) := List.filter_congr fun x hx => by rw [updB_ne (by have := List.mem_range.1 hx; omega)]
      have e2 : updB tk a a = true := updB_self
      rw [e1]
      by_cases hp : p ≤ a <;> simp [e2, h, hp]
    · have e2 : updB tk a n = tk n := updB_ne (Ne.symm e)
      rw [ih (by omega)]
      simp only [List.filter_cons, e2, List.filter_nil]
      split <;> simp <;> omega
theorem takGe_le {n : Nat} {tk : Nat → Bool} {p : Nat} (hp : p ≤ n) : takGe n tk p ≤ n - p := by
  unfold takGe
  induction n with
  | zero => simp
  | succ n ih =>
    rw [List.range_succ, List.filter_append, List.length_append]
    by_cases e : p ≤ n
    · have := ih e
      simp only [List.filter_cons, List.filter_nil]
      split <;> simp <;> omega
    · have e1 : (List.range n).filter (fun i => tk i && decide (p ≤ i)) = [] := List.filter_eq_nil_iff.2 fun x hx => by have := List.mem_range.1 hx; simp; omega
      rw [e1]
      have : ¬ p ≤ n := e
      simp [this]
theorem takGe_all {n : Nat} {tk : Nat → Bool} {p : Nat} (hp : p ≤ n) (h : ∀ i, p ≤ i → i < n → tk i = true) : takGe n tk p = n - p := by
  unfold takGe
  induction n with
  | zero => simp
  | succ n ih =>
    rw [List.range_succ, List.filter_append, List.length_append]
    by_cases e : p ≤ n
    · rw [ih e fun i h1 h2 => h i h1 (by omega)]
      simp [e, h n e (by omega)]; omega
    · have e1 : (List.range n).filter (fun i => tk i && decide (p ≤ i)) = [] := List.filter_eq_nil_iff.2 fun x hx => by have := List.mem_range.1 hx; simp; omega
      rw [e1]
      have : ¬ p ≤ n := e
      simp [this]; omega
theorem cntGe_cons {x : Int} {l : List Int} {p : Nat} : cntGe (x :: l) p = cntGe l p + if (p : Int) ≤ x then 1 else 0 := by
  unfold cntGe
  rw [List.filter_cons]
  by_cases h : (p : Int) ≤ x <;> simp [h]
abbrev St3 := (Nat → Bool) × Int × Int
theorem stepC_ge {n : Nat} {s : St3} {d p : Nat} (hd : d < n) : (takGe n (stepC n s d).1 p : Int) + (stepC n s d).2.2 ≥ takGe n s.1 p + s.2.2 + if p ≤ d then 1 else 0 := by
  obtain ⟨tk, sl, fe⟩ := s
  obtain ⟨a1, a2, a3, a4⟩ := endAt_spec (tk := tk) (show d ≤ n by omega)
  unfold stepC
  by_cases e : endAt n tk d < n
  · simp only [e, if_true]
    rw [takGe_upd e (a4 e)]
    by_cases h1 : p ≤ d
    · rw [if_pos h1, if_pos (by omega)]; omega
    · rw [if_neg h1]; split <;> omega
  · simp only [e, if_false]
    split <;> omega
theorem stepC_mono {n : Nat} {s : St3} {d i : Nat} (h : s.1 i = true) : (stepC n s d).1 i = true := by
  unfold stepC
  split
  · exact updB_at.2 (.inr h)
  · exact h
theorem stepC_eq {n : Nat} {s : St3} {d q : Nat} (hd : d < n) (hq : q < n) (hf : (stepC n s d).1 q = false) : (takGe n (stepC n s d).1 (q + 1) : Int) + (stepC n s d).2.2 = takGe n s.1 (q + 1) + s.2.2 + if q + 1 ≤ d then 1 else 0 := by
  have hf0 : s.1 q = false := by
    cases h : s.1 q with
    | false => rfl
    | true => rw [stepC_mono h] at hf; cases hf
  obtain ⟨tk, sl, fe⟩ := s
  obtain ⟨a1, a2, a3, a4⟩ := endAt_spec (tk := tk) (show d ≤ n by omega)
  simp only at hf0
  have hpast : d ≤ q → endAt n tk d ≤ q := fun h => by
    rcases Nat.lt_or_ge q (endAt n tk d) with k | k
    · have := a3 q h k
      rw [hf0] at this; cases this
    · exact k
  unfold stepC at hf ⊢
  by_cases e : endAt n tk d < n
  · simp only [e, if_true] at hf ⊢
    have hne : endAt n tk d ≠ q := fun h => by rw [h, updB_self] at hf; cases hf
    rw [takGe_upd e (a4 e)]
    by_cases h1 : q + 1 ≤ d
    · rw [if_pos h1, if_pos (by omega)]; omega
    · have := hpast (by omega)
      rw [if_neg h1, if_neg (by omega)]; omega
  · simp only [e, if_false]
    by_cases h1 : q + 1 ≤ d
    · rw [if_pos h1]; omega
    · have := hpast (by omega); omega
theorem stepC_all {n : Nat} {s : St3} {d : Nat} (hd : d < n) : (takGe n (stepC n s d).1 0 : Int) + (stepC n s d).2.2 = takGe n s.1 0 + s.2.2 + 1 := by
  obtain ⟨tk, sl, fe⟩ := s
  obtain ⟨a1, a2, a3, a4⟩ := endAt_spec (tk := tk) (show d ≤ n by omega)
  unfold stepC
  by_cases e : endAt n tk d < n
  · simp only [e, if_true]
    rw [takGe_upd e (a4 e), if_pos (Nat.zero_le _)]; omega
  · simp only [e, if_false]; omega
def foldC (n : Nat) (l : List Int) (s : St3) : St3 := l.foldl (fun t d => stepC n t d.toNat) s
theorem foldC_mono {n : Nat} {i : Nat} : ∀ {l : List Int} {s : St3}, s.1 i = true → (foldC n l s).1 i = true
  | [], _, h => h
  | x :: l, s, h => foldC_mono (l := l) (stepC_mono h)
theorem foldC_ge {n p : Nat} : ∀ {l : List Int} {s : St3}, (∀ x ∈ l, 0 ≤ x ∧ x < (n : Int)) → (takGe n (foldC n l s).1 p : Int) + (foldC n l s).2.2 ≥ takGe n s.1 p + s.2.2 + cntGe l p
  | [], s, _ => by simp [foldC, cntGe]
  | x :: l, s, h => by
    have hx := h x List.mem_cons_self
    have h1 := foldC_ge (p := p) (l := l) (s := stepC n s x.toNat) fun y hy => h y (List.mem_cons_of_mem _ hy)
    have h2 := stepC_ge (n := n) (s := s) (d := x.toNat) (p := p) (by omega)
    rw [cntGe_cons]
    show (takGe n (foldC n l (stepC n s x.toNat)).1 p : Int) + (foldC n l (stepC n s x.toNat)).2.2 ≥ _
    by_cases hp : (p : Int) ≤ x
    · rw [if_pos (by omega)] at h2
      rw [if_pos hp]; push_cast; omega
    · rw [if_neg (by omega)] at h2
      rw [if_neg hp]; push_cast; omega
theorem foldC_eq {n q : Nat} (hq : q < n) : ∀ {l : List Int} {s : St3}, (∀ x ∈ l, 0 ≤ x ∧ x < (n : Int)) → (foldC n l s).1 q = false → (takGe n (foldC n l s).1 (q + 1) : Int) + (foldC n l s).2.2 = takGe n s.1 (q + 1) + s.2.2 + cntGe l (q + 1)
  | [], s, _, _ => by simp [foldC, cntGe]
  | x :: l, s, h, hf => by
    have hx := h x List.mem_cons_self
    have h1 := foldC_eq hq (l := l) (s := stepC n s x.toNat) (fun y hy => h y (List.mem_cons_of_mem _ hy)) hf
    have hf1 : (stepC n s x.toNat).1 q = false := by
      cases k : (stepC n s x.toNat).1 q with
      | false => rfl
      | true =>
        have : (foldC n (x :: l) s).1 q = true := foldC_mono (l := l) k
        rw [this] at hf; cases hf
    have h2 := stepC_eq (n := n) (s := s) (d := x.toNat) (by omega) hq hf1
    rw [cntGe_cons]
    show (takGe n (foldC n l (stepC n s x.toNat)).1 (q + 1) : Int) + (foldC n l (stepC n s x.toNat)).2.2 = _
    by_cases hp : ((q + 1 : Nat) : Int) ≤ x
    · rw [if_pos (by omega)] at h2
      rw [if_pos hp]; push_cast at *; omega
    · rw [if_neg (by omega)] at h2
      rw [if_neg hp]; push_cast at *; omega
theorem foldC_all {n : Nat} : ∀ {l : List Int} {s : St3}, (∀ x ∈ l, 0 ≤ x ∧ x < (n : Int)) → (takGe n (foldC n l s).1 0 : Int) + (foldC n l s).2.2 = takGe n s.1 0 + s.2.2 + l.length
  | [], s, _ => by simp [foldC]
  | x :: l, s, h => by
    have hx := h x List.mem_cons_self
    have h1 := foldC_all (l := l) (s := stepC n s x.toNat) (fun y hy => h y (List.mem_cons_of_mem _ hy))
    have h2 := stepC_all (n := n) (s := s) (d := x.toNat) (by omega)
    show (takGe n (foldC n l (stepC n s x.toNat)).1 0 : Int) + (foldC n l (stepC n s x.toNat)).2.2 = _
    rw [h1, h2, List.length_cons]; push_cast; omega
theorem takGe_emp {n p : Nat} : takGe n emp p = 0 := by unfold takGe emp; simp
theorem run_core {n : Nat} {l : List Int} (h : ∀ x ∈ l, 0 ≤ x ∧ x < (n : Int)) : core (runA n l) = foldC n l (emp, 0, 0) := by
  unfold runA runP
  rw [core_run h]; rfl
theorem last_free (tk : Nat → Bool) : ∀ n : Nat, (∀ i, i < n → tk i = true) ∨ ∃ q, q < n ∧ tk q = false ∧ ∀ i, q + 1 ≤ i → i < n → tk i = true
  | 0 => .inl fun i h => absurd h (Nat.not_lt_zero _)
  | n + 1 => by
    cases h : tk n with
    | false => exact .inr ⟨n, by omega, h, fun i h1 h2 => by omega⟩
    | true =>
      rcases last_free tk n with k | ⟨q, k1, k2, k3⟩
      · exact .inl fun i hi => by
          rcases Nat.lt_or_ge i n with e | e
          · exact k i e
          · rw [show i = n by omega]; exact h
      · exact .inr ⟨q, by omega, k2, fun i h1 h2 => by
          rcases Nat.lt_or_ge i n with e | e
          · exact k3 i h1 e
          · rw [show i = n by omega]; exact h⟩
theorem over_le {n : Nat} {l : List Int} (h : ∀ x ∈ l, 0 ≤ x ∧ x < (n : Int)) {p : Nat} (hp : p ≤ n) : overI n l p ≤ (runA n l).fell := by
  have hc := run_core h
  have h1 : (runA n l).tk = (foldC n l (emp, 0, 0)).1 := congrArg (·.1) hc
  have h2 : (runA n l).fell = (foldC n l (emp, 0, 0)).2.2 := congrArg (·.2.2) hc
  have h3 := foldC_ge (p := p) (s := (emp, 0, 0)) h
  have h4 := takGe_le (tk := (foldC n l (emp, 0, 0)).1) hp
  rw [takGe_emp] at h3
  rw [h2]
  unfold overI
  simp only at h3
  omega
theorem over_is {n : Nat} {l : List Int} (h : ∀ x ∈ l, 0 ≤ x ∧ x < (n : Int)) : ∃ p, p ≤ n ∧ overI n l p = (runA n l).fell := by
  have hc := run_core h
  have h1 : (runA n l).tk = (foldC n l (emp, 0, 0)).1 := congrArg (·.1) hc
  have h2 : (runA n l).fell = (foldC n l (emp, 0, 0)).2.2 := congrArg (·.2.2) hc
  rcases last_free (foldC n l (emp, 0, 0)).1 n with k | ⟨q, k1, k2, k3⟩
  · refine ⟨0, Nat.zero_le _, ?_⟩
    have h3 := foldC_all (s := (emp, 0, 0)) h
    rw [takGe_emp, takGe_all (Nat.zero_le _) fun i _ hi => k i hi] at h3
    have h5 : cntGe l 0 = l.length := by
      unfold cntGe
      rw [List.filter_eq_self.2 fun x hx => by have := h x hx; simp; omega]
    rw [h2]
    unfold overI
    rw [h5]
    simp only at h3
    omega
  · refine ⟨q + 1, k1, ?_⟩
    have h3 := foldC_eq k1 (s := (emp, 0, 0)) h k2
    rw [takGe_emp, takGe_all k1 k3] at h3
    rw [h2]
    unfold overI
    simp only at h3
    omega
end Go.Pier.Lg
set_option maxRecDepth 100000
set_option linter.unusedVariables false
set_option linter.unusedSimpArgs false
namespace Go.Pier.Lg
open Go Go.Pier Go.Proofs
def sumTk (n : Nat) (tk : Nat → Bool) : Int := (((List.range n).filter tk).map Int.ofNat).sum
theorem sumTk_upd {n : Nat} {tk : Nat → Bool} {a : Nat} (ha : a < n) (h : tk a = false) : sumTk n (updB tk a) = sumTk n tk + a := by
  unfold sumTk
  induction n with
  | zero => omega
  | succ n ih =>
    rw [List.range_succ, List.filter_append, List.filter_append, List.map_append, List.map_append, List.sum_append, List.sum_append]
    by_cases e : a = n
    · subst e
      have e1 : (List.range a).filter (updB tk a) = (List.range a).filter tk := List.filter_congr fun x hx => updB_ne (by have := List.mem_range.1 hx; omega)
      have e2 : updB tk a a = true := updB_self
      rw [e1]
      simp [e2, h]
    · have e2 : updB tk a n = tk n := updB_ne (Ne.symm e)
      rw [ih (by omega)]
      simp only [List.filter_cons, e2, List.filter_nil]
      split <;> simp <;> omega
theorem sumTk_all {n : Nat} {tk : Nat → Bool} (h : ∀ i, i < n → tk i = true) : sumTk n tk = ((List.range n).map Int.ofNat).sum := by
  unfold sumTk
  rw [List.filter_eq_self.2 fun x hx => h x (List.mem_range.1 hx)]
theorem stepC_slid {n : Nat} {s : St3} {d : Nat} (hd : d < n) (hf : (stepC n s d).2.2 = s.2.2) : (stepC n s d).2.1 - sumTk n (stepC n s d).1 = s.2.1 - sumTk n s.1 - d := by
  obtain ⟨tk, sl, fe⟩ := s
  obtain ⟨a1, a2, a3, a4⟩ := endAt_spec (tk := tk) (show d ≤ n by omega)
  unfold stepC at hf ⊢
  by_cases e : endAt n tk d < n
  · simp only [e, if_true]
    rw [sumTk_upd e (a4 e)]; omega
  · simp only [e, if_false] at hf; omega
theorem stepC_fell {n : Nat} {s : St3} {d : Nat} : s.2.2 ≤ (stepC n s d).2.2 := by
  unfold stepC
  split
  · exact Int.le_refl _
  · show s.2.2 ≤ s.2.2 + 1; omega
theorem foldC_fell {n : Nat} : ∀ {l : List Int} {s : St3}, s.2.2 ≤ (foldC n l s).2.2
  | [], _ => Int.le_refl _
  | x :: l, s => Int.le_trans stepC_fell (foldC_fell (l := l) (s := stepC n s x.toNat))
theorem foldC_slid {n : Nat} : ∀ {l : List Int} {s : St3}, (∀ x ∈ l, 0 ≤ x ∧ x < (n : Int)) → (foldC n l s).2.2 = s.2.2 → (foldC n l s).2.1 - sumTk n (foldC n l s).1 = s.2.1 - sumTk n s.1 - l.sum
  | [], s, _, _ => by simp [foldC]
  | x :: l, s, h, hf => by
    have hx := h x List.mem_cons_self
    have f1 := stepC_fell (n := n) (s := s) (d := x.toNat)
    have f2 := foldC_fell (n := n) (l := l) (s := stepC n s x.toNat)
    have hf' : (foldC n l (stepC n s x.toNat)).2.2 = s.2.2 := hf
    have h1 := foldC_slid (l := l) (s := stepC n s x.toNat) (fun y hy => h y (List.mem_cons_of_mem _ hy)) (by omega)
    have h2 := stepC_slid (n := n) (s := s) (d := x.toNat) (by omega) (by omega)
    show (foldC n l (stepC n s x.toNat)).2.1 - sumTk n (foldC n l (stepC n s x.toNat)).1 = _
    rw [h1, h2, List.sum_cons]; omega
theorem slid_full {n : Nat} {l : List Int} (h : ∀ x ∈ l, 0 ≤ x ∧ x < (n : Int)) (hn : l.length = n) (hf : (runA n l).fell = 0) : (runA n l).slid = ((List.range n).map Int.ofNat).sum - l.sum := by
  have hc := run_core h
  have h1 : (runA n l).tk = (foldC n l (emp, 0, 0)).1 := congrArg (·.1) hc
  have h2 : (runA n l).fell = (foldC n l (emp, 0, 0)).2.2 := congrArg (·.2.2) hc
  have h3 : (runA n l).slid = (foldC n l (emp, 0, 0)).2.1 := congrArg (·.2.1) hc
  have k1 : (foldC n l (emp, 0, 0)).2.1 - sumTk n (foldC n l (emp, 0, 0)).1 = 0 - sumTk n emp - l.sum := foldC_slid (s := (emp, 0, 0)) h (by rw [← h2, hf])
  have k2 : (takGe n (foldC n l (emp, 0, 0)).1 0 : Int) + (foldC n l (emp, 0, 0)).2.2 = (takGe n emp 0 : Int) + 0 + l.length := foldC_all (s := (emp, 0, 0)) h
  rw [takGe_emp] at k2
  have k3 : takGe n (foldC n l (emp, 0, 0)).1 0 = n := by omega
  have k4 : ∀ i, i < n → (foldC n l (emp, 0, 0)).1 i = true := by
    rcases last_free (foldC n l (emp, 0, 0)).1 n with k | ⟨q, q1, q2, q3⟩
    · exact k
    · exfalso
      have u := takGe_upd (p := 0) q1 q2
      have v := takGe_le (n := n) (tk := updB (foldC n l (emp, 0, 0)).1 q) (p := 0) (Nat.zero_le _)
      rw [if_pos (Nat.zero_le _)] at u
      omega
  rw [sumTk_all k4] at k1
  have k5 : sumTk n emp = 0 := by unfold sumTk; rw [List.filter_eq_nil_iff.2 fun x _ => by simp [emp]]; rfl
  rw [k5] at k1
  rw [h3]; omega
end Go.Pier.Lg
set_option maxRecDepth 100000
set_option linter.unusedVariables false
set_option linter.unusedSimpArgs false
namespace Go.Pier.Lg
open Go Go.Pier Go.Proofs
def dS (D : Nat → Int) (i : Nat) : List Int := (List.range i).map D
def rowB (s : List Int) (i : Nat) : Bool := (List.range i).all fun j => decide (s.getD j 0 ≤ (j : Int))
def farI (s : List Int) (i : Nat) : Int := ((List.range i).map fun (j : Nat) => (j : Int) - s.getD j 0).sum
def SortTo (d s : List Int) (i : Nat) : Prop := s.Perm d ∧ ∀ a b, a < b → b < i → s.getD a 0 ≤ s.getD b 0
def SortAt (d s : List Int) (i k : Nat) : Prop := s.Perm d ∧ (∀ a b, a < b → b ≤ i → a ≠ k → b ≠ k → s.getD a 0 ≤ s.getD b 0) ∧ ∀ b, k < b → b ≤ i → s.getD k 0 ≤ s.getD b 0
theorem dS_len {D : Nat → Int} {i : Nat} : (dS D i).length = i := by simp [dS]
theorem dS_succ {D : Nat → Int} {i : Nat} : dS D (i + 1) = dS D i ++ [D i] := by simp [dS, List.range_succ]
theorem rowB_succ {s : List Int} {i : Nat} : rowB s (i + 1) = (rowB s i && decide (s.getD i 0 ≤ (i : Int))) := by simp [rowB, List.range_succ]
theorem farI_succ {s : List Int} {i : Nat} : farI s (i + 1) = farI s i + ((i : Int) - s.getD i 0) := by simp [farI, List.range_succ, List.sum_append]
theorem farI_bd {s : List Int} {n : Nat} (h : ∀ j, j < n → 0 ≤ s.getD j 0 ∧ s.getD j 0 < (n : Int)) : ∀ {i : Nat}, i ≤ n → -((n : Int) * i) ≤ farI s i ∧ farI s i ≤ n * i
  | 0, _ => by simp [farI]
  | i + 1, hi => by
    have h1 := farI_bd h (i := i) (by omega)
    have h2 := h i (by omega)
    have e : (n : Int) * ((i + 1 : Nat) : Int) = n * i + n := by push_cast; rw [Int.mul_add, Int.mul_one]
    rw [farI_succ, e]
    omega
theorem getD_set {s : List Int} {k j : Nat} {v : Int} : (s.set k v).getD j 0 = if k = j ∧ j < s.length then v else s.getD j 0 := by
  rw [List.getD_eq_getElem?_getD, List.getElem?_set, List.getD_eq_getElem?_getD]
  by_cases h : k = j
  · subst h
    by_cases h2 : k < s.length
    · simp [h2]
    · simp [h2]
  · simp [h]
theorem sort_one {d : List Int} : SortTo d d 1 := ⟨List.Perm.refl _, fun a b h1 h2 => by omega⟩
theorem sort_begin {d s : List Int} {i : Nat} (h : SortTo d s i) : SortAt d s i i :=
  ⟨h.1, fun a b h1 h2 h3 h4 => h.2 a b h1 (by omega), fun b h1 h2 => by omega⟩
theorem sort_step {d s : List Int} {i k : Nat} (hi : i < s.length) (hk : 0 < k) (hki : k ≤ i) (h : SortAt d s i k) (hlt : s.getD k 0 < s.getD (k - 1) 0) : SortAt d ((s.set k (s.getD (k - 1) 0)).set (k - 1) (s.getD k 0)) i (k - 1) := by
  obtain ⟨h1, h2, h3⟩ := h
  have g : ∀ j, j ≤ i → ((s.set k (s.getD (k - 1) 0)).set (k - 1) (s.getD k 0)).getD j 0 = if j = k - 1 then s.getD k 0 else if j = k then s.getD (k - 1) 0 else s.getD j 0 := fun j hj => by
    rw [getD_set, getD_set, List.length_set]
    by_cases e1 : j = k - 1
    · rw [if_pos ⟨e1.symm, by omega⟩, if_pos e1]
    · rw [if_neg (fun h => e1 h.1.symm), if_neg e1]
      by_cases e2 : j = k
      · rw [if_pos ⟨e2.symm, by omega⟩, if_pos e2]
      · rw [if_neg (fun h => e2 h.1.symm), if_neg e2]
  refine ⟨(swap_perm (l := s) (i := k) (k := k - 1) (by omega) (by omega)).trans h1, fun a b k1 k2 k3 k4 => ?_, fun b k1 k2 => ?_⟩
  · rw [g a (by omega), g b k2, if_neg k3, if_neg k4]
    by_cases e1 : a = k
    · rw [if_pos e1, if_neg (by omega)]
      exact h2 (k - 1) b (by omega) k2 (by omega) (by omega)
    · rw [if_neg e1]
      by_cases e2 : b = k
      · rw [if_pos e2]
        exact h2 a (k - 1) (by omega) (by omega) e1 (by omega)
      · rw [if_neg e2]
        exact h2 a b k1 k2 e1 e2
  · rw [g (k - 1) (by omega), g b k2, if_pos rfl, if_neg (by omega)]
    by_cases e2 : b = k
    · rw [if_pos e2]; omega
    · rw [if_neg e2]
      exact h3 b (by omega) k2
theorem sort_end {d s : List Int} {i k : Nat} (hki : k ≤ i) (h : SortAt d s i k) (he : k = 0 ∨ s.getD (k - 1) 0 ≤ s.getD k 0) : SortTo d s (i + 1) := by
  obtain ⟨h1, h2, h3⟩ := h
  refine ⟨h1, fun a b k1 k2 => ?_⟩
  by_cases e1 : a = k
  · subst e1
    exact h3 b k1 (by omega)
  · by_cases e2 : b = k
    · subst e2
      rcases he with he | he
      · omega
      · by_cases e3 : a = b - 1
        · rw [e3]; exact he
        · have := h2 a (b - 1) (by omega) (by omega) e1 (by omega)
          omega
    · exact h2 a b k1 (by omega) e1 e2
theorem cntGe_perm {s d : List Int} (h : s.Perm d) (p : Nat) : cntGe s p = cntGe d p := (h.filter _).length_eq
theorem sum_perm {s d : List Int} (h : s.Perm d) : s.sum = d.sum := by
  induction h with
  | nil => rfl
  | cons x _ ih => rw [List.sum_cons, List.sum_cons, ih]
  | swap x y l => simp only [List.sum_cons]; omega
  | trans _ _ h1 h2 => rw [h1, h2]
theorem far_sum {s : List Int} : ∀ {i : Nat}, i ≤ s.length → farI s i = ((List.range i).map Int.ofNat).sum - (s.take i).sum
  | 0, _ => by simp [farI]
  | i + 1, h => by
    rw [farI_succ, far_sum (i := i) (by omega), List.take_succ_eq_append_getElem h, List.range_succ, List.map_append, List.sum_append, List.sum_append, List.getD_eq_getElem?_getD, List.getElem?_eq_getElem h]
    simp
    omega
theorem row_all {s : List Int} {n : Nat} : rowB s n = true ↔ ∀ j, j < n → s.getD j 0 ≤ (j : Int) := by
  unfold rowB
  rw [List.all_eq_true]
  exact ⟨fun h j hj => of_decide_eq_true (h j (List.mem_range.2 hj)), fun h j hj => decide_eq_true (h j (List.mem_range.1 hj))⟩
theorem cnt_app {a b : List Int} {p : Nat} : cntGe (a ++ b) p = cntGe a p + cntGe b p := by simp [cntGe]
theorem row_cnt {s : List Int} {n p : Nat} (hn : s.length = n) (hp : p ≤ n) (h : ∀ j, j < n → s.getD j 0 ≤ (j : Int)) : cntGe s p ≤ n - p := by
  have e : s = s.take p ++ s.drop p := (List.take_append_drop p s).symm
  rw [e, cnt_app]
  have h1 : cntGe (s.take p) p = 0 := by
    unfold cntGe
    rw [List.filter_eq_nil_iff.2]
    · rfl
    · intro x hx
      obtain ⟨j, hj, rfl⟩ := List.mem_iff_getElem.1 hx
      rw [List.length_take] at hj
      have := h j (by omega)
      rw [List.getD_eq_getElem?_getD, List.getElem?_eq_getElem (by omega)] at this
      rw [List.getElem_take]
      have : s[j] ≤ (j : Int) := this
      simp; omega
  have h2 : cntGe (s.drop p) p ≤ n - p := by
    have := List.length_filter_le (fun x => decide ((p : Int) ≤ x)) (s.drop p)
    rw [List.length_drop] at this
    unfold cntGe; omega
  omega
theorem not_row_cnt {s : List Int} {n i : Nat} (hn : s.length = n) (hi : i < n) (hs : ∀ a b, a < b → b < n → s.getD a 0 ≤ s.getD b 0) (h : (i : Int) < s.getD i 0) : n - (i + 1) < cntGe s (i + 1) := by
  have e : s = s.take i ++ s.drop i := (List.take_append_drop i s).symm
  have h2 : cntGe (s.drop i) (i + 1) = n - i := by
    unfold cntGe
    rw [List.filter_eq_self.2, List.length_drop, hn]
    intro x hx
    obtain ⟨j, hj, rfl⟩ := List.mem_iff_getElem.1 hx
    rw [List.length_drop] at hj
    rw [List.getElem_drop]
    have : s.getD i 0 ≤ s.getD (i + j) 0 := by
      rcases Nat.eq_zero_or_pos j with e | e
      · subst e; exact Int.le_refl _
      · exact hs i (i + j) (by omega) (by omega)
    rw [List.getD_eq_getElem?_getD (i := i + j), List.getElem?_eq_getElem (by omega)] at this
    have : s.getD i 0 ≤ s[i + j] := this
    simp; omega
  have h3 : cntGe s (i + 1) = cntGe (s.take i) (i + 1) + cntGe (s.drop i) (i + 1) := by rw [← cnt_app, ← e]
  omega
theorem whL_takGe {n : Nat} {tk : Nat → Bool} : (whL tk n).length = takGe n tk 0 := by
  unfold whL takGe
  rw [List.length_map]
  congr 2
  funext i; simp
structure SoFacts (n : Nat) (d s : List Int) : Prop where
  led : ledC n d = if rowB s n = true then 0 else 20
  len : ((whL (runA n d).tk n).length = n) ↔ rowB s n = true
  slid : rowB s n = true → (runA n d).slid = farI s n
theorem so_facts {n : Nat} {d s : List Int} (hb : ∀ x ∈ d, 0 ≤ x ∧ x < (n : Int)) (hd : d.length = n) (hs : SortTo d s n) (hl : s.length = n) : SoFacts n d s := by
  obtain ⟨hp, ho⟩ := hs
  have hc := run_core hb
  have c1 : (runA n d).tk = (foldC n d (emp, 0, 0)).1 := congrArg (·.1) hc
  have c2 : (runA n d).fell = (foldC n d (emp, 0, 0)).2.2 := congrArg (·.2.2) hc
  have k2 : (takGe n (foldC n d (emp, 0, 0)).1 0 : Int) + (foldC n d (emp, 0, 0)).2.2 = (takGe n emp 0 : Int) + 0 + d.length := foldC_all (s := (emp, 0, 0)) hb
  rw [takGe_emp, ← c1, ← c2, ← whL_takGe] at k2
  have h0 : (runA n d).fell = 0 ↔ rowB s n = true := by
    rw [row_all]
    constructor
    · intro hf j hj
      rcases Int.lt_or_le (j : Int) (s.getD j 0) with e | e
      · have h1 := not_row_cnt hl hj ho e
        have h2 := over_le hb (p := j + 1) (by omega)
        rw [cntGe_perm hp] at h1
        unfold overI at h2
        omega
      · exact e
    · intro h
      obtain ⟨p, h1, h2⟩ := over_is hb
      have h3 := row_cnt hl h1 h
      rw [cntGe_perm hp] at h3
      have h4 := fell_nn (ar := false) hb
      have h4 : 0 ≤ (runA n d).fell := h4
      unfold overI at h2
      omega
  refine ⟨?_, ?_, fun h => ?_⟩
  · unfold ledC
    by_cases e : (runA n d).fell = 0
    · rw [if_pos e, if_pos (h0.1 e)]
    · rw [if_neg e, if_neg fun k => e (h0.2 k)]
  · rw [← h0]; omega
  · rw [slid_full hb hd (h0.2 h), far_sum (i := n) (by omega), List.take_of_length_le (by omega), sum_perm hp]
end Go.Pier.Lg
