import Derived.Test.YtinkmgacaoohnaaPierLaround
import Derived.KernelRfl
set_option linter.unusedSimpArgs false
set_option linter.unusedVariables false
set_option maxRecDepth 100000
set_option linter.unusedVariables false
set_option linter.unusedSimpArgs false
namespace Go.Pier.Lg
open Go Go.Pier Go.Proofs
def cntGe (l : List Int) (p : Nat) : Nat := (l.filter fun x => decide ((p : Int) ≤ x)).length
def takGe (n : Nat) (tk : Nat → Bool) (p : Nat) : Nat := ((List.range n).filter fun i => tk i && decide (p ≤ i)).length
def overI (n : Nat) (l : List Int) (p : Nat) : Int := (p : Int) - n + cntGe l p
theorem takGe_upd {n : Nat} {tk : Nat → Bool} {a p : Nat} (ha : a < n) (h : tk a = false) : takGe n (updB tk a) p = takGe n tk p + if p ≤ a then 1 else 0 := by
  unfold takGe
  induction n with
  | zero => omega
  | succ n ih =>
    rw [List.range_succ, List.filter_append, List.filter_append, List.length_append, List.length_append]
    by_cases e : a = n
    · subst e
      have e1 : (List.range a).filter (fun i => updB tk a i && decide (p ≤ i)) = (List.range a).filter fun i => tk i && decide (p ≤ i) := List.filter_congr fun x hx => by rw [updB_ne (by have := List.mem_range.1 hx; omega)]
      have e2 : updB tk a a = true := updB_self
      rw [e1]
      by_cases hp : p ≤ a <;> simp [e2, h, hp]
    · have e2 : updB tk a n = tk n := updB_ne (Ne.symm e)
      rw [ih (by omega)]
      simp only [List.filter_cons, e2, List.filter_nil]
      split <;> simp <;> omega
theorem takGe_le {n : Nat} {tk : Nat → Bool} {p : Nat} (hp : p ≤ n) : takGe n tk p ≤ n - p := by
  unfold takGe
  induction n with
  | zero => simp
  | succ n ih =>
    rw [List.range_succ, List.filter_append, List.length_append]
    by_cases e : p ≤ n
    · have := ih e
      simp only [List.filter_cons, List.filter_nil]
      split <;> simp <;> omega
    · have e1 : (List.range n).filter (fun i => tk i && decide (p ≤ i)) = [] := List.filter_eq_nil_iff.2 fun x hx => by have := List.mem_range.1 hx; simp; omega
      rw [e1]
      have : ¬ p ≤ n := e
      simp [this]
theorem takGe_all {n : Nat} {tk : Nat → Bool} {p : Nat} (hp : p ≤ n) (h : ∀ i, p ≤ i → i < n → tk i = true) : takGe n tk p = n - p := by
  unfold takGe
  induction n with
  | zero => simp
  | succ n ih =>
    rw [List.range_succ, List.filter_append, List.length_append]
    by_cases e : p ≤ n
    · rw [ih e fun i h1 h2 => h i h1 (by omega)]
      simp [e, h n e (by omega)]; omega
    · have e1 : (List.range n).filter (fun i => tk i && decide (p ≤ i)) = [] := List.filter_eq_nil_iff.2 fun x hx => by have := List.mem_range.1 hx; simp; omega
      rw [e1]
      have : ¬ p ≤ n := e
      simp [this]; omega
theorem cntGe_cons {x : Int} {l : List Int} {p : Nat} : cntGe (x :: l) p = cntGe l p + if (p : Int) ≤ x then 1 else 0 := by
  unfold cntGe
  rw [List.filter_cons]
  by_cases h : (p : Int) ≤ x <;> simp [h]
abbrev St3 := (Nat → Bool) × Int × Int
theorem stepC_ge {n : Nat} {s : St3} {d p : Nat} (hd : d < n) : (takGe n (stepC n s d).1 p : Int) + (stepC n s d).2.2 ≥ takGe n s.1 p + s.2.2 + if p ≤ d then 1 else 0 := by
  obtain ⟨tk, sl, fe⟩ := s
  obtain ⟨a1, a2, a3, a4⟩ := endAt_spec (tk := tk) (show d ≤ n by omega)
  unfold stepC
  by_cases e : endAt n tk d < n
  · simp only [e, if_true]
    rw [takGe_upd e (a4 e)]
    by_cases h1 : p ≤ d
    · rw [if_pos h1, if_pos (by omega)]; omega
    · rw [if_neg h1]; split <;> omega
  · simp only [e, if_false]
    split <;> omega
theorem stepC_mono {n : Nat} {s : St3} {d i : Nat} (h : s.1 i = true) : (stepC n s d).1 i = true := by
  unfold stepC
  split
  · exact updB_at.2 (.inr h)
  · exact h
theorem stepC_eq {n : Nat} {s : St3} {d q : Nat} (hd : d < n) (hq : q < n) (hf : (stepC n s d).1 q = false) : (takGe n (stepC n s d).1 (q + 1) : Int) + (stepC n s d).2.2 = takGe n s.1 (q + 1) + s.2.2 + if q + 1 ≤ d then 1 else 0 := by
  have hf0 : s.1 q = false := by
    cases h : s.1 q with
    | false => rfl
    | true => rw [stepC_mono h] at hf; cases hf
  obtain ⟨tk, sl, fe⟩ := s
  obtain ⟨a1, a2, a3, a4⟩ := endAt_spec (tk := tk) (show d ≤ n by omega)
  simp only at hf0
  have hpast : d ≤ q → endAt n tk d ≤ q := fun h => by
    rcases Nat.lt_or_ge q (endAt n tk d) with k | k
    · have := a3 q h k
      rw [hf0] at this; cases this
    · exact k
  unfold stepC at hf ⊢
  by_cases e : endAt n tk d < n
  · simp only [e, if_true] at hf ⊢
    have hne : endAt n tk d ≠ q := fun h => by rw [h, updB_self] at hf; cases hf
    rw [takGe_upd e (a4 e)]
    by_cases h1 : q + 1 ≤ d
    · rw [if_pos h1, if_pos (by omega)]; omega
    · have := hpast (by omega)
      rw [if_neg h1, if_neg (by omega)]; omega
  · simp only [e, if_false]
    by_cases h1 : q + 1 ≤ d
    · rw [if_pos h1]; omega
    · have := hpast (by omega); omega
theorem stepC_all {n : Nat} {s : St3} {d : Nat} (hd : d < n) : (takGe n (stepC n s d).1 0 : Int) + (stepC n s d).2.2 = takGe n s.1 0 + s.2.2 + 1 := by
  obtain ⟨tk, sl, fe⟩ := s
  obtain ⟨a1, a2, a3, a4⟩ := endAt_spec (tk := tk) (show d ≤ n by omega)
  unfold stepC
  by_cases e : endAt n tk d < n
  · simp only [e, if_true]
    rw [takGe_upd e (a4 e), if_pos (Nat.zero_le _)]; omega
  · simp only [e, if_false]; omega
def foldC (n : Nat) (l : List Int) (s : St3) : St3 := l.foldl (fun t d => stepC n t d.toNat) s
theorem foldC_mono {n : Nat} {i : Nat} : ∀ {l : List Int} {s : St3}, s.1 i = true → (foldC n l s).1 i = true
  | [], _, h => h
  | x :: l, s, h => foldC_mono (l := l) (stepC_mono h)
theorem foldC_ge {n p : Nat} : ∀ {l : List Int} {s : St3}, (∀ x ∈ l, 0 ≤ x ∧ x < (n : Int)) → (takGe n (foldC n l s).1 p : Int) + (foldC n l s).2.2 ≥ takGe n s.1 p + s.2.2 + cntGe l p
  | [], s, _ => by simp [foldC, cntGe]
  | x :: l, s, h => by
    have hx := h x List.mem_cons_self
    have h1 := foldC_ge (p := p) (l := l) (s := stepC n s x.toNat) fun y hy => h y (List.mem_cons_of_mem _ hy)
    have h2 := stepC_ge (n := n) (s := s) (d := x.toNat) (p := p) (by omega)
    rw [cntGe_cons]
    show (takGe n (foldC n l (stepC n s x.toNat)).1 p : Int) + (foldC n l (stepC n s x.toNat)).2.2 ≥ _
    by_cases hp : (p : Int) ≤ x
    · rw [if_pos (by omega)] at h2
      rw [if_pos hp]; push_cast; omega
    · rw [if_neg (by omega)] at h2
      rw [if_neg hp]; push_cast; omega
theorem foldC_eq {n q : Nat} (hq : q < n) : ∀ {l : List Int} {s : St3}, (∀ x ∈ l, 0 ≤ x ∧ x < (n : Int)) → (foldC n l s).1 q = false → (takGe n (foldC n l s).1 (q + 1) : Int) + (foldC n l s).2.2 = takGe n s.1 (q + 1) + s.2.2 + cntGe l (q + 1)
  | [], s, _, _ => by simp [foldC, cntGe]
  | x :: l, s, h, hf => by
    have hx := h x List.mem_cons_self
    have h1 := foldC_eq hq (l := l) (s := stepC n s x.toNat) (fun y hy => h y (List.mem_cons_of_mem _ hy)) hf
    have hf1 : (stepC n s x.toNat).1 q = false := by
      cases k : (stepC n s x.toNat).1 q with
      | false => rfl
      | true =>
        have : (foldC n (x :: l) s).1 q = true := foldC_mono (l := l) k
        rw [this] at hf; cases hf
    have h2 := stepC_eq (n := n) (s := s) (d := x.toNat) (by omega) hq hf1
    rw [cntGe_cons]
    show (takGe n (foldC n l (stepC n s x.toNat)).1 (q + 1) : Int) + (foldC n l (stepC n s x.toNat)).2.2 = _
    by_cases hp : ((q + 1 : Nat) : Int) ≤ x
    · rw [if_pos (by omega)] at h2
      rw [if_pos hp]; push_cast at *; omega
    · rw [if_neg (by omega)] at h2
      rw [if_neg hp]; push_cast at *; omega
theorem foldC_all {n : Nat} : ∀ {l : List Int} {s : St3}, (∀ x ∈ l, 0 ≤ x ∧ x < (n : Int)) → (takGe n (foldC n l s).1 0 : Int) + (foldC n l s).2.2 = takGe n s.1 0 + s.2.2 + l.length
  | [], s, _ => by simp [foldC]
  | x :: l, s, h => by
    have hx := h x List.mem_cons_self
    have h1 := foldC_all (l := l) (s := stepC n s x.toNat) (fun y hy => h y (List.mem_cons_of_mem _ hy))
    have h2 := stepC_all (n := n) (s := s) (d := x.toNat) (by omega)
    show (takGe n (foldC n l (stepC n s x.toNat)).1 0 : Int) + (foldC n l (stepC n s x.toNat)).2.2 = _
    rw [h1, h2, List.length_cons]; push_cast; omega
theorem takGe_emp {n p : Nat} : takGe n emp p = 0 := by unfold takGe emp; simp
theorem run_core {n : Nat} {l : List Int} (h : ∀ x ∈ l, 0 ≤ x ∧ x < (n : Int)) : core (runA n l) = foldC n l (emp, 0, 0) := by
  unfold runA runP
  rw [core_run h]; rfl
theorem last_free (tk : Nat → Bool) : ∀ n : Nat, (∀ i, i < n → tk i = true) ∨ ∃ q, q < n ∧ tk q = false ∧ ∀ i, q + 1 ≤ i → i < n → tk i = true
  | 0 => .inl fun i h => absurd h (Nat.not_lt_zero _)
  | n + 1 => by
    cases h : tk n with
    | false => exact .inr ⟨n, by omega, h, fun i h1 h2 => by omega⟩
    | true =>
      rcases last_free tk n with k | ⟨q, k1, k2, k3⟩
      · exact .inl fun i hi => by
          rcases Nat.lt_or_ge i n with e | e
          · exact k i e
          · rw [show i = n by omega]; exact h
      · exact .inr ⟨q, by omega, k2, fun i h1 h2 => by
          rcases Nat.lt_or_ge i n with e | e
          · exact k3 i h1 e
          · rw [show i = n by omega]; exact h⟩
theorem over_le {n : Nat} {l : List Int} (h : ∀ x ∈ l, 0 ≤ x ∧ x < (n : Int)) {p : Nat} (hp : p ≤ n) : overI n l p ≤ (runA n l).fell := by
  have hc := run_core h
  have h1 : (runA n l).tk = (foldC n l (emp, 0, 0)).1 := congrArg (·.1) hc
  have h2 : (runA n l).fell = (foldC n l (emp, 0, 0)).2.2 := congrArg (·.2.2) hc
  have h3 := foldC_ge (p := p) (s := (emp, 0, 0)) h
  have h4 := takGe_le (tk := (foldC n l (emp, 0, 0)).1) hp
  rw [takGe_emp] at h3
  rw [h2]
  unfold overI
  simp only at h3
  omega
theorem over_is {n : Nat} {l : List Int} (h : ∀ x ∈ l, 0 ≤ x ∧ x < (n : Int)) : ∃ p, p ≤ n ∧ overI n l p = (runA n l).fell := by
  have hc := run_core h
  have h1 : (runA n l).tk = (foldC n l (emp, 0, 0)).1 := congrArg (·.1) hc
  have h2 : (runA n l).fell = (foldC n l (emp, 0, 0)).2.2 := congrArg (·.2.2) hc
  rcases last_free (foldC n l (emp, 0, 0)).1 n with k | ⟨q, k1, k2, k3⟩
  · refine ⟨0, Nat.zero_le _, ?_⟩
    have h3 := foldC_all (s := (emp, 0, 0)) h
    rw [takGe_emp, takGe_all (Nat.zero_le _) fun i _ hi => k i hi] at h3
    have h5 : cntGe l 0 = l.length := by
      unfold cntGe
      rw [List.filter_eq_self.2 fun x hx => by have := h x hx; simp; omega]
    rw [h2]
    unfold overI
    rw [h5]
    simp only at h3
    omega
  · refine ⟨q + 1, k1, ?_⟩
    have h3 := foldC_eq k1 (s := (emp, 0, 0)) h k2
    rw [takGe_emp, takGe_all k1 k3] at h3
    rw [h2]
    unfold overI
    simp only at h3
    omega
theorem over_end {n : Nat} {l : List Int} (h : ∀ x ∈ l, 0 ≤ x ∧ x < (n : Int)) : overI n l n = 0 := by
  unfold overI cntGe
  rw [List.filter_eq_nil_iff.2 fun x hx => by have := h x hx; simp; omega]
  simp
end Go.Pier.Lg
