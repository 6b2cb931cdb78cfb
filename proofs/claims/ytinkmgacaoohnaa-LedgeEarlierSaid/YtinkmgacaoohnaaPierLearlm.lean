import Derived.Test.YtinkmgacaoohnaaPierLoverm
import Derived.KernelRfl
set_option linter.unusedSimpArgs false
set_option linter.unusedVariables false
set_option maxRecDepth 100000
set_option linter.unusedVariables false
set_option linter.unusedSimpArgs false
namespace Go.Pier.Lg
open Go Go.Pier Go.Proofs
def sumTk (n : Nat) (tk : Nat → Bool) : Int := (((List.range n).filter tk).map Int.ofNat).sum
theorem sumTk_upd {n : Nat} {tk : Nat → Bool} {a : Nat} (ha : a < n) (h : tk a = false) : sumTk n (updB tk a) = sumTk n tk + a := by
  unfold sumTk
  induction n with
  | zero => omega
  | succ n ih =>
    rw [List.range_succ, List.filter_append, List.filter_append, List.map_append, List.map_append, List.sum_append, List.sum_append]
    by_cases e : a = n
    · subst e
      have e1 : (List.range a).filter (updB tk a) = (List.range a).filter tk := List.filter_congr fun x hx => updB_ne (by have := List.mem_range.1 hx; omega)
      have e2 : updB tk a a = true := updB_self
      rw [e1]
      simp [e2, h]
    · have e2 : updB tk a n = tk n := updB_ne (Ne.symm e)
      rw [ih (by omega)]
      simp only [List.filter_cons, e2, List.filter_nil]
      split <;> simp <;> omega
theorem sumTk_all {n : Nat} {tk : Nat → Bool} (h : ∀ i, i < n → tk i = true) : sumTk n tk = ((List.range n).map Int.ofNat).sum := by
  unfold sumTk
  rw [List.filter_eq_self.2 fun x hx => h x (List.mem_range.1 hx)]
theorem stepC_slid {n : Nat} {s : St3} {d : Nat} (hd : d < n) (hf : (stepC n s d).2.2 = s.2.2) : (stepC n s d).2.1 - sumTk n (stepC n s d).1 = s.2.1 - sumTk n s.1 - d := by
  obtain ⟨tk, sl, fe⟩ := s
  obtain ⟨a1, a2, a3, a4⟩ := endAt_spec (tk := tk) (show d ≤ n by omega)
  unfold stepC at hf ⊢
  by_cases e : endAt n tk d < n
  · simp only [e, if_true]
    rw [sumTk_upd e (a4 e)]; omega
  · simp only [e, if_false] at hf; omega
theorem stepC_fell {n : Nat} {s : St3} {d : Nat} : s.2.2 ≤ (stepC n s d).2.2 := by
  unfold stepC
  split
  · exact Int.le_refl _
  · show s.2.2 ≤ s.2.2 + 1; omega
theorem foldC_fell {n : Nat} : ∀ {l : List Int} {s : St3}, s.2.2 ≤ (foldC n l s).2.2
  | [], _ => Int.le_refl _
  | x :: l, s => Int.le_trans stepC_fell (foldC_fell (l := l) (s := stepC n s x.toNat))
theorem foldC_slid {n : Nat} : ∀ {l : List Int} {s : St3}, (∀ x ∈ l, 0 ≤ x ∧ x < (n : Int)) → (foldC n l s).2.2 = s.2.2 → (foldC n l s).2.1 - sumTk n (foldC n l s).1 = s.2.1 - sumTk n s.1 - l.sum
  | [], s, _, _ => by simp [foldC]
  | x :: l, s, h, hf => by
    have hx := h x List.mem_cons_self
    have f1 := stepC_fell (n := n) (s := s) (d := x.toNat)
    have f2 := foldC_fell (n := n) (l := l) (s := stepC n s x.toNat)
    have hf' : (foldC n l (stepC n s x.toNat)).2.2 = s.2.2 := hf
    have h1 := foldC_slid (l := l) (s := stepC n s x.toNat) (fun y hy => h y (List.mem_cons_of_mem _ hy)) (by omega)
    have h2 := stepC_slid (n := n) (s := s) (d := x.toNat) (by omega) (by omega)
    show (foldC n l (stepC n s x.toNat)).2.1 - sumTk n (foldC n l (stepC n s x.toNat)).1 = _
    rw [h1, h2, List.sum_cons]; omega
theorem slid_full {n : Nat} {l : List Int} (h : ∀ x ∈ l, 0 ≤ x ∧ x < (n : Int)) (hn : l.length = n) (hf : (runA n l).fell = 0) : (runA n l).slid = ((List.range n).map Int.ofNat).sum - l.sum := by
  have hc := run_core h
  have h1 : (runA n l).tk = (foldC n l (emp, 0, 0)).1 := congrArg (·.1) hc
  have h2 : (runA n l).fell = (foldC n l (emp, 0, 0)).2.2 := congrArg (·.2.2) hc
  have h3 : (runA n l).slid = (foldC n l (emp, 0, 0)).2.1 := congrArg (·.2.1) hc
  have k1 : (foldC n l (emp, 0, 0)).2.1 - sumTk n (foldC n l (emp, 0, 0)).1 = 0 - sumTk n emp - l.sum := foldC_slid (s := (emp, 0, 0)) h (by rw [← h2, hf])
  have k2 : (takGe n (foldC n l (emp, 0, 0)).1 0 : Int) + (foldC n l (emp, 0, 0)).2.2 = (takGe n emp 0 : Int) + 0 + l.length := foldC_all (s := (emp, 0, 0)) h
  rw [takGe_emp] at k2
  have k3 : takGe n (foldC n l (emp, 0, 0)).1 0 = n := by omega
  have k4 : ∀ i, i < n → (foldC n l (emp, 0, 0)).1 i = true := by
    rcases last_free (foldC n l (emp, 0, 0)).1 n with k | ⟨q, q1, q2, q3⟩
    · exact k
    · exfalso
      have u := takGe_upd (p := 0) q1 q2
      have v := takGe_le (n := n) (tk := updB (foldC n l (emp, 0, 0)).1 q) (p := 0) (Nat.zero_le _)
      rw [if_pos (Nat.zero_le _)] at u
      omega
  rw [sumTk_all k4] at k1
  have k5 : sumTk n emp = 0 := by unfold sumTk; rw [List.filter_eq_nil_iff.2 fun x _ => by simp [emp]]; rfl
  rw [k5] at k1
  rw [h3]; omega
theorem fell_mono {n : Nat} {l m : List Int} (hl : ∀ x ∈ l, 0 ≤ x ∧ x < (n : Int)) (hm : ∀ x ∈ m, 0 ≤ x ∧ x < (n : Int)) (h : ∀ p, cntGe l p ≤ cntGe m p) : (runA n l).fell ≤ (runA n m).fell := by
  obtain ⟨p, h1, h2⟩ := over_is hl
  have h3 := over_le hm h1
  have := h p
  unfold overI at h2 h3
  omega
theorem cntGe_set {p : Nat} {y : Int} : ∀ {l : List Int} {i : Nat}, y ≤ l.getD i 0 → cntGe (l.set i y) p ≤ cntGe l p
  | [], _, _ => Nat.le_refl _
  | x :: l, 0, h => by
    rw [List.set_cons_zero, cntGe_cons, cntGe_cons]
    have h : y ≤ x := h
    split <;> split <;> omega
  | x :: l, i + 1, h => by
    rw [List.set_cons_succ, cntGe_cons, cntGe_cons]
    have := cntGe_set (p := p) (l := l) (i := i) h
    omega
theorem sum_set {y : Int} : ∀ {l : List Int} {i : Nat}, i < l.length → (l.set i y).sum = l.sum - l.getD i 0 + y
  | [], _, h => by simp at h
  | x :: l, 0, _ => by rw [List.set_cons_zero, List.sum_cons, List.sum_cons]; show _ = x + l.sum - x + y; omega
  | x :: l, i + 1, h => by
    have := sum_set (y := y) (l := l) (i := i) (by simpa using h)
    rw [List.set_cons_succ, List.sum_cons, List.sum_cons, this]
    show _ = x + l.sum - l.getD i 0 + y
    omega
end Go.Pier.Lg
