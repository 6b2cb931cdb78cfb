import Derived.Test.YtinkmgacaoohnaaPierLaround
import Derived.KernelRfl
set_option linter.unusedSimpArgs false
set_option linter.unusedVariables false
set_option maxRecDepth 100000
set_option linter.unusedVariables false
set_option linter.unusedSimpArgs false
namespace Go.Pier.Lg
open Go Go.Pier Go.Proofs
def SameW (n : Nat) (s t : PS) : Prop := s.fell = 0 ∧ t.tk n = false ∧ (∀ i, i < n → t.tk i = s.tk i) ∧ t.lies = s.lies ∧ t.slid = s.slid
def PastW (n : Nat) (s t : PS) : Prop := 0 < s.fell ∧ t.tk n = true
theorem stepP_tk {ar : Bool} {n : Nat} {s : PS} {x : Int} {i : Nat} (h : s.tk i = true) : (stepP ar n s x).tk i = true := by
  unfold stepP
  split
  · exact updB_at.2 (.inr h)
  · exact h
theorem stepP_fell {ar : Bool} {n : Nat} {s : PS} {x : Int} : s.fell ≤ (stepP ar n s x).fell := by
  unfold stepP
  split
  · exact Int.le_refl _
  · show s.fell ≤ s.fell + 1; omega
theorem wheel_step {n : Nat} {s t : PS} {x : Int} (h : SameW n s t) (hx : 0 ≤ x ∧ x < n) : SameW n (stepP false n s x) (stepP true (n + 1) t x) ∨ PastW n (stepP false n s x) (stepP true (n + 1) t x) := by
  obtain ⟨h1, h2, h3, h4, h5⟩ := h
  obtain ⟨a, rfl⟩ := Int.eq_ofNat_of_zero_le hx.1
  have ha : a < n := by omega
  have hT : Int.toNat (a : Int) = a := Int.toNat_natCast a
  obtain ⟨k1, k2, k3, k4⟩ := endAt_spec (tk := s.tk) (show a ≤ n by omega)
  have e0 : endAt n s.tk a = a + farM false n s.tk a := rfl
  generalize hj : farM false n s.tk a = j at *
  have pm : ∀ i, a + i ≤ n → posM true (n + 1) a i = a + i := fun i hi => Nat.mod_eq_of_lt (by omega)
  have cf : cntM false n a = n - a := rfl
  have ct : cntM true (n + 1) a = n + 1 := rfl
  have hall : ∀ i, i < j → t.tk (posM true (n + 1) a i) = true := fun i hi => by
    rw [pm i (by omega), h3 _ (by omega)]
    exact k3 (a + i) (by omega) (by omega)
  by_cases hlt : a + j < n
  · left
    have hf : s.tk (a + j) = false := by rw [← e0]; exact k4 (by omega)
    have hs : stepP false n s (a : Int) = ⟨updB s.tk (a + j), s.lies ++ [((a + j : Nat) : Int)], s.slid + j, s.fell⟩ := step_found (ar := false) (j := j) (by rw [hT, cf]; omega) (fun i hi => by rw [hT]; exact k3 (a + i) (by omega) (by omega)) (by rw [hT]; exact hf)
    have ht : stepP true (n + 1) t (a : Int) = ⟨updB t.tk (posM true (n + 1) a j), t.lies ++ [(posM true (n + 1) a j : Int)], t.slid + j, t.fell⟩ := step_found (ar := true) (j := j) (by rw [hT, ct]; omega) (fun i hi => by rw [hT]; exact hall i hi) (by rw [hT, pm j (by omega), h3 _ (by omega)]; exact hf)
    rw [hs, ht, pm j (by omega)]
    refine ⟨h1, ?_, fun i hi => ?_, ?_, ?_⟩
    · show updB t.tk (a + j) n = false
      rw [updB_ne (by omega)]; exact h2
    · show updB t.tk (a + j) i = updB s.tk (a + j) i
      rw [Bool.eq_iff_iff, updB_at, updB_at, h3 i hi]
    · show t.lies ++ _ = s.lies ++ _
      rw [h4]
    · show t.slid + _ = s.slid + _
      rw [h5]
  · right
    have ej : a + j = n := by omega
    have hs : stepP false n s (a : Int) = ⟨s.tk, s.lies ++ [-1], s.slid + (n - (a : Int)), s.fell + 1⟩ := step_lost (ar := false) fun i hi => by
      rw [hT] at hi ⊢
      exact k3 (a + i) (by omega) (by omega)
    have ht : stepP true (n + 1) t (a : Int) = ⟨updB t.tk (posM true (n + 1) a j), t.lies ++ [(posM true (n + 1) a j : Int)], t.slid + j, t.fell⟩ := step_found (ar := true) (j := j) (by rw [hT, ct]; omega) (fun i hi => by rw [hT]; exact hall i hi) (by rw [hT, pm j (by omega), ej]; exact h2)
    rw [hs, ht, pm j (by omega), ej]
    exact ⟨by show 0 < s.fell + 1; omega, updB_self⟩
theorem wheel_fold {n : Nat} : ∀ {l : List Int} {s t : PS}, SameW n s t ∨ PastW n s t → (∀ x ∈ l, 0 ≤ x ∧ x < (n : Int)) → SameW n (l.foldl (stepP false n) s) (l.foldl (stepP true (n + 1)) t) ∨ PastW n (l.foldl (stepP false n) s) (l.foldl (stepP true (n + 1)) t)
  | [], _, _, h, _ => h
  | x :: l, s, t, h, hb => by
    refine wheel_fold (l := l) ?_ fun y hy => hb y (List.mem_cons_of_mem _ hy)
    rcases h with h | h
    · exact wheel_step h (hb x List.mem_cons_self)
    · exact .inr ⟨Int.lt_of_lt_of_le h.1 stepP_fell, stepP_tk h.2⟩
theorem wheel_run {n : Nat} {l : List Int} (hb : ∀ x ∈ l, 0 ≤ x ∧ x < (n : Int)) : SameW n (runA n l) (runP true (n + 1) emp l) ∨ PastW n (runA n l) (runP true (n + 1) emp l) :=
  wheel_fold (.inl ⟨rfl, rfl, fun _ _ => rfl, rfl, rfl⟩) hb
end Go.Pier.Lg
