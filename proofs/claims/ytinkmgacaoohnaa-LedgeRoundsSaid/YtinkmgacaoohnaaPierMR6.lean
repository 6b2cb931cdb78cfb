import Derived.Test.YtinkmgacaoohnaaPierMR4
import Derived.KernelRfl
set_option linter.unusedSimpArgs false
set_option linter.unusedVariables false
set_option maxRecDepth 100000
set_option linter.unusedVariables false
set_option linter.unusedSimpArgs false
namespace Go.Pier.Lg
open Go Go.Pier Go.Proofs
def fullN (n : Nat) (tk : Nat → Bool) : Nat := ((List.range n).filter tk).length
theorem fullN_upd {n : Nat} {tk : Nat → Bool} {a : Nat} (ha : a < n) (h : tk a = false) : fullN n (updB tk a) = fullN n tk + 1 := by
  unfold fullN
  induction n with
  | zero => omega
  | succ n ih =>
    rw [List.range_succ, List.filter_append, List.filter_append, List.length_append, List.length_append]
    by_cases e : a = n
    · subst e
      have e1 : (List.range a).filter (updB tk a) = (List.range a).filter tk := List.filter_congr fun x hx => updB_ne (by have := List.mem_range.1 hx; omega)
      have e2 : updB tk a a = true := updB_self
      rw [e1]
      simp [e2, h]
    · have e2 : updB tk a n = tk n := updB_ne (Ne.symm e)
      rw [ih (by omega)]
      simp only [List.filter_cons, e2, List.filter_nil]
      split <;> simp <;> omega
theorem fullN_all {n : Nat} {tk : Nat → Bool} (h : ∀ i, i < n → tk i = true) : fullN n tk = n := by
  unfold fullN
  rw [List.filter_eq_self.2 fun x hx => h x (List.mem_range.1 hx), List.length_range]
def farR (n : Nat) (tk : Nat → Bool) (d : Nat) : Nat := farM true n tk d
theorem farR_spec {n : Nat} {tk : Nat → Bool} {d : Nat} : farR n tk d ≤ n ∧ (∀ j, j < farR n tk d → tk ((d + j) % n) = true) ∧ (farR n tk d < n → tk ((d + farR n tk d) % n) = false) := by
  obtain ⟨_, h2, h3, h4⟩ := ffB_spec (fun j => tk (posM true n d j)) (cntM true n d) 0
  have e : farR n tk d = ffB (fun j => tk (posM true n d j)) (cntM true n d) 0 := rfl
  have hc : cntM true n d = n := rfl
  rw [← e] at h2 h3 h4
  rw [hc] at h2 h4
  exact ⟨by omega, fun j hj => h3 j (Nat.zero_le _) hj, fun h => h4 (by omega)⟩
theorem farR_eq {n : Nat} {tk : Nat → Bool} {d k : Nat} (hk : k < n) (h1 : ∀ j, j < k → tk ((d + j) % n) = true) (h2 : tk ((d + k) % n) = false) : farR n tk d = k := by
  obtain ⟨k1, k2, k3⟩ := farR_spec (n := n) (tk := tk) (d := d)
  rcases Nat.lt_trichotomy (farR n tk d) k with e | e | e
  · have := k3 (by omega)
    rw [h1 _ e] at this; cases this
  · exact e
  · have := k2 k e
    rw [h2] at this; cases this
theorem mod_reach {n d i : Nat} (hn : 0 < n) (hi : i < n) : ∃ j, j < n ∧ (d + j) % n = i := by
  refine ⟨(i + n - d % n) % n, Nat.mod_lt _ hn, ?_⟩
  have h1 := Nat.mod_lt d hn
  rw [Nat.add_mod, Nat.mod_mod]
  by_cases h : d % n ≤ i
  · rw [show i + n - d % n = (i - d % n) + n by omega, Nat.add_mod_right, Nat.mod_eq_of_lt (show i - d % n < n by omega), show d % n + (i - d % n) = i by omega, Nat.mod_eq_of_lt hi]
  · rw [Nat.mod_eq_of_lt (show i + n - d % n < n by omega), show d % n + (i + n - d % n) = i + n by omega, Nat.add_mod_right, Nat.mod_eq_of_lt hi]
theorem farR_lt {n : Nat} {tk : Nat → Bool} {d : Nat} (h : fullN n tk < n) : farR n tk d < n := by
  obtain ⟨k1, k2, k3⟩ := farR_spec (n := n) (tk := tk) (d := d)
  rcases Nat.lt_or_ge (farR n tk d) n with e | e
  · exact e
  · have := fullN_all (n := n) (tk := tk) fun i hi => by
      obtain ⟨j, hj, e2⟩ := mod_reach (n := n) (d := d) (by omega) hi
      rw [← e2]; exact k2 j (by omega)
    omega
def endR (n : Nat) (tk : Nat → Bool) (d : Nat) : Nat := (d + farR n tk d) % n
theorem endR_free {n : Nat} {tk : Nat → Bool} {d : Nat} (h : fullN n tk < n) : tk (endR n tk d) = false ∧ endR n tk d < n :=
  ⟨(farR_spec (n := n) (tk := tk) (d := d)).2.2 (farR_lt h), Nat.mod_lt _ (by omega)⟩
def stepR (n : Nat) (s : (Nat → Bool) × Int) (d : Nat) : (Nat → Bool) × Int := (updB s.1 (endR n s.1 d), s.2 + (farR n s.1 d : Int))
def coreR (s : PS) : (Nat → Bool) × Int := (s.tk, s.slid)
theorem coreR_step {n : Nat} {s : PS} {d : Int} (h : fullN n s.tk < n) : coreR (stepP true n s d) = stepR n (coreR s) d.toNat ∧ (stepP true n s d).fell = s.fell ∧ (stepP true n s d).lies = s.lies ++ [(endR n s.tk d.toNat : Int)] := by
  have hl := farR_lt (d := d.toNat) h
  have e1 : farM true n s.tk d.toNat < cntM true n d.toNat := hl
  unfold stepP
  rw [if_pos e1]
  exact ⟨rfl, rfl, rfl⟩
theorem stepR_full {n : Nat} {s : (Nat → Bool) × Int} {x : Nat} (h : fullN n s.1 < n) : fullN n (stepR n s x).1 = fullN n s.1 + 1 := by
  obtain ⟨f1, f2⟩ := endR_free (n := n) (tk := s.1) (d := x) h
  exact fullN_upd f2 f1
theorem fullN_emp {n : Nat} : fullN n emp = 0 := by unfold fullN emp; simp
theorem round_mem {n : Nat} : ∀ {l : List Int} {s : PS}, fullN n s.tk + l.length ≤ n → (∀ i : Nat, i < n → (s.tk i = true ↔ (i : Int) ∈ s.lies)) → ∀ i : Nat, i < n → ((l.foldl (stepP true n) s).tk i = true ↔ (i : Int) ∈ (l.foldl (stepP true n) s).lies)
  | [], _, _, h => h
  | x :: l, s, hl, h => by
    rw [List.length_cons] at hl
    have hs := coreR_step (n := n) (s := s) (d := x) (by omega)
    have ht : (stepP true n s x).tk = updB s.tk (endR n s.tk x.toNat) := congrArg Prod.fst hs.1
    rw [List.foldl_cons]
    refine round_mem ?_ ?_
    · have := stepR_full (n := n) (s := coreR s) (x := x.toNat) (show fullN n s.tk < n by omega)
      rw [show (stepR n (coreR s) x.toNat).1 = updB s.tk (endR n s.tk x.toNat) from rfl] at this
      rw [ht, this]
      show fullN n s.tk + 1 + l.length ≤ n
      omega
    · intro i hi
      rw [ht, updB_at, hs.2.2, List.mem_append, List.mem_singleton, h i hi]
      constructor
      · rintro (rfl | h1)
        · exact .inr rfl
        · exact .inl h1
      · rintro (h1 | h1)
        · exact .inr h1
        · exact .inl (by omega)
theorem round_has {n : Nat} {l : List Int} (h : l.length ≤ n) (i : Nat) (hi : i < n) : (runP true n emp l).tk i = true ↔ (i : Int) ∈ (runP true n emp l).lies :=
  round_mem (s := ⟨emp, [], 0, 0⟩) (by show fullN n emp + l.length ≤ n; rw [fullN_emp]; omega) (fun i _ => by simp [emp]) i hi
end Go.Pier.Lg
