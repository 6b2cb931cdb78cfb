import Derived.Test.YtinkmgacaoohnaaPierLaround
import Derived.KernelRfl
set_option linter.unusedSimpArgs false
set_option linter.unusedVariables false
set_option maxRecDepth 100000
set_option linter.unusedVariables false
set_option linter.unusedSimpArgs false
namespace Go.Pier.Lg
open Go Go.Pier Go.Proofs
def rotI (n m : Int) (l : List Int) : List Int := l.map fun x => (x + m) % n
theorem add_mod_if {n m i : Nat} (hi : i < n) : (i + m) % n = if i + m % n < n then i + m % n else i + m % n - n := by
  have h := Nat.mod_lt m (show 0 < n by omega)
  rw [Nat.add_mod, Nat.mod_eq_of_lt hi]
  split
  · exact Nat.mod_eq_of_lt (by assumption)
  · rw [Nat.mod_eq_sub_mod (by omega), Nat.mod_eq_of_lt (by omega)]
theorem rot_inj {n m i e : Nat} (hi : i < n) (he : e < n) : (i + m) % n = (e + m) % n ↔ i = e := by
  constructor
  · intro h
    have hm := Nat.mod_lt m (show 0 < n by omega)
    rw [add_mod_if hi, add_mod_if he] at h
    split at h <;> split at h <;> omega
  · rintro rfl; rfl
theorem rot_nat {n m : Nat} {x : Int} (hx : 0 ≤ x) : ((x + m) % n).toNat = (x.toNat + m) % n := by
  obtain ⟨a, rfl⟩ := Int.eq_ofNat_of_zero_le hx
  rw [Int.toNat_natCast, ← Int.natCast_add, ← Int.natCast_emod, Int.toNat_natCast]
structure Turn (n m : Nat) (s t : PS) : Prop where
  tk : ∀ i, i < n → t.tk ((i + m) % n) = s.tk i
  slid : t.slid = s.slid
  lies : t.lies = rotI n m s.lies
theorem turn_far {n m : Nat} {s t : PS} (hn : 0 < n) (h : Turn n m s t) (a : Nat) : farR n t.tk ((a + m) % n) = farR n s.tk a := by
  have e : (fun j => t.tk (posM true n ((a + m) % n) j)) = fun j => s.tk (posM true n a j) := by
    funext j
    show t.tk (((a + m) % n + j) % n) = s.tk ((a + j) % n)
    rw [← h.tk _ (Nat.mod_lt _ hn), Nat.mod_add_mod, Nat.mod_add_mod, Nat.add_right_comm]
  show ffB _ _ 0 = ffB _ _ 0
  rw [e]; rfl
theorem turn_end {n m : Nat} {s t : PS} (hn : 0 < n) (h : Turn n m s t) (a : Nat) : endR n t.tk ((a + m) % n) = (endR n s.tk a + m) % n := by
  unfold endR
  rw [turn_far hn h, Nat.mod_add_mod, Nat.mod_add_mod, Nat.add_right_comm]
theorem turn_step {n m : Nat} {s t : PS} {x : Int} (h : Turn n m s t) (hx : 0 ≤ x ∧ x < n) (hs : fullN n s.tk < n) (ht : fullN n t.tk < n) : Turn n m (stepP true n s x) (stepP true n t ((x + m) % n)) := by
  have hn : 0 < n := by omega
  have k1 := coreR_step (d := x) hs
  have k2 := coreR_step (d := (x + m) % n) ht
  rw [rot_nat hx.1] at k2
  have e := turn_end hn h x.toNat
  have e2 := turn_far hn h x.toNat
  have a1 : (stepP true n s x).tk = updB s.tk (endR n s.tk x.toNat) := congrArg Prod.fst k1.1
  have a2 : (stepP true n s x).slid = s.slid + (farR n s.tk x.toNat : Int) := congrArg Prod.snd k1.1
  have b1 : (stepP true n t ((x + m) % n)).tk = updB t.tk (endR n t.tk ((x.toNat + m) % n)) := congrArg Prod.fst k2.1
  have b2 : (stepP true n t ((x + m) % n)).slid = t.slid + (farR n t.tk ((x.toNat + m) % n) : Int) := congrArg Prod.snd k2.1
  have hl := endR_free (n := n) (tk := s.tk) (d := x.toNat) hs
  refine ⟨fun i hi => ?_, ?_, ?_⟩
  · rw [a1, b1, e, Bool.eq_iff_iff, updB_at, updB_at, rot_inj hi hl.2, h.tk i hi]
  · rw [a2, b2, e2, h.slid]
  · rw [k1.2.2, k2.2.2, h.lies, e]
    unfold rotI
    rw [List.map_append, List.map_singleton]
    congr 2
theorem turn_fold {n m : Nat} : ∀ {l : List Int} {s t : PS}, Turn n m s t → (∀ x ∈ l, 0 ≤ x ∧ x < (n : Int)) → fullN n s.tk + l.length ≤ n → fullN n t.tk + l.length ≤ n → Turn n m (l.foldl (stepP true n) s) ((rotI n m l).foldl (stepP true n) t)
  | [], _, _, h, _, _, _ => h
  | x :: l, s, t, h, hb, hs, ht => by
    rw [List.length_cons] at hs ht
    have k1 := coreR_step (n := n) (s := s) (d := x) (by omega)
    have k2 := coreR_step (n := n) (s := t) (d := (x + m) % n) (by omega)
    have f1 : (stepP true n s x).tk = (stepR n (coreR s) x.toNat).1 := congrArg Prod.fst k1.1
    have f2 : (stepP true n t ((x + m) % n)).tk = (stepR n (coreR t) ((x + m) % n).toNat).1 := congrArg Prod.fst k2.1
    refine turn_fold (l := l) (turn_step h (hb x List.mem_cons_self) (by omega) (by omega)) (fun y hy => hb y (List.mem_cons_of_mem _ hy)) ?_ ?_
    · rw [f1, stepR_full (s := coreR s) (show fullN n s.tk < n by omega)]
      show fullN n s.tk + 1 + l.length ≤ n
      omega
    · rw [f2, stepR_full (s := coreR t) (show fullN n t.tk < n by omega)]
      show fullN n t.tk + 1 + l.length ≤ n
      omega
theorem turn_run {n m : Nat} {l : List Int} (hb : ∀ x ∈ l, 0 ≤ x ∧ x < (n : Int)) (h : l.length ≤ n) : Turn n m (runP true n emp l) (runP true n emp (rotI n m l)) :=
  turn_fold ⟨fun _ _ => rfl, rfl, rfl⟩ hb (by rw [fullN_emp]; omega) (by rw [fullN_emp]; omega)
end Go.Pier.Lg
