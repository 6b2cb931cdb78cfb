import Derived.Test.YtinkmgacaoohnaaPierMB2
import Derived.KernelRfl
set_option linter.unusedSimpArgs false
set_option linter.unusedVariables false
set_option maxRecDepth 100000
set_option linter.unusedVariables false
set_option linter.unusedSimpArgs false
namespace Go.Pier.Lg
open Go Go.Pier Go.Proofs
def endAt (n : Nat) (tk : Nat → Bool) (d : Nat) : Nat := d + farM false n tk d
theorem endAt_spec {n : Nat} {tk : Nat → Bool} {d : Nat} (hd : d ≤ n) : d ≤ endAt n tk d ∧ endAt n tk d ≤ n ∧ (∀ i, d ≤ i → i < endAt n tk d → tk i = true) ∧ (endAt n tk d < n → tk (endAt n tk d) = false) := by
  obtain ⟨_, h2, h3, h4⟩ := ffB_spec (fun j => tk (posM false n d j)) (cntM false n d) 0
  have e : endAt n tk d = d + ffB (fun j => tk (posM false n d j)) (cntM false n d) 0 := rfl
  have hc : cntM false n d = n - d := rfl
  refine ⟨by omega, by omega, fun i h5 h6 => ?_, fun h5 => ?_⟩
  · have := h3 (i - d) (Nat.zero_le _) (by omega)
    rw [show posM false n d (i - d) = i by show d + (i - d) = i; omega] at this
    exact this
  · rw [e]; exact h4 (by omega)
theorem endAt_eq {n : Nat} {tk : Nat → Bool} {d p : Nat} (h1 : d ≤ p) (h2 : p ≤ n) (h3 : ∀ i, d ≤ i → i < p → tk i = true) (h4 : p < n → tk p = false) : endAt n tk d = p := by
  obtain ⟨k1, k2, k3, k4⟩ := endAt_spec (tk := tk) (show d ≤ n by omega)
  rcases Nat.lt_trichotomy (endAt n tk d) p with e | e | e
  · have := k4 (by omega)
    rw [h3 _ k1 e] at this; cases this
  · exact e
  · have := k3 p h1 e
    rw [h4 (by omega)] at this; cases this
def core (s : PS) : (Nat → Bool) × Int × Int := (s.tk, s.slid, s.fell)
def stepC (n : Nat) (s : (Nat → Bool) × Int × Int) (d : Nat) : (Nat → Bool) × Int × Int :=
  if endAt n s.1 d < n then (updB s.1 (endAt n s.1 d), s.2.1 + (endAt n s.1 d - d : Int), s.2.2) else (s.1, s.2.1 + (endAt n s.1 d - d : Int), s.2.2 + 1)
theorem core_step {n : Nat} {s : PS} {d : Int} (hd : 0 ≤ d ∧ d < n) : core (stepP false n s d) = stepC n (core s) d.toNat := by
  obtain ⟨a, rfl⟩ := Int.eq_ofNat_of_zero_le hd.1
  have ha : a < n := by omega
  have h := endAt_spec (tk := s.tk) (show a ≤ n by omega)
  have e : endAt n s.tk a = a + farM false n s.tk a := rfl
  have hc : cntM false n (Int.toNat (a : Int)) = n - a := rfl
  unfold stepP stepC core
  rw [Int.toNat_natCast] at *
  by_cases hf : farM false n s.tk a < cntM false n a
  · rw [if_pos hf, if_pos (show endAt n s.tk a < n by omega)]
    simp only [Prod.mk.injEq, and_true]
    refine ⟨rfl, ?_⟩
    rw [e]; push_cast; omega
  · rw [if_neg hf, if_neg (show ¬ endAt n s.tk a < n by omega)]
    simp only [Prod.mk.injEq, and_true, true_and]
    omega
theorem updB_comm {tk : Nat → Bool} {a b : Nat} : updB (updB tk a) b = updB (updB tk b) a := by
  funext i
  rw [Bool.eq_iff_iff, updB_at, updB_at, updB_at, updB_at]
  constructor
  · rintro (h | h | h)
    · exact .inr (.inl h)
    · exact .inl h
    · exact .inr (.inr h)
  · rintro (h | h | h)
    · exact .inr (.inl h)
    · exact .inl h
    · exact .inr (.inr h)
theorem updB_ne {tk : Nat → Bool} {a i : Nat} (h : i ≠ a) : updB tk a i = tk i := by
  rw [Bool.eq_iff_iff, updB_at]
  exact ⟨fun k => k.resolve_left h, .inr⟩
theorem updB_self {tk : Nat → Bool} {a : Nat} : updB tk a a = true := updB_at.2 (.inl rfl)
theorem end_other {n : Nat} {tk : Nat → Bool} {d a : Nat} (hd : d ≤ n) (ha : tk a = false) (hne : endAt n tk d ≠ a) : endAt n (updB tk a) d = endAt n tk d := by
  obtain ⟨k1, k2, k3, k4⟩ := endAt_spec (tk := tk) hd
  refine endAt_eq k1 k2 (fun i h1 h2 => updB_at.2 (.inr (k3 i h1 h2))) fun h => ?_
  rw [updB_ne hne]; exact k4 h
theorem end_same {n : Nat} {tk : Nat → Bool} {d : Nat} (hd : d ≤ n) (hlt : endAt n tk d < n) : endAt n (updB tk (endAt n tk d)) d = endAt n (updB tk (endAt n tk d)) (endAt n tk d) := by
  obtain ⟨k1, k2, k3, k4⟩ := endAt_spec (tk := tk) hd
  obtain ⟨j1, j2, j3, j4⟩ := endAt_spec (n := n) (tk := updB tk (endAt n tk d)) (d := endAt n tk d) k2
  refine endAt_eq (by omega) j2 (fun i h1 h2 => ?_) j4
  by_cases e : i < endAt n tk d
  · exact updB_at.2 (.inr (k3 i h1 e))
  · exact j3 i (by omega) h2
theorem step_comm {n : Nat} {s : (Nat → Bool) × Int × Int} {x y : Nat} (hx : x < n) (hy : y < n) : stepC n (stepC n s x) y = stepC n (stepC n s y) x := by
  obtain ⟨tk, sl, fe⟩ := s
  obtain ⟨a1, a2, a3, a4⟩ := endAt_spec (tk := tk) (show x ≤ n by omega)
  obtain ⟨b1, b2, b3, b4⟩ := endAt_spec (tk := tk) (show y ≤ n by omega)
  by_cases ea : endAt n tk x < n
  · by_cases eb : endAt n tk y < n
    · by_cases e : endAt n tk x = endAt n tk y
      · have hxc := end_same (tk := tk) (show x ≤ n by omega) ea
        have hyc := end_same (tk := tk) (show y ≤ n by omega) eb
        have h1 : endAt n (updB tk (endAt n tk x)) y = endAt n (updB tk (endAt n tk x)) x := by rw [hxc, e, hyc]
        unfold stepC
        simp only [ea, eb, if_true, ← e, h1]
        split
        · simp only [Prod.mk.injEq, true_and, and_true]; omega
        · simp only [Prod.mk.injEq, true_and, and_true]; omega
      · have h1 := end_other (n := n) (tk := tk) (d := y) (a := endAt n tk x) (by omega) (a4 ea) (fun h => e h.symm)
        have h2 := end_other (n := n) (tk := tk) (d := x) (a := endAt n tk y) (by omega) (b4 eb) e
        unfold stepC
        simp only [ea, eb, if_true, h1, h2, updB_comm (a := endAt n tk x) (b := endAt n tk y), Prod.mk.injEq, true_and, and_true]
        omega
    · have h1 := end_other (n := n) (tk := tk) (d := y) (a := endAt n tk x) (by omega) (a4 ea) (by omega)
      unfold stepC
      simp only [ea, eb, if_true, if_false, h1, Prod.mk.injEq, true_and, and_true]
      omega
  · by_cases eb : endAt n tk y < n
    · have h2 := end_other (n := n) (tk := tk) (d := x) (a := endAt n tk y) (by omega) (b4 eb) (by omega)
      unfold stepC
      simp only [ea, eb, if_true, if_false, h2, Prod.mk.injEq, true_and, and_true]
      omega
    · unfold stepC
      simp only [ea, eb, if_false, Prod.mk.injEq, true_and, and_true]
      omega
theorem core_run {n : Nat} : ∀ {l : List Int} {s : PS}, (∀ x ∈ l, 0 ≤ x ∧ x < (n : Int)) → core (l.foldl (stepP false n) s) = l.foldl (fun t d => stepC n t d.toNat) (core s)
  | [], _, _ => rfl
  | x :: l, s, h => by
    rw [List.foldl_cons, List.foldl_cons, core_run fun y hy => h y (List.mem_cons_of_mem _ hy), core_step (h x List.mem_cons_self)]
theorem run_perm {n : Nat} {l m : List Int} (hp : l.Perm m) (h : ∀ x ∈ l, 0 ≤ x ∧ x < (n : Int)) : core (runA n l) = core (runA n m) := by
  have key : ∀ {l m : List Int}, l.Perm m → (∀ x ∈ l, 0 ≤ x ∧ x < (n : Int)) → ∀ t, l.foldl (fun t d => stepC n t d.toNat) t = m.foldl (fun t d => stepC n t d.toNat) t := by
    intro l m hp
    induction hp with
    | nil => exact fun _ _ => rfl
    | cons x _ ih => exact fun h t => ih (fun y hy => h y (List.mem_cons_of_mem _ hy)) _
    | swap x y l =>
      intro h t
      have hx := h x (List.mem_cons_of_mem _ List.mem_cons_self)
      have hy := h y List.mem_cons_self
      simp only [List.foldl_cons]
      rw [step_comm (by omega) (by omega)]
    | trans h1 _ ih1 ih2 => exact fun h t => (ih1 h t).trans (ih2 (fun y hy => h y (h1.mem_iff.2 hy)) t)
  unfold runA runP
  rw [core_run h, core_run fun y hy => h y (hp.mem_iff.2 hy)]
  exact key hp h _
end Go.Pier.Lg
set_option maxRecDepth 100000
set_option linter.unusedVariables false
set_option linter.unusedSimpArgs false
namespace Go.Pier.Lg
open Go Go.Pier Go.Proofs
noncomputable def drB : Code := Try.f43.body.getD .skip
def dropped (n : Int) (l : List Int) : List Int := (l.take 12).map (· % n)
def bytesO (l : List Int) : AObj := .ro (l.map (.int .u8))
def drI (n : Int) (l : List Int) (c : Nat) : Nat → Option LInv := invOf 0 (.mk [
      ⟨Unit, fun _ => True, fun _ => [(0, vi n), (1, .slice (some ⟨0,0,none⟩) l.length c), (5, .slice none 0 0), (6, vi 0)], fun _ => [bytesO l], fun _ => 20, fun _ _ => none⟩,
      ⟨Nat, fun i => 0 < i ∧ i ≤ 12 ∧ i ≤ l.length, fun i => [(0, vi n), (1, .slice (some ⟨0,0,none⟩) l.length c), (5, .slice (some ⟨1,0,some 0⟩) i 0), (6, vi i)], fun i => [bytesO l, rws (dropped n (l.take i))], fun i => 12 - i, fun _ _ => none⟩]
    (fun _ b => b) (fun i _ => [nsub 1 (i + 2)]))
noncomputable def drV :=
fun (n : Int) (l : List Int) (c : Nat) ↦ ((∃ (y : Unit), Ob True ∧ (Ob (AObj.ro (List.map (Value.int IntKind.u8) l) = AObj.ro (List.map (nmap1 fun (b : Nat) ↦ b) (List.map (Value.int IntKind.u8) l)) ∧ AObj.sc (1 : Nat) (AObj.ro (List.map (Value.int IntKind.u8) l)) = true) ∧ True) ∧ Ob (n = n) ∧ Ob (Value.slice (some (ad0 0)) l.length c = Value.slice (some (ad0 0)) l.length c) ∧ Ob (Value.slice none (0 : Nat) (0 : Nat) = Value.slice none (0 : Nat) (0 : Nat)) ∧ Ob ((0 : Int) = (0 : Int)) ∧ True) ∨ ∃ (y : Nat), Ob ((0 : Nat) < y ∧ y ≤ (12 : Nat) ∧ y ≤ l.length) ∧ (Ob (AObj.ro (List.map (Value.int IntKind.u8) l) = AObj.ro (List.map (nmap1 fun (b : Nat) ↦ b) (List.map (Value.int IntKind.u8) l)) ∧ AObj.sc (2 : Nat) (AObj.ro (List.map (Value.int IntKind.u8) l)) = true) ∧ False) ∧ Ob (n = n) ∧ Ob (Value.slice (some (ad0 0)) l.length c = Value.slice (some (ad0 0)) l.length c) ∧ Ob (Value.slice none (0 : Nat) (0 : Nat) = Value.slice (some { block := (1 : Nat), off := (0 : Nat), spot := some (0 : Nat) }) y (0 : Nat)) ∧ Ob ((0 : Int) = (↑y : Int)) ∧ True) ∧ (∀ (x : Unit), Ob True → (decide ((0 : Int) < (↑l.length : Int)) = true → (true = true → Ob ((0 : Int) ≤ (0 : Int) ∧ (0 : Int) < (↑l.length : Int) ∧ true = true) ∧ Ob (IntAt IntKind.u8 (List.map (Value.int IntKind.u8) l) (0 : Nat)) ∧ Ob (n ≠ (0 : Int)) ∧ Ob (andP (some ((0 : Nat) + (1 : Nat) ≤ (1 : Nat) ∧ true = true)) ((1 : Nat) ≤ (1099511627776 : Nat) ∧ (2064 : Nat) ≤ (281474976710656 : Nat) ∧ (1 : Nat) = (1 : Nat) ∧ (0 : Nat) = (0 : Nat) ∧ (0 : Nat) < (1 : Nat))) ∧ ((∃ (y : Unit), Ob True ∧ Ob ((20 : Nat) < (20 : Nat)) ∧ (Ob (AObj.ro (List.map (Value.int IntKind.u8) l) = AObj.ro (List.map (nmap1 (nsub (1 : Nat) (2 : Nat))) (List.map (Value.int IntKind.u8) l)) ∧ AObj.sc (1 : Nat) (AObj.ro (List.map (Value.int IntKind.u8) l)) = true) ∧ True) ∧ Ob (n = n) ∧ Ob (Value.slice (some (ad0 0)) l.length c = Value.slice (some (ad0 0)) l.length c) ∧ Ob (Value.slice (some { block := (2 : Nat), off := (0 : Nat), spot := some (0 : Nat) }) (1 : Nat) (0 : Nat) = Value.slice none (0 : Nat) (0 : Nat)) ∧ Ob (IntKind.i64.wrap ((0 : Int) + (1 : Int)) = (0 : Int)) ∧ True) ∨ ∃ (y : Nat), Ob ((0 : Nat) < y ∧ y ≤ (12 : Nat) ∧ y ≤ l.length) ∧ Ob ((12 : Nat) - y < (20 : Nat)) ∧ (Ob (AObj.ro (List.map (Value.int IntKind.u8) l) = AObj.ro (List.map (nmap1 (nsub (1 : Nat) (2 : Nat))) (List.map (Value.int IntKind.u8) l)) ∧ AObj.sc (2 : Nat) (AObj.ro (List.map (Value.int IntKind.u8) l)) = true) ∧ Ob (AObj.rw [vi ((IntKind.i64.wrap (getI (List.map (Value.int IntKind.u8) l) (0 : Nat))).tmod n)] (some (1 : Nat)) = AObj.rw (List.map (nmap1 (nsub (1 : Nat) (2 : Nat))) (List.map (Value.int IntKind.i64) (dropped n (List.take y l)))) (some (1 : Nat)) ∧ AObj.sc (2 : Nat) (AObj.rw (List.map (Value.int IntKind.i64) (dropped n (List.take y l))) (some (1 : Nat))) = true) ∧ True) ∧ Ob (n = n) ∧ Ob (Value.slice (some (ad0 0)) l.length c = Value.slice (some (ad0 0)) l.length c) ∧ Ob (Value.slice (some { block := (2 : Nat), off := (0 : Nat), spot := some (0 : Nat) }) (1 : Nat) (0 : Nat) = Value.slice (some { block := (2 : Nat), off := (0 : Nat), spot := some (0 : Nat) }) y (0 : Nat)) ∧ Ob (IntKind.i64.wrap ((0 : Int) + (1 : Int)) = (↑y : Int)) ∧ True)) ∧ (true = false → True ∧ Ob (Value.slice none (0 : Nat) (0 : Nat) = Value.slice (some { block := (1 : Nat), off := (0 : Nat), spot := some (0 : Nat) }) (dropped n l).length (0 : Nat) ∧ [AObj.ro (List.map (Value.int IntKind.u8) l)] = [AObj.ro (List.map (Value.int IntKind.u8) l), AObj.rw (List.map (Value.int IntKind.i64) (dropped n l)) (some (1 : Nat))]))) ∧ (decide ((0 : Int) < (↑l.length : Int)) = false → True ∧ Ob (Value.slice none (0 : Nat) (0 : Nat) = Value.slice (some { block := (1 : Nat), off := (0 : Nat), spot := some (0 : Nat) }) (dropped n l).length (0 : Nat) ∧ [AObj.ro (List.map (Value.int IntKind.u8) l)] = [AObj.ro (List.map (Value.int IntKind.u8) l), AObj.rw (List.map (Value.int IntKind.i64) (dropped n l)) (some (1 : Nat))]))) ∧ ∀ (x : Nat), Ob ((0 : Nat) < x ∧ x ≤ (12 : Nat) ∧ x ≤ l.length) → (decide ((↑x : Int) < (↑l.length : Int)) = true → (decide ((↑x : Int) < (12 : Int)) = true → Ob ((0 : Int) ≤ (↑x : Int) ∧ (↑x : Int) < (↑l.length : Int) ∧ true = true) ∧ Ob (IntAt IntKind.u8 (List.map (Value.int IntKind.u8) l) ((0 : Nat) + (↑x : Int).toNat * (1 : Nat))) ∧ Ob (n ≠ (0 : Int)) ∧ Ob (andP (some ((0 : Nat) + (1 : Nat) ≤ (1 : Nat) ∧ true = true)) (x + (1 : Nat) ≤ (1099511627776 : Nat) ∧ ((2 : Nat) * (x + (1 : Nat)) + (256 : Nat)) * (8 : Nat) ≤ (281474976710656 : Nat) ∧ (1 : Nat) = (1 : Nat) ∧ (List.map (Value.int IntKind.i64) (dropped n (List.take x l))).length = x * (1 : Nat))) ∧ ((∃ (y : Unit), Ob True ∧ Ob ((20 : Nat) < (12 : Nat) - x) ∧ (Ob (AObj.ro (List.map (Value.int IntKind.u8) l) = AObj.ro (List.map (nmap1 (nsub (1 : Nat) (3 : Nat))) (List.map (Value.int IntKind.u8) l)) ∧ AObj.sc (1 : Nat) (AObj.ro (List.map (Value.int IntKind.u8) l)) = true) ∧ True) ∧ Ob (n = n) ∧ Ob (Value.slice (some (ad0 0)) l.length c = Value.slice (some (ad0 0)) l.length c) ∧ Ob (Value.slice (some { block := (3 : Nat), off := (0 : Nat), spot := some (0 : Nat) }) (x + (1 : Nat)) (0 : Nat) = Value.slice none (0 : Nat) (0 : Nat)) ∧ Ob (IntKind.i64.wrap ((↑x : Int) + (1 : Int)) = (0 : Int)) ∧ True) ∨ ∃ (y : Nat), Ob ((0 : Nat) < y ∧ y ≤ (12 : Nat) ∧ y ≤ l.length) ∧ Ob ((12 : Nat) - y < (12 : Nat) - x) ∧ (Ob (AObj.ro (List.map (Value.int IntKind.u8) l) = AObj.ro (List.map (nmap1 (nsub (1 : Nat) (3 : Nat))) (List.map (Value.int IntKind.u8) l)) ∧ AObj.sc (2 : Nat) (AObj.ro (List.map (Value.int IntKind.u8) l)) = true) ∧ Ob (AObj.rw (List.map (Value.int IntKind.i64) (dropped n (List.take x l)) ++ [vi ((IntKind.i64.wrap (getI (List.map (Value.int IntKind.u8) l) ((0 : Nat) + (↑x : Int).toNat * (1 : Nat)))).tmod n)]) (some (1 : Nat)) = AObj.rw (List.map (nmap1 (nsub (1 : Nat) (3 : Nat))) (List.map (Value.int IntKind.i64) (dropped n (List.take y l)))) (some (1 : Nat)) ∧ AObj.sc (2 : Nat) (AObj.rw (List.map (Value.int IntKind.i64) (dropped n (List.take y l))) (some (1 : Nat))) = true) ∧ True) ∧ Ob (n = n) ∧ Ob (Value.slice (some (ad0 0)) l.length c = Value.slice (some (ad0 0)) l.length c) ∧ Ob (Value.slice (some { block := (3 : Nat), off := (0 : Nat), spot := some (0 : Nat) }) (x + (1 : Nat)) (0 : Nat) = Value.slice (some { block := (3 : Nat), off := (0 : Nat), spot := some (0 : Nat) }) y (0 : Nat)) ∧ Ob (IntKind.i64.wrap ((↑x : Int) + (1 : Int)) = (↑y : Int)) ∧ True)) ∧ (decide ((↑x : Int) < (12 : Int)) = false → True ∧ Ob (Value.slice (some { block := (1 : Nat), off := (0 : Nat), spot := some (0 : Nat) }) x (0 : Nat) = Value.slice (some { block := (1 : Nat), off := (0 : Nat), spot := some (0 : Nat) }) (dropped n l).length (0 : Nat) ∧ [AObj.ro (List.map (Value.int IntKind.u8) l), AObj.rw (List.map (Value.int IntKind.i64) (dropped n (List.take x l))) (some (1 : Nat))] = [AObj.ro (List.map (Value.int IntKind.u8) l), AObj.rw (List.map (Value.int IntKind.i64) (dropped n l)) (some (1 : Nat))]))) ∧ (decide ((↑x : Int) < (↑l.length : Int)) = false → True ∧ Ob (Value.slice (some { block := (1 : Nat), off := (0 : Nat), spot := some (0 : Nat) }) x (0 : Nat) = Value.slice (some { block := (1 : Nat), off := (0 : Nat), spot := some (0 : Nat) }) (dropped n l).length (0 : Nat) ∧ [AObj.ro (List.map (Value.int IntKind.u8) l), AObj.rw (List.map (Value.int IntKind.i64) (dropped n (List.take x l))) (some (1 : Nat))] = [AObj.ro (List.map (Value.int IntKind.u8) l), AObj.rw (List.map (Value.int IntKind.i64) (dropped n l)) (some (1 : Nat))]))
theorem drV_eq : drV = fun (n : Int) (l : List Int) (c : Nat) => vc Try.prog {} 1 28 true (drI n l c) drB [] (argFr 0 [vi n, .slice (some ⟨0,0,none⟩) l.length c]) [bytesO l] (retK Try.prog Try.f43 (fun v H1 => v = .slice (some ⟨1,0,some 0⟩) (dropped n l).length 0 ∧ H1 = [bytesO l, rws (dropped n l)])) := by kernel_rfl
theorem dropped_succ {n : Int} {l : List Int} {i : Nat} (h : i < l.length) (h12 : i < 12) : dropped n (l.take (i + 1)) = dropped n (l.take i) ++ [l.getD i 0 % n] := by
  unfold dropped
  rw [List.take_take, List.take_take, show min 12 (i + 1) = i + 1 by omega, show min 12 i = i by omega, List.take_succ_eq_append_getElem h, List.map_append, List.map_singleton, List.getD_eq_getElem?_getD, List.getElem?_eq_getElem h]
  rfl
theorem dropped_len {n : Int} {l : List Int} {i : Nat} (h : i ≤ l.length) (h12 : i ≤ 12) : (dropped n (l.take i)).length = i := by
  simp [dropped]; omega
theorem u8_mod {l : List Int} {n : Int} {i : Nat} (hn : 0 < n) (hb : ∀ x ∈ l, 0 ≤ x ∧ x < 256) (h : i < l.length) : (IntKind.i64.wrap (l.getD i 0)).tmod n = l.getD i 0 % n := by
  have hm : l.getD i 0 ∈ l := by rw [List.getD_eq_getElem?_getD, List.getElem?_eq_getElem h]; exact List.getElem_mem h
  have := hb _ hm
  rw [wrap_in (by omega) (by omega), Int.tmod_eq_emod_of_nonneg this.1]
theorem dropped_end {n : Int} {l : List Int} {i : Nat} (h : i ≤ l.length) (h12 : i ≤ 12) (he : ¬ i < l.length ∨ ¬ i < 12) : dropped n (l.take i) = dropped n l := by
  unfold dropped
  rw [List.take_take]
  rcases he with he | he
  · rw [show min 12 i = i by omega, List.take_of_length_le (by omega), List.take_of_length_le (by omega)]
  · rw [show min 12 i = 12 by omega]
theorem drV_ok (n : Int) (l : List Int) (c : Nat) (hn : 0 < n ∧ n ≤ 8) (hl : 0 < l.length) (hb : ∀ x ∈ l, 0 ≤ x ∧ x < 256) (hlen : l.length ≤ 30) : drV n l c := by
  unfold drV
  simp only [ob_iff, map_nmap_int, sc_ro_int, sc_rw_int, getI_map, intAt_map, true_and, and_true, eq_self, Int.toNat_natCast, Nat.zero_add, Nat.mul_one, decide_eq_true_eq, decide_eq_false_iff_not, andP, List.set_cons_zero, List.length_cons, List.length_nil, List.drop_zero, List.take_succ_cons, List.take_zero,
    Value.slice.injEq, Option.some.injEq, Addr.mk.injEq, AObj.rw.injEq, List.cons.injEq, reduceCtorEq, List.length_append, List.length_map, false_and, and_false, exists_const, or_false, false_or, true_or, Nat.lt_irrefl, forall_const, true_implies, List.length_set]
  have h0 : IntKind.i64.wrap (0 + 1) = ((1 : Nat) : Int) := by rw [wrap_in (by omega) (by omega)]; rfl
  refine ⟨⟨fun hlt => ⟨⟨by omega, by omega, by omega, ⟨by omega, by omega, by omega, by omega⟩, 1, ⟨by omega, by omega, by omega⟩, by omega, ?_, rfl, h0⟩, fun h => h.elim⟩, by omega⟩, fun x ⟨h1, h2, h3⟩ => ⟨fun h4 => ⟨fun h5 => ?_, fun h5 => ?_⟩, fun h4 => ?_⟩⟩
  · rw [dropped_succ hl (by omega), u8_mod hn.1 hb hl]
    rfl
  · refine ⟨by omega, by omega, by omega, ⟨by omega, by omega, by omega, dropped_len h3 h2⟩, x + 1, ⟨by omega, by omega, by omega⟩, by omega, ?_, rfl, ?_⟩
    · rw [dropped_succ (by omega) (by omega), u8_mod hn.1 hb (by omega), List.map_append]
      rfl
    · rw [wrap_in (by omega) (by omega)]; rfl
  · rw [dropped_end h3 h2 (.inr (by omega))]
    refine ⟨?_, rfl⟩
    rw [← dropped_end h3 h2 (.inr (by omega)), dropped_len h3 h2]
  · rw [dropped_end h3 h2 (.inl (by omega))]
    refine ⟨?_, rfl⟩
    rw [← dropped_end h3 h2 (.inl (by omega)), dropped_len h3 h2]
theorem dr_call (n : Int) (l : List Int) (c : Nat) (hn : 0 < n ∧ n ≤ 8) (hl : 0 < l.length) (hb : ∀ x ∈ l, 0 ≤ x ∧ x < 256) (hlen : l.length ≤ 30) :
    Call Try.prog 43 [vi n, .slice (some ⟨0,0,none⟩) l.length c] [bytesO l] fun v H1 => v = .slice (some ⟨1,0,some 0⟩) (dropped n l).length 0 ∧ H1 = [bytesO l, rws (dropped n l)] :=
  Call.ofVc (VOk.ofCt CtOk.none) mixed (c := drB) (inv := drI n l c) Try.func43 (by kernel_rfl) (cast (congrFun (congrFun (congrFun drV_eq n) l) c) (drV_ok n l c hn hl hb hlen))
end Go.Pier.Lg
set_option maxRecDepth 100000
set_option linter.unusedVariables false
set_option linter.unusedSimpArgs false
namespace Go.Pier.Lg
open Go Go.Pier Go.Proofs
noncomputable def hasB : Code := Try.f45.body.getD .skip
def hasI (l : List Int) (n : Int) (c : Nat) : Nat → Option LInv := invOf 0 (LInv.one Nat (fun i => i ≤ l.length ∧ ∀ j, j < i → l.getD j 0 ≠ n) (fun i => [(0, .slice (some ⟨0,0,none⟩) l.length c), (1, vi n), (4, .bool false), (5, vi i)]) (fun _ => [.ro (l.map (.int .i64))]) (fun i => l.length - i))
def hasNI (n : Int) : Nat → Option LInv := invOf 0 (LInv.one Unit (fun _ => True) (fun _ => [(0, .slice none 0 0), (1, vi n), (4, .bool false), (5, vi 0)]) (fun _ => []) (fun _ => 0))
noncomputable def hasV :=
fun (l : List Int) (n : Int) (c : Nat) ↦ (∃ (y : Nat), Ob (y ≤ l.length ∧ ∀ (j : Nat), j < y → l.getD j (0 : Int) ≠ n) ∧ (Ob (AObj.ro (List.map (Value.int IntKind.i64) l) = AObj.ro (List.map (nmap1 fun (b : Nat) ↦ b) (List.map (Value.int IntKind.i64) l)) ∧ AObj.sc (1 : Nat) (AObj.ro (List.map (Value.int IntKind.i64) l)) = true) ∧ True) ∧ Ob (Value.slice (some (ad0 0)) l.length c = Value.slice (some (ad0 0)) l.length c) ∧ Ob (n = n) ∧ Ob (false = false) ∧ Ob ((0 : Int) = (↑y : Int)) ∧ True) ∧ ∀ (x : Nat), Ob (x ≤ l.length ∧ ∀ (j : Nat), j < x → l.getD j (0 : Int) ≠ n) → (decide ((↑x : Int) < (↑l.length : Int)) = true → Ob ((0 : Int) ≤ (↑x : Int) ∧ (↑x : Int) < (↑l.length : Int) ∧ true = true) ∧ Ob (IntAt IntKind.i64 (List.map (Value.int IntKind.i64) l) ((0 : Nat) + (↑x : Int).toNat * (1 : Nat))) ∧ ((getI (List.map (Value.int IntKind.i64) l) ((0 : Nat) + (↑x : Int).toNat * (1 : Nat)) == n) = true → True ∧ Ob (Value.bool true = Value.bool (decide (n ∈ l)) ∧ [AObj.ro (List.map (Value.int IntKind.i64) l)] = [AObj.ro (List.map (Value.int IntKind.i64) l)])) ∧ ((getI (List.map (Value.int IntKind.i64) l) ((0 : Nat) + (↑x : Int).toNat * (1 : Nat)) == n) = false → ∃ (y : Nat), Ob (y ≤ l.length ∧ ∀ (j : Nat), j < y → l.getD j (0 : Int) ≠ n) ∧ Ob (l.length - y < l.length - x) ∧ (Ob (AObj.ro (List.map (Value.int IntKind.i64) l) = AObj.ro (List.map (nmap1 fun (b : Nat) ↦ b) (List.map (Value.int IntKind.i64) l)) ∧ AObj.sc (1 : Nat) (AObj.ro (List.map (Value.int IntKind.i64) l)) = true) ∧ True) ∧ Ob (Value.slice (some (ad0 0)) l.length c = Value.slice (some (ad0 0)) l.length c) ∧ Ob (n = n) ∧ Ob (false = false) ∧ Ob (IntKind.i64.wrap ((↑x : Int) + (1 : Int)) = (↑y : Int)) ∧ True)) ∧ (decide ((↑x : Int) < (↑l.length : Int)) = false → True ∧ Ob (Value.bool false = Value.bool (decide (n ∈ l)) ∧ [AObj.ro (List.map (Value.int IntKind.i64) l)] = [AObj.ro (List.map (Value.int IntKind.i64) l)]))
theorem hasV_eq : hasV = fun (l : List Int) (n : Int) (c : Nat) => vc Try.prog {} 1 18 true (hasI l n c) hasB [] (argFr 0 [.slice (some ⟨0,0,none⟩) l.length c, vi n]) [.ro (l.map (.int .i64))] (retK Try.prog Try.f45 (fun v H1 => v = .bool (decide (n ∈ l)) ∧ H1 = [.ro (l.map (.int .i64))])) := by kernel_rfl
noncomputable def hasN :=
fun (n : Int) ↦ (∃ (y : Unit), Ob True ∧ True ∧ Ob (Value.slice none (0 : Nat) (0 : Nat) = Value.slice none (0 : Nat) (0 : Nat)) ∧ Ob (n = n) ∧ Ob (false = false) ∧ Ob ((0 : Int) = (0 : Int)) ∧ True) ∧ ∀ (x : Unit), Ob True → (false = true → False) ∧ (false = false → True ∧ Ob (Value.bool false = Value.bool false))
theorem hasN_eq : hasN = fun (n : Int) => vc Try.prog {} 0 18 true (hasNI n) hasB [] (argFr 0 [.slice none 0 0, vi n]) [] (retK Try.prog Try.f45 (fun v _ => v = .bool false)) := by kernel_rfl
theorem getD_memR {l : List Int} {i : Nat} (h : i < l.length) : l.getD i 0 ∈ l := by
  rw [List.getD_eq_getElem?_getD, List.getElem?_eq_getElem h]; exact List.getElem_mem h
theorem hasV_ok (l : List Int) (n : Int) (c : Nat) (hl : l.length < 1000000) : hasV l n c := by
  unfold hasV
  simp only [ob_iff, map_nmap_int, sc_ro_int, getI_map, intAt_map, true_and, and_true, eq_self, Int.toNat_natCast, Nat.zero_add, Nat.mul_one, beq_iff_eq, beq_eq_false_iff_ne, decide_eq_true_eq, decide_eq_false_iff_not, Value.bool.injEq]
  refine ⟨⟨0, ⟨by omega, fun j hj => by omega⟩, rfl⟩, fun x ⟨hx, hn⟩ => ⟨fun hlt => ⟨by omega, by omega, fun he => ?_, fun he => ⟨x + 1, ⟨by omega, fun j hj => ?_⟩, by omega, ?_⟩⟩, fun hge => ?_⟩⟩
  · have := getD_memR (l := l) (i := x) (by omega)
    rw [he] at this
    simp [this]
  · by_cases h : j = x
    · subst h; exact he
    · exact hn j (by omega)
  · rw [wrap_in (by omega) (by omega)]; rfl
  · symm
    rw [decide_eq_false_iff_not]
    intro hm
    obtain ⟨j, h1, h2⟩ := List.getElem_of_mem hm
    refine hn j (by omega) ?_
    rw [List.getD_eq_getElem?_getD, List.getElem?_eq_getElem h1]; exact h2
theorem has_call (l : List Int) (n : Int) (c : Nat) (hl : l.length < 1000000) : Call Try.prog 45 [.slice (some ⟨0,0,none⟩) l.length c, vi n] [.ro (l.map (.int .i64))] fun v H1 => v = .bool (decide (n ∈ l)) ∧ H1 = [.ro (l.map (.int .i64))] :=
  Call.ofVc (VOk.ofCt CtOk.none) mixed (c := hasB) (inv := hasI l n c) Try.func45 (by kernel_rfl) (cast (congrFun (congrFun (congrFun hasV_eq l) n) c) (hasV_ok l n c hl))
theorem hasN_ok (n : Int) : hasN n := by
  unfold hasN
  simp only [ob_iff, true_and, and_true, exists_const, Bool.false_eq_true, false_implies, forall_const]
theorem has_nil (n : Int) : Call Try.prog 45 [.slice none 0 0, vi n] [] fun v _ => v = .bool false :=
  Call.ofVc (VOk.ofCt CtOk.none) mixed (c := hasB) (inv := hasNI n) Try.func45 (by kernel_rfl) (cast (congrFun hasN_eq n) (hasN_ok n))
def hasG : List Value → Heap → Option (Option Prop × Value × Heap × List Nat) := fun args H => match args with
  | [.slice none 0 0, .int .i64 n] => some (none, .bool false, H, [])
  | [s, .int .i64 n] => match sliceInts .i64 H s with
    | some (φ, l) => some (some (φ ∧ l.length < 1000000), .bool (decide (n ∈ l)), H, [])
    | none => none
  | _ => none
theorem hasG_ok : ∀ args H φ v H' l, hasG args H = some (φ, v, H', l) → Asks φ → Call Try.prog 45 args H (fun v' H2 => v' = v ∧ H2 = H') ∧ Kept H H' l := by
  intro args H φ v H' l h hφ
  unfold hasG at h
  split at h
  · cases h
    refine ⟨?_, Kept.refl _ _⟩
    exact Call.ofArgs («as» := [.plain (.slice none 0 0), .plain (vi _)]) (fun caps => has_nil _) rfl ⟨rfl, rfl, rfl, rfl, trivial⟩
  · split at h <;> simp only [Option.some.injEq, Prod.mk.injEq, reduceCtorEq] at h
    rename_i s n _ _ ψ m hs
    obtain ⟨rfl, rfl, rfl, rfl⟩ := h
    refine ⟨?_, Kept.refl _ _⟩
    exact Call.ofArgs («as» := [.ints .i64 m, .plain (vi n)]) (fun caps => (has_call m n _ hφ.2).mono fun v H h => h.1) rfl ⟨⟨ψ, hs, hφ.1⟩, rfl, rfl, trivial⟩
  · cases h
end Go.Pier.Lg
set_option maxRecDepth 100000
set_option linter.unusedVariables false
set_option linter.unusedSimpArgs false
namespace Go.Pier.Lg
open Go Go.Pier Go.Proofs
noncomputable def mxB : Code := Try.f44.body.getD .skip
def bys (l : List Int) : AObj := .ro (l.map (.int .u8))
def swapL (l : List Int) (i k : Nat) : List Int := (l.set i (l.getD k 0)).set k (l.getD i 0)
def mixTo (l by' : List Int) : Nat → List Int
  | 0 => l
  | i + 1 => swapL (mixTo l by' i) i (by'.getD (i % by'.length) 0 % ((i : Int) + 1)).toNat
def mxI (l b : List Int) (d : Nat) : Nat → Option LInv := invOf 0 (.mk [
      ⟨Nat, fun i => i ≤ l.length, fun i => [(1, .slice (some ⟨1,0,none⟩) b.length d), (5, .slice (some ⟨2,0,some 0⟩) l.length 0), (6, vi i)], fun i => [ros l, bys b, rws (mixTo l b i)], fun i => l.length - i, fun _ _ => none⟩]
    (fun _ => nsub 2 3) (fun _ _ => [fun b => b]))
noncomputable def mxV :=
fun (l b : List Int) (c d : Nat) ↦ Ob (andP (some ((0 : Nat) + l.length * (1 : Nat) ≤ (List.map (Value.int IntKind.i64) l).length ∧ true = true)) ((0 : Nat) + l.length ≤ (1099511627776 : Nat) ∧ ((2 : Nat) * ((0 : Nat) + l.length) + (256 : Nat)) * (8 : Nat) ≤ (281474976710656 : Nat) ∧ (List.take (l.length * (1 : Nat)) (List.drop (0 : Nat) (List.map (Value.int IntKind.i64) l))).length = l.length * (1 : Nat) ∧ (0 : Nat) < (0 : Nat) + l.length ∧ (0 : Nat) + (0 : Nat) ≤ (0 : Nat))) ∧ (∃ (y : Nat), Ob (y ≤ l.length) ∧ (Ob (AObj.ro (List.map (Value.int IntKind.i64) l) = AObj.ro (List.map (nmap1 fun (x : Nat) ↦ match x.beq (2 : Nat) with | true => (3 : Nat) | false => x) (List.map (Value.int IntKind.i64) l)) ∧ AObj.sc (3 : Nat) (AObj.ro (List.map (Value.int IntKind.i64) l)) = true) ∧ Ob (AObj.ro (List.map (Value.int IntKind.u8) b) = AObj.ro (List.map (nmap1 fun (x : Nat) ↦ match x.beq (2 : Nat) with | true => (3 : Nat) | false => x) (List.map (Value.int IntKind.u8) b)) ∧ AObj.sc (3 : Nat) (AObj.ro (List.map (Value.int IntKind.u8) b)) = true) ∧ Ob (AObj.rw ([] ++ List.take (l.length * (1 : Nat)) (List.drop (0 : Nat) (List.map (Value.int IntKind.i64) l))) (some (1 : Nat)) = AObj.rw (List.map (nmap1 fun (x : Nat) ↦ match x.beq (2 : Nat) with | true => (3 : Nat) | false => x) (List.map (Value.int IntKind.i64) (mixTo l b y))) (some (1 : Nat)) ∧ AObj.sc (3 : Nat) (AObj.rw (List.map (Value.int IntKind.i64) (mixTo l b y)) (some (1 : Nat))) = true) ∧ True) ∧ Ob (Value.slice (some (ad0 1)) b.length d = Value.slice (some (ad0 1)) b.length d) ∧ Ob (Value.slice (some { block := (3 : Nat), off := (0 : Nat), spot := some (0 : Nat) }) ((0 : Nat) + l.length) (0 : Nat) = Value.slice (some { block := (3 : Nat), off := (0 : Nat), spot := some (0 : Nat) }) l.length (0 : Nat)) ∧ Ob ((0 : Int) = (↑y : Int)) ∧ True) ∧ ∀ (x : Nat), Ob (x ≤ l.length) → (decide ((↑x : Int) < (↑l.length : Int)) = true → (decide ((0 : Int) < (↑b.length : Int)) = true → Ob ((↑b.length : Int) ≠ (0 : Int)) ∧ Ob ((0 : Int) ≤ (↑x : Int).tmod (↑b.length : Int) ∧ (↑x : Int).tmod (↑b.length : Int) < (↑b.length : Int) ∧ true = true) ∧ Ob (IntAt IntKind.u8 (List.map (Value.int IntKind.u8) b) ((0 : Nat) + ((↑x : Int).tmod (↑b.length : Int)).toNat * (1 : Nat))) ∧ Ob (IntKind.i64.wrap ((↑x : Int) + (1 : Int)) ≠ (0 : Int)) ∧ Ob ((0 : Int) ≤ (IntKind.i64.wrap (getI (List.map (Value.int IntKind.u8) b) ((0 : Nat) + ((↑x : Int).tmod (↑b.length : Int)).toNat * (1 : Nat)))).tmod (IntKind.i64.wrap ((↑x : Int) + (1 : Int))) ∧ (IntKind.i64.wrap (getI (List.map (Value.int IntKind.u8) b) ((0 : Nat) + ((↑x : Int).tmod (↑b.length : Int)).toNat * (1 : Nat)))).tmod (IntKind.i64.wrap ((↑x : Int) + (1 : Int))) < (↑l.length : Int) ∧ true = true) ∧ Ob (IntAt IntKind.i64 (List.map (Value.int IntKind.i64) (mixTo l b x)) ((0 : Nat) + ((IntKind.i64.wrap (getI (List.map (Value.int IntKind.u8) b) ((0 : Nat) + ((↑x : Int).tmod (↑b.length : Int)).toNat * (1 : Nat)))).tmod (IntKind.i64.wrap ((↑x : Int) + (1 : Int)))).toNat * (1 : Nat))) ∧ Ob ((0 : Int) ≤ (↑x : Int) ∧ (↑x : Int) < (↑l.length : Int) ∧ true = true) ∧ Ob (IntAt IntKind.i64 (List.map (Value.int IntKind.i64) (mixTo l b x)) ((0 : Nat) + (↑x : Int).toNat * (1 : Nat))) ∧ Ob ((0 : Int) ≤ (↑x : Int) ∧ (↑x : Int) < (↑l.length : Int) ∧ true = true) ∧ Ob ((0 : Nat) + (↑x : Int).toNat * (1 : Nat) + (1 : Nat) ≤ (List.map (Value.int IntKind.i64) (mixTo l b x)).length) ∧ Ob ((AObj.sc (3 : Nat) (AObj.rw (putL (List.map (Value.int IntKind.i64) (mixTo l b x)) ((0 : Nat) + (↑x : Int).toNat * (1 : Nat)) [vi (getI (List.map (Value.int IntKind.i64) (mixTo l b x)) ((0 : Nat) + ((IntKind.i64.wrap (getI (List.map (Value.int IntKind.u8) b) ((0 : Nat) + ((↑x : Int).tmod (↑b.length : Int)).toNat * (1 : Nat)))).tmod (IntKind.i64.wrap ((↑x : Int) + (1 : Int)))).toNat * (1 : Nat)))]) (some (1 : Nat))) = true ∧ eqV (Value.slice (some { block := (2 : Nat), off := (0 : Nat), spot := some (0 : Nat) }) l.length (0 : Nat)) (Value.slice (some { block := (2 : Nat), off := (0 : Nat), spot := some (0 : Nat) }) l.length (0 : Nat)) = true) ∧ (AObj.sc (3 : Nat) (AObj.rw (putL (List.map (Value.int IntKind.i64) (mixTo l b x)) ((0 : Nat) + (↑x : Int).toNat * (1 : Nat)) [vi (getI (List.map (Value.int IntKind.i64) (mixTo l b x)) ((0 : Nat) + ((IntKind.i64.wrap (getI (List.map (Value.int IntKind.u8) b) ((0 : Nat) + ((↑x : Int).tmod (↑b.length : Int)).toNat * (1 : Nat)))).tmod (IntKind.i64.wrap ((↑x : Int) + (1 : Int)))).toNat * (1 : Nat)))]) (some (1 : Nat))) = true ∧ eqV (vi ((IntKind.i64.wrap (getI (List.map (Value.int IntKind.u8) b) ((0 : Nat) + ((↑x : Int).tmod (↑b.length : Int)).toNat * (1 : Nat)))).tmod (IntKind.i64.wrap ((↑x : Int) + (1 : Int))))) (vi ((IntKind.i64.wrap (getI (List.map (Value.int IntKind.u8) b) ((0 : Nat) + ((↑x : Int).tmod (↑b.length : Int)).toNat * (1 : Nat)))).tmod (IntKind.i64.wrap ((↑x : Int) + (1 : Int))))) = true) ∧ True) ∧ Ob ((0 : Int) ≤ (IntKind.i64.wrap (getI (List.map (Value.int IntKind.u8) b) ((0 : Nat) + ((↑x : Int).tmod (↑b.length : Int)).toNat * (1 : Nat)))).tmod (IntKind.i64.wrap ((↑x : Int) + (1 : Int))) ∧ (IntKind.i64.wrap (getI (List.map (Value.int IntKind.u8) b) ((0 : Nat) + ((↑x : Int).tmod (↑b.length : Int)).toNat * (1 : Nat)))).tmod (IntKind.i64.wrap ((↑x : Int) + (1 : Int))) < (↑l.length : Int) ∧ true = true) ∧ Ob ((0 : Nat) + ((IntKind.i64.wrap (getI (List.map (Value.int IntKind.u8) b) ((0 : Nat) + ((↑x : Int).tmod (↑b.length : Int)).toNat * (1 : Nat)))).tmod (IntKind.i64.wrap ((↑x : Int) + (1 : Int)))).toNat * (1 : Nat) + (1 : Nat) ≤ (putL (List.map (Value.int IntKind.i64) (mixTo l b x)) ((0 : Nat) + (↑x : Int).toNat * (1 : Nat)) [vi (getI (List.map (Value.int IntKind.i64) (mixTo l b x)) ((0 : Nat) + ((IntKind.i64.wrap (getI (List.map (Value.int IntKind.u8) b) ((0 : Nat) + ((↑x : Int).tmod (↑b.length : Int)).toNat * (1 : Nat)))).tmod (IntKind.i64.wrap ((↑x : Int) + (1 : Int)))).toNat * (1 : Nat)))]).length) ∧ ∃ (y : Nat), Ob (y ≤ l.length) ∧ Ob (l.length - y < l.length - x) ∧ (Ob (AObj.ro (List.map (Value.int IntKind.i64) l) = AObj.ro (List.map (nmap1 fun (b : Nat) ↦ b) (List.map (Value.int IntKind.i64) l)) ∧ AObj.sc (3 : Nat) (AObj.ro (List.map (Value.int IntKind.i64) l)) = true) ∧ Ob (AObj.ro (List.map (Value.int IntKind.u8) b) = AObj.ro (List.map (nmap1 fun (b : Nat) ↦ b) (List.map (Value.int IntKind.u8) b)) ∧ AObj.sc (3 : Nat) (AObj.ro (List.map (Value.int IntKind.u8) b)) = true) ∧ Ob (AObj.rw (putL (putL (List.map (Value.int IntKind.i64) (mixTo l b x)) ((0 : Nat) + (↑x : Int).toNat * (1 : Nat)) [vi (getI (List.map (Value.int IntKind.i64) (mixTo l b x)) ((0 : Nat) + ((IntKind.i64.wrap (getI (List.map (Value.int IntKind.u8) b) ((0 : Nat) + ((↑x : Int).tmod (↑b.length : Int)).toNat * (1 : Nat)))).tmod (IntKind.i64.wrap ((↑x : Int) + (1 : Int)))).toNat * (1 : Nat)))]) ((0 : Nat) + ((IntKind.i64.wrap (getI (List.map (Value.int IntKind.u8) b) ((0 : Nat) + ((↑x : Int).tmod (↑b.length : Int)).toNat * (1 : Nat)))).tmod (IntKind.i64.wrap ((↑x : Int) + (1 : Int)))).toNat * (1 : Nat)) [vi (getI (List.map (Value.int IntKind.i64) (mixTo l b x)) ((0 : Nat) + (↑x : Int).toNat * (1 : Nat)))]) (some (1 : Nat)) = AObj.rw (List.map (nmap1 fun (b : Nat) ↦ b) (List.map (Value.int IntKind.i64) (mixTo l b y))) (some (1 : Nat)) ∧ AObj.sc (3 : Nat) (AObj.rw (List.map (Value.int IntKind.i64) (mixTo l b y)) (some (1 : Nat))) = true) ∧ True) ∧ Ob (Value.slice (some (ad0 1)) b.length d = Value.slice (some (ad0 1)) b.length d) ∧ Ob (Value.slice (some { block := (2 : Nat), off := (0 : Nat), spot := some (0 : Nat) }) l.length (0 : Nat) = Value.slice (some { block := (2 : Nat), off := (0 : Nat), spot := some (0 : Nat) }) l.length (0 : Nat)) ∧ Ob (IntKind.i64.wrap ((↑x : Int) + (1 : Int)) = (↑y : Int)) ∧ True) ∧ (decide ((0 : Int) < (↑b.length : Int)) = false → True ∧ Ob (Value.slice (some { block := (2 : Nat), off := (0 : Nat), spot := some (0 : Nat) }) l.length (0 : Nat) = Value.slice (some { block := (2 : Nat), off := (0 : Nat), spot := some (0 : Nat) }) l.length (0 : Nat) ∧ [AObj.ro (List.map (Value.int IntKind.i64) l), AObj.ro (List.map (Value.int IntKind.u8) b), AObj.rw (List.map (Value.int IntKind.i64) (mixTo l b x)) (some (1 : Nat))] = [AObj.ro (List.map (Value.int IntKind.i64) l), AObj.ro (List.map (Value.int IntKind.u8) b), AObj.rw (List.map (Value.int IntKind.i64) (mixTo l b l.length)) (some (1 : Nat))]))) ∧ (decide ((↑x : Int) < (↑l.length : Int)) = false → True ∧ Ob (Value.slice (some { block := (2 : Nat), off := (0 : Nat), spot := some (0 : Nat) }) l.length (0 : Nat) = Value.slice (some { block := (2 : Nat), off := (0 : Nat), spot := some (0 : Nat) }) l.length (0 : Nat) ∧ [AObj.ro (List.map (Value.int IntKind.i64) l), AObj.ro (List.map (Value.int IntKind.u8) b), AObj.rw (List.map (Value.int IntKind.i64) (mixTo l b x)) (some (1 : Nat))] = [AObj.ro (List.map (Value.int IntKind.i64) l), AObj.ro (List.map (Value.int IntKind.u8) b), AObj.rw (List.map (Value.int IntKind.i64) (mixTo l b l.length)) (some (1 : Nat))]))
theorem mxV_eq : mxV = fun (l b : List Int) (c d : Nat) => vc Try.prog {} 2 48 true (mxI l b d) mxB [] (argFr 0 [.slice (some ⟨0,0,none⟩) l.length c, .slice (some ⟨1,0,none⟩) b.length d]) [ros l, bys b] (retK Try.prog Try.f44 (fun v H1 => v = newSlice 2 l.length ∧ H1 = [ros l, bys b, rws (mixTo l b l.length)])) := by kernel_rfl
theorem swapL_len {l : List Int} {i k : Nat} : (swapL l i k).length = l.length := by simp [swapL]
theorem mixTo_len {l b : List Int} : ∀ {i : Nat}, (mixTo l b i).length = l.length
  | 0 => rfl
  | i + 1 => by rw [mixTo, swapL_len, mixTo_len]
theorem mxV_ok (l b : List Int) (c d : Nat) (hl : 0 < l.length) (hb : 0 < b.length) (hu : ∀ x ∈ b, 0 ≤ x ∧ x < 256) (hlen : l.length ≤ 13) : mxV l b c d := by
  have mod : ∀ x : Nat, (x : Int).tmod (b.length : Int) = ((x % b.length : Nat) : Int) := fun x => by rw [Int.tmod_eq_emod_of_nonneg (by omega)]; rfl
  have key : ∀ x : Nat, x < l.length → (IntKind.i64.wrap (b.getD (x % b.length) 0)).tmod (IntKind.i64.wrap ((x : Int) + 1)) = ((b.getD (x % b.length) 0 % ((x : Int) + 1)).toNat : Int) := fun x hx => by
    have h := hu _ (getD_memR (l := b) (i := x % b.length) (Nat.mod_lt _ hb))
    rw [wrap_in (by omega) (by omega), wrap_in (by omega) (by omega), Int.tmod_eq_emod_of_nonneg h.1, Int.toNat_of_nonneg (Int.emod_nonneg _ (by omega))]
  unfold mxV
  simp only [SS, reduceCtorEq, Arg.list, Arg.num, Arg.flag, intOf, andP, Nat.reduceLeDiff, Nat.reduceAdd, Nat.reduceMul, Nat.reduceLT, mod, mixTo_len, Int.toNat_natCast]
  refine ⟨⟨by omega, by omega, hl⟩, ⟨0, Nat.zero_le _, rfl, rfl⟩, fun x hx => ⟨fun hlt => ⟨fun _ => ?_, fun h => absurd (show (0 : Int) < (b.length : Int) by omega) h⟩, fun hge => ?_⟩⟩
  · have hx' : x < l.length := by omega
    have hmod := Nat.mod_lt x hb
    have hs : mixTo l b (x + 1) = swapL (mixTo l b x) x (b.getD (x % b.length) 0 % ((x : Int) + 1)).toNat := rfl
    have hw : IntKind.i64.wrap ((x : Int) + 1) = ((x + 1 : Nat) : Int) := by rw [wrap_in (by omega) (by omega)]; push_cast; rfl
    have hq : (b.getD (x % b.length) 0 % ((x : Int) + 1)).toNat ≤ x := by
      have h1 := Int.emod_nonneg (b.getD (x % b.length) 0) (show (x : Int) + 1 ≠ 0 by omega)
      have h2 := Int.emod_lt_of_pos (b.getD (x % b.length) 0) (show 0 < (x : Int) + 1 by omega)
      omega
    rw [key x hx']
    generalize (b.getD (x % b.length) 0 % ((x : Int) + 1)).toNat = q at *
    have hM : (mixTo l b x).length = l.length := mixTo_len
    generalize mixTo l b x = M at *
    have hsc : AObj.sc 3 (AObj.rw (putL (List.map (Value.int .i64) M) x [vi (M.getD q 0)]) (some 1)) = true := by
      rw [putL_one, ← List.map_set]; exact sc_ints
    simp only [Int.toNat_natCast, putL_one, List.length_set, List.length_map, hM] at *
    refine ⟨by omega, ⟨by omega, by omega⟩, hmod, by rw [hw]; omega, ⟨by omega, by omega⟩, by omega, ⟨by omega, by omega⟩, hx', ⟨by omega, by omega⟩, by omega, ⟨⟨hsc, ?_⟩, hsc, ?_⟩, ⟨by omega, by omega⟩, by omega, x + 1, by omega, by omega, ?_, hw⟩
    · simp [eqV, eqS, eqA]
    · simp [eqV, eqS]
    · rw [hs, ← List.map_set, ← List.map_set]; rfl
  · rw [show x = l.length by omega]
theorem swap_perm {l : List Int} {i k : Nat} (hi : i < l.length) (hk : k < l.length) : (swapL l i k).Perm l := by
  rw [List.perm_iff_count]
  intro a
  unfold swapL
  have ei : l.getD i 0 = l[i] := by rw [List.getD_eq_getElem?_getD, List.getElem?_eq_getElem hi]; rfl
  have ek : l.getD k 0 = l[k] := by rw [List.getD_eq_getElem?_getD, List.getElem?_eq_getElem hk]; rfl
  rw [ei, ek, List.count_set (by rw [List.length_set]; exact hk), List.count_set hi, List.getElem_set]
  have pi : l[i] = a → 1 ≤ List.count a l := fun h => List.count_pos_iff.2 (h ▸ List.getElem_mem hi)
  have pk : l[k] = a → 1 ≤ List.count a l := fun h => List.count_pos_iff.2 (h ▸ List.getElem_mem hk)
  by_cases e : i = k
  · subst e
    simp only [if_true, beq_iff_eq]
    split
    · have := pi ‹_›; omega
    · omega
  · rw [if_neg e]
    simp only [beq_iff_eq]
    by_cases h1 : l[i] = a
    · have := pi h1
      by_cases h2 : l[k] = a
      · simp only [h1, h2, if_true]; omega
      · simp only [h1, h2, if_true, if_false]; omega
    · by_cases h2 : l[k] = a
      · have := pk h2
        simp only [h1, h2, if_true, if_false]; omega
      · simp only [h1, h2, if_false]; omega
theorem mixTo_perm {l b : List Int} (hb : 0 < b.length) : ∀ {i : Nat}, i ≤ l.length → (mixTo l b i).Perm l
  | 0, _ => List.Perm.refl _
  | i + 1, h => by
    have hq : (b.getD (i % b.length) 0 % ((i : Int) + 1)).toNat ≤ i := by
      have h1 := Int.emod_nonneg (b.getD (i % b.length) 0) (show (i : Int) + 1 ≠ 0 by omega)
      have h2 := Int.emod_lt_of_pos (b.getD (i % b.length) 0) (show 0 < (i : Int) + 1 by omega)
      omega
    rw [mixTo]
    exact (swap_perm (by rw [mixTo_len]; omega) (by rw [mixTo_len]; omega)).trans (mixTo_perm hb (by omega))
theorem mx_call (l b : List Int) (c d : Nat) (hl : 0 < l.length) (hb : 0 < b.length) (hu : ∀ x ∈ b, 0 ≤ x ∧ x < 256) (hlen : l.length ≤ 13) :
    Call Try.prog 44 [.slice (some ⟨0,0,none⟩) l.length c, .slice (some ⟨1,0,none⟩) b.length d] [ros l, bys b] fun v H1 => v = newSlice 2 l.length ∧ H1 = [ros l, bys b, rws (mixTo l b l.length)] :=
  Call.ofVc (VOk.ofCt CtOk.none) mixed (c := mxB) (inv := mxI l b d) Try.func44 (by kernel_rfl) (cast (congrFun (congrFun (congrFun (congrFun mxV_eq l) b) c) d) (mxV_ok l b c d hl hb hu hlen))
end Go.Pier.Lg
set_option maxRecDepth 100000
set_option linter.unusedVariables false
set_option linter.unusedSimpArgs false
namespace Go.Pier.Lg
open Go Go.Pier Go.Proofs
noncomputable def dropR_c0 : Code := ((Code.region (5 : Nat) { toList := [{ dst := some (8 : Nat), op := Op.assign (Operand.tmp (23 : Nat)), type := (3 : Nat), pos := "pusher.go:34", after := { toList := [] }, guard := none }] } false).seq (Code.region (6 : Nat) { toList := [{ dst := some (9 : Nat), op := Op.assign (Operand.tmp (24 : Nat)), type := (3 : Nat), pos := "pusher.go:34", after := { toList := [] }, guard := none }] } false))
noncomputable def dropR_c1 : Code := (Code.block (3 : Nat) ((Code.region (7 : Nat) { toList := [{ dst := some (25 : Nat), op := Op.load (56 : Nat) (Operand.tmp (3 : Nat)), type := (56 : Nat), pos := "pusher.go:35", after := { toList := [] }, guard := none }, { dst := some (26 : Nat), op := Op.move (Operand.tmp (8 : Nat)), type := (3 : Nat), pos := "pusher.go:35", after := { toList := [] }, guard := none }, { dst := some (27 : Nat), op := Op.move (Operand.tmp (9 : Nat)), type := (3 : Nat), pos := "pusher.go:35", after := { toList := [] }, guard := none }, { dst := some (28 : Nat), op := Op.call { callee := Callee.value (Operand.func (82 : Nat)), args := { toList := [Operand.tmp (25 : Nat), Operand.tmp (26 : Nat), Operand.tmp (27 : Nat)] }, argTypes := { toList := [(56 : Nat), (3 : Nat), (3 : Nat)] } }, type := (0 : Nat), pos := "pusher.go:35", after := { toList := [{ on := (0 : Nat), ground := Ground.data }, { on := (1 : Nat), ground := Ground.data }, { on := (2 : Nat), ground := Ground.data }] }, guard := none }] } false).seq (Code.exit (1 : Nat))))
noncomputable def dropR_c2 : Code := (Code.exit (1 : Nat))
noncomputable def dR_s0 (n : Nat) (tk tk2 : Nat → Bool) (l : List Int) (c : Nat) (xq : Nat) := (vi (↑n : Int) :: T8 ((stI true n tk l xq).tk) [Value.slice (some { block := (3 : Nat), off := (0 : Nat), spot := some (0 : Nat) }) xq (0 : Nat), vi (stI true n tk l xq).slid, vi (stI true n tk l xq).fell])
noncomputable def dR_s1 (n : Nat) (tk tk2 : Nat → Bool) (l : List Int) (c : Nat) (xq : Nat) : Array Value := { toList := [junk, Value.func (Fn.func (75 : FuncId)) { toList := [Value.agg { toList := (lgC (↑n : Int) tk2) }] } { toList := [] }, junk, ptr0 2, junk, junk, junk, vi (getI (List.map (Value.int IntKind.i64) l) ((0 : Nat) + (↑xq : Int).toNat * (1 : Nat))), junk, junk, Value.slice (some (ad0 1)) l.length c, vi (↑l.length : Int), vi (↑xq : Int), Value.bool true, Value.pointer (some { block := (1 : Nat), off := (0 : Nat) + (↑xq : Int).toNat * (1 : Nat), spot := none }), vi (getI (List.map (Value.int IntKind.i64) l) ((0 : Nat) + (↑xq : Int).toNat * (1 : Nat))), ptr0 0, ptr0 0, ptr0 0, Value.agg { toList := (lgC (↑n : Int) ((stI true n tk l xq).tk)) }, vi (getI (List.map (Value.int IntKind.i64) l) ((0 : Nat) + (↑xq : Int).toNat * (1 : Nat))), Value.func (Fn.func (75 : FuncId)) { toList := [Value.agg { toList := (lgC (↑n : Int) tk2) }] } { toList := [] }, Value.func (Fn.func (84 : Nat)) { toList := [] } { toList := [ptr0 5, ptr0 4, ptr0 6] }, junk, junk, junk, junk, junk, junk, junk, junk, junk, junk, junk, junk, junk, junk, junk, junk] }
noncomputable def dR_s2 (n : Nat) (tk tk2 : Nat → Bool) (l : List Int) (c : Nat) : Array Value := { toList := [junk, Value.func (Fn.func (75 : FuncId)) { toList := [Value.agg { toList := (lgC (↑n : Int) tk2) }] } { toList := [] }, junk, ptr0 2, junk, junk, junk, vi (getI (List.map (Value.int IntKind.i64) l) (0 : Nat)), junk, junk, Value.slice (some (ad0 1)) l.length c, vi (↑l.length : Int), vi (0 : Int), Value.bool true, ptr0 1, vi (getI (List.map (Value.int IntKind.i64) l) (0 : Nat)), ptr0 0, ptr0 0, ptr0 0, Value.agg { toList := (lgC (↑n : Int) tk) }, vi (getI (List.map (Value.int IntKind.i64) l) (0 : Nat)), Value.func (Fn.func (75 : FuncId)) { toList := [Value.agg { toList := (lgC (↑n : Int) tk2) }] } { toList := [] }, Value.func (Fn.func (84 : Nat)) { toList := [] } { toList := [ptr0 4, ptr0 3, ptr0 5] }, junk, junk, junk, junk, junk, junk, junk, junk, junk, junk, junk, junk, junk, junk, junk, junk] }
noncomputable def dR_s3 (n : Nat) (tk tk2 : Nat → Bool) (l : List Int) (c : Nat) (xq : Nat) := (getI (List.map (Value.int IntKind.i64) l) ((0 : Nat) + (↑xq : Int).toNat * (1 : Nat)))
noncomputable def dR_s4 (n : Nat) (tk tk2 : Nat → Bool) (l : List Int) (c : Nat) := (vi (↑n : Int) :: T8 tk [Value.slice none (0 : Nat) (0 : Nat), vi (0 : Int), vi (0 : Int)])
noncomputable def dR_s5 (n : Nat) (tk tk2 : Nat → Bool) (l : List Int) (c : Nat) (x_1 : Nat) := (↑(posM true (↑n : Int).toNat (getI (List.map (Value.int IntKind.i64) l) (0 : Nat)).toNat x_1) : Int)
noncomputable def dR_s6 (n : Nat) (tk tk2 : Nat → Bool) (l : List Int) (c : Nat) (x_1 : Nat) (xq : Nat) : List Value := [vi (↑n : Int), Value.bool (bif Nat.beq (1 : Nat) ((1 : Nat) + (↑(posM true (↑n : Int).toNat (dR_s3 n tk tk2 l c xq).toNat x_1) : Int).toNat * (1 : Nat)) then true else (stI true n tk l xq).tk (0 : Nat)), Value.bool (bif Nat.beq (2 : Nat) ((1 : Nat) + (↑(posM true (↑n : Int).toNat (dR_s3 n tk tk2 l c xq).toNat x_1) : Int).toNat * (1 : Nat)) then true else (stI true n tk l xq).tk (1 : Nat)), Value.bool (bif Nat.beq (3 : Nat) ((1 : Nat) + (↑(posM true (↑n : Int).toNat (dR_s3 n tk tk2 l c xq).toNat x_1) : Int).toNat * (1 : Nat)) then true else (stI true n tk l xq).tk (2 : Nat)), Value.bool (bif Nat.beq (4 : Nat) ((1 : Nat) + (↑(posM true (↑n : Int).toNat (dR_s3 n tk tk2 l c xq).toNat x_1) : Int).toNat * (1 : Nat)) then true else (stI true n tk l xq).tk (3 : Nat)), Value.bool (bif Nat.beq (5 : Nat) ((1 : Nat) + (↑(posM true (↑n : Int).toNat (dR_s3 n tk tk2 l c xq).toNat x_1) : Int).toNat * (1 : Nat)) then true else (stI true n tk l xq).tk (4 : Nat)), Value.bool (bif Nat.beq (6 : Nat) ((1 : Nat) + (↑(posM true (↑n : Int).toNat (dR_s3 n tk tk2 l c xq).toNat x_1) : Int).toNat * (1 : Nat)) then true else (stI true n tk l xq).tk (5 : Nat)), Value.bool (bif Nat.beq (7 : Nat) ((1 : Nat) + (↑(posM true (↑n : Int).toNat (dR_s3 n tk tk2 l c xq).toNat x_1) : Int).toNat * (1 : Nat)) then true else (stI true n tk l xq).tk (6 : Nat)), Value.bool (bif Nat.beq (8 : Nat) ((1 : Nat) + (↑(posM true (↑n : Int).toNat (dR_s3 n tk tk2 l c xq).toNat x_1) : Int).toNat * (1 : Nat)) then true else (stI true n tk l xq).tk (7 : Nat)), Value.slice (some { block := (9 : Nat), off := (0 : Nat), spot := some (0 : Nat) }) (xq + (1 : Nat)) (0 : Nat), vi (IntKind.i64.wrap ((stI true n tk l xq).slid + (↑x_1 : Int))), vi (stI true n tk l xq).fell]
noncomputable def dR_s7 (n : Nat) (tk tk2 : Nat → Bool) (l : List Int) (c : Nat) (x_1 : Nat) : List Value := [vi (↑n : Int), Value.bool (bif Nat.beq (1 : Nat) ((1 : Nat) + (dR_s5 n tk tk2 l c x_1).toNat * (1 : Nat)) then true else tk (0 : Nat)), Value.bool (bif Nat.beq (2 : Nat) ((1 : Nat) + (dR_s5 n tk tk2 l c x_1).toNat * (1 : Nat)) then true else tk (1 : Nat)), Value.bool (bif Nat.beq (3 : Nat) ((1 : Nat) + (dR_s5 n tk tk2 l c x_1).toNat * (1 : Nat)) then true else tk (2 : Nat)), Value.bool (bif Nat.beq (4 : Nat) ((1 : Nat) + (dR_s5 n tk tk2 l c x_1).toNat * (1 : Nat)) then true else tk (3 : Nat)), Value.bool (bif Nat.beq (5 : Nat) ((1 : Nat) + (dR_s5 n tk tk2 l c x_1).toNat * (1 : Nat)) then true else tk (4 : Nat)), Value.bool (bif Nat.beq (6 : Nat) ((1 : Nat) + (dR_s5 n tk tk2 l c x_1).toNat * (1 : Nat)) then true else tk (5 : Nat)), Value.bool (bif Nat.beq (7 : Nat) ((1 : Nat) + (dR_s5 n tk tk2 l c x_1).toNat * (1 : Nat)) then true else tk (6 : Nat)), Value.bool (bif Nat.beq (8 : Nat) ((1 : Nat) + (dR_s5 n tk tk2 l c x_1).toNat * (1 : Nat)) then true else tk (7 : Nat)), Value.slice (some { block := (8 : Nat), off := (0 : Nat), spot := some (0 : Nat) }) (1 : Nat) (0 : Nat), vi (IntKind.i64.wrap ((0 : Int) + (↑x_1 : Int))), vi (0 : Int)]
noncomputable def dR_s8 (n : Nat) (tk tk2 : Nat → Bool) (l : List Int) (c : Nat) : List Value := [Value.func (Fn.func (75 : FuncId)) { toList := [Value.agg { toList := (lgC (↑n : Int) tk2) }] } { toList := [] }]
noncomputable def dR_s9 (n : Nat) (tk tk2 : Nat → Bool) (l : List Int) (c : Nat) := (List.map (Value.int IntKind.i64) l)
noncomputable def dR_s10 (n : Nat) (tk tk2 : Nat → Bool) (l : List Int) (c : Nat) (x_1 : Nat) (xq : Nat) := (↑(posM true (↑n : Int).toNat (dR_s3 n tk tk2 l c xq).toNat x_1) : Int)
noncomputable def dR_s11 (n : Nat) (tk tk2 : Nat → Bool) (l : List Int) (c : Nat) : Array Value := { toList := [Value.agg { toList := (lgC (↑n : Int) tk2) }] }
noncomputable def dR_s12 (n : Nat) (tk tk2 : Nat → Bool) (l : List Int) (c : Nat) (xq : Nat) := (List.map (Value.int IntKind.i64) (stI true n tk l xq).lies)
noncomputable def dR_s13 (n : Nat) (tk tk2 : Nat → Bool) (l : List Int) (c : Nat) (xq : Nat) := (vi (fN (dR_s0 n tk tk2 l c xq)) :: T8 (fT (dR_s0 n tk tk2 l c xq)) [Value.slice (some { block := (8 : Nat) + (1 : Nat), off := (0 : Nat), spot := some (0 : Nat) }) (xq + (1 : Nat)) (0 : Nat), vi (fS (dR_s0 n tk tk2 l c xq) + IntKind.i64.wrap ((↑n : Int) - getI (dR_s9 n tk tk2 l c) ((0 : Nat) + (↑xq : Int).toNat * (1 : Nat)))), vi (fF (dR_s0 n tk tk2 l c xq) + (1 : Int))])
noncomputable def dR_s14 (n : Nat) (tk tk2 : Nat → Bool) (l : List Int) (c : Nat) := (vi (fN (dR_s4 n tk tk2 l c)) :: T8 (fT (dR_s4 n tk tk2 l c)) [Value.slice (some { block := (7 : Nat) + (1 : Nat), off := (0 : Nat), spot := some (0 : Nat) }) (1 : Nat) (0 : Nat), vi (fS (dR_s4 n tk tk2 l c) + IntKind.i64.wrap ((↑n : Int) - getI (dR_s9 n tk tk2 l c) (0 : Nat))), vi (fF (dR_s4 n tk tk2 l c) + (1 : Int))])
noncomputable def dR_s15 (n : Nat) (tk tk2 : Nat → Bool) (l : List Int) (c : Nat) := (getI (dR_s9 n tk tk2 l c) (0 : Nat))
noncomputable def dR_s16 (n : Nat) (tk tk2 : Nat → Bool) (l : List Int) (c : Nat) (xq : Nat) := (lgC (↑n : Int) ((stI true n tk l xq).tk))
noncomputable def dR_s17 (n : Nat) (tk tk2 : Nat → Bool) (l : List Int) (c : Nat) (xq : Nat) := (vi (fN (dR_s0 n tk tk2 l c xq)) :: T8 (fT (dR_s0 n tk tk2 l c xq)) [Value.slice (some { block := (3 : Nat), off := (0 : Nat), spot := some (0 : Nat) }) xq (0 : Nat), vi (fS (dR_s0 n tk tk2 l c xq)), vi (fF (dR_s0 n tk tk2 l c xq))])
noncomputable def dR_s18 (n : Nat) (tk tk2 : Nat → Bool) (l : List Int) (c : Nat) := (vi (↑n : Int) :: T8 ((runP true n tk l).tk) [Value.slice (some { block := (3 : Nat), off := (0 : Nat), spot := some (0 : Nat) }) l.length (0 : Nat), vi (runP true n tk l).slid, vi (runP true n tk l).fell])
noncomputable def dR_s19 (n : Nat) (tk tk2 : Nat → Bool) (l : List Int) (c : Nat) := (vi (fN (dR_s4 n tk tk2 l c)) :: T8 (fT (dR_s4 n tk tk2 l c)) [Value.slice none (0 : Nat) (0 : Nat), vi (fS (dR_s4 n tk tk2 l c)), vi (fF (dR_s4 n tk tk2 l c))])
noncomputable def dR_s20 (n : Nat) (tk tk2 : Nat → Bool) (l : List Int) (c : Nat) (i : Nat) (xq : Nat) := (posM true (↑n : Int).toNat (dR_s3 n tk tk2 l c xq).toNat i)
noncomputable def dR_s21 (n : Nat) (tk tk2 : Nat → Bool) (l : List Int) (c : Nat) (i : Nat) := (posM true (↑n : Int).toNat (dR_s15 n tk tk2 l c).toNat i)
noncomputable def dR_s22 (n : Nat) (tk tk2 : Nat → Bool) (l : List Int) (c : Nat) (x_1 : Nat) (xq : Nat) := ((0 : Nat) + (1 : Nat) + (dR_s10 n tk tk2 l c x_1 xq).toNat * (1 : Nat))
noncomputable def dR_s23 (n : Nat) (tk tk2 : Nat → Bool) (l : List Int) (c : Nat) (x_1 : Nat) := ((0 : Nat) + (1 : Nat) + (dR_s5 n tk tk2 l c x_1).toNat * (1 : Nat))
noncomputable def dR_s24 (n : Nat) (tk tk2 : Nat → Bool) (l : List Int) (c : Nat) := (List.map (nmap1 (nsub (3 : Nat) (8 : Nat))) (dR_s9 n tk tk2 l c))
noncomputable def dR_s25 (n : Nat) (tk tk2 : Nat → Bool) (l : List Int) (c : Nat) := (List.map (nmap1 (nsub (3 : Nat) (9 : Nat))) (dR_s9 n tk tk2 l c))
noncomputable def dR_s26 (n : Nat) (tk tk2 : Nat → Bool) (l : List Int) (c : Nat) (xq : Nat) := (IntKind.i64.wrap ((↑n : Int) - getI (dR_s9 n tk tk2 l c) ((0 : Nat) + (↑xq : Int).toNat * (1 : Nat))))
noncomputable def dR :=
fun (n : Nat) (tk tk2 : Nat → Bool) (l : List Int) (c : Nat) ↦ ((∃ (y : Unit), Ob True ∧ (Ob (AObj.rw (dR_s4 n tk tk2 l c) none = AObj.rw (dR_s4 n tk tk2 l c) none ∧ true = true) ∧ Ob (AObj.ro (dR_s9 n tk tk2 l c) = AObj.ro (List.map (nmap1 fun (b : Nat) ↦ b) (dR_s9 n tk tk2 l c)) ∧ AObj.sc (3 : Nat) (AObj.ro (dR_s9 n tk tk2 l c)) = true) ∧ Ob (AObj.rw [ptr0 0] none = AObj.rw [ptr0 0] none ∧ true = true) ∧ True) ∧ Ob (Value.func (Fn.func (75 : FuncId)) (dR_s11 n tk tk2 l c) { toList := [] } = Value.func (Fn.func (75 : FuncId)) (dR_s11 n tk tk2 l c) { toList := [] }) ∧ Ob (ptr0 2 = ptr0 2) ∧ Ob (Value.slice (some (ad0 1)) l.length c = Value.slice (some (ad0 1)) l.length c) ∧ Ob ((↑l.length : Int) = (↑l.length : Int)) ∧ Ob ((0 : Int) = (0 : Int)) ∧ True) ∨ ∃ (yq : Nat), Ob ((0 : Nat) < yq ∧ yq ≤ l.length) ∧ (Ob (AObj.rw (dR_s4 n tk tk2 l c) none = AObj.rw (vi (↑n : Int) :: T8 ((stI true n tk l yq).tk) [Value.slice (some { block := (3 : Nat), off := (0 : Nat), spot := some (0 : Nat) }) yq (0 : Nat), vi (stI true n tk l yq).slid, vi (stI true n tk l yq).fell]) none ∧ true = true) ∧ Ob (AObj.ro (dR_s9 n tk tk2 l c) = AObj.ro (List.map (nmap1 fun (b : Nat) ↦ b) (dR_s9 n tk tk2 l c)) ∧ AObj.sc (4 : Nat) (AObj.ro (dR_s9 n tk tk2 l c)) = true) ∧ Ob (AObj.rw [ptr0 0] none = AObj.rw [ptr0 0] none ∧ true = true) ∧ False) ∧ Ob (Value.func (Fn.func (75 : FuncId)) (dR_s11 n tk tk2 l c) { toList := [] } = Value.func (Fn.func (75 : FuncId)) (dR_s11 n tk tk2 l c) { toList := [] }) ∧ Ob (ptr0 2 = ptr0 2) ∧ Ob (Value.slice (some (ad0 1)) l.length c = Value.slice (some (ad0 1)) l.length c) ∧ Ob ((↑l.length : Int) = (↑l.length : Int)) ∧ Ob ((0 : Int) = (↑yq : Int)) ∧ True) ∧ (∀ (x : Unit), Ob True → (decide ((0 : Int) < (↑l.length : Int)) = true → Ob ((0 : Int) ≤ (0 : Int) ∧ (0 : Int) < (↑l.length : Int) ∧ true = true) ∧ Ob (IntAt IntKind.i64 (dR_s9 n tk tk2 l c) (0 : Nat)) ∧ Ob (some (vi (dR_s15 n tk tk2 l c)) = some (vi (dR_s15 n tk tk2 l c))) ∧ (∃ (yqq : Nat), Ob (yqq ≤ cntM true (↑n : Int).toNat (dR_s15 n tk tk2 l c).toNat ∧ ∀ (i : Nat), i < yqq → fT (lgC (↑n : Int) tk) (dR_s21 n tk tk2 l c i) = true) ∧ (Ob (AObj.rw (dR_s4 n tk tk2 l c) none = AObj.rw (dR_s4 n tk tk2 l c) none ∧ true = true) ∧ Ob (AObj.ro (dR_s9 n tk tk2 l c) = AObj.ro (List.map (nmap1 fun (b : Nat) ↦ b) (dR_s9 n tk tk2 l c)) ∧ AObj.sc (7 : Nat) (AObj.ro (dR_s9 n tk tk2 l c)) = true) ∧ Ob (AObj.rw [ptr0 0] none = AObj.rw [ptr0 0] none ∧ true = true) ∧ Ob (AObj.rw (lgC (↑n : Int) tk) none = AObj.rw (lgC (↑n : Int) tk) none ∧ true = true) ∧ Ob (AObj.rw [vi (dR_s15 n tk tk2 l c)] none = AObj.rw [vi (dR_s15 n tk tk2 l c)] none ∧ true = true) ∧ Ob (AObj.rw (dR_s8 n tk tk2 l c) none = AObj.rw (dR_s8 n tk tk2 l c) none ∧ true = true) ∧ Ob (AObj.loop LoopState.ready none (dR_s2 n tk tk2 l c) { toList := [(23 : Nat), (24 : Nat)] } dropR_c0 dropR_c1 = AObj.loop LoopState.ready none (dR_s2 n tk tk2 l c) { toList := [(23 : Nat), (24 : Nat)] } dropR_c0 dropR_c1 ∧ true = true) ∧ True) ∧ Ob (Value.func (Fn.yield (6 : Nat)) { toList := [] } { toList := [] } = Value.func (Fn.yield (6 : Nat)) { toList := [] } { toList := [] }) ∧ Ob (ptr0 4 = ptr0 4) ∧ Ob (ptr0 3 = ptr0 3) ∧ Ob (ptr0 5 = ptr0 5) ∧ Ob (getI (dR_s9 n tk tk2 l c) (0 : Nat) = (↑(posM true (↑n : Int).toNat (dR_s15 n tk tk2 l c).toNat yqq) : Int)) ∧ Ob ((0 : Int) = (↑yqq : Int)) ∧ True) ∧ ∀ (x_1 : Nat), Ob (x_1 ≤ cntM true (↑n : Int).toNat (dR_s15 n tk tk2 l c).toNat ∧ ∀ (i : Nat), i < x_1 → fT (lgC (↑n : Int) tk) (dR_s21 n tk tk2 l c i) = true) → Ob (some (vi (↑n : Int)) = some (vi (↑n : Int))) ∧ (decide ((↑x_1 : Int) < (↑n : Int)) = true → Ob (some (vi (↑n : Int)) = some (vi (↑n : Int))) ∧ (decide ((dR_s5 n tk tk2 l c x_1) < (↑n : Int)) = true → Ob ((0 : Int) ≤ (dR_s5 n tk tk2 l c x_1) ∧ (dR_s5 n tk tk2 l c x_1) < (↑(8 : Nat) : Int)) ∧ Ob (BoolAt (lgC (↑n : Int) tk) (dR_s23 n tk tk2 l c x_1)) ∧ ((!getB (lgC (↑n : Int) tk) (dR_s23 n tk tk2 l c x_1)) = true → Ob ((0 : Int) ≤ (dR_s5 n tk tk2 l c x_1) ∧ (dR_s5 n tk tk2 l c x_1) < (↑(8 : Nat) : Int)) ∧ Ob (BoolAt (dR_s4 n tk tk2 l c) ((1 : Nat) + (dR_s5 n tk tk2 l c x_1).toNat * (1 : Nat)) ∧ some (1 : Nat) = some (1 : Nat)) ∧ Ob (andP (some ((0 : Nat) + (1 : Nat) ≤ (1 : Nat) ∧ true = true)) ((1 : Nat) ≤ (1099511627776 : Nat) ∧ (2064 : Nat) ≤ (281474976710656 : Nat) ∧ (1 : Nat) = (1 : Nat) ∧ (0 : Nat) = (0 : Nat) ∧ (0 : Nat) < (1 : Nat))) ∧ Ob ((10 : Nat) ≤ (12 : Nat)) ∧ Ob (some (vi (0 : Int)) = some (vi (0 : Int))) ∧ Ob ((11 : Nat) ≤ (12 : Nat)) ∧ (true = true → False ∨ ∃ (yqqq : Nat), Ob ((0 : Nat) < yqqq ∧ yqqq ≤ l.length) ∧ Ob (l.length - yqqq < (1000001 : Nat)) ∧ (Ob (AObj.rw (dR_s7 n tk tk2 l c x_1) none = AObj.rw (vi (↑n : Int) :: T8 ((stI true n tk l yqqq).tk) [Value.slice (some { block := (8 : Nat), off := (0 : Nat), spot := some (0 : Nat) }) yqqq (0 : Nat), vi (stI true n tk l yqqq).slid, vi (stI true n tk l yqqq).fell]) none ∧ true = true) ∧ Ob (AObj.ro (dR_s9 n tk tk2 l c) = AObj.ro (dR_s24 n tk tk2 l c) ∧ AObj.sc (4 : Nat) (AObj.ro (dR_s9 n tk tk2 l c)) = true) ∧ Ob (AObj.rw [ptr0 0] none = AObj.rw [ptr0 0] none ∧ true = true) ∧ Ob (AObj.rw [vi (dR_s5 n tk tk2 l c x_1)] (some (1 : Nat)) = AObj.rw (List.map (nmap1 (nsub (3 : Nat) (8 : Nat))) (List.map (Value.int IntKind.i64) (stI true n tk l yqqq).lies)) (some (1 : Nat)) ∧ AObj.sc (4 : Nat) (AObj.rw (List.map (Value.int IntKind.i64) (stI true n tk l yqqq).lies) (some (1 : Nat))) = true) ∧ True) ∧ Ob (Value.func (Fn.func (75 : FuncId)) (dR_s11 n tk tk2 l c) { toList := [] } = Value.func (Fn.func (75 : FuncId)) (dR_s11 n tk tk2 l c) { toList := [] }) ∧ Ob (ptr0 2 = ptr0 2) ∧ Ob (Value.slice (some (ad0 1)) l.length c = Value.slice (some (ad0 1)) l.length c) ∧ Ob ((↑l.length : Int) = (↑l.length : Int)) ∧ Ob (IntKind.i64.wrap ((0 : Int) + (1 : Int)) = (↑yqqq : Int)) ∧ True) ∧ (true = false → Ob (some (vi (↑n : Int)) = some (vi (↑n : Int))) ∧ Ob ((↑n : Int) ≠ (0 : Int)) ∧ ∃ (yqqqq : Nat), Ob (yqqqq ≤ cntM true (↑n : Int).toNat (dR_s15 n tk tk2 l c).toNat ∧ ∀ (i : Nat), i < yqqqq → fT (lgC (↑n : Int) tk) (dR_s21 n tk tk2 l c i) = true) ∧ Ob (cntM true (↑n : Int).toNat (dR_s15 n tk tk2 l c).toNat + (1 : Nat) - yqqqq < cntM true (↑n : Int).toNat (dR_s15 n tk tk2 l c).toNat + (1 : Nat) - x_1) ∧ (Ob (AObj.rw (dR_s7 n tk tk2 l c x_1) none = AObj.rw (dR_s4 n tk tk2 l c) none ∧ true = true) ∧ Ob (AObj.ro (dR_s9 n tk tk2 l c) = AObj.ro (List.map (nmap1 fun (b : Nat) ↦ b) (dR_s9 n tk tk2 l c)) ∧ AObj.sc (7 : Nat) (AObj.ro (dR_s9 n tk tk2 l c)) = true) ∧ Ob (AObj.rw [ptr0 0] none = AObj.rw [ptr0 0] none ∧ true = true) ∧ Ob (AObj.rw (lgC (↑n : Int) tk) none = AObj.rw (lgC (↑n : Int) tk) none ∧ true = true) ∧ Ob (AObj.rw [vi (dR_s15 n tk tk2 l c)] none = AObj.rw [vi (dR_s15 n tk tk2 l c)] none ∧ true = true) ∧ Ob (AObj.rw (dR_s8 n tk tk2 l c) none = AObj.rw (dR_s8 n tk tk2 l c) none ∧ true = true) ∧ Ob (AObj.loop LoopState.done (some dropR_c2) (dR_s2 n tk tk2 l c) { toList := [(23 : Nat), (24 : Nat)] } dropR_c0 dropR_c1 = AObj.loop LoopState.ready none (dR_s2 n tk tk2 l c) { toList := [(23 : Nat), (24 : Nat)] } dropR_c0 dropR_c1 ∧ true = true) ∧ True) ∧ Ob (Value.func (Fn.yield (6 : Nat)) { toList := [] } { toList := [] } = Value.func (Fn.yield (6 : Nat)) { toList := [] } { toList := [] }) ∧ Ob (ptr0 4 = ptr0 4) ∧ Ob (ptr0 3 = ptr0 3) ∧ Ob (ptr0 5 = ptr0 5) ∧ Ob ((IntKind.i64.wrap ((dR_s5 n tk tk2 l c x_1) + (1 : Int))).tmod (↑n : Int) = (↑(posM true (↑n : Int).toNat (dR_s15 n tk tk2 l c).toNat yqqqq) : Int)) ∧ Ob (IntKind.i64.wrap ((↑x_1 : Int) + (1 : Int)) = (↑yqqqq : Int)) ∧ True)) ∧ ((!getB (lgC (↑n : Int) tk) (dR_s23 n tk tk2 l c x_1)) = false → Ob (some (vi (↑n : Int)) = some (vi (↑n : Int))) ∧ Ob ((↑n : Int) ≠ (0 : Int)) ∧ ∃ (yqqqqq : Nat), Ob (yqqqqq ≤ cntM true (↑n : Int).toNat (dR_s15 n tk tk2 l c).toNat ∧ ∀ (i : Nat), i < yqqqqq → fT (lgC (↑n : Int) tk) (dR_s21 n tk tk2 l c i) = true) ∧ Ob (cntM true (↑n : Int).toNat (dR_s15 n tk tk2 l c).toNat + (1 : Nat) - yqqqqq < cntM true (↑n : Int).toNat (dR_s15 n tk tk2 l c).toNat + (1 : Nat) - x_1) ∧ (Ob (AObj.rw (dR_s4 n tk tk2 l c) none = AObj.rw (dR_s4 n tk tk2 l c) none ∧ true = true) ∧ Ob (AObj.ro (dR_s9 n tk tk2 l c) = AObj.ro (List.map (nmap1 fun (b : Nat) ↦ b) (dR_s9 n tk tk2 l c)) ∧ AObj.sc (7 : Nat) (AObj.ro (dR_s9 n tk tk2 l c)) = true) ∧ Ob (AObj.rw [ptr0 0] none = AObj.rw [ptr0 0] none ∧ true = true) ∧ Ob (AObj.rw (lgC (↑n : Int) tk) none = AObj.rw (lgC (↑n : Int) tk) none ∧ true = true) ∧ Ob (AObj.rw [vi (dR_s15 n tk tk2 l c)] none = AObj.rw [vi (dR_s15 n tk tk2 l c)] none ∧ true = true) ∧ Ob (AObj.rw (dR_s8 n tk tk2 l c) none = AObj.rw (dR_s8 n tk tk2 l c) none ∧ true = true) ∧ Ob (AObj.loop LoopState.ready none (dR_s2 n tk tk2 l c) { toList := [(23 : Nat), (24 : Nat)] } dropR_c0 dropR_c1 = AObj.loop LoopState.ready none (dR_s2 n tk tk2 l c) { toList := [(23 : Nat), (24 : Nat)] } dropR_c0 dropR_c1 ∧ true = true) ∧ True) ∧ Ob (Value.func (Fn.yield (6 : Nat)) { toList := [] } { toList := [] } = Value.func (Fn.yield (6 : Nat)) { toList := [] } { toList := [] }) ∧ Ob (ptr0 4 = ptr0 4) ∧ Ob (ptr0 3 = ptr0 3) ∧ Ob (ptr0 5 = ptr0 5) ∧ Ob ((IntKind.i64.wrap ((dR_s5 n tk tk2 l c x_1) + (1 : Int))).tmod (↑n : Int) = (↑(posM true (↑n : Int).toNat (dR_s15 n tk tk2 l c).toNat yqqqqq) : Int)) ∧ Ob (IntKind.i64.wrap ((↑x_1 : Int) + (1 : Int)) = (↑yqqqqq : Int)) ∧ True)) ∧ (decide ((dR_s5 n tk tk2 l c x_1) < (↑n : Int)) = false → Ob (some (vi (↑n : Int)) = some (vi (↑n : Int))) ∧ Ob ((dR_s4 n tk tk2 l c) = (dR_s19 n tk tk2 l c) ∧ smallI (fS (dR_s4 n tk tk2 l c)) ∧ ((0 : Int) ≤ fF (dR_s4 n tk tk2 l c) ∧ fF (dR_s4 n tk tk2 l c) ≤ (1000000 : Int)) ∧ smallI (IntKind.i64.wrap ((↑n : Int) - getI (dR_s9 n tk tk2 l c) (0 : Nat)))) ∧ (False ∨ ∃ (yqqqqqq : Nat), Ob ((0 : Nat) < yqqqqqq ∧ yqqqqqq ≤ l.length) ∧ Ob (l.length - yqqqqqq < (1000001 : Nat)) ∧ (Ob (AObj.rw (dR_s14 n tk tk2 l c) none = AObj.rw (vi (↑n : Int) :: T8 ((stI true n tk l yqqqqqq).tk) [Value.slice (some { block := (8 : Nat), off := (0 : Nat), spot := some (0 : Nat) }) yqqqqqq (0 : Nat), vi (stI true n tk l yqqqqqq).slid, vi (stI true n tk l yqqqqqq).fell]) none ∧ true = true) ∧ Ob (AObj.ro (dR_s9 n tk tk2 l c) = AObj.ro (dR_s24 n tk tk2 l c) ∧ AObj.sc (4 : Nat) (AObj.ro (dR_s9 n tk tk2 l c)) = true) ∧ Ob (AObj.rw [ptr0 0] none = AObj.rw [ptr0 0] none ∧ true = true) ∧ Ob (AObj.rw [vi (-1 : Int)] (some (1 : Nat)) = AObj.rw (List.map (nmap1 (nsub (3 : Nat) (8 : Nat))) (List.map (Value.int IntKind.i64) (stI true n tk l yqqqqqq).lies)) (some (1 : Nat)) ∧ AObj.sc (4 : Nat) (AObj.rw (List.map (Value.int IntKind.i64) (stI true n tk l yqqqqqq).lies) (some (1 : Nat))) = true) ∧ True) ∧ Ob (Value.func (Fn.func (75 : FuncId)) (dR_s11 n tk tk2 l c) { toList := [] } = Value.func (Fn.func (75 : FuncId)) (dR_s11 n tk tk2 l c) { toList := [] }) ∧ Ob (ptr0 2 = ptr0 2) ∧ Ob (Value.slice (some (ad0 1)) l.length c = Value.slice (some (ad0 1)) l.length c) ∧ Ob ((↑l.length : Int) = (↑l.length : Int)) ∧ Ob (IntKind.i64.wrap ((0 : Int) + (1 : Int)) = (↑yqqqqqq : Int)) ∧ True))) ∧ (decide ((↑x_1 : Int) < (↑n : Int)) = false → Ob (some (vi (↑n : Int)) = some (vi (↑n : Int))) ∧ Ob ((dR_s4 n tk tk2 l c) = (dR_s19 n tk tk2 l c) ∧ smallI (fS (dR_s4 n tk tk2 l c)) ∧ ((0 : Int) ≤ fF (dR_s4 n tk tk2 l c) ∧ fF (dR_s4 n tk tk2 l c) ≤ (1000000 : Int)) ∧ smallI (IntKind.i64.wrap ((↑n : Int) - getI (dR_s9 n tk tk2 l c) (0 : Nat)))) ∧ (False ∨ ∃ (yqqqqqqq : Nat), Ob ((0 : Nat) < yqqqqqqq ∧ yqqqqqqq ≤ l.length) ∧ Ob (l.length - yqqqqqqq < (1000001 : Nat)) ∧ (Ob (AObj.rw (dR_s14 n tk tk2 l c) none = AObj.rw (vi (↑n : Int) :: T8 ((stI true n tk l yqqqqqqq).tk) [Value.slice (some { block := (8 : Nat), off := (0 : Nat), spot := some (0 : Nat) }) yqqqqqqq (0 : Nat), vi (stI true n tk l yqqqqqqq).slid, vi (stI true n tk l yqqqqqqq).fell]) none ∧ true = true) ∧ Ob (AObj.ro (dR_s9 n tk tk2 l c) = AObj.ro (dR_s24 n tk tk2 l c) ∧ AObj.sc (4 : Nat) (AObj.ro (dR_s9 n tk tk2 l c)) = true) ∧ Ob (AObj.rw [ptr0 0] none = AObj.rw [ptr0 0] none ∧ true = true) ∧ Ob (AObj.rw [vi (-1 : Int)] (some (1 : Nat)) = AObj.rw (List.map (nmap1 (nsub (3 : Nat) (8 : Nat))) (List.map (Value.int IntKind.i64) (stI true n tk l yqqqqqqq).lies)) (some (1 : Nat)) ∧ AObj.sc (4 : Nat) (AObj.rw (List.map (Value.int IntKind.i64) (stI true n tk l yqqqqqqq).lies) (some (1 : Nat))) = true) ∧ True) ∧ Ob (Value.func (Fn.func (75 : FuncId)) (dR_s11 n tk tk2 l c) { toList := [] } = Value.func (Fn.func (75 : FuncId)) (dR_s11 n tk tk2 l c) { toList := [] }) ∧ Ob (ptr0 2 = ptr0 2) ∧ Ob (Value.slice (some (ad0 1)) l.length c = Value.slice (some (ad0 1)) l.length c) ∧ Ob ((↑l.length : Int) = (↑l.length : Int)) ∧ Ob (IntKind.i64.wrap ((0 : Int) + (1 : Int)) = (↑yqqqqqqq : Int)) ∧ True))) ∧ (decide ((0 : Int) < (↑l.length : Int)) = false → (Ob (AObj.rw (dR_s4 n tk tk2 l c) none = AObj.rw (dR_s18 n tk tk2 l c) none ∧ true = true) ∧ Ob (AObj.ro (dR_s9 n tk tk2 l c) = AObj.ro (List.map (nmap1 (nsub (2 : Nat) (3 : Nat))) (dR_s9 n tk tk2 l c)) ∧ AObj.sc (3 : Nat) (AObj.ro (dR_s9 n tk tk2 l c)) = true) ∧ False) ∧ Ob (Value.tuple { toList := [] } = Value.tuple { toList := [] }) ∧ True)) ∧ ∀ (xq : Nat), Ob ((0 : Nat) < xq ∧ xq ≤ l.length) → (decide ((↑xq : Int) < (↑l.length : Int)) = true → Ob ((0 : Int) ≤ (↑xq : Int) ∧ (↑xq : Int) < (↑l.length : Int) ∧ true = true) ∧ Ob (IntAt IntKind.i64 (dR_s9 n tk tk2 l c) ((0 : Nat) + (↑xq : Int).toNat * (1 : Nat))) ∧ Ob (some (vi (dR_s3 n tk tk2 l c xq)) = some (vi (dR_s3 n tk tk2 l c xq))) ∧ (∃ (yqqqqqqqq : Nat), Ob (yqqqqqqqq ≤ cntM true (↑n : Int).toNat (dR_s3 n tk tk2 l c xq).toNat ∧ ∀ (i : Nat), i < yqqqqqqqq → fT (dR_s16 n tk tk2 l c xq) (dR_s20 n tk tk2 l c i xq) = true) ∧ (Ob (AObj.rw (dR_s0 n tk tk2 l c xq) none = AObj.rw (dR_s0 n tk tk2 l c xq) none ∧ true = true) ∧ Ob (AObj.ro (dR_s9 n tk tk2 l c) = AObj.ro (List.map (nmap1 fun (b : Nat) ↦ b) (dR_s9 n tk tk2 l c)) ∧ AObj.sc (8 : Nat) (AObj.ro (dR_s9 n tk tk2 l c)) = true) ∧ Ob (AObj.rw [ptr0 0] none = AObj.rw [ptr0 0] none ∧ true = true) ∧ Ob (AObj.rw (dR_s12 n tk tk2 l c xq) (some (1 : Nat)) = AObj.rw (List.map (nmap1 fun (b : Nat) ↦ b) (dR_s12 n tk tk2 l c xq)) (some (1 : Nat)) ∧ AObj.sc (8 : Nat) (AObj.rw (dR_s12 n tk tk2 l c xq) (some (1 : Nat))) = true) ∧ Ob (AObj.rw (dR_s16 n tk tk2 l c xq) none = AObj.rw (dR_s16 n tk tk2 l c xq) none ∧ true = true) ∧ Ob (AObj.rw [vi (dR_s3 n tk tk2 l c xq)] none = AObj.rw [vi (dR_s3 n tk tk2 l c xq)] none ∧ true = true) ∧ Ob (AObj.rw (dR_s8 n tk tk2 l c) none = AObj.rw (dR_s8 n tk tk2 l c) none ∧ true = true) ∧ Ob (AObj.loop LoopState.ready none (dR_s1 n tk tk2 l c xq) { toList := [(23 : Nat), (24 : Nat)] } dropR_c0 dropR_c1 = AObj.loop LoopState.ready none (dR_s1 n tk tk2 l c xq) { toList := [(23 : Nat), (24 : Nat)] } dropR_c0 dropR_c1 ∧ true = true) ∧ True) ∧ Ob (Value.func (Fn.yield (7 : Nat)) { toList := [] } { toList := [] } = Value.func (Fn.yield (7 : Nat)) { toList := [] } { toList := [] }) ∧ Ob (ptr0 5 = ptr0 5) ∧ Ob (ptr0 4 = ptr0 4) ∧ Ob (ptr0 6 = ptr0 6) ∧ Ob (getI (dR_s9 n tk tk2 l c) ((0 : Nat) + (↑xq : Int).toNat * (1 : Nat)) = (↑(posM true (↑n : Int).toNat (dR_s3 n tk tk2 l c xq).toNat yqqqqqqqq) : Int)) ∧ Ob ((0 : Int) = (↑yqqqqqqqq : Int)) ∧ True) ∧ ∀ (x_1 : Nat), Ob (x_1 ≤ cntM true (↑n : Int).toNat (dR_s3 n tk tk2 l c xq).toNat ∧ ∀ (i : Nat), i < x_1 → fT (dR_s16 n tk tk2 l c xq) (dR_s20 n tk tk2 l c i xq) = true) → Ob (some (vi (↑n : Int)) = some (vi (↑n : Int))) ∧ (decide ((↑x_1 : Int) < (↑n : Int)) = true → Ob (some (vi (↑n : Int)) = some (vi (↑n : Int))) ∧ (decide ((dR_s10 n tk tk2 l c x_1 xq) < (↑n : Int)) = true → Ob ((0 : Int) ≤ (dR_s10 n tk tk2 l c x_1 xq) ∧ (dR_s10 n tk tk2 l c x_1 xq) < (↑(8 : Nat) : Int)) ∧ Ob (BoolAt (dR_s16 n tk tk2 l c xq) (dR_s22 n tk tk2 l c x_1 xq)) ∧ ((!getB (dR_s16 n tk tk2 l c xq) (dR_s22 n tk tk2 l c x_1 xq)) = true → Ob ((0 : Int) ≤ (dR_s10 n tk tk2 l c x_1 xq) ∧ (dR_s10 n tk tk2 l c x_1 xq) < (↑(8 : Nat) : Int)) ∧ Ob (BoolAt (dR_s0 n tk tk2 l c xq) ((1 : Nat) + (dR_s10 n tk tk2 l c x_1 xq).toNat * (1 : Nat)) ∧ some (1 : Nat) = some (1 : Nat)) ∧ Ob (andP (some ((0 : Nat) + (1 : Nat) ≤ (1 : Nat) ∧ true = true)) (xq + (1 : Nat) ≤ (1099511627776 : Nat) ∧ ((2 : Nat) * (xq + (1 : Nat)) + (256 : Nat)) * (8 : Nat) ≤ (281474976710656 : Nat) ∧ (1 : Nat) = (1 : Nat) ∧ (dR_s12 n tk tk2 l c xq).length = xq * (1 : Nat))) ∧ Ob ((10 : Nat) ≤ (12 : Nat)) ∧ Ob (some (vi (stI true n tk l xq).slid) = some (vi (stI true n tk l xq).slid)) ∧ Ob ((11 : Nat) ≤ (12 : Nat)) ∧ (true = true → False ∨ ∃ (yqqqqqqqqq : Nat), Ob ((0 : Nat) < yqqqqqqqqq ∧ yqqqqqqqqq ≤ l.length) ∧ Ob (l.length - yqqqqqqqqq < l.length - xq) ∧ (Ob (AObj.rw (dR_s6 n tk tk2 l c x_1 xq) none = AObj.rw (vi (↑n : Int) :: T8 ((stI true n tk l yqqqqqqqqq).tk) [Value.slice (some { block := (9 : Nat), off := (0 : Nat), spot := some (0 : Nat) }) yqqqqqqqqq (0 : Nat), vi (stI true n tk l yqqqqqqqqq).slid, vi (stI true n tk l yqqqqqqqqq).fell]) none ∧ true = true) ∧ Ob (AObj.ro (dR_s9 n tk tk2 l c) = AObj.ro (dR_s25 n tk tk2 l c) ∧ AObj.sc (4 : Nat) (AObj.ro (dR_s9 n tk tk2 l c)) = true) ∧ Ob (AObj.rw [ptr0 0] none = AObj.rw [ptr0 0] none ∧ true = true) ∧ Ob (AObj.rw (List.map (Value.int IntKind.i64) (stI true n tk l xq).lies ++ [vi (dR_s10 n tk tk2 l c x_1 xq)]) (some (1 : Nat)) = AObj.rw (List.map (nmap1 (nsub (3 : Nat) (9 : Nat))) (List.map (Value.int IntKind.i64) (stI true n tk l yqqqqqqqqq).lies)) (some (1 : Nat)) ∧ AObj.sc (4 : Nat) (AObj.rw (List.map (Value.int IntKind.i64) (stI true n tk l yqqqqqqqqq).lies) (some (1 : Nat))) = true) ∧ True) ∧ Ob (Value.func (Fn.func (75 : FuncId)) (dR_s11 n tk tk2 l c) { toList := [] } = Value.func (Fn.func (75 : FuncId)) (dR_s11 n tk tk2 l c) { toList := [] }) ∧ Ob (ptr0 2 = ptr0 2) ∧ Ob (Value.slice (some (ad0 1)) l.length c = Value.slice (some (ad0 1)) l.length c) ∧ Ob ((↑l.length : Int) = (↑l.length : Int)) ∧ Ob (IntKind.i64.wrap ((↑xq : Int) + (1 : Int)) = (↑yqqqqqqqqq : Int)) ∧ True) ∧ (true = false → Ob (some (vi (↑n : Int)) = some (vi (↑n : Int))) ∧ Ob ((↑n : Int) ≠ (0 : Int)) ∧ ∃ (yqqqqqqqqqq : Nat), Ob (yqqqqqqqqqq ≤ cntM true (↑n : Int).toNat (dR_s3 n tk tk2 l c xq).toNat ∧ ∀ (i : Nat), i < yqqqqqqqqqq → fT (dR_s16 n tk tk2 l c xq) (dR_s20 n tk tk2 l c i xq) = true) ∧ Ob (cntM true (↑n : Int).toNat (dR_s3 n tk tk2 l c xq).toNat + (1 : Nat) - yqqqqqqqqqq < cntM true (↑n : Int).toNat (dR_s3 n tk tk2 l c xq).toNat + (1 : Nat) - x_1) ∧ (Ob (AObj.rw (dR_s6 n tk tk2 l c x_1 xq) none = AObj.rw (dR_s0 n tk tk2 l c xq) none ∧ true = true) ∧ Ob (AObj.ro (dR_s9 n tk tk2 l c) = AObj.ro (List.map (nmap1 fun (b : Nat) ↦ b) (dR_s9 n tk tk2 l c)) ∧ AObj.sc (8 : Nat) (AObj.ro (dR_s9 n tk tk2 l c)) = true) ∧ Ob (AObj.rw [ptr0 0] none = AObj.rw [ptr0 0] none ∧ true = true) ∧ Ob (AObj.gone = AObj.rw (List.map (nmap1 fun (b : Nat) ↦ b) (dR_s12 n tk tk2 l c xq)) (some (1 : Nat)) ∧ AObj.sc (8 : Nat) (AObj.rw (dR_s12 n tk tk2 l c xq) (some (1 : Nat))) = true) ∧ Ob (AObj.rw (dR_s16 n tk tk2 l c xq) none = AObj.rw (dR_s16 n tk tk2 l c xq) none ∧ true = true) ∧ Ob (AObj.rw [vi (dR_s3 n tk tk2 l c xq)] none = AObj.rw [vi (dR_s3 n tk tk2 l c xq)] none ∧ true = true) ∧ Ob (AObj.rw (dR_s8 n tk tk2 l c) none = AObj.rw (dR_s8 n tk tk2 l c) none ∧ true = true) ∧ Ob (AObj.loop LoopState.done (some dropR_c2) (dR_s1 n tk tk2 l c xq) { toList := [(23 : Nat), (24 : Nat)] } dropR_c0 dropR_c1 = AObj.loop LoopState.ready none (dR_s1 n tk tk2 l c xq) { toList := [(23 : Nat), (24 : Nat)] } dropR_c0 dropR_c1 ∧ true = true) ∧ True) ∧ Ob (Value.func (Fn.yield (7 : Nat)) { toList := [] } { toList := [] } = Value.func (Fn.yield (7 : Nat)) { toList := [] } { toList := [] }) ∧ Ob (ptr0 5 = ptr0 5) ∧ Ob (ptr0 4 = ptr0 4) ∧ Ob (ptr0 6 = ptr0 6) ∧ Ob ((IntKind.i64.wrap ((dR_s10 n tk tk2 l c x_1 xq) + (1 : Int))).tmod (↑n : Int) = (↑(posM true (↑n : Int).toNat (dR_s3 n tk tk2 l c xq).toNat yqqqqqqqqqq) : Int)) ∧ Ob (IntKind.i64.wrap ((↑x_1 : Int) + (1 : Int)) = (↑yqqqqqqqqqq : Int)) ∧ True)) ∧ ((!getB (dR_s16 n tk tk2 l c xq) (dR_s22 n tk tk2 l c x_1 xq)) = false → Ob (some (vi (↑n : Int)) = some (vi (↑n : Int))) ∧ Ob ((↑n : Int) ≠ (0 : Int)) ∧ ∃ (yqqqqqqqqqqq : Nat), Ob (yqqqqqqqqqqq ≤ cntM true (↑n : Int).toNat (dR_s3 n tk tk2 l c xq).toNat ∧ ∀ (i : Nat), i < yqqqqqqqqqqq → fT (dR_s16 n tk tk2 l c xq) (dR_s20 n tk tk2 l c i xq) = true) ∧ Ob (cntM true (↑n : Int).toNat (dR_s3 n tk tk2 l c xq).toNat + (1 : Nat) - yqqqqqqqqqqq < cntM true (↑n : Int).toNat (dR_s3 n tk tk2 l c xq).toNat + (1 : Nat) - x_1) ∧ (Ob (AObj.rw (dR_s0 n tk tk2 l c xq) none = AObj.rw (dR_s0 n tk tk2 l c xq) none ∧ true = true) ∧ Ob (AObj.ro (dR_s9 n tk tk2 l c) = AObj.ro (List.map (nmap1 fun (b : Nat) ↦ b) (dR_s9 n tk tk2 l c)) ∧ AObj.sc (8 : Nat) (AObj.ro (dR_s9 n tk tk2 l c)) = true) ∧ Ob (AObj.rw [ptr0 0] none = AObj.rw [ptr0 0] none ∧ true = true) ∧ Ob (AObj.rw (dR_s12 n tk tk2 l c xq) (some (1 : Nat)) = AObj.rw (List.map (nmap1 fun (b : Nat) ↦ b) (dR_s12 n tk tk2 l c xq)) (some (1 : Nat)) ∧ AObj.sc (8 : Nat) (AObj.rw (dR_s12 n tk tk2 l c xq) (some (1 : Nat))) = true) ∧ Ob (AObj.rw (dR_s16 n tk tk2 l c xq) none = AObj.rw (dR_s16 n tk tk2 l c xq) none ∧ true = true) ∧ Ob (AObj.rw [vi (dR_s3 n tk tk2 l c xq)] none = AObj.rw [vi (dR_s3 n tk tk2 l c xq)] none ∧ true = true) ∧ Ob (AObj.rw (dR_s8 n tk tk2 l c) none = AObj.rw (dR_s8 n tk tk2 l c) none ∧ true = true) ∧ Ob (AObj.loop LoopState.ready none (dR_s1 n tk tk2 l c xq) { toList := [(23 : Nat), (24 : Nat)] } dropR_c0 dropR_c1 = AObj.loop LoopState.ready none (dR_s1 n tk tk2 l c xq) { toList := [(23 : Nat), (24 : Nat)] } dropR_c0 dropR_c1 ∧ true = true) ∧ True) ∧ Ob (Value.func (Fn.yield (7 : Nat)) { toList := [] } { toList := [] } = Value.func (Fn.yield (7 : Nat)) { toList := [] } { toList := [] }) ∧ Ob (ptr0 5 = ptr0 5) ∧ Ob (ptr0 4 = ptr0 4) ∧ Ob (ptr0 6 = ptr0 6) ∧ Ob ((IntKind.i64.wrap ((dR_s10 n tk tk2 l c x_1 xq) + (1 : Int))).tmod (↑n : Int) = (↑(posM true (↑n : Int).toNat (dR_s3 n tk tk2 l c xq).toNat yqqqqqqqqqqq) : Int)) ∧ Ob (IntKind.i64.wrap ((↑x_1 : Int) + (1 : Int)) = (↑yqqqqqqqqqqq : Int)) ∧ True)) ∧ (decide ((dR_s10 n tk tk2 l c x_1 xq) < (↑n : Int)) = false → Ob (some (vi (↑n : Int)) = some (vi (↑n : Int))) ∧ Ob ((dR_s0 n tk tk2 l c xq) = (dR_s17 n tk tk2 l c xq) ∧ List.map (Value.int IntKind.i64) (stI true n tk l xq).lies = List.map (Value.int IntKind.i64) (intsOf (dR_s12 n tk tk2 l c xq)) ∧ xq = (intsOf (dR_s12 n tk tk2 l c xq)).length ∧ xq ≤ (1000000 : Nat) ∧ (0 : Nat) ≠ (3 : Nat) ∧ smallI (fS (dR_s0 n tk tk2 l c xq)) ∧ ((0 : Int) ≤ fF (dR_s0 n tk tk2 l c xq) ∧ fF (dR_s0 n tk tk2 l c xq) ≤ (1000000 : Int)) ∧ smallI (dR_s26 n tk tk2 l c xq)) ∧ (False ∨ ∃ (yqqqqqqqqqqqq : Nat), Ob ((0 : Nat) < yqqqqqqqqqqqq ∧ yqqqqqqqqqqqq ≤ l.length) ∧ Ob (l.length - yqqqqqqqqqqqq < l.length - xq) ∧ (Ob (AObj.rw (dR_s13 n tk tk2 l c xq) none = AObj.rw (vi (↑n : Int) :: T8 ((stI true n tk l yqqqqqqqqqqqq).tk) [Value.slice (some { block := (9 : Nat), off := (0 : Nat), spot := some (0 : Nat) }) yqqqqqqqqqqqq (0 : Nat), vi (stI true n tk l yqqqqqqqqqqqq).slid, vi (stI true n tk l yqqqqqqqqqqqq).fell]) none ∧ true = true) ∧ Ob (AObj.ro (dR_s9 n tk tk2 l c) = AObj.ro (dR_s25 n tk tk2 l c) ∧ AObj.sc (4 : Nat) (AObj.ro (dR_s9 n tk tk2 l c)) = true) ∧ Ob (AObj.rw [ptr0 0] none = AObj.rw [ptr0 0] none ∧ true = true) ∧ Ob (AObj.rw (List.map (Value.int IntKind.i64) (intsOf (dR_s12 n tk tk2 l c xq) ++ [(-1 : Int)])) (some (1 : Nat)) = AObj.rw (List.map (nmap1 (nsub (3 : Nat) (9 : Nat))) (List.map (Value.int IntKind.i64) (stI true n tk l yqqqqqqqqqqqq).lies)) (some (1 : Nat)) ∧ AObj.sc (4 : Nat) (AObj.rw (List.map (Value.int IntKind.i64) (stI true n tk l yqqqqqqqqqqqq).lies) (some (1 : Nat))) = true) ∧ True) ∧ Ob (Value.func (Fn.func (75 : FuncId)) (dR_s11 n tk tk2 l c) { toList := [] } = Value.func (Fn.func (75 : FuncId)) (dR_s11 n tk tk2 l c) { toList := [] }) ∧ Ob (ptr0 2 = ptr0 2) ∧ Ob (Value.slice (some (ad0 1)) l.length c = Value.slice (some (ad0 1)) l.length c) ∧ Ob ((↑l.length : Int) = (↑l.length : Int)) ∧ Ob (IntKind.i64.wrap ((↑xq : Int) + (1 : Int)) = (↑yqqqqqqqqqqqq : Int)) ∧ True))) ∧ (decide ((↑x_1 : Int) < (↑n : Int)) = false → Ob (some (vi (↑n : Int)) = some (vi (↑n : Int))) ∧ Ob ((dR_s0 n tk tk2 l c xq) = (dR_s17 n tk tk2 l c xq) ∧ List.map (Value.int IntKind.i64) (stI true n tk l xq).lies = List.map (Value.int IntKind.i64) (intsOf (dR_s12 n tk tk2 l c xq)) ∧ xq = (intsOf (dR_s12 n tk tk2 l c xq)).length ∧ xq ≤ (1000000 : Nat) ∧ (0 : Nat) ≠ (3 : Nat) ∧ smallI (fS (dR_s0 n tk tk2 l c xq)) ∧ ((0 : Int) ≤ fF (dR_s0 n tk tk2 l c xq) ∧ fF (dR_s0 n tk tk2 l c xq) ≤ (1000000 : Int)) ∧ smallI (dR_s26 n tk tk2 l c xq)) ∧ (False ∨ ∃ (yqqqqqqqqqqqqq : Nat), Ob ((0 : Nat) < yqqqqqqqqqqqqq ∧ yqqqqqqqqqqqqq ≤ l.length) ∧ Ob (l.length - yqqqqqqqqqqqqq < l.length - xq) ∧ (Ob (AObj.rw (dR_s13 n tk tk2 l c xq) none = AObj.rw (vi (↑n : Int) :: T8 ((stI true n tk l yqqqqqqqqqqqqq).tk) [Value.slice (some { block := (9 : Nat), off := (0 : Nat), spot := some (0 : Nat) }) yqqqqqqqqqqqqq (0 : Nat), vi (stI true n tk l yqqqqqqqqqqqqq).slid, vi (stI true n tk l yqqqqqqqqqqqqq).fell]) none ∧ true = true) ∧ Ob (AObj.ro (dR_s9 n tk tk2 l c) = AObj.ro (dR_s25 n tk tk2 l c) ∧ AObj.sc (4 : Nat) (AObj.ro (dR_s9 n tk tk2 l c)) = true) ∧ Ob (AObj.rw [ptr0 0] none = AObj.rw [ptr0 0] none ∧ true = true) ∧ Ob (AObj.rw (List.map (Value.int IntKind.i64) (intsOf (dR_s12 n tk tk2 l c xq) ++ [(-1 : Int)])) (some (1 : Nat)) = AObj.rw (List.map (nmap1 (nsub (3 : Nat) (9 : Nat))) (List.map (Value.int IntKind.i64) (stI true n tk l yqqqqqqqqqqqqq).lies)) (some (1 : Nat)) ∧ AObj.sc (4 : Nat) (AObj.rw (List.map (Value.int IntKind.i64) (stI true n tk l yqqqqqqqqqqqqq).lies) (some (1 : Nat))) = true) ∧ True) ∧ Ob (Value.func (Fn.func (75 : FuncId)) (dR_s11 n tk tk2 l c) { toList := [] } = Value.func (Fn.func (75 : FuncId)) (dR_s11 n tk tk2 l c) { toList := [] }) ∧ Ob (ptr0 2 = ptr0 2) ∧ Ob (Value.slice (some (ad0 1)) l.length c = Value.slice (some (ad0 1)) l.length c) ∧ Ob ((↑l.length : Int) = (↑l.length : Int)) ∧ Ob (IntKind.i64.wrap ((↑xq : Int) + (1 : Int)) = (↑yqqqqqqqqqqqqq : Int)) ∧ True))) ∧ (decide ((↑xq : Int) < (↑l.length : Int)) = false → (Ob (AObj.rw (dR_s0 n tk tk2 l c xq) none = AObj.rw (dR_s18 n tk tk2 l c) none ∧ true = true) ∧ Ob (AObj.ro (dR_s9 n tk tk2 l c) = AObj.ro (List.map (nmap1 (nsub (2 : Nat) (3 : Nat))) (dR_s9 n tk tk2 l c)) ∧ AObj.sc (3 : Nat) (AObj.ro (dR_s9 n tk tk2 l c)) = true) ∧ Ob (AObj.rw (dR_s12 n tk tk2 l c xq) (some (1 : Nat)) = AObj.rw (List.map (nmap1 (nsub (2 : Nat) (3 : Nat))) (List.map (Value.int IntKind.i64) (runP true n tk l).lies)) (some (1 : Nat)) ∧ AObj.sc (3 : Nat) (AObj.rw (List.map (Value.int IntKind.i64) (runP true n tk l).lies) (some (1 : Nat))) = true) ∧ True) ∧ Ob (Value.tuple { toList := [] } = Value.tuple { toList := [] }) ∧ True)
theorem dR_eq : dR = fun (n : Nat) (tk tk2 : Nat → Bool) (l : List Int) (c : Nat) => vc Try.prog (E3 true) 2 39 true (invD true n tk tk2 l c) dpB [] (argFr 0 [ptr0 0, nextV true n tk2, .slice (some ⟨1,0,none⟩) l.length c]) [pu n tk nilS 0 0, ros l] (retR Try.prog Try.f74 2 (nsub 2 3) unitV [pu n (runP true n tk l).tk (newS 2 l.length) (runP true n tk l).slid (runP true n tk l).fell, ros l, rws (runP true n tk l).lies]) := by kernel_rfl
noncomputable def dRN_s0 (n : Nat) (tk tk2 : Nat → Bool) := (vi (↑n : Int) :: T8 tk [Value.slice none (0 : Nat) (0 : Nat), vi (0 : Int), vi (0 : Int)])
noncomputable def dRN :=
fun (n : Nat) (tk tk2 : Nat → Bool) ↦ (∃ (y : Unit), Ob True ∧ (Ob (AObj.rw (dRN_s0 n tk tk2) none = AObj.rw (dRN_s0 n tk tk2) none ∧ true = true) ∧ Ob (AObj.rw [ptr0 0] none = AObj.rw [ptr0 0] none ∧ true = true) ∧ True) ∧ Ob (Value.func (Fn.func (75 : FuncId)) { toList := [Value.agg { toList := (lgC (↑n : Int) tk2) }] } { toList := [] } = Value.func (Fn.func (75 : FuncId)) { toList := [Value.agg { toList := (lgC (↑n : Int) tk2) }] } { toList := [] }) ∧ Ob (ptr0 1 = ptr0 1) ∧ Ob (Value.slice none (0 : Nat) (0 : Nat) = Value.slice none (0 : Nat) (0 : Nat)) ∧ Ob ((↑(0 : Nat) : Int) = (0 : Int)) ∧ Ob ((0 : Int) = (0 : Int)) ∧ True) ∧ ∀ (x : Unit), Ob True → (false = true → False) ∧ (false = false → (Ob (AObj.rw (dRN_s0 n tk tk2) none = AObj.rw (dRN_s0 n tk tk2) none ∧ true = true) ∧ True) ∧ Ob (Value.tuple { toList := [] } = Value.tuple { toList := [] }) ∧ True)
theorem dRN_eq : dRN = fun (n : Nat) (tk tk2 : Nat → Bool) => vc Try.prog (E3 true) 1 39 true (invE true n tk tk2 none 0 [pu n tk nilS 0 0] 1) dpB [] (argFr 0 [ptr0 0, nextV true n tk2, nilS]) [pu n tk nilS 0 0] (retR Try.prog Try.f74 1 (fun b => b) unitV [pu n tk nilS 0 0]) := by kernel_rfl
noncomputable def dRH_s0 (n : Nat) (tk tk2 : Nat → Bool) (s : Option Nat) (c : Nat) := (vi (↑n : Int) :: T8 tk [Value.slice none (0 : Nat) (0 : Nat), vi (0 : Int), vi (0 : Int)])
noncomputable def dRH :=
fun (n : Nat) (tk tk2 : Nat → Bool) (s : Option Nat) (c : Nat) ↦ (∃ (y : Unit), Ob True ∧ (Ob (AObj.rw (dRH_s0 n tk tk2 s c) none = AObj.rw (dRH_s0 n tk tk2 s c) none ∧ true = true) ∧ Ob (AObj.rw [ptr0 0] none = AObj.rw [ptr0 0] none ∧ true = true) ∧ True) ∧ Ob (Value.func (Fn.func (75 : FuncId)) { toList := [Value.agg { toList := (lgC (↑n : Int) tk2) }] } { toList := [] } = Value.func (Fn.func (75 : FuncId)) { toList := [Value.agg { toList := (lgC (↑n : Int) tk2) }] } { toList := [] }) ∧ Ob (ptr0 2 = ptr0 2) ∧ Ob (Value.slice (some { block := (1 : Nat), off := (0 : Nat), spot := s }) (0 : Nat) c = Value.slice (some { block := (1 : Nat), off := (0 : Nat), spot := s }) (0 : Nat) c) ∧ Ob ((↑(0 : Nat) : Int) = (0 : Int)) ∧ Ob ((0 : Int) = (0 : Int)) ∧ True) ∧ ∀ (x : Unit), Ob True → (false = true → Ob ((0 : Int) ≤ (0 : Int) ∧ (0 : Int) < (↑(0 : Nat) : Int) ∧ std { block := (1 : Nat), off := (0 : Nat), spot := s } c = true) ∧ False) ∧ (false = false → (Ob (AObj.rw (dRH_s0 n tk tk2 s c) none = AObj.rw (dRH_s0 n tk tk2 s c) none ∧ true = true) ∧ True) ∧ Ob (Value.tuple { toList := [] } = Value.tuple { toList := [] }) ∧ True)
theorem dRH_eq : dRH = fun (n : Nat) (tk tk2 : Nat → Bool) (s : Option Nat) (c : Nat) => vc Try.prog (E3 true) 2 39 true (invE true n tk tk2 (some ⟨1,0,s⟩) c [pu n tk nilS 0 0, .gone] 2) dpB [] (argFr 0 [ptr0 0, nextV true n tk2, .slice (some ⟨1,0,s⟩) 0 c]) [pu n tk nilS 0 0, .gone] (retR Try.prog Try.f74 2 (fun b => b) unitV [pu n tk nilS 0 0, .gone]) := by kernel_rfl
theorem mod_next {a j n : Nat} : (((a + j) % n : Nat) + 1 : Int).tmod n = ((a + (j + 1)) % n : Nat) := by
  rw [show ((((a + j) % n : Nat) : Int) + 1) = ((((a + j) % n) + 1 : Nat) : Int) by push_cast; rfl, ← Int.ofNat_tmod, Nat.mod_add_mod, Nat.add_assoc]
theorem dR_ok (n : Nat) (tk tk2 : Nat → Bool) (l : List Int) (c : Nat) (hn : n ≤ 8) (hl : ∀ x ∈ l, 0 ≤ x ∧ x < (n : Int)) (hl0 : 0 < l.length) (hlen : l.length ≤ 12) : dR n tk tk2 l c := by
  unfold dR dR_s26 dR_s25 dR_s24 dR_s23 dR_s22 dR_s21 dR_s20 dR_s19 dR_s18 dR_s17 dR_s16 dR_s15 dR_s14 dR_s13 dR_s12 dR_s11 dR_s10 dR_s9 dR_s8 dR_s7 dR_s6 dR_s5 dR_s4 dR_s3 dR_s2 dR_s1 dR_s0
  simp only [SS, reduceCtorEq, Arg.list, Arg.num, Arg.flag, intOf, andP, Nat.reduceLeDiff, Nat.reduceAdd, Nat.reduceMul, Nat.reduceLT, nb1, nb2, nb3, nb4, nb5, nb6, nb7, nb8, fN_T8, fS_T8, fF_T8, T8_fT]
  have dd : ∀ x, x < l.length → ∃ a : Nat, l.getD x 0 = a ∧ a < n := fun x hx => by
    have := hl _ (ints_mem (l := l) (i := x) hx)
    exact ⟨(l.getD x 0).toNat, by omega, by omega⟩
  refine ⟨⟨fun h0 => ?_, fun h => absurd (Int.ofNat_lt.2 hl0) h⟩, fun x ⟨hx1, hx2⟩ => ⟨fun hlt => ?_, fun hge => ?_⟩⟩
  · obtain ⟨a, ha, han⟩ := dd 0 hl0
    have e1 := stI_succ (ar := true) (n := n) (tk := tk) hl0
    rw [stI_zero, ha] at e1
    have h8 : (n : Int) ≤ 8 := by omega
    have hmod : ∀ i, (a + i) % n < n := fun i => Nat.mod_lt _ (by omega)
    rw [ha]
    simp only [Int.toNat_natCast, cntM, posM, Nat.zero_add] at e1 ⊢
    have lost : (∀ i, i < n → tk ((a + i) % n) = true) → (smallI 0 ∧ (0 ≤ (0 : Int) ∧ (0 : Int) ≤ 1000000) ∧ smallI (IntKind.i64.wrap (↑n - ↑a))) ∧
        ∃ y, (0 < y ∧ y ≤ l.length) ∧ l.length - y < 1000001 ∧ (T8 tk [Value.slice (some { block := 8, off := 0, spot := some 0 }) 1 0, vi (0 + IntKind.i64.wrap (↑n - ↑a)), vi (0 + 1)] =
          T8 (stI true n tk l y).tk [Value.slice (some { block := 8, off := 0, spot := some 0 }) y 0, vi (stI true n tk l y).slid, vi (stI true n tk l y).fell] ∧ [vi (-1)] = List.map (Value.int IntKind.i64) (stI true n tk l y).lies) ∧ IntKind.i64.wrap (0 + 1) = ↑y := fun h => by
      rw [wrap_in (x := (n : Int) - a) (by omega) (by omega)]
      refine ⟨⟨⟨by omega, by omega⟩, ⟨by omega, by omega⟩, by omega, by omega⟩, 1, ⟨by omega, by omega⟩, by omega, ?_, rfl⟩
      have e2 : stI true n tk l 1 = ⟨tk, [] ++ [-1], 0 + ((n : Int) - a), 0 + 1⟩ := by rw [e1]; exact step_lost (ar := true) (by simpa [cntM, posM] using h)
      rw [e2]
      exact ⟨rfl, rfl⟩
    refine ⟨by omega, by omega, ⟨0, ⟨by omega, fun i hi => by omega⟩, by rw [Nat.add_zero, Nat.mod_eq_of_lt han], rfl⟩, fun j ⟨hj1, hj2⟩ => ?_⟩
    have hmj := hmod j
    have hj3 : ∀ i, i < j → tk ((a + i) % n) = true := fun i hi => by have := hmod i; rw [← fT_lg (n := (n : Int)) (tk := tk) (a := (a + i) % n) (by omega)]; exact hj2 i hi
    refine ⟨fun h1 => ⟨fun h2 => ⟨by omega, lg_boolAt (by omega), fun h3 => ?_, fun h3 => ?_⟩, fun h2 => lost fun i hi => hj3 i (by omega)⟩, fun h1 => lost fun i hi => hj3 i (by omega)⟩
    · rw [lg_getB (by omega)] at h3
      refine ⟨by omega, T8_boolAt (by omega), 1, ⟨by omega, by omega⟩, by omega, ?_, rfl⟩
      have e2 : stI true n tk l 1 = ⟨updB tk ((a + j) % n), [] ++ [(((a + j) % n : Nat) : Int)], 0 + (j : Int), 0⟩ := by
        rw [e1]; exact step_found (ar := true) (by simp only [cntM, Int.toNat_natCast]; omega) (by simpa [posM] using hj3) (by simpa [posM] using h3)
      rw [e2, wrap_in (x := 0 + (j : Int)) (by omega) (by omega)]
      exact ⟨rfl, rfl⟩
    · rw [lg_getB (by omega)] at h3
      refine ⟨by omega, j + 1, ⟨by omega, fun i hi => ?_⟩, by omega, ?_, ?_⟩
      · have := hmod i
        rw [fT_lg (by omega)]
        by_cases e : i = j
        · subst e; exact h3
        · exact hj3 i (by omega)
      · rw [wrap_in (by omega) (by omega)]; exact mod_next
      · rw [wrap_in (by omega) (by omega)]; push_cast; omega
  · have hx : x < l.length := by omega
    obtain ⟨a, ha, han⟩ := dd x hx
    have e1 := stI_succ (ar := true) (n := n) (tk := tk) hx
    obtain ⟨b1, b2, b3, b4, b5⟩ := stI_bd (ar := true) (n := n) (tk := tk) hl hx2
    have b6 : (n : Int) * x ≤ 96 := Int.le_trans (Int.mul_le_mul (c := 8) (d := 12) (by omega) (by omega) (by omega) (by omega)) (by omega)
    generalize stI true n tk l x = st at *
    rw [ha] at e1 ⊢
    have h8 : (n : Int) ≤ 8 := by omega
    have hmod : ∀ i, (a + i) % n < n := fun i => Nat.mod_lt _ (by omega)
    simp only [Int.toNat_natCast, cntM, posM] at e1 ⊢
    have lost : (∀ i, i < n → st.tk ((a + i) % n) = true) → (x = st.lies.length ∧ x ≤ 1000000 ∧ smallI st.slid ∧ (0 ≤ st.fell ∧ st.fell ≤ 1000000) ∧ smallI (IntKind.i64.wrap (↑n - ↑a))) ∧
        ∃ y, (0 < y ∧ y ≤ l.length) ∧ l.length - y < l.length - x ∧ (T8 st.tk [Value.slice (some { block := 9, off := 0, spot := some 0 }) (x + 1) 0, vi (st.slid + IntKind.i64.wrap (↑n - ↑a)), vi (st.fell + 1)] =
          T8 (stI true n tk l y).tk [Value.slice (some { block := 9, off := 0, spot := some 0 }) y 0, vi (stI true n tk l y).slid, vi (stI true n tk l y).fell] ∧
          List.map (Value.int IntKind.i64) (st.lies ++ [-1]) = List.map (Value.int IntKind.i64) (stI true n tk l y).lies) ∧ IntKind.i64.wrap (↑x + 1) = ↑y := fun h => by
      rw [wrap_in (x := (n : Int) - a) (by omega) (by omega)]
      refine ⟨⟨b1.symm, by omega, ⟨by omega, by omega⟩, ⟨by omega, by omega⟩, by omega, by omega⟩, x + 1, ⟨by omega, by omega⟩, by omega, ?_, ?_⟩
      · have e2 : stI true n tk l (x + 1) = ⟨st.tk, st.lies ++ [-1], st.slid + ((n : Int) - a), st.fell + 1⟩ := by rw [e1]; exact step_lost (ar := true) (by simpa [cntM, posM] using h)
        rw [e2]
        exact ⟨rfl, rfl⟩
      · rw [wrap_in (by omega) (by omega)]; push_cast; rfl
    refine ⟨by omega, hx, ⟨0, ⟨by omega, fun i hi => by omega⟩, by rw [Nat.add_zero, Nat.mod_eq_of_lt han], rfl⟩, fun j ⟨hj1, hj2⟩ => ?_⟩
    have hmj := hmod j
    have hj3 : ∀ i, i < j → st.tk ((a + i) % n) = true := fun i hi => by have := hmod i; rw [← fT_lg (n := (n : Int)) (tk := st.tk) (a := (a + i) % n) (by omega)]; exact hj2 i hi
    refine ⟨fun h1 => ⟨fun h2 => ⟨by omega, lg_boolAt (by omega), fun h3 => ?_, fun h3 => ?_⟩, fun h2 => lost fun i hi => hj3 i (by omega)⟩, fun h1 => lost fun i hi => hj3 i (by omega)⟩
    · rw [lg_getB (by omega)] at h3
      refine ⟨by omega, T8_boolAt (by omega), ⟨by omega, by omega, b1⟩, x + 1, ⟨by omega, by omega⟩, by omega, ?_, ?_⟩
      · have e2 : stI true n tk l (x + 1) = ⟨updB st.tk ((a + j) % n), st.lies ++ [(((a + j) % n : Nat) : Int)], st.slid + (j : Int), st.fell⟩ := by
          rw [e1]; exact step_found (ar := true) (by simp only [cntM, Int.toNat_natCast]; omega) (by simpa [posM] using hj3) (by simpa [posM] using h3)
        rw [e2, wrap_in (x := st.slid + (j : Int)) (by omega) (by omega)]
        exact ⟨rfl, rfl⟩
      · rw [wrap_in (by omega) (by omega)]; push_cast; rfl
    · rw [lg_getB (by omega)] at h3
      refine ⟨by omega, j + 1, ⟨by omega, fun i hi => ?_⟩, by omega, ?_, ?_⟩
      · have := hmod i
        rw [fT_lg (by omega)]
        by_cases e : i = j
        · subst e; exact h3
        · exact hj3 i (by omega)
      · rw [wrap_in (by omega) (by omega)]; exact mod_next
      · rw [wrap_in (by omega) (by omega)]; push_cast; omega
  · obtain rfl : x = l.length := by omega
    rw [stI_end (Nat.le_refl _)]
    exact ⟨rfl, rfl⟩
theorem dRN_ok (n : Nat) (tk tk2 : Nat → Bool) : dRN n tk tk2 := by
  unfold dRN dRN_s0
  simp only [SS, reduceCtorEq, Arg.list, Arg.num, Arg.flag, intOf, andP, Nat.reduceLeDiff, Nat.reduceAdd, Nat.reduceMul, Nat.reduceLT]
  trivial
theorem dRH_ok (n : Nat) (tk tk2 : Nat → Bool) (s : Option Nat) (c : Nat) : dRH n tk tk2 s c := by
  unfold dRH dRH_s0
  simp only [SS, reduceCtorEq, Arg.list, Arg.num, Arg.flag, intOf, andP, Nat.reduceLeDiff, Nat.reduceAdd, Nat.reduceMul, Nat.reduceLT]
  trivial
theorem dR_call (n : Nat) (tk tk2 : Nat → Bool) (l : List Int) (c : Nat) (hn : n ≤ 8) (hl : ∀ x ∈ l, 0 ≤ x ∧ x < (n : Int)) (hl0 : 0 < l.length) (hlen : l.length ≤ 12) :
    Call Try.prog 74 [ptr0 0, nextV true n tk2, .slice (some ⟨1,0,none⟩) l.length c] [pu n tk nilS 0 0, ros l] fun v H' => v = unitV ∧ H' = [pu n (runP true n tk l).tk (newS 2 l.length) (runP true n tk l).slid (runP true n tk l).fell, ros l, rws (runP true n tk l).lies] :=
  Call.ofVcR (E3_ok true) mixed (c := dpB) (inv := invD true n tk tk2 l c) Try.func74 (by kernel_rfl) (cast (congrFun (congrFun (congrFun (congrFun (congrFun dR_eq n) tk) tk2) l) c) (dR_ok n tk tk2 l c hn hl hl0 hlen))
theorem dRN_call (n : Nat) (tk tk2 : Nat → Bool) : Call Try.prog 74 [ptr0 0, nextV true n tk2, nilS] [pu n tk nilS 0 0] fun v H' => v = unitV ∧ H' = [pu n tk nilS 0 0] :=
  Call.ofVcR (E3_ok true) mixed (c := dpB) Try.func74 (by kernel_rfl) (cast (congrFun (congrFun (congrFun dRN_eq n) tk) tk2) (dRN_ok n tk tk2))
theorem dRH_call (n : Nat) (tk tk2 : Nat → Bool) (s : Option Nat) (c : Nat) : Call Try.prog 74 [ptr0 0, nextV true n tk2, .slice (some ⟨1,0,s⟩) 0 c] [pu n tk nilS 0 0, .gone] fun v H' => v = unitV ∧ H' = [pu n tk nilS 0 0, .gone] :=
  Call.ofVcR (E3_ok true) mixed (c := dpB) Try.func74 (by kernel_rfl) (cast (congrFun (congrFun (congrFun (congrFun (congrFun dRH_eq n) tk) tk2) s) c) (dRH_ok n tk tk2 s c))
theorem dropR_ok : ∀ args H φ v H' l, dropG true args H = some (φ, v, H', l) → Asks φ → Call Try.prog 74 args H (fun v' H2 => v' = v ∧ H2 = H') ∧ Kept H H' l :=
  dropG_ok dR_call dRN_call dRH_call
end Go.Pier.Lg
namespace Go.Pier
open Go
variable {P : Program} {H : Heap} {f : FuncId}
def Arg.two : Arg → Arg2
  | .plain v => .val v
  | .ints k l => .ints k l
  | .hole s => .hole s
theorem canonA_two (caps : Nat → Nat) : ∀ (i : Nat) (r : List Arg), canonA2 caps i (r.map Arg.two) = canonA caps i r
  | _, [] => rfl
  | i, .plain v :: r => by rw [List.map_cons, Arg.two, canonA2, canonA, canonA_two caps i r]
  | i, .ints k l :: r => by rw [List.map_cons, Arg.two, canonA2, canonA, canonA_two caps (i + 1) r]
  | i, .hole s :: r => by rw [List.map_cons, Arg.two, canonA2, canonA, canonA_two caps (i + 1) r]
theorem canonH_two : ∀ (r : List Arg), canonH2 (r.map Arg.two) = canonH r
  | [] => rfl
  | .plain v :: r => by rw [List.map_cons, Arg.two, canonH2, canonH, canonH_two r]
  | .ints k l :: r => by rw [List.map_cons, Arg.two, canonH2, canonH, canonH_two r]
  | .hole s :: r => by rw [List.map_cons, Arg.two, canonH2, canonH, canonH_two r]
theorem nmap0_closed {σ : Nat → Nat} {v : Value} (h : sc0 0 v = true) : nmap0 σ v = v := by
  unfold sc0 at h
  split at h <;> simp_all [nmap0]
theorem nmapA_closed {σ : Nat → Nat} {v : Value} (h : scA 0 v = true) : nmapA σ v = v := by
  simp only [scA, Bool.or_eq_true] at h
  rcases h with h | h
  · have : nmapA σ v = nmap0 σ v := by cases v <;> first | rfl | (simp [sc0] at h)
    rw [this, nmap0_closed h]
  · cases v <;> simp only [aggAll, Bool.false_eq_true] at h
    simp only [nmapA]
    rw [map_id_all (fun _ => nmap0_closed) _ h]
theorem nmap1_closed {σ : Nat → Nat} {v : Value} (h : sc1 0 v = true) : nmap1 σ v = v := by
  unfold sc1 at h
  split at h
  · simp only [Bool.and_eq_true] at h
    simp only [nmap1, nmapFn]
    rw [map_id_all (fun _ => nmapA_closed) _ h.1, map_id_all (fun _ => nmap0_closed) _ h.2]
  · simp at h
  · have : nmap1 σ v = nmap0 σ v := by cases v <;> first | rfl | (simp [sc0] at h)
    rw [this, nmap0_closed h]
theorem nmap2_closed {σ : Nat → Nat} {v : Value} (h : sc2 0 v = true) : nmap2 σ v = v := by
  unfold sc2 at h
  split at h
  · simp only [nmap2]; rw [map_id_all (fun _ => nmap1_closed) _ h]
  · have : nmap2 σ v = nmap1 σ v := by cases v <;> first | rfl | (simp [sc1, sc0] at h) | (rename_i h1 _; exact absurd rfl (h1 _))
    rw [this, nmap1_closed h]
theorem nmap_closed {σ : Nat → Nat} {v : Value} (h : sc 0 v = true) : nmap σ v = v := by
  unfold sc at h
  split at h
  · simp only [nmap]; rw [map_id_all (fun _ => nmap2_closed) _ h]
  · have : nmap σ v = nmap2 σ v := by cases v <;> first | rfl | (simp [sc2, sc1, sc0] at h) | (rename_i h1; exact absurd rfl (h1 _))
    rw [this, nmap2_closed h]
theorem nm0_closed {p : Nat → Bool} {v : Value} (h : sc0 0 v = true) : nm0 p v = true := by
  unfold sc0 at h
  split at h <;> simp_all [nm0]
theorem nmA_closed {p : Nat → Bool} {v : Value} (h : scA 0 v = true) : nmA p v = true := by
  simp only [scA, Bool.or_eq_true] at h
  rcases h with h | h
  · have : nmA p v = nm0 p v := by cases v <;> first | rfl | (simp [sc0] at h)
    rw [this, nm0_closed h]
  · cases v <;> simp only [aggAll, Bool.false_eq_true] at h
    simp only [nmA]
    exact all_mono (fun _ => nm0_closed) _ h
theorem nm1_closed {p : Nat → Bool} {v : Value} (h : sc1 0 v = true) : nm1 p v = true := by
  unfold sc1 at h
  split at h
  · simp only [Bool.and_eq_true] at h
    simp only [nm1, Bool.and_eq_true]
    exact ⟨rfl, all_mono (fun u hu => nmA_closed hu) _ h.1, all_mono (fun _ => nm0_closed) _ h.2⟩
  · simp at h
  · have : nm1 p v = nm0 p v := by cases v <;> first | rfl | (simp [sc0] at h)
    rw [this, nm0_closed h]
theorem nm2_closed {p : Nat → Bool} {v : Value} (h : sc2 0 v = true) : nm2 p v = true := by
  unfold sc2 at h
  split at h
  · simp only [nm2]; exact all_mono (fun _ => nm1_closed) _ h
  · have : nm2 p v = nm1 p v := by cases v <;> first | rfl | (simp [sc1, sc0] at h) | (rename_i h1 _; exact absurd rfl (h1 _))
    rw [this, nm1_closed h]
theorem nm_closed {p : Nat → Bool} {v : Value} (h : sc 0 v = true) : nm p v = true := by
  unfold sc at h
  split at h
  · simp only [nm]; exact all_mono (fun _ => nm2_closed) _ h
  · have : nm p v = nm2 p v := by cases v <;> first | rfl | (simp [sc2, sc1, sc0] at h) | (rename_i h1; exact absurd rfl (h1 _))
    rw [this, nm2_closed h]
theorem read_two {B : List Nat} (hB : B = []) {σ : Nat → Nat} : ∀ {r : List Arg} {vs : List Value}, ReadA H r vs → ReadA2 H σ B 0 (r.map Arg.two) vs
  | [], [], _ => trivial
  | .plain u :: r, v :: vs, h => ⟨by rw [h.1, nmap_closed h.2.1], by rw [h.1]; exact h.2.1, read_two hB h.2.2⟩
  | .ints k l :: r, v :: vs, h => ⟨h.1, fun b _ hm => (by rw [hB] at hm; cases hm), read_two hB h.2⟩
  | .hole s :: r, v :: vs, h => ⟨h.1, read_two hB h.2⟩
structure Fresh where
  ask : Prop
  val : Nat → Value
  new : Nat → Heap
structure Fresh.Good (s : Fresh) : Prop where
  val : ∀ e n, nmap (fun c => n + (c - e)) (s.val e) = s.val n
  new : ∀ e n, (s.new e).map (omap fun c => n + (c - e)) = s.new n
  ro : ∀ n, ∀ o ∈ s.new n, o.isRo = false
  nmv : ∀ n, nm (fun d => decide (n ≤ d)) (s.val n) = true
  nmn : ∀ n, ∀ o ∈ s.new n, o.nm (fun d => decide (n ≤ d)) = true
  scv : ∀ n, sc (n + (s.new n).length) (s.val n) = true
  scn : ∀ n, ∀ o ∈ s.new n, o.sc (n + (s.new n).length) = true
def freshG (ps : List PK) (spec : List Arg → Option Fresh) : List Value → Heap → Option (Option Prop × Value × Heap × List Nat) := fun args H => match toArgs H ps args with
  | some (φ, r) => match spec r with
    | some s => some (andO φ (some s.ask), s.val H.length, H ++ s.new H.length, [])
    | none => none
  | none => none
theorem nm_weak {e : Nat} : (fun d => decide (d < 0) || decide (e ≤ d)) = fun d => decide (e ≤ d) := by
  funext d; simp
theorem nameL_nil {e n : Nat} : nameL [] e n = fun c => n + (c - e) := by
  funext c; unfold nameL; simp
theorem Fresh.call {s : Fresh} (g : s.Good) {r : List Arg} {args : List Value} (h4 : ∀ caps, Call P f (canonA caps 0 r) (canonH r) fun v H' => v = s.val (canonH r).length ∧ H' = canonH r ++ s.new (canonH r).length) (hR : ReadA H r args) :
    Call P f args H (fun v' H2 => v' = s.val H.length ∧ H2 = H ++ s.new H.length) ∧ Kept H (H ++ s.new H.length) [] := by
  refine ⟨?_, Kept.append _ _ _⟩
  have h5 : ∀ caps, Call P f (canonA2 caps 0 (r.map Arg.two)) ([] ++ canonH2 (r.map Arg.two)) fun v' F' => v' = s.val (canonH r).length ∧ F' = [] ++ canonH2 (r.map Arg.two) ++ s.new (canonH r).length := fun caps => by
    rw [canonA_two, canonH_two, List.nil_append]; exact h4 caps
  have := Call.frameL (P := P) (f := f) (H := H) (Et := []) (Ft := []) (N := s.new (canonH r).length) (L := []) (ags := r.map Arg.two) (vs := args) (v := s.val (canonH r).length) rfl rfl (by simp) (fun _ h => by cases h) (fun c o h => by simp at h) (fun _ h => by cases h)
    (read_two rfl hR) h5
    (by rw [List.nil_append, List.nil_append, canonH_two]; simp only [List.length_nil, nm_weak]; exact g.nmn _)
    (g.ro _)
    (by rw [List.nil_append, canonH_two]; simp only [List.length_nil, nm_weak]; exact g.nmv _)
    (by
      rw [List.nil_append, List.nil_append, canonH_two, nameL_nil]
      intro o ho
      have hm := List.mem_map_of_mem (f := omap fun c => H.length + (c - (canonH r).length)) ho
      rw [g.new] at hm
      have := g.scn H.length _ hm
      rw [show (s.new (canonH r).length).length = (s.new H.length).length by rw [← g.new (canonH r).length H.length, List.length_map]]
      exact this)
    (by
      rw [List.nil_append, canonH_two, nameL_nil, g.val]
      have := g.scv H.length
      rw [show (s.new (canonH r).length).length = (s.new H.length).length by rw [← g.new (canonH r).length H.length, List.length_map]]
      exact this)
  rw [List.nil_append, canonH_two, nameL_nil, g.val, g.new] at this
  exact this.1
theorem freshG_ok {ps : List PK} {spec : List Arg → Option Fresh} (h : ∀ r s, kinds ps r → spec r = some s → s.ask → s.Good ∧ ∀ caps, Call P f (canonA caps 0 r) (canonH r) fun v H' => v = s.val (canonH r).length ∧ H' = canonH r ++ s.new (canonH r).length) :
    ∀ args H φ v H' l, freshG ps spec args H = some (φ, v, H', l) → Asks φ → Call P f args H (fun v' H2 => v' = v ∧ H2 = H') ∧ Kept H H' l := by
  intro args H φ v H' l hg hφ
  unfold freshG at hg
  split at hg <;> try (cases hg; done)
  rename_i φ1 r hr
  split at hg <;> cases hg
  rename_i s hb
  obtain ⟨h1, h2⟩ := andO_iff.1 hφ
  obtain ⟨g, h4⟩ := h r s (toArgs_kinds hr) hb h2
  exact Fresh.call g h4 (toArgs_ok hr h1)
def madeS (b n : Nat) : Value := .slice (some ⟨b, 0, none⟩) n n
theorem fresh_plain {p : Prop} {v : Value} (h : sc 0 v = true) : Fresh.Good ⟨p, fun _ => v, fun _ => []⟩ where
  val _ _ := nmap_closed h
  new _ _ := rfl
  ro _ _ h := by cases h
  nmv n := by
    exact nm_closed h
  nmn _ _ h := by cases h
  scv n := sc_mono (Nat.zero_le _) h
  scn _ _ h := by cases h
def aNothing (P : Program) (H : Heap) (tys : Array TypeId) (s x : Value) : Option (Prop × Value × Heap) :=
  match tys[0]?, tys[1]? with
  | some t0, some t1 => match P.underlying t0, P.underlying t1, s, x with
    | some (.slice elem), some (.slice _), .slice (some a) sLen sCap, .slice _ n _ => match a.spot, Nat.beq n 0 with
      | none, true => match P.info? elem, zeroT P elem with
        | some i, some z => some (sLen ≤ 1099511627776 ∧ (2 * sLen + 256) * i.bytes ≤ 281474976710656 ∧ z.cells.size = i.size ∧ sLen ≤ sCap, .slice (some a) sLen sCap, H)
        | _, _ => none
      | _, _ => none
    | _, _, _, _ => none
  | _, _ => none
theorem aNothing_ok {tys : Array TypeId} {s x v : Value} {φ : Prop} {H' : Heap} (h : aNothing P H tys s x = some (φ, v, H')) (hφ : φ) : aAppend P H tys s x = some (v, H') := by
  unfold aNothing at h
  split at h <;> try (cases h; done)
  rename_i t0 t1 h0 h1
  split at h <;> try (cases h; done)
  rename_i elem e1 a sLen sCap xb n xc hu0 hu1
  split at h <;> try (cases h; done)
  rename_i hs hn
  split at h <;> cases h
  rename_i i z hi hz
  obtain rfl := Nat.eq_of_beq_eq_true hn
  obtain ⟨k1, k2, k3, k4⟩ := hφ
  have hf : aFirst H i.size 0 (.slice xb 0 xc) = some [] := by
    unfold aFirst
    cases xb with
    | none => rfl
    | some b => simp only [Nat.zero_mul]
  unfold aAppend
  simp only [h0, h1, hu0, hu1, hi, hz, Option.bind_some, hf]
  rw [if_pos ⟨by omega, by simpa using k2, k3, by simp⟩]
  simp only [hs]
  rw [if_pos (by omega)]
  rfl
def orcAp0 (P : Program) : Orc := fun env H o => match o.op with
  | .call c => match c.callee with
    | .builtin .append => match envs env c.args.toList with
      | some [s, x] => match aNothing P H c.argTypes s x with
        | some (φ, v, H') => some (φ, some v, H')
        | none => none
      | _ => none
    | _ => none
  | _ => none
theorem orcAp0_ok : OrcOk P (orcAp0 P) := fun env H o φ v H' h hφ => by
  unfold orcAp0 at h
  split at h <;> try (cases h; done)
  rename_i c hop
  split at h <;> try (cases h; done)
  rename_i hcal
  split at h <;> try (cases h; done)
  rename_i s x hargs
  split at h <;> cases h
  rename_i v hr
  unfold evOp
  rw [hop]
  simp only [evCall, hargs, Option.bind_some, hcal, evBuiltin, aNothing_ok hr hφ, Option.map_some, outOf]
end Go.Pier
set_option maxRecDepth 100000
set_option linter.unusedVariables false
set_option linter.unusedSimpArgs false
namespace Go.Pier.Lg
open Go Go.Pier Go.Proofs
noncomputable def apT : Ct := ((Ct.none.add 23 (pureG [.int .i64, .ints .i64] cdS)).add 49 pushedG).add 51 (whG goodT)
noncomputable def apE : VEnv := { ct := apT }
noncomputable def apR : VEnv := { ct := (Ct.none.add 23 (pureG [.int .i64, .ints .i64] cdS)).add 74 (dropG true), cc := ccIn Try.prog {} [⟨62, Try.f62, fun _ _ _ => none⟩] }
noncomputable def afuB : Code := Try.f21.body.getD .skip
noncomputable def aliB : Code := Try.f19.body.getD .skip
noncomputable def aroB : Code := Try.f40.body.getD .skip
noncomputable def acrB : Code := Try.f32.body.getD .skip
def madeA (l : List Int) : AObj := .rw (l.map (.int .i64)) none
def ledC (n : Nat) (l : List Int) : Int := if (runA n l).fell = 0 then 0 else 20
def runR (n : Nat) (l : List Int) : PS := runP true n emp l
noncomputable def afuV_s0 (n : Nat) (l : List Int) (c : Nat) := (runA (↑n : Int).toNat (List.take l.length (List.drop (0 : Nat) (intsOf (List.map (Value.int IntKind.i64) l)))))
noncomputable def afuV_s1 (n : Nat) (l : List Int) (c : Nat) := (whL (fA (Value.func (Fn.func (52 : Nat)) { toList := [Value.agg { toList := (lgC (↑n : Int) ((afuV_s0 n l c).tk)) }] } { toList := [] })) (fN (lgC (↑n : Int) ((afuV_s0 n l c).tk))).toNat)
noncomputable def afuV_s2 (n : Nat) (l : List Int) (c : Nat) := (vi (↑n : Int) :: T8 ((afuV_s0 n l c).tk) [Value.slice (some { block := (1 : Nat) + (1 : Nat), off := (0 : Nat), spot := some (0 : Nat) }) (List.take l.length (List.drop (0 : Nat) (intsOf (List.map (Value.int IntKind.i64) l)))).length (0 : Nat), vi (afuV_s0 n l c).slid, vi (afuV_s0 n l c).fell])
noncomputable def afuV_s3 (n : Nat) (l : List Int) (c : Nat) := (List.take l.length (List.drop (0 : Nat) (intsOf (List.map (Value.int IntKind.i64) l))))
noncomputable def afuV_s4 (n : Nat) (l : List Int) (c : Nat) : Array Value := { toList := [Value.slice (some (ad0 3)) (whL (runA n l).tk n).length (whL (runA n l).tk n).length, vi (runA n l).fell, vi (0 : Int)] }
noncomputable def afuV_s5 (n : Nat) (l : List Int) (c : Nat) := (lgC (↑n : Int) ((afuV_s0 n l c).tk))
noncomputable def afuV_s6 (n : Nat) (l : List Int) (c : Nat) := (List.map (Value.int IntKind.i64) l)
noncomputable def afuV :=
fun (n : Nat) (l : List Int) (c : Nat) ↦ Ob ((List.take l.length (List.drop (0 : Nat) (afuV_s6 n l c)) = List.map (Value.int IntKind.i64) (afuV_s3 n l c) ∧ (0 : Nat) + l.length ≤ (afuV_s6 n l c).length ∧ true = true) ∧ errD (↑n : Int) (afuV_s3 n l c) = (0 : Int) ∧ (0 : Nat) < (afuV_s3 n l c).length ∧ (0 : Int) ≤ (↑n : Int)) ∧ (false = true → (Ob (AObj.ro (afuV_s6 n l c) = AObj.ro (List.map (nmap1 (nsub (1 : Nat) (3 : Nat))) (afuV_s6 n l c)) ∧ AObj.sc (2 : Nat) (AObj.ro (afuV_s6 n l c)) = true) ∧ False) ∧ Ob (Value.tuple { toList := [Value.slice none (0 : Nat) (0 : Nat), vi (0 : Int), vi (0 : Int)] } = Value.tuple (afuV_s4 n l c)) ∧ True) ∧ (false = false → Ob (Value.agg { toList := (afuV_s5 n l c) } = Value.agg { toList := (lgC (fN (afuV_s5 n l c)) (fT (afuV_s5 n l c))) } ∧ (0 : Int) ≤ fN (afuV_s5 n l c) ∧ fN (afuV_s5 n l c) ≤ (8 : Int) ∧ Value.func (Fn.func (52 : Nat)) { toList := [Value.agg { toList := (afuV_s5 n l c) }] } { toList := [] } = Value.func (Fn.func (52 : FuncId)) { toList := [Value.agg { toList := (lgC (fN (afuV_s5 n l c)) (fA (Value.func (Fn.func (52 : Nat)) { toList := [Value.agg { toList := (afuV_s5 n l c) }] } { toList := [] }))) }] } { toList := [] }) ∧ Ob (IntAt IntKind.i64 (afuV_s2 n l c) ((0 : Nat) + (11 : Nat))) ∧ (Ob (AObj.ro (afuV_s6 n l c) = AObj.ro (List.map (nmap1 (nsub (1 : Nat) (3 : Nat))) (afuV_s6 n l c)) ∧ AObj.sc (2 : Nat) (AObj.ro (afuV_s6 n l c)) = true) ∧ Ob (AObj.rw (List.map (Value.int IntKind.i64) (afuV_s1 n l c)) none = AObj.rw (List.map (nmap1 (nsub (1 : Nat) (3 : Nat))) (List.map (Value.int IntKind.i64) (whL (runA n l).tk n))) none ∧ AObj.sc (2 : Nat) (AObj.rw (List.map (Value.int IntKind.i64) (whL (runA n l).tk n)) none) = true) ∧ True) ∧ Ob (Value.tuple { toList := [Value.slice (some (ad0 3)) (afuV_s1 n l c).length (afuV_s1 n l c).length, vi (getI (afuV_s2 n l c) ((0 : Nat) + (11 : Nat))), vi (0 : Int)] } = Value.tuple (afuV_s4 n l c)) ∧ True)
theorem afuV_eq : afuV = fun (n : Nat) (l : List Int) (c : Nat) => vc Try.prog apE 1 32 true (fun _ => none) afuB [] (argFr 0 [vi n, .slice (some ⟨0,0,none⟩) l.length c]) [ros l] (retR Try.prog Try.f21 1 (nsub 1 3) (.tuple #[madeS 1 (whL (runA n l).tk n).length, vi (runA n l).fell, vi 0]) [ros l, madeA (whL (runA n l).tk n)]) := by kernel_rfl
noncomputable def afuN_s0 (n : Nat) := (whL (fA (Value.func (Fn.func (52 : Nat)) { toList := [Value.agg { toList := (lgC (↑n : Int) emp) }] } { toList := [] })) (fN (lgC (↑n : Int) emp)).toNat)
noncomputable def afuN_s1 (n : Nat) : Array Value := { toList := [Value.slice (some (ad0 1)) (whL emp n).length (whL emp n).length, vi (0 : Int), vi (0 : Int)] }
noncomputable def afuN :=
fun (n : Nat) ↦ Ob (errD (↑n : Int) [] = (0 : Int)) ∧ (false = true → False ∧ Ob (Value.tuple { toList := [Value.slice none (0 : Nat) (0 : Nat), vi (0 : Int), vi (0 : Int)] } = Value.tuple (afuN_s1 n)) ∧ True) ∧ (false = false → Ob (Value.agg { toList := (lgC (↑n : Int) emp) } = Value.agg { toList := (lgC (fN (lgC (↑n : Int) emp)) emp) } ∧ (0 : Int) ≤ fN (lgC (↑n : Int) emp) ∧ fN (lgC (↑n : Int) emp) ≤ (8 : Int) ∧ Value.func (Fn.func (52 : Nat)) { toList := [Value.agg { toList := (lgC (↑n : Int) emp) }] } { toList := [] } = Value.func (Fn.func (52 : FuncId)) { toList := [Value.agg { toList := (lgC (fN (lgC (↑n : Int) emp)) emp) }] } { toList := [] }) ∧ Ob (some (vi (0 : Int)) = some (vi (0 : Int))) ∧ (Ob (AObj.rw (List.map (Value.int IntKind.i64) (afuN_s0 n)) none = AObj.rw (List.map (nmap1 (nsub (0 : Nat) (1 : Nat))) (List.map (Value.int IntKind.i64) (whL emp n))) none ∧ AObj.sc (1 : Nat) (AObj.rw (List.map (Value.int IntKind.i64) (whL emp n)) none) = true) ∧ True) ∧ Ob (Value.tuple { toList := [Value.slice (some (ad0 1)) (afuN_s0 n).length (afuN_s0 n).length, vi (0 : Int), vi (0 : Int)] } = Value.tuple (afuN_s1 n)) ∧ True)
theorem afuN_eq : afuN = fun (n : Nat) => vc Try.prog apE 0 32 true (fun _ => none) afuB [] (argFr 0 [vi n, nilS]) [] (retR Try.prog Try.f21 0 (nsub 0 1) (.tuple #[madeS 0 (whL emp n).length, vi 0, vi 0]) [madeA (whL emp n)]) := by kernel_rfl
noncomputable def afuH_s0 (n : Nat) (s : Option Nat) (c : Nat) := (whL (fA (Value.func (Fn.func (52 : Nat)) { toList := [Value.agg { toList := (lgC (↑n : Int) emp) }] } { toList := [] })) (fN (lgC (↑n : Int) emp)).toNat)
noncomputable def afuH_s1 (n : Nat) (s : Option Nat) (c : Nat) : Array Value := { toList := [Value.slice (some (ad0 2)) (whL emp n).length (whL emp n).length, vi (0 : Int), vi (0 : Int)] }
noncomputable def afuH :=
fun (n : Nat) (s : Option Nat) (c : Nat) ↦ Ob (errD (↑n : Int) [] = (0 : Int)) ∧ (false = true → False ∧ Ob (Value.tuple { toList := [Value.slice none (0 : Nat) (0 : Nat), vi (0 : Int), vi (0 : Int)] } = Value.tuple (afuH_s1 n s c)) ∧ True) ∧ (false = false → Ob (Value.agg { toList := (lgC (↑n : Int) emp) } = Value.agg { toList := (lgC (fN (lgC (↑n : Int) emp)) emp) } ∧ (0 : Int) ≤ fN (lgC (↑n : Int) emp) ∧ fN (lgC (↑n : Int) emp) ≤ (8 : Int) ∧ Value.func (Fn.func (52 : Nat)) { toList := [Value.agg { toList := (lgC (↑n : Int) emp) }] } { toList := [] } = Value.func (Fn.func (52 : FuncId)) { toList := [Value.agg { toList := (lgC (fN (lgC (↑n : Int) emp)) emp) }] } { toList := [] }) ∧ Ob (some (vi (0 : Int)) = some (vi (0 : Int))) ∧ (Ob (AObj.rw (List.map (Value.int IntKind.i64) (afuH_s0 n s c)) none = AObj.rw (List.map (nmap1 (nsub (1 : Nat) (2 : Nat))) (List.map (Value.int IntKind.i64) (whL emp n))) none ∧ AObj.sc (2 : Nat) (AObj.rw (List.map (Value.int IntKind.i64) (whL emp n)) none) = true) ∧ True) ∧ Ob (Value.tuple { toList := [Value.slice (some (ad0 2)) (afuH_s0 n s c).length (afuH_s0 n s c).length, vi (0 : Int), vi (0 : Int)] } = Value.tuple (afuH_s1 n s c)) ∧ True)
theorem afuH_eq : afuH = fun (n : Nat) (s : Option Nat) (c : Nat) => vc Try.prog apE 1 32 true (fun _ => none) afuB [] (argFr 0 [vi n, .slice (some ⟨0,0,s⟩) 0 c]) [.gone] (retR Try.prog Try.f21 1 (nsub 1 2) (.tuple #[madeS 1 (whL emp n).length, vi 0, vi 0]) [.gone, madeA (whL emp n)]) := by kernel_rfl
noncomputable def aliV_s0 (n : Nat) (l : List Int) (c : Nat) := (List.take l.length (List.drop (0 : Nat) (intsOf (List.map (Value.int IntKind.i64) l))))
noncomputable def aliV_s1 (n : Nat) (l : List Int) (c : Nat) := (vi (↑n : Int) :: T8 ((runA (↑n : Int).toNat (aliV_s0 n l c)).tk) [Value.slice (some { block := (1 : Nat) + (1 : Nat), off := (0 : Nat), spot := some (0 : Nat) }) (aliV_s0 n l c).length (0 : Nat), vi (runA (↑n : Int).toNat (aliV_s0 n l c)).slid, vi (runA (↑n : Int).toNat (aliV_s0 n l c)).fell])
noncomputable def aliV_s2 (n : Nat) (l : List Int) (c : Nat) : Array Value := { toList := [Value.slice (some { block := (2 : Nat), off := (0 : Nat), spot := some (0 : Nat) }) l.length (0 : Nat), vi (runA n l).slid, vi (0 : Int)] }
noncomputable def aliV_s3 (n : Nat) (l : List Int) (c : Nat) := (List.map (Value.int IntKind.i64) l)
noncomputable def aliV_s4 (n : Nat) (l : List Int) (c : Nat) := (List.map (Value.int IntKind.i64) (runA n l).lies)
noncomputable def aliV :=
fun (n : Nat) (l : List Int) (c : Nat) ↦ Ob ((List.take l.length (List.drop (0 : Nat) (aliV_s3 n l c)) = List.map (Value.int IntKind.i64) (aliV_s0 n l c) ∧ (0 : Nat) + l.length ≤ (aliV_s3 n l c).length ∧ true = true) ∧ errD (↑n : Int) (aliV_s0 n l c) = (0 : Int) ∧ (0 : Nat) < (aliV_s0 n l c).length ∧ (0 : Int) ≤ (↑n : Int)) ∧ (false = true → (Ob (AObj.ro (aliV_s3 n l c) = AObj.ro (List.map (nmap1 (nsub (1 : Nat) (2 : Nat))) (aliV_s3 n l c)) ∧ AObj.sc (2 : Nat) (AObj.ro (aliV_s3 n l c)) = true) ∧ Ob (AObj.rw (List.map (Value.int IntKind.i64) (runA (↑n : Int).toNat (aliV_s0 n l c)).lies) (some (1 : Nat)) = AObj.rw (List.map (nmap1 (nsub (1 : Nat) (2 : Nat))) (aliV_s4 n l c)) (some (1 : Nat)) ∧ AObj.sc (2 : Nat) (AObj.rw (aliV_s4 n l c) (some (1 : Nat))) = true) ∧ True) ∧ Ob (Value.tuple { toList := [Value.slice none (0 : Nat) (0 : Nat), vi (0 : Int), vi (0 : Int)] } = Value.tuple (aliV_s2 n l c)) ∧ True) ∧ (false = false → Ob (IntAt IntKind.i64 (aliV_s1 n l c) ((0 : Nat) + (10 : Nat))) ∧ (Ob (AObj.ro (aliV_s3 n l c) = AObj.ro (List.map (nmap1 (nsub (1 : Nat) (2 : Nat))) (aliV_s3 n l c)) ∧ AObj.sc (2 : Nat) (AObj.ro (aliV_s3 n l c)) = true) ∧ Ob (AObj.rw (List.map (Value.int IntKind.i64) (runA (↑n : Int).toNat (aliV_s0 n l c)).lies) (some (1 : Nat)) = AObj.rw (List.map (nmap1 (nsub (1 : Nat) (2 : Nat))) (aliV_s4 n l c)) (some (1 : Nat)) ∧ AObj.sc (2 : Nat) (AObj.rw (aliV_s4 n l c) (some (1 : Nat))) = true) ∧ True) ∧ Ob (Value.tuple { toList := [Value.slice (some { block := (1 : Nat) + (1 : Nat), off := (0 : Nat), spot := some (0 : Nat) }) (aliV_s0 n l c).length (0 : Nat), vi (getI (aliV_s1 n l c) ((0 : Nat) + (10 : Nat))), vi (0 : Int)] } = Value.tuple (aliV_s2 n l c)) ∧ True)
theorem aliV_eq : aliV = fun (n : Nat) (l : List Int) (c : Nat) => vc Try.prog apE 1 26 true (fun _ => none) aliB [] (argFr 0 [vi n, .slice (some ⟨0,0,none⟩) l.length c]) [ros l] (retR Try.prog Try.f19 1 (nsub 1 2) (.tuple #[newS 1 l.length, vi (runA n l).slid, vi 0]) [ros l, rws (runA n l).lies]) := by kernel_rfl
noncomputable def aliN_s0 (n : Nat) : Array Value := { toList := [Value.slice none (0 : Nat) (0 : Nat), vi (0 : Int), vi (0 : Int)] }
noncomputable def aliN :=
fun (n : Nat) ↦ Ob (errD (↑n : Int) [] = (0 : Int)) ∧ (false = true → True ∧ Ob (Value.tuple (aliN_s0 n) = Value.tuple (aliN_s0 n)) ∧ True) ∧ (false = false → Ob (some (vi (0 : Int)) = some (vi (0 : Int))) ∧ True ∧ Ob (Value.tuple (aliN_s0 n) = Value.tuple (aliN_s0 n)) ∧ True)
theorem aliN_eq : aliN = fun (n : Nat) => vc Try.prog apE 0 26 true (fun _ => none) aliB [] (argFr 0 [vi n, nilS]) [] (retR Try.prog Try.f19 0 (fun b => b) (.tuple #[nilS, vi 0, vi 0]) []) := by kernel_rfl
noncomputable def aliH_s0 (n : Nat) (s : Option Nat) (c : Nat) : Array Value := { toList := [Value.slice none (0 : Nat) (0 : Nat), vi (0 : Int), vi (0 : Int)] }
noncomputable def aliH :=
fun (n : Nat) (s : Option Nat) (c : Nat) ↦ Ob (errD (↑n : Int) [] = (0 : Int)) ∧ (false = true → True ∧ Ob (Value.tuple (aliH_s0 n s c) = Value.tuple (aliH_s0 n s c)) ∧ True) ∧ (false = false → Ob (some (vi (0 : Int)) = some (vi (0 : Int))) ∧ True ∧ Ob (Value.tuple (aliH_s0 n s c) = Value.tuple (aliH_s0 n s c)) ∧ True)
theorem aliH_eq : aliH = fun (n : Nat) (s : Option Nat) (c : Nat) => vc Try.prog apE 1 26 true (fun _ => none) aliB [] (argFr 0 [vi n, .slice (some ⟨0,0,s⟩) 0 c]) [.gone] (retR Try.prog Try.f19 1 (fun b => b) (.tuple #[nilS, vi 0, vi 0]) [.gone]) := by kernel_rfl
noncomputable def aroV_s0 (n : Nat) (l : List Int) (c : Nat) := (runP true (fN (vi (↑n : Int) :: T8 emp [Value.slice none (0 : Nat) (0 : Nat), vi (0 : Int), vi (0 : Int)])).toNat (fT (vi (↑n : Int) :: T8 emp [Value.slice none (0 : Nat) (0 : Nat), vi (0 : Int), vi (0 : Int)])) (List.take l.length (List.drop (0 : Nat) (intsOf (List.map (Value.int IntKind.i64) l)))))
noncomputable def aroV_s1 (n : Nat) (l : List Int) (c : Nat) := (List.take l.length (List.drop (0 : Nat) (intsOf (List.map (Value.int IntKind.i64) l))))
noncomputable def aroV_s2 (n : Nat) (l : List Int) (c : Nat) := (vi (fN (vi (↑n : Int) :: T8 emp [Value.slice none (0 : Nat) (0 : Nat), vi (0 : Int), vi (0 : Int)])) :: T8 ((aroV_s0 n l c).tk) [Value.slice (some { block := (2 : Nat), off := (0 : Nat), spot := some (0 : Nat) }) (aroV_s1 n l c).length (0 : Nat), vi (aroV_s0 n l c).slid, vi (aroV_s0 n l c).fell])
noncomputable def aroV_s3 (n : Nat) (l : List Int) (c : Nat) : Array Value := { toList := [Value.slice (some { block := (2 : Nat), off := (0 : Nat), spot := some (0 : Nat) }) l.length (0 : Nat), vi (runR n l).slid, vi (0 : Int)] }
noncomputable def aroV_s4 (n : Nat) (l : List Int) (c : Nat) := (List.map (Value.int IntKind.i64) l)
noncomputable def aroV_s5 (n : Nat) (l : List Int) (c : Nat) := (List.map (nmap1 (nsub (1 : Nat) (2 : Nat))) (aroV_s4 n l c))
noncomputable def aroV_s6 (n : Nat) (l : List Int) (c : Nat) := (errD (Arg.plain (vi (↑n : Int))).num (Arg.ints IntKind.i64 (aroV_s1 n l c)).list != (0 : Int))
noncomputable def aroV :=
fun (n : Nat) (l : List Int) (c : Nat) ↦ Ob ((List.take l.length (List.drop (0 : Nat) (aroV_s4 n l c)) = List.map (Value.int IntKind.i64) (aroV_s1 n l c) ∧ (0 : Nat) + l.length ≤ (aroV_s4 n l c).length ∧ true = true) ∧ (Arg.ints IntKind.i64 (aroV_s1 n l c)).list.length ≤ (1000000 : Nat)) ∧ ((aroV_s6 n l c) = true → (Ob (AObj.ro (aroV_s4 n l c) = AObj.ro (aroV_s5 n l c) ∧ AObj.sc (2 : Nat) (AObj.ro (aroV_s4 n l c)) = true) ∧ False) ∧ Ob (Value.tuple { toList := [Value.slice none (0 : Nat) (0 : Nat), vi (0 : Int), vi (errD (Arg.plain (vi (↑n : Int))).num (Arg.ints IntKind.i64 (aroV_s1 n l c)).list)] } = Value.tuple (aroV_s3 n l c)) ∧ True) ∧ ((aroV_s6 n l c) = false → (decide ((↑n : Int) < (↑l.length : Int)) = true → (Ob (AObj.ro (aroV_s4 n l c) = AObj.ro (aroV_s5 n l c) ∧ AObj.sc (2 : Nat) (AObj.ro (aroV_s4 n l c)) = true) ∧ False) ∧ Ob (Value.tuple { toList := [Value.slice none (0 : Nat) (0 : Nat), vi (0 : Int), vi (10 : Int)] } = Value.tuple (aroV_s3 n l c)) ∧ True) ∧ (decide ((↑n : Int) < (↑l.length : Int)) = false → Ob ((List.take l.length (List.drop (0 : Nat) (aroV_s4 n l c)) = List.map (Value.int IntKind.i64) (aroV_s1 n l c) ∧ (0 : Nat) + l.length ≤ (aroV_s4 n l c).length ∧ true = true) ∧ dropPre true (vi (↑n : Int) :: T8 emp [Value.slice none (0 : Nat) (0 : Nat), vi (0 : Int), vi (0 : Int)]) (Value.func (Fn.func (75 : Nat)) { toList := [Value.agg { toList := (lgC (↑n : Int) emp) }] } { toList := [] }) (aroV_s1 n l c) ∧ (0 : Nat) < (aroV_s1 n l c).length ∧ some (0 : Nat) ≠ some (1 : Nat)) ∧ Ob (IntAt IntKind.i64 (aroV_s2 n l c) ((0 : Nat) + (10 : Nat))) ∧ (Ob (AObj.ro (aroV_s4 n l c) = AObj.ro (aroV_s5 n l c) ∧ AObj.sc (2 : Nat) (AObj.ro (aroV_s4 n l c)) = true) ∧ Ob (AObj.rw (List.map (Value.int IntKind.i64) (aroV_s0 n l c).lies) (some (1 : Nat)) = AObj.rw (List.map (nmap1 (nsub (1 : Nat) (2 : Nat))) (List.map (Value.int IntKind.i64) (runR n l).lies)) (some (1 : Nat)) ∧ AObj.sc (2 : Nat) (AObj.rw (List.map (Value.int IntKind.i64) (runR n l).lies) (some (1 : Nat))) = true) ∧ True) ∧ Ob (Value.tuple { toList := [Value.slice (some { block := (2 : Nat), off := (0 : Nat), spot := some (0 : Nat) }) (aroV_s1 n l c).length (0 : Nat), vi (getI (aroV_s2 n l c) ((0 : Nat) + (10 : Nat))), vi (0 : Int)] } = Value.tuple (aroV_s3 n l c)) ∧ True))
theorem aroV_eq : aroV = fun (n : Nat) (l : List Int) (c : Nat) => vc Try.prog apR 1 37 true (fun _ => none) aroB [] (argFr 0 [vi n, .slice (some ⟨0,0,none⟩) l.length c]) [ros l] (retR Try.prog Try.f40 1 (nsub 1 2) (.tuple #[newS 1 l.length, vi (runR n l).slid, vi 0]) [ros l, rws (runR n l).lies]) := by kernel_rfl
noncomputable def aroN_s0 (n : Nat) : List Value := [Value.slice none (0 : Nat) (0 : Nat), vi (0 : Int), vi (0 : Int)]
noncomputable def aroN :=
fun (n : Nat) ↦ Ob ((0 : Nat) ≤ (1000000 : Nat)) ∧ ((errD (Arg.plain (vi (↑n : Int))).num [] != (0 : Int)) = true → True ∧ Ob (Value.tuple { toList := [Value.slice none (0 : Nat) (0 : Nat), vi (0 : Int), vi (errD (Arg.plain (vi (↑n : Int))).num [])] } = Value.tuple { toList := (aroN_s0 n) }) ∧ True) ∧ ((errD (Arg.plain (vi (↑n : Int))).num [] != (0 : Int)) = false → (decide ((↑n : Int) < (↑(0 : Nat) : Int)) = true → True ∧ Ob (Value.tuple { toList := [Value.slice none (0 : Nat) (0 : Nat), vi (0 : Int), vi (10 : Int)] } = Value.tuple { toList := (aroN_s0 n) }) ∧ True) ∧ (decide ((↑n : Int) < (↑(0 : Nat) : Int)) = false → Ob (dropPre true (vi (↑n : Int) :: T8 emp (aroN_s0 n)) (Value.func (Fn.func (75 : Nat)) { toList := [Value.agg { toList := (lgC (↑n : Int) emp) }] } { toList := [] }) []) ∧ Ob (some (vi (0 : Int)) = some (vi (0 : Int))) ∧ True ∧ Ob (Value.tuple { toList := (aroN_s0 n) } = Value.tuple { toList := (aroN_s0 n) }) ∧ True))
theorem aroN_eq : aroN = fun (n : Nat) => vc Try.prog apR 0 37 true (fun _ => none) aroB [] (argFr 0 [vi n, nilS]) [] (retR Try.prog Try.f40 0 (fun b => b) (.tuple #[nilS, vi 0, vi 0]) []) := by kernel_rfl
noncomputable def aroH_s0 (n : Nat) (s : Option Nat) (c : Nat) : List Value := [Value.slice none (0 : Nat) (0 : Nat), vi (0 : Int), vi (0 : Int)]
noncomputable def aroH :=
fun (n : Nat) (s : Option Nat) (c : Nat) ↦ Ob ((0 : Nat) ≤ (1000000 : Nat)) ∧ ((errD (Arg.plain (vi (↑n : Int))).num [] != (0 : Int)) = true → True ∧ Ob (Value.tuple { toList := [Value.slice none (0 : Nat) (0 : Nat), vi (0 : Int), vi (errD (Arg.plain (vi (↑n : Int))).num [])] } = Value.tuple { toList := (aroH_s0 n s c) }) ∧ True) ∧ ((errD (Arg.plain (vi (↑n : Int))).num [] != (0 : Int)) = false → (decide ((↑n : Int) < (↑(0 : Nat) : Int)) = true → True ∧ Ob (Value.tuple { toList := [Value.slice none (0 : Nat) (0 : Nat), vi (0 : Int), vi (10 : Int)] } = Value.tuple { toList := (aroH_s0 n s c) }) ∧ True) ∧ (decide ((↑n : Int) < (↑(0 : Nat) : Int)) = false → Ob (dropPre true (vi (↑n : Int) :: T8 emp (aroH_s0 n s c)) (Value.func (Fn.func (75 : Nat)) { toList := [Value.agg { toList := (lgC (↑n : Int) emp) }] } { toList := [] }) []) ∧ Ob (some (vi (0 : Int)) = some (vi (0 : Int))) ∧ True ∧ Ob (Value.tuple { toList := (aroH_s0 n s c) } = Value.tuple { toList := (aroH_s0 n s c) }) ∧ True))
theorem aroH_eq : aroH = fun (n : Nat) (s : Option Nat) (c : Nat) => vc Try.prog apR 1 37 true (fun _ => none) aroB [] (argFr 0 [vi n, .slice (some ⟨0,0,s⟩) 0 c]) [.gone] (retR Try.prog Try.f40 1 (fun b => b) (.tuple #[nilS, vi 0, vi 0]) [.gone]) := by kernel_rfl
noncomputable def aroX_s0 (n : Nat) (l : List Int) (c : Nat) := (runP true (fN (vi (↑n : Int) :: T8 emp [Value.slice none (0 : Nat) (0 : Nat), vi (0 : Int), vi (0 : Int)])).toNat (fT (vi (↑n : Int) :: T8 emp [Value.slice none (0 : Nat) (0 : Nat), vi (0 : Int), vi (0 : Int)])) (List.take l.length (List.drop (0 : Nat) (intsOf (List.map (Value.int IntKind.i64) l)))))
noncomputable def aroX_s1 (n : Nat) (l : List Int) (c : Nat) := (List.take l.length (List.drop (0 : Nat) (intsOf (List.map (Value.int IntKind.i64) l))))
noncomputable def aroX_s2 (n : Nat) (l : List Int) (c : Nat) := (vi (fN (vi (↑n : Int) :: T8 emp [Value.slice none (0 : Nat) (0 : Nat), vi (0 : Int), vi (0 : Int)])) :: T8 ((aroX_s0 n l c).tk) [Value.slice (some { block := (2 : Nat), off := (0 : Nat), spot := some (0 : Nat) }) (aroX_s1 n l c).length (0 : Nat), vi (aroX_s0 n l c).slid, vi (aroX_s0 n l c).fell])
noncomputable def aroX_s3 (n : Nat) (l : List Int) (c : Nat) : Array Value := { toList := [Value.slice none (0 : Nat) (0 : Nat), vi (0 : Int), vi (10 : Int)] }
noncomputable def aroX_s4 (n : Nat) (l : List Int) (c : Nat) := (errD (Arg.plain (vi (↑n : Int))).num (Arg.ints IntKind.i64 (aroX_s1 n l c)).list != (0 : Int))
noncomputable def aroX :=
fun (n : Nat) (l : List Int) (c : Nat) ↦ Ob ((List.take l.length (List.drop (0 : Nat) (List.map (Value.int IntKind.i64) l)) = List.map (Value.int IntKind.i64) (aroX_s1 n l c) ∧ (0 : Nat) + l.length ≤ (List.map (Value.int IntKind.i64) l).length ∧ true = true) ∧ (Arg.ints IntKind.i64 (aroX_s1 n l c)).list.length ≤ (1000000 : Nat)) ∧ ((aroX_s4 n l c) = true → True ∧ Ob (Value.tuple { toList := [Value.slice none (0 : Nat) (0 : Nat), vi (0 : Int), vi (errD (Arg.plain (vi (↑n : Int))).num (Arg.ints IntKind.i64 (aroX_s1 n l c)).list)] } = Value.tuple (aroX_s3 n l c))) ∧ ((aroX_s4 n l c) = false → (decide ((↑n : Int) < (↑l.length : Int)) = true → True ∧ Ob (Value.tuple (aroX_s3 n l c) = Value.tuple (aroX_s3 n l c))) ∧ (decide ((↑n : Int) < (↑l.length : Int)) = false → Ob ((List.take l.length (List.drop (0 : Nat) (List.map (Value.int IntKind.i64) l)) = List.map (Value.int IntKind.i64) (aroX_s1 n l c) ∧ (0 : Nat) + l.length ≤ (List.map (Value.int IntKind.i64) l).length ∧ true = true) ∧ dropPre true (vi (↑n : Int) :: T8 emp [Value.slice none (0 : Nat) (0 : Nat), vi (0 : Int), vi (0 : Int)]) (Value.func (Fn.func (75 : Nat)) { toList := [Value.agg { toList := (lgC (↑n : Int) emp) }] } { toList := [] }) (aroX_s1 n l c) ∧ (0 : Nat) < (aroX_s1 n l c).length ∧ some (0 : Nat) ≠ some (1 : Nat)) ∧ Ob (IntAt IntKind.i64 (aroX_s2 n l c) ((0 : Nat) + (10 : Nat))) ∧ True ∧ Ob (Value.tuple { toList := [Value.slice (some { block := (2 : Nat), off := (0 : Nat), spot := some (0 : Nat) }) (aroX_s1 n l c).length (0 : Nat), vi (getI (aroX_s2 n l c) ((0 : Nat) + (10 : Nat))), vi (0 : Int)] } = Value.tuple (aroX_s3 n l c))))
theorem aroX_eq : aroX = fun (n : Nat) (l : List Int) (c : Nat) => vc Try.prog apR 1 37 true (fun _ => none) aroB [] (argFr 0 [vi n, .slice (some ⟨0,0,none⟩) l.length c]) [ros l] (retK Try.prog Try.f40 (fun v _ => v = .tuple #[nilS, vi 0, vi 10])) := by kernel_rfl
noncomputable def acrV_s0 (n : Nat) (l : List Int) (c : Nat) := (vi (↑n : Int) :: T8 ((runA (↑n : Int).toNat (List.take l.length (List.drop (0 : Nat) (intsOf (List.map (Value.int IntKind.i64) l))))).tk) [Value.slice (some { block := (1 : Nat) + (1 : Nat), off := (0 : Nat), spot := some (0 : Nat) }) (List.take l.length (List.drop (0 : Nat) (intsOf (List.map (Value.int IntKind.i64) l)))).length (0 : Nat), vi (runA (↑n : Int).toNat (List.take l.length (List.drop (0 : Nat) (intsOf (List.map (Value.int IntKind.i64) l))))).slid, vi (runA (↑n : Int).toNat (List.take l.length (List.drop (0 : Nat) (intsOf (List.map (Value.int IntKind.i64) l))))).fell])
noncomputable def acrV_s1 (n : Nat) (l : List Int) (c : Nat) := (List.take l.length (List.drop (0 : Nat) (intsOf (List.map (Value.int IntKind.i64) l))))
noncomputable def acrV :=
fun (n : Nat) (l : List Int) (c : Nat) ↦ Ob ((List.take l.length (List.drop (0 : Nat) (List.map (Value.int IntKind.i64) l)) = List.map (Value.int IntKind.i64) (acrV_s1 n l c) ∧ (0 : Nat) + l.length ≤ (List.map (Value.int IntKind.i64) l).length ∧ true = true) ∧ errD (↑n : Int) (acrV_s1 n l c) = (0 : Int) ∧ (0 : Nat) < (acrV_s1 n l c).length ∧ (0 : Int) ≤ (↑n : Int)) ∧ (false = true → True ∧ Ob (vi (0 : Int) = vi (ledC n l))) ∧ (false = false → Ob (IntAt IntKind.i64 (acrV_s0 n l c) ((0 : Nat) + (11 : Nat))) ∧ (decide ((0 : Int) < getI (acrV_s0 n l c) ((0 : Nat) + (11 : Nat))) = true → True ∧ Ob (vi (20 : Int) = vi (ledC n l))) ∧ (decide ((0 : Int) < getI (acrV_s0 n l c) ((0 : Nat) + (11 : Nat))) = false → True ∧ Ob (vi (0 : Int) = vi (ledC n l))))
theorem acrV_eq : acrV = fun (n : Nat) (l : List Int) (c : Nat) => vc Try.prog apE 1 21 true (fun _ => none) acrB [] (argFr 0 [vi n, .slice (some ⟨0,0,none⟩) l.length c]) [ros l] (retK Try.prog Try.f32 (fun v _ => v = vi (ledC n l))) := by kernel_rfl
noncomputable def acrN :=
fun (n : Nat) ↦ Ob (errD (↑n : Int) [] = (0 : Int)) ∧ (false = true → True ∧ Ob (vi (0 : Int) = vi (0 : Int))) ∧ (false = false → Ob (some (vi (0 : Int)) = some (vi (0 : Int))) ∧ (decide ((0 : Int) < (0 : Int)) = true → True ∧ Ob (vi (20 : Int) = vi (0 : Int))) ∧ (decide ((0 : Int) < (0 : Int)) = false → True ∧ Ob (vi (0 : Int) = vi (0 : Int))))
theorem acrN_eq : acrN = fun (n : Nat) => vc Try.prog apE 0 21 true (fun _ => none) acrB [] (argFr 0 [vi n, nilS]) [] (retK Try.prog Try.f32 (fun v _ => v = vi 0)) := by kernel_rfl
noncomputable def acrH :=
fun (n : Nat) (s : Option Nat) (c : Nat) ↦ Ob (errD (↑n : Int) [] = (0 : Int)) ∧ (false = true → True ∧ Ob (vi (0 : Int) = vi (0 : Int))) ∧ (false = false → Ob (some (vi (0 : Int)) = some (vi (0 : Int))) ∧ (decide ((0 : Int) < (0 : Int)) = true → True ∧ Ob (vi (20 : Int) = vi (0 : Int))) ∧ (decide ((0 : Int) < (0 : Int)) = false → True ∧ Ob (vi (0 : Int) = vi (0 : Int))))
theorem acrH_eq : acrH = fun (n : Nat) (s : Option Nat) (c : Nat) => vc Try.prog apE 1 21 true (fun _ => none) acrB [] (argFr 0 [vi n, .slice (some ⟨0,0,s⟩) 0 c]) [.gone] (retK Try.prog Try.f32 (fun v _ => v = vi 0)) := by kernel_rfl
theorem whL_cg {g g' : Nat → Bool} : ∀ {m : Nat}, (∀ i, i < m → g i = g' i) → whL g m = whL g' m
  | 0, _ => rfl
  | m + 1, h => by rw [whL_succ, whL_succ, whL_cg (m := m) fun i hi => h i (by omega), h m (by omega)]
theorem whL_fa {n : Nat} {tk : Nat → Bool} (hn : n ≤ 8) : whL (fA (Value.func (Fn.func 52) { toList := [Value.agg { toList := lgC n tk }] } { toList := [] })) (fN (lgC n tk)).toNat = whL tk n :=
  whL_cg (m := n) fun i hi => by
    have : i < 8 := by omega
    rcases i with _ | _ | _ | _ | _ | _ | _ | _ | i <;> first | rfl | omega
theorem whL_em {n : Nat} : whL emp n = [] := by
  unfold whL emp; simp
theorem T8_10 {t : Nat → Bool} {n x y : Int} {a : Value} : getI (vi n :: T8 t [a, vi x, vi y]) 10 = x := rfl
theorem T8_11 {t : Nat → Bool} {n x y : Int} {a : Value} : getI (vi n :: T8 t [a, vi x, vi y]) 11 = y := rfl
theorem T8_i10 {t : Nat → Bool} {n x y : Int} {a : Value} : IntAt .i64 (vi n :: T8 t [a, vi x, vi y]) 10 := rfl
theorem T8_i11 {t : Nat → Bool} {n x y : Int} {a : Value} : IntAt .i64 (vi n :: T8 t [a, vi x, vi y]) 11 := rfl
theorem lies_len {ar : Bool} {n : Nat} {l : List Int} (hl : ∀ x ∈ l, 0 ≤ x ∧ x < (n : Int)) : (runP ar n emp l).lies.length = l.length := by
  have := (stI_bd (ar := ar) (tk := emp) hl (Nat.le_refl l.length)).1
  rwa [stI_end (Nat.le_refl _)] at this
theorem afuV_ok (n : Nat) (l : List Int) (c : Nat) (he : errD n l = 0) (h0 : 0 < l.length) : afuV n l c := by
  obtain ⟨hn, hb, hl⟩ := pre_ok he
  unfold afuV afuV_s6 afuV_s5 afuV_s4 afuV_s3 afuV_s2 afuV_s1 afuV_s0
  simp only [SS, reduceCtorEq, Arg.list, Arg.num, Arg.flag, intOf, andP, Nat.reduceLeDiff, Nat.reduceAdd, Nat.reduceMul, Nat.reduceLT, whL_fa hn, he, T8_10, T8_11, T8_i10, T8_i11, madeA]
  exact ⟨⟨h0, by omega⟩, rfl, by show (0 : Int) ≤ n; omega, by show (n : Int) ≤ 8; omega, rfl⟩
theorem afuN_ok (n : Nat) (he : errD n [] = 0) : afuN n := by
  obtain ⟨hn, hb, hl⟩ := pre_ok he
  unfold afuN afuN_s1 afuN_s0
  simp only [SS, reduceCtorEq, Arg.list, Arg.num, Arg.flag, intOf, andP, Nat.reduceLeDiff, Nat.reduceAdd, Nat.reduceMul, Nat.reduceLT, whL_fa hn, he, T8_10, T8_11, T8_i10, T8_i11, madeA, whL_em]
  refine ⟨⟨rfl, by show (0 : Int) ≤ n; omega, by show (n : Int) ≤ 8; omega, rfl⟩, ?_⟩
  rfl
theorem afuH_ok (n : Nat) (s : Option Nat) (c : Nat) (he : errD n [] = 0) : afuH n s c := by
  obtain ⟨hn, hb, hl⟩ := pre_ok he
  unfold afuH afuH_s1 afuH_s0
  simp only [SS, reduceCtorEq, Arg.list, Arg.num, Arg.flag, intOf, andP, Nat.reduceLeDiff, Nat.reduceAdd, Nat.reduceMul, Nat.reduceLT, whL_fa hn, he, T8_10, T8_11, T8_i10, T8_i11, madeA, whL_em]
  refine ⟨⟨rfl, by show (0 : Int) ≤ n; omega, by show (n : Int) ≤ 8; omega, rfl⟩, ?_⟩
  rfl
theorem aliV_ok (n : Nat) (l : List Int) (c : Nat) (he : errD n l = 0) (h0 : 0 < l.length) : aliV n l c := by
  unfold aliV aliV_s4 aliV_s3 aliV_s2 aliV_s1 aliV_s0
  simp only [SS, reduceCtorEq, Arg.list, Arg.num, Arg.flag, intOf, andP, Nat.reduceLeDiff, Nat.reduceAdd, Nat.reduceMul, Nat.reduceLT, he, T8_10, T8_11, T8_i10, T8_i11]
  exact ⟨h0, by omega⟩
theorem aliN_ok (n : Nat) (he : errD n [] = 0) : aliN n := by
  unfold aliN aliN_s0
  simp only [SS, reduceCtorEq, Arg.list, Arg.num, Arg.flag, intOf, andP, Nat.reduceLeDiff, Nat.reduceAdd, Nat.reduceMul, Nat.reduceLT, he, nilS]
theorem aliH_ok (n : Nat) (s : Option Nat) (c : Nat) (he : errD n [] = 0) : aliH n s c := by
  unfold aliH aliH_s0
  simp only [SS, reduceCtorEq, Arg.list, Arg.num, Arg.flag, intOf, andP, Nat.reduceLeDiff, Nat.reduceAdd, Nat.reduceMul, Nat.reduceLT, he, nilS]
theorem pre_mkR {n : Nat} {l : List Int} (h : errD n l = 0) : dropPre true (vi n :: T8 emp [Value.slice none 0 0, vi 0, vi 0]) (Value.func (Fn.func 75) { toList := [Value.agg { toList := lgC n emp }] } { toList := [] }) l := by
  obtain ⟨h1, h2, h3⟩ := pre_ok h
  exact ⟨rfl, rfl, by rw [fN_T8]; omega, by rw [fN_T8]; omega, by rw [fN_T8]; exact h2, h3⟩
theorem aroV_ok (n : Nat) (l : List Int) (c : Nat) (he : errD n l = 0) (h0 : 0 < l.length) (hf : l.length ≤ n) : aroV n l c := by
  obtain ⟨hn, hb, hl⟩ := pre_ok he
  unfold aroV aroV_s6 aroV_s5 aroV_s4 aroV_s3 aroV_s2 aroV_s1 aroV_s0
  simp only [SS, reduceCtorEq, Arg.list, Arg.num, Arg.flag, intOf, andP, Nat.reduceLeDiff, Nat.reduceAdd, Nat.reduceMul, Nat.reduceLT, he, T8_10, T8_11, T8_i10, T8_i11, fN_T8, fT_emp]
  exact ⟨by omega, fun h => by omega, fun _ => ⟨⟨pre_mkR he, h0⟩, rfl, rfl⟩⟩
theorem aroN_ok (n : Nat) (he : errD n [] = 0) : aroN n := by
  unfold aroN aroN_s0
  simp only [SS, reduceCtorEq, Arg.list, Arg.num, Arg.flag, intOf, andP, Nat.reduceLeDiff, Nat.reduceAdd, Nat.reduceMul, Nat.reduceLT, he, nilS]
  exact ⟨fun h => by omega, fun _ => pre_mkR he⟩
theorem aroH_ok (n : Nat) (s : Option Nat) (c : Nat) (he : errD n [] = 0) : aroH n s c := by
  unfold aroH aroH_s0
  simp only [SS, reduceCtorEq, Arg.list, Arg.num, Arg.flag, intOf, andP, Nat.reduceLeDiff, Nat.reduceAdd, Nat.reduceMul, Nat.reduceLT, he, nilS]
  exact ⟨fun h => by omega, fun _ => pre_mkR he⟩
theorem aroX_ok (n : Nat) (l : List Int) (c : Nat) (he : errD n l = 0) (hf : n < l.length) : aroX n l c := by
  obtain ⟨hn, hb, hl⟩ := pre_ok he
  unfold aroX aroX_s4 aroX_s3 aroX_s2 aroX_s1 aroX_s0
  simp only [SS, reduceCtorEq, Arg.list, Arg.num, Arg.flag, intOf, andP, Nat.reduceLeDiff, Nat.reduceAdd, Nat.reduceMul, Nat.reduceLT, he, nilS, T8_10, T8_11, T8_i10, T8_i11, fN_T8, fT_emp]
  exact ⟨by omega, fun h => absurd (by omega) h⟩
theorem fell_nn {ar : Bool} {n : Nat} {l : List Int} (hl : ∀ x ∈ l, 0 ≤ x ∧ x < (n : Int)) : 0 ≤ (runP ar n emp l).fell := by
  have := (stI_bd (ar := ar) (tk := emp) hl (Nat.le_refl l.length)).2.2.2.1
  rwa [stI_end (Nat.le_refl _)] at this
theorem acrV_ok (n : Nat) (l : List Int) (c : Nat) (he : errD n l = 0) (h0 : 0 < l.length) : acrV n l c := by
  obtain ⟨hn, hb, hl⟩ := pre_ok he
  have hf : 0 ≤ (runA n l).fell := fell_nn (ar := false) hb
  unfold acrV acrV_s1 acrV_s0
  simp only [SS, reduceCtorEq, Arg.list, Arg.num, Arg.flag, intOf, andP, Nat.reduceLeDiff, Nat.reduceAdd, Nat.reduceMul, Nat.reduceLT, he, T8_10, T8_11, T8_i10, T8_i11, ledC]
  exact ⟨⟨h0, by omega⟩, fun h => by rw [if_neg (by omega)], fun h => by rw [if_pos (by omega)]⟩
theorem acrN_ok (n : Nat) (he : errD n [] = 0) : acrN n := by
  unfold acrN
  simp only [SS, reduceCtorEq, Arg.list, Arg.num, Arg.flag, intOf, andP, Nat.reduceLeDiff, Nat.reduceAdd, Nat.reduceMul, Nat.reduceLT, he]
  exact fun h => absurd h (by decide)
theorem acrH_ok (n : Nat) (s : Option Nat) (c : Nat) (he : errD n [] = 0) : acrH n s c := by
  unfold acrH
  simp only [SS, reduceCtorEq, Arg.list, Arg.num, Arg.flag, intOf, andP, Nat.reduceLeDiff, Nat.reduceAdd, Nat.reduceMul, Nat.reduceLT, he]
  exact fun h => absurd h (by decide)
theorem good_list {p : Prop} {s : Option Nat} {k c : Nat} {u v : Int} {l : List Int} {r : Option Nat} : Fresh.Good ⟨p, fun b => .tuple #[.slice (some ⟨b, 0, s⟩) k c, vi u, vi v], fun _ => [.rw (l.map (.int .i64)) r]⟩ where
  val e n := by simp [nmap, nmap2, nmap1, nmap0, am]
  new e n := omap_one
  ro n := mem_one rfl
  nmv n := by simp [nm, nm2, nm1, nm0]
  nmn n := mem_one nm_ints
  scv n := by simp [sc, sc2, sc1, sc0]
  scn n := mem_one sc_ints
theorem good_one {p : Prop} {s : Option Nat} {k c : Nat} {l : List Int} {r : Option Nat} : Fresh.Good ⟨p, fun b => .slice (some ⟨b, 0, s⟩) k c, fun _ => [.rw (l.map (.int .i64)) r]⟩ where
  val e n := by simp [nmap, nmap2, nmap1, nmap0, am]
  new e n := omap_one
  ro n := mem_one rfl
  nmv n := by simp [nm, nm2, nm1, nm0]
  nmn n := mem_one nm_ints
  scv n := by simp [sc, sc2, sc1, sc0]
  scn n := mem_one sc_ints
def afullS (r : List Arg) : Option Fresh := match r with
  | [p, .ints _ l] => some ⟨errD p.num l = 0 ∧ 0 < l.length, fun b => .tuple #[madeS b (whL (runA p.num.toNat l).tk p.num.toNat).length, vi (runA p.num.toNat l).fell, vi 0], fun _ => [madeA (whL (runA p.num.toNat l).tk p.num.toNat)]⟩
  | [p, _] => some ⟨errD p.num [] = 0, fun b => .tuple #[madeS b (whL emp p.num.toNat).length, vi 0, vi 0], fun _ => [madeA (whL emp p.num.toNat)]⟩
  | _ => none
def alieS (r : List Arg) : Option Fresh := match r with
  | [p, .ints _ l] => some ⟨errD p.num l = 0 ∧ 0 < l.length, fun b => .tuple #[newS b l.length, vi (runA p.num.toNat l).slid, vi 0], fun _ => [rws (runA p.num.toNat l).lies]⟩
  | [p, _] => some ⟨errD p.num [] = 0, fun _ => .tuple #[nilS, vi 0, vi 0], fun _ => []⟩
  | _ => none
def rndS (r : List Arg) : Option Fresh := match r with
  | [p, .ints _ l] => some ⟨errD p.num l = 0 ∧ 0 < l.length ∧ (l.length : Int) ≤ p.num, fun b => .tuple #[newS b l.length, vi (runR p.num.toNat l).slid, vi 0], fun _ => [rws (runR p.num.toNat l).lies]⟩
  | [p, _] => some ⟨errD p.num [] = 0, fun _ => .tuple #[nilS, vi 0, vi 0], fun _ => []⟩
  | _ => none
def rndX (r : List Arg) : Prop × Value := match r with
  | [p, .ints _ l] => (errD p.num l = 0 ∧ p.num < (l.length : Int), .tuple #[nilS, vi 0, vi 10])
  | _ => (False, undef)
def arowS (r : List Arg) : Prop × Value := match r with
  | [p, .ints _ l] => (errD p.num l = 0 ∧ 0 < l.length, vi (ledC p.num.toNat l))
  | [p, _] => (errD p.num [] = 0, vi 0)
  | _ => (False, undef)
theorem apE_ok : VOk Try.prog apE := VOk.ofCt (((CtOk.none.add cdG_ok).add pushedG_ok).add whTG_ok)
theorem apR_ok : VOk Try.prog apR := ⟨(CtOk.none.add cdG_ok).add dropR_ok, ccIn_ok E0_ok mixed (inl_one Try.func62), E0_ok.yc, E0_ok.orc⟩
theorem sc0_lie0 : sc 0 (.tuple #[nilS, vi 0, vi 0]) = true := by simp [nilS, sc, sc2, sc1, sc0]
theorem sc0_lieX : sc 0 (.tuple #[nilS, vi 0, vi 10]) = true := by simp [nilS, sc, sc2, sc1, sc0]
abbrev psA : List PK := [.int .i64, .ints .i64]
theorem afullG_ok : ∀ args H φ v H' l, freshG psA afullS args H = some (φ, v, H', l) → Asks φ → Call Try.prog 21 args H (fun v' H2 => v' = v ∧ H2 = H') ∧ Kept H H' l :=
  freshG_ok fun r s hk hs hψ => match r, hk with
    | [_, _], ⟨⟨p, rfl⟩, ha, _⟩ => by
      rcases ha with rfl | ⟨s, rfl⟩ | ⟨l, rfl⟩ <;> cases hs
      · obtain ⟨n, rfl⟩ : ∃ n : Nat, p = n := errD_pos hψ
        exact ⟨good_list, fun caps => Call.ofVcR apE_ok mixed (c := afuB) Try.func21 (by kernel_rfl) (cast (congrFun afuN_eq n) (afuN_ok n hψ))⟩
      · obtain ⟨n, rfl⟩ : ∃ n : Nat, p = n := errD_pos hψ
        exact ⟨good_list, fun caps => Call.ofVcR apE_ok mixed (c := afuB) Try.func21 (by kernel_rfl) (cast (congrFun (congrFun (congrFun afuH_eq n) s) _) (afuH_ok n s _ hψ))⟩
      · obtain ⟨n, rfl⟩ : ∃ n : Nat, p = n := errD_pos hψ.1
        exact ⟨good_list, fun caps => Call.ofVcR apE_ok mixed (c := afuB) Try.func21 (by kernel_rfl) (cast (congrFun (congrFun (congrFun afuV_eq n) l) _) (afuV_ok n l _ hψ.1 hψ.2))⟩
theorem alieG_ok : ∀ args H φ v H' l, freshG psA alieS args H = some (φ, v, H', l) → Asks φ → Call Try.prog 19 args H (fun v' H2 => v' = v ∧ H2 = H') ∧ Kept H H' l :=
  freshG_ok fun r s hk hs hψ => match r, hk with
    | [_, _], ⟨⟨p, rfl⟩, ha, _⟩ => by
      rcases ha with rfl | ⟨s, rfl⟩ | ⟨l, rfl⟩ <;> cases hs
      · obtain ⟨n, rfl⟩ : ∃ n : Nat, p = n := errD_pos hψ
        exact ⟨fresh_plain sc0_lie0, fun caps => Call.ofVcR apE_ok mixed (c := aliB) Try.func19 (by kernel_rfl) (cast (congrFun aliN_eq n) (aliN_ok n hψ))⟩
      · obtain ⟨n, rfl⟩ : ∃ n : Nat, p = n := errD_pos hψ
        exact ⟨fresh_plain sc0_lie0, fun caps => Call.ofVcR apE_ok mixed (c := aliB) Try.func19 (by kernel_rfl) (cast (congrFun (congrFun (congrFun aliH_eq n) s) _) (aliH_ok n s _ hψ))⟩
      · obtain ⟨n, rfl⟩ : ∃ n : Nat, p = n := errD_pos hψ.1
        exact ⟨good_list, fun caps => Call.ofVcR apE_ok mixed (c := aliB) Try.func19 (by kernel_rfl) (cast (congrFun (congrFun (congrFun aliV_eq n) l) _) (aliV_ok n l _ hψ.1 hψ.2))⟩
theorem rndG_ok : ∀ args H φ v H' l, freshG psA rndS args H = some (φ, v, H', l) → Asks φ → Call Try.prog 40 args H (fun v' H2 => v' = v ∧ H2 = H') ∧ Kept H H' l :=
  freshG_ok fun r s hk hs hψ => match r, hk with
    | [_, _], ⟨⟨p, rfl⟩, ha, _⟩ => by
      rcases ha with rfl | ⟨s, rfl⟩ | ⟨l, rfl⟩ <;> cases hs
      · obtain ⟨n, rfl⟩ : ∃ n : Nat, p = n := errD_pos hψ
        exact ⟨fresh_plain sc0_lie0, fun caps => Call.ofVcR apR_ok mixed (c := aroB) Try.func40 (by kernel_rfl) (cast (congrFun aroN_eq n) (aroN_ok n hψ))⟩
      · obtain ⟨n, rfl⟩ : ∃ n : Nat, p = n := errD_pos hψ
        exact ⟨fresh_plain sc0_lie0, fun caps => Call.ofVcR apR_ok mixed (c := aroB) Try.func40 (by kernel_rfl) (cast (congrFun (congrFun (congrFun aroH_eq n) s) _) (aroH_ok n s _ hψ))⟩
      · obtain ⟨n, rfl⟩ : ∃ n : Nat, p = n := errD_pos hψ.1
        exact ⟨good_list, fun caps => Call.ofVcR apR_ok mixed (c := aroB) Try.func40 (by kernel_rfl) (cast (congrFun (congrFun (congrFun aroV_eq n) l) _) (aroV_ok n l _ hψ.1 hψ.2.1 (by have h3 : (l.length : Int) ≤ (n : Int) := hψ.2.2; omega)))⟩
theorem rndX_ok : ∀ args H φ v H' l, pureG psA rndX args H = some (φ, v, H', l) → Asks φ → Call Try.prog 40 args H (fun v' H2 => v' = v ∧ H2 = H') ∧ Kept H H' l :=
  pureG_ok fun r hk hs => match r, hk with
    | [_, _], ⟨⟨p, rfl⟩, ha, _⟩ => by
      rcases ha with rfl | ⟨s, rfl⟩ | ⟨l, rfl⟩
      · exact hs.elim
      · exact hs.elim
      · obtain ⟨n, rfl⟩ : ∃ n : Nat, p = n := errD_pos hs.1
        exact ⟨sc0_lieX, fun caps => Call.ofVc apR_ok mixed (c := aroB) Try.func40 (by kernel_rfl) (cast (congrFun (congrFun (congrFun aroX_eq n) l) _) (aroX_ok n l _ hs.1 (by have h3 : (n : Int) < (l.length : Int) := hs.2; omega)))⟩
theorem arowG_ok : ∀ args H φ v H' l, pureG psA arowS args H = some (φ, v, H', l) → Asks φ → Call Try.prog 32 args H (fun v' H2 => v' = v ∧ H2 = H') ∧ Kept H H' l :=
  pureG_ok fun r hk hs => match r, hk with
    | [_, _], ⟨⟨p, rfl⟩, ha, _⟩ => by
      rcases ha with rfl | ⟨s, rfl⟩ | ⟨l, rfl⟩
      · obtain ⟨n, rfl⟩ : ∃ n : Nat, p = n := errD_pos hs
        exact ⟨rfl, fun caps => Call.ofVc apE_ok mixed (c := acrB) Try.func32 (by kernel_rfl) (cast (congrFun acrN_eq n) (acrN_ok n hs))⟩
      · obtain ⟨n, rfl⟩ : ∃ n : Nat, p = n := errD_pos hs
        exact ⟨rfl, fun caps => Call.ofVc apE_ok mixed (c := acrB) Try.func32 (by kernel_rfl) (cast (congrFun (congrFun (congrFun acrH_eq n) s) _) (acrH_ok n s _ hs))⟩
      · obtain ⟨n, rfl⟩ : ∃ n : Nat, p = n := errD_pos hs.1
        exact ⟨rfl, fun caps => Call.ofVc apE_ok mixed (c := acrB) Try.func32 (by kernel_rfl) (cast (congrFun (congrFun (congrFun acrV_eq n) l) _) (acrV_ok n l _ hs.1 hs.2))⟩
end Go.Pier.Lg
set_option maxRecDepth 100000
set_option linter.unusedVariables false
set_option linter.unusedSimpArgs false
namespace Go.Pier.Lg
open Go Go.Pier Go.Proofs
def dr0I (n : Int) (sv : Value) (H : Heap) : Nat → Option LInv := invOf 0 (LInv.one Unit (fun _ => True) (fun _ => [(0, vi n), (1, sv), (5, .slice none 0 0), (6, vi 0)]) (fun _ => H) (fun _ => 0))
noncomputable def drN :=
fun (n : Int) ↦ (∃ (y : Unit), Ob True ∧ True ∧ Ob (n = n) ∧ Ob (Value.slice none (0 : Nat) (0 : Nat) = Value.slice none (0 : Nat) (0 : Nat)) ∧ Ob (Value.slice none (0 : Nat) (0 : Nat) = Value.slice none (0 : Nat) (0 : Nat)) ∧ Ob ((0 : Int) = (0 : Int)) ∧ True) ∧ ∀ (x : Unit), Ob True → (false = true → (true = true → False) ∧ (true = false → True ∧ Ob (Value.slice none (0 : Nat) (0 : Nat) = Value.slice none (0 : Nat) (0 : Nat)) ∧ True)) ∧ (false = false → True ∧ Ob (Value.slice none (0 : Nat) (0 : Nat) = Value.slice none (0 : Nat) (0 : Nat)) ∧ True)
theorem drN_eq : drN = fun (n : Int) => vc Try.prog {} 0 28 true (dr0I n nilS []) drB [] (argFr 0 [vi n, nilS]) [] (retR Try.prog Try.f43 0 (fun b => b) nilS []) := by kernel_rfl
noncomputable def drH :=
fun (n : Int) (s : Option Nat) (c : Nat) ↦ (∃ (y : Unit), Ob True ∧ True ∧ Ob (n = n) ∧ Ob (Value.slice (some { block := (0 : Nat), off := (0 : Nat), spot := s }) (0 : Nat) c = Value.slice (some { block := (0 : Nat), off := (0 : Nat), spot := s }) (0 : Nat) c) ∧ Ob (Value.slice none (0 : Nat) (0 : Nat) = Value.slice none (0 : Nat) (0 : Nat)) ∧ Ob ((0 : Int) = (0 : Int)) ∧ True) ∧ ∀ (x : Unit), Ob True → (false = true → (true = true → Ob ((0 : Int) ≤ (0 : Int) ∧ (0 : Int) < (↑(0 : Nat) : Int) ∧ std { block := (0 : Nat), off := (0 : Nat), spot := s } c = true) ∧ False) ∧ (true = false → True ∧ Ob (Value.slice none (0 : Nat) (0 : Nat) = Value.slice none (0 : Nat) (0 : Nat)) ∧ True)) ∧ (false = false → True ∧ Ob (Value.slice none (0 : Nat) (0 : Nat) = Value.slice none (0 : Nat) (0 : Nat)) ∧ True)
theorem drH_eq : drH = fun (n : Int) (s : Option Nat) (c : Nat) => vc Try.prog {} 1 28 true (dr0I n (.slice (some ⟨0,0,s⟩) 0 c) [.gone]) drB [] (argFr 0 [vi n, .slice (some ⟨0,0,s⟩) 0 c]) [.gone] (retR Try.prog Try.f43 1 (fun b => b) nilS [.gone]) := by kernel_rfl
def mx1I (l : List Int) (bv : Value) (H : Heap) (k : Nat) : Nat → Option LInv := invOf 0 (.mk [
      ⟨Unit, fun _ => True, fun _ => [(1, bv), (5, .slice (some ⟨k,0,some 0⟩) l.length 0), (6, vi 0)], fun _ => H ++ [rws l], fun _ => 0, fun _ _ => none⟩]
    (fun _ => nsub k (k + 1)) (fun _ _ => [fun b => b]))
noncomputable def mxRN_s0 (l : List Int) (c : Nat) := (List.map (Value.int IntKind.i64) l)
noncomputable def mxRN :=
fun (l : List Int) (c : Nat) ↦ Ob (andP (some ((0 : Nat) + l.length * (1 : Nat) ≤ (mxRN_s0 l c).length ∧ true = true)) ((0 : Nat) + l.length ≤ (1099511627776 : Nat) ∧ ((2 : Nat) * ((0 : Nat) + l.length) + (256 : Nat)) * (8 : Nat) ≤ (281474976710656 : Nat) ∧ (List.take (l.length * (1 : Nat)) (List.drop (0 : Nat) (mxRN_s0 l c))).length = l.length * (1 : Nat) ∧ (0 : Nat) < (0 : Nat) + l.length ∧ (0 : Nat) + (0 : Nat) ≤ (0 : Nat))) ∧ (∃ (y : Unit), Ob True ∧ (Ob (AObj.ro (mxRN_s0 l c) = AObj.ro (List.map (nmap1 fun (x : Nat) ↦ match x.beq (1 : Nat) with | true => (2 : Nat) | false => x) (mxRN_s0 l c)) ∧ AObj.sc (2 : Nat) (AObj.ro (mxRN_s0 l c)) = true) ∧ Ob (AObj.rw ([] ++ List.take (l.length * (1 : Nat)) (List.drop (0 : Nat) (mxRN_s0 l c))) (some (1 : Nat)) = AObj.rw (List.map (nmap1 fun (x : Nat) ↦ match x.beq (1 : Nat) with | true => (2 : Nat) | false => x) (mxRN_s0 l c)) (some (1 : Nat)) ∧ AObj.sc (2 : Nat) (AObj.rw (mxRN_s0 l c) (some (1 : Nat))) = true) ∧ True) ∧ Ob (Value.slice none (0 : Nat) (0 : Nat) = Value.slice none (0 : Nat) (0 : Nat)) ∧ Ob (Value.slice (some { block := (2 : Nat), off := (0 : Nat), spot := some (0 : Nat) }) ((0 : Nat) + l.length) (0 : Nat) = Value.slice (some { block := (2 : Nat), off := (0 : Nat), spot := some (0 : Nat) }) l.length (0 : Nat)) ∧ Ob ((0 : Int) = (0 : Int)) ∧ True) ∧ ∀ (xq : Unit), Ob True → (decide ((0 : Int) < (↑l.length : Int)) = true → (false = true → Ob ((↑(0 : Nat) : Int) ≠ (0 : Int)) ∧ False) ∧ (false = false → True ∧ Ob (Value.slice (some { block := (1 : Nat), off := (0 : Nat), spot := some (0 : Nat) }) l.length (0 : Nat) = Value.slice (some { block := (1 : Nat), off := (0 : Nat), spot := some (0 : Nat) }) l.length (0 : Nat) ∧ [AObj.ro (mxRN_s0 l c), AObj.rw (mxRN_s0 l c) (some (1 : Nat))] = [AObj.ro (mxRN_s0 l c), AObj.rw (mxRN_s0 l c) (some (1 : Nat))]))) ∧ (decide ((0 : Int) < (↑l.length : Int)) = false → True ∧ Ob (Value.slice (some { block := (1 : Nat), off := (0 : Nat), spot := some (0 : Nat) }) l.length (0 : Nat) = Value.slice (some { block := (1 : Nat), off := (0 : Nat), spot := some (0 : Nat) }) l.length (0 : Nat) ∧ [AObj.ro (mxRN_s0 l c), AObj.rw (mxRN_s0 l c) (some (1 : Nat))] = [AObj.ro (mxRN_s0 l c), AObj.rw (mxRN_s0 l c) (some (1 : Nat))]))
theorem mxRN_eq : mxRN = fun (l : List Int) (c : Nat) => vc Try.prog {} 1 48 true (mx1I l nilS [ros l] 1) mxB [] (argFr 0 [.slice (some ⟨0,0,none⟩) l.length c, nilS]) [ros l] (retK Try.prog Try.f44 (fun v H1 => v = newSlice 1 l.length ∧ H1 = [ros l, rws l])) := by kernel_rfl
noncomputable def mxRH_s0 (l : List Int) (c : Nat) (s : Option Nat) (d : Nat) := (List.map (Value.int IntKind.i64) l)
noncomputable def mxRH :=
fun (l : List Int) (c : Nat) (s : Option Nat) (d : Nat) ↦ Ob (andP (some ((0 : Nat) + l.length * (1 : Nat) ≤ (mxRH_s0 l c s d).length ∧ true = true)) ((0 : Nat) + l.length ≤ (1099511627776 : Nat) ∧ ((2 : Nat) * ((0 : Nat) + l.length) + (256 : Nat)) * (8 : Nat) ≤ (281474976710656 : Nat) ∧ (List.take (l.length * (1 : Nat)) (List.drop (0 : Nat) (mxRH_s0 l c s d))).length = l.length * (1 : Nat) ∧ (0 : Nat) < (0 : Nat) + l.length ∧ (0 : Nat) + (0 : Nat) ≤ (0 : Nat))) ∧ (∃ (y : Unit), Ob True ∧ (Ob (AObj.ro (mxRH_s0 l c s d) = AObj.ro (List.map (nmap1 fun (x : Nat) ↦ match x.beq (2 : Nat) with | true => (3 : Nat) | false => x) (mxRH_s0 l c s d)) ∧ AObj.sc (3 : Nat) (AObj.ro (mxRH_s0 l c s d)) = true) ∧ Ob (AObj.rw ([] ++ List.take (l.length * (1 : Nat)) (List.drop (0 : Nat) (mxRH_s0 l c s d))) (some (1 : Nat)) = AObj.rw (List.map (nmap1 fun (x : Nat) ↦ match x.beq (2 : Nat) with | true => (3 : Nat) | false => x) (mxRH_s0 l c s d)) (some (1 : Nat)) ∧ AObj.sc (3 : Nat) (AObj.rw (mxRH_s0 l c s d) (some (1 : Nat))) = true) ∧ True) ∧ Ob (Value.slice (some { block := (1 : Nat), off := (0 : Nat), spot := s }) (0 : Nat) d = Value.slice (some { block := (1 : Nat), off := (0 : Nat), spot := s }) (0 : Nat) d) ∧ Ob (Value.slice (some { block := (3 : Nat), off := (0 : Nat), spot := some (0 : Nat) }) ((0 : Nat) + l.length) (0 : Nat) = Value.slice (some { block := (3 : Nat), off := (0 : Nat), spot := some (0 : Nat) }) l.length (0 : Nat)) ∧ Ob ((0 : Int) = (0 : Int)) ∧ True) ∧ ∀ (xq : Unit), Ob True → (decide ((0 : Int) < (↑l.length : Int)) = true → (false = true → Ob ((↑(0 : Nat) : Int) ≠ (0 : Int)) ∧ Ob ((0 : Int) ≤ Int.tmod (0 : Int) (↑(0 : Nat) : Int) ∧ Int.tmod (0 : Int) (↑(0 : Nat) : Int) < (↑(0 : Nat) : Int) ∧ std { block := (1 : Nat), off := (0 : Nat), spot := s } d = true) ∧ False) ∧ (false = false → True ∧ Ob (Value.slice (some { block := (2 : Nat), off := (0 : Nat), spot := some (0 : Nat) }) l.length (0 : Nat) = Value.slice (some { block := (2 : Nat), off := (0 : Nat), spot := some (0 : Nat) }) l.length (0 : Nat) ∧ [AObj.ro (mxRH_s0 l c s d), AObj.gone, AObj.rw (mxRH_s0 l c s d) (some (1 : Nat))] = [AObj.ro (mxRH_s0 l c s d), AObj.gone, AObj.rw (mxRH_s0 l c s d) (some (1 : Nat))]))) ∧ (decide ((0 : Int) < (↑l.length : Int)) = false → True ∧ Ob (Value.slice (some { block := (2 : Nat), off := (0 : Nat), spot := some (0 : Nat) }) l.length (0 : Nat) = Value.slice (some { block := (2 : Nat), off := (0 : Nat), spot := some (0 : Nat) }) l.length (0 : Nat) ∧ [AObj.ro (mxRH_s0 l c s d), AObj.gone, AObj.rw (mxRH_s0 l c s d) (some (1 : Nat))] = [AObj.ro (mxRH_s0 l c s d), AObj.gone, AObj.rw (mxRH_s0 l c s d) (some (1 : Nat))]))
theorem mxRH_eq : mxRH = fun (l : List Int) (c : Nat) (s : Option Nat) (d : Nat) => vc Try.prog {} 2 48 true (mx1I l (.slice (some ⟨1,0,s⟩) 0 d) [ros l, .gone] 2) mxB [] (argFr 0 [.slice (some ⟨0,0,none⟩) l.length c, .slice (some ⟨1,0,s⟩) 0 d]) [ros l, .gone] (retK Try.prog Try.f44 (fun v H1 => v = newSlice 2 l.length ∧ H1 = [ros l, .gone, rws l])) := by kernel_rfl
def mx0I (bv : Value) (H : Heap) (k : Nat) : Nat → Option LInv := invOf 0 (LInv.one Unit (fun _ => True) (fun _ => [(1, bv), (5, .slice (some ⟨k,0,none⟩) 0 0), (6, vi 0)]) (fun _ => H ++ [.gone]) (fun _ => 0))
noncomputable def mxNN :=
Ob ((0 : Nat) ≤ (1099511627776 : Nat) ∧ (2048 : Nat) ≤ (281474976710656 : Nat) ∧ (1 : Nat) = (1 : Nat) ∧ (0 : Nat) ≤ (0 : Nat)) ∧ (∃ (y : Unit), Ob True ∧ True ∧ Ob (Value.slice none (0 : Nat) (0 : Nat) = Value.slice none (0 : Nat) (0 : Nat)) ∧ Ob (Value.slice (some (ad0 0)) (0 : Nat) (0 : Nat) = Value.slice (some (ad0 0)) (0 : Nat) (0 : Nat)) ∧ Ob ((0 : Int) = (0 : Int)) ∧ True) ∧ ∀ (x : Unit), Ob True → (false = true → (false = true → Ob ((↑(0 : Nat) : Int) ≠ (0 : Int)) ∧ False) ∧ (false = false → True ∧ Ob (Value.slice (some (ad0 0)) (0 : Nat) (0 : Nat) = Value.slice (some (ad0 0)) (0 : Nat) (0 : Nat)) ∧ True)) ∧ (false = false → True ∧ Ob (Value.slice (some (ad0 0)) (0 : Nat) (0 : Nat) = Value.slice (some (ad0 0)) (0 : Nat) (0 : Nat)) ∧ True)
theorem mxNN_eq : mxNN = vc Try.prog { orc := orcAp0 Try.prog } 0 48 true (mx0I nilS [] 0) mxB [] (argFr 0 [nilS, nilS]) [] (retR Try.prog Try.f44 0 (fun b => b) (.slice (some ⟨0,0,none⟩) 0 0) [.gone]) := by kernel_rfl
noncomputable def mxNH :=
fun (s : Option Nat) (d : Nat) ↦ Ob ((0 : Nat) ≤ (1099511627776 : Nat) ∧ (2048 : Nat) ≤ (281474976710656 : Nat) ∧ (1 : Nat) = (1 : Nat) ∧ (0 : Nat) ≤ (0 : Nat)) ∧ (∃ (y : Unit), Ob True ∧ True ∧ Ob (Value.slice (some { block := (0 : Nat), off := (0 : Nat), spot := s }) (0 : Nat) d = Value.slice (some { block := (0 : Nat), off := (0 : Nat), spot := s }) (0 : Nat) d) ∧ Ob (Value.slice (some (ad0 1)) (0 : Nat) (0 : Nat) = Value.slice (some (ad0 1)) (0 : Nat) (0 : Nat)) ∧ Ob ((0 : Int) = (0 : Int)) ∧ True) ∧ ∀ (x : Unit), Ob True → (false = true → (false = true → Ob ((↑(0 : Nat) : Int) ≠ (0 : Int)) ∧ Ob ((0 : Int) ≤ Int.tmod (0 : Int) (↑(0 : Nat) : Int) ∧ Int.tmod (0 : Int) (↑(0 : Nat) : Int) < (↑(0 : Nat) : Int) ∧ std { block := (0 : Nat), off := (0 : Nat), spot := s } d = true) ∧ False) ∧ (false = false → True ∧ Ob (Value.slice (some (ad0 1)) (0 : Nat) (0 : Nat) = Value.slice (some (ad0 1)) (0 : Nat) (0 : Nat)) ∧ True)) ∧ (false = false → True ∧ Ob (Value.slice (some (ad0 1)) (0 : Nat) (0 : Nat) = Value.slice (some (ad0 1)) (0 : Nat) (0 : Nat)) ∧ True)
theorem mxNH_eq : mxNH = fun (s : Option Nat) (d : Nat) => vc Try.prog { orc := orcAp0 Try.prog } 1 48 true (mx0I (.slice (some ⟨0,0,s⟩) 0 d) [.gone] 1) mxB [] (argFr 0 [nilS, .slice (some ⟨0,0,s⟩) 0 d]) [.gone] (retR Try.prog Try.f44 1 (fun b => b) (.slice (some ⟨1,0,none⟩) 0 0) [.gone, .gone]) := by kernel_rfl
noncomputable def mxNR_s0 (b : List Int) (d : Nat) := (List.map (Value.int IntKind.u8) b)
noncomputable def mxNR_s1 (b : List Int) (d : Nat) := ((0 : Nat) + (Int.tmod (0 : Int) (↑b.length : Int)).toNat * (1 : Nat))
noncomputable def mxNR :=
fun (b : List Int) (d : Nat) ↦ Ob ((0 : Nat) ≤ (1099511627776 : Nat) ∧ (2048 : Nat) ≤ (281474976710656 : Nat) ∧ (1 : Nat) = (1 : Nat) ∧ (0 : Nat) ≤ (0 : Nat)) ∧ (∃ (y : Unit), Ob True ∧ (Ob (AObj.ro (mxNR_s0 b d) = AObj.ro (List.map (nmap1 fun (bq : Nat) ↦ bq) (mxNR_s0 b d)) ∧ AObj.sc (2 : Nat) (AObj.ro (mxNR_s0 b d)) = true) ∧ True) ∧ Ob (Value.slice (some (ad0 0)) b.length d = Value.slice (some (ad0 0)) b.length d) ∧ Ob (Value.slice (some (ad0 1)) (0 : Nat) (0 : Nat) = Value.slice (some (ad0 1)) (0 : Nat) (0 : Nat)) ∧ Ob ((0 : Int) = (0 : Int)) ∧ True) ∧ ∀ (x : Unit), Ob True → (false = true → (decide ((0 : Int) < (↑b.length : Int)) = true → Ob ((↑b.length : Int) ≠ (0 : Int)) ∧ Ob ((0 : Int) ≤ Int.tmod (0 : Int) (↑b.length : Int) ∧ Int.tmod (0 : Int) (↑b.length : Int) < (↑b.length : Int) ∧ true = true) ∧ Ob (IntAt IntKind.u8 (mxNR_s0 b d) (mxNR_s1 b d)) ∧ Ob (IntKind.i64.wrap ((0 : Int) + (1 : Int)) ≠ (0 : Int)) ∧ Ob ((0 : Int) ≤ (IntKind.i64.wrap (getI (mxNR_s0 b d) (mxNR_s1 b d))).tmod (IntKind.i64.wrap ((0 : Int) + (1 : Int))) ∧ (IntKind.i64.wrap (getI (mxNR_s0 b d) (mxNR_s1 b d))).tmod (IntKind.i64.wrap ((0 : Int) + (1 : Int))) < (↑(0 : Nat) : Int) ∧ true = true) ∧ False) ∧ (decide ((0 : Int) < (↑b.length : Int)) = false → (Ob (AObj.ro (mxNR_s0 b d) = AObj.ro (List.map (nmap1 fun (bqq : Nat) ↦ bqq) (mxNR_s0 b d)) ∧ AObj.sc (2 : Nat) (AObj.ro (mxNR_s0 b d)) = true) ∧ True) ∧ Ob (Value.slice (some (ad0 1)) (0 : Nat) (0 : Nat) = Value.slice (some (ad0 1)) (0 : Nat) (0 : Nat)) ∧ True)) ∧ (false = false → (Ob (AObj.ro (mxNR_s0 b d) = AObj.ro (List.map (nmap1 fun (bqqq : Nat) ↦ bqqq) (mxNR_s0 b d)) ∧ AObj.sc (2 : Nat) (AObj.ro (mxNR_s0 b d)) = true) ∧ True) ∧ Ob (Value.slice (some (ad0 1)) (0 : Nat) (0 : Nat) = Value.slice (some (ad0 1)) (0 : Nat) (0 : Nat)) ∧ True)
theorem mxNR_eq : mxNR = fun (b : List Int) (d : Nat) => vc Try.prog { orc := orcAp0 Try.prog } 1 48 true (mx0I (.slice (some ⟨0,0,none⟩) b.length d) [bys b] 1) mxB [] (argFr 0 [nilS, .slice (some ⟨0,0,none⟩) b.length d]) [bys b] (retR Try.prog Try.f44 1 (fun b => b) (.slice (some ⟨1,0,none⟩) 0 0) [bys b, .gone]) := by kernel_rfl
theorem drN_ok (n : Int) : drN n := by
  unfold drN
  simp only [SS, reduceCtorEq, Arg.list, Arg.num, Arg.flag, intOf, andP, Nat.reduceLeDiff, Nat.reduceAdd, Nat.reduceMul, Nat.reduceLT]
theorem drH_ok (n : Int) (s : Option Nat) (c : Nat) : drH n s c := by
  unfold drH
  simp only [SS, reduceCtorEq, Arg.list, Arg.num, Arg.flag, intOf, andP, Nat.reduceLeDiff, Nat.reduceAdd, Nat.reduceMul, Nat.reduceLT]
theorem mxRN_ok (l : List Int) (c : Nat) (hl : 0 < l.length) (hlen : l.length ≤ 13) : mxRN l c := by
  unfold mxRN mxRN_s0
  simp only [SS, reduceCtorEq, Arg.list, Arg.num, Arg.flag, intOf, andP, Nat.reduceLeDiff, Nat.reduceAdd, Nat.reduceMul, Nat.reduceLT, newSlice, List.nil_append]
  omega
theorem mxRH_ok (l : List Int) (c : Nat) (s : Option Nat) (d : Nat) (hl : 0 < l.length) (hlen : l.length ≤ 13) : mxRH l c s d := by
  unfold mxRH mxRH_s0
  simp only [SS, reduceCtorEq, Arg.list, Arg.num, Arg.flag, intOf, andP, Nat.reduceLeDiff, Nat.reduceAdd, Nat.reduceMul, Nat.reduceLT, newSlice, List.nil_append]
  omega
theorem mxNN_ok : mxNN := by
  unfold mxNN
  simp only [SS, reduceCtorEq, Arg.list, Arg.num, Arg.flag, intOf, andP, Nat.reduceLeDiff, Nat.reduceAdd, Nat.reduceMul, Nat.reduceLT]
theorem mxNH_ok (s : Option Nat) (d : Nat) : mxNH s d := by
  unfold mxNH
  simp only [SS, reduceCtorEq, Arg.list, Arg.num, Arg.flag, intOf, andP, Nat.reduceLeDiff, Nat.reduceAdd, Nat.reduceMul, Nat.reduceLT]
theorem mxNR_ok (b : List Int) (d : Nat) : mxNR b d := by
  unfold mxNR mxNR_s1 mxNR_s0
  simp only [SS, reduceCtorEq, Arg.list, Arg.num, Arg.flag, intOf, andP, Nat.reduceLeDiff, Nat.reduceAdd, Nat.reduceMul, Nat.reduceLT]
theorem good_nil {p : Prop} {k c : Nat} : Fresh.Good ⟨p, fun b => .slice (some ⟨b, 0, none⟩) k c, fun _ => [.gone]⟩ where
  val e n := by simp [nmap, nmap2, nmap1, nmap0, am]
  new e n := rfl
  ro n := mem_one rfl
  nmv n := by simp [nm, nm2, nm1, nm0]
  nmn n := mem_one rfl
  scv n := by simp [sc, sc2, sc1, sc0]
  scn n := mem_one rfl
def u8s (l : List Int) : Prop := ∀ x ∈ l, 0 ≤ x ∧ x < 256
def dpdS (r : List Arg) : Option Fresh := match r with
  | [p, .ints _ l] => some ⟨(0 < p.num ∧ p.num ≤ 8) ∧ 0 < l.length ∧ u8s l ∧ l.length ≤ 30, fun b => newS b (dropped p.num l).length, fun _ => [rws (dropped p.num l)]⟩
  | [_, _] => some ⟨True, fun _ => nilS, fun _ => []⟩
  | _ => none
def mixdL (l b : List Int) : List Int := mixTo l b l.length
def mixdS (r : List Arg) : Option Fresh := match r with
  | [.ints _ l, .ints _ b] => some ⟨0 < l.length ∧ 0 < b.length ∧ u8s b ∧ l.length ≤ 13, fun k => newS k l.length, fun _ => [rws (mixdL l b)]⟩
  | [.ints _ l, _] => some ⟨0 < l.length ∧ l.length ≤ 13, fun k => newS k l.length, fun _ => [rws l]⟩
  | [.plain (.slice none 0 0), _] => some ⟨True, fun b => .slice (some ⟨b,0,none⟩) 0 0, fun _ => [.gone]⟩
  | _ => none
theorem sc0_nil : sc 0 nilS = true := by simp [nilS, sc, sc2, sc1, sc0]
theorem dpdG_ok : ∀ args H φ v H' l, freshG [.int .i64, .ints .u8] dpdS args H = some (φ, v, H', l) → Asks φ → Call Try.prog 43 args H (fun v' H2 => v' = v ∧ H2 = H') ∧ Kept H H' l :=
  freshG_ok fun r s hk hs hψ => match r, hk with
    | [_, _], ⟨⟨p, rfl⟩, ha, _⟩ => by
      rcases ha with rfl | ⟨s, rfl⟩ | ⟨l, rfl⟩ <;> cases hs
      · exact ⟨fresh_plain sc0_nil, fun caps => Call.ofVcR (VOk.ofCt CtOk.none) mixed (c := drB) (inv := dr0I p nilS []) Try.func43 (by kernel_rfl) (cast (congrFun drN_eq p) (drN_ok p))⟩
      · exact ⟨fresh_plain sc0_nil, fun caps => Call.ofVcR (VOk.ofCt CtOk.none) mixed (c := drB) (inv := dr0I p (.slice (some ⟨0,0,s⟩) 0 _) [.gone]) Try.func43 (by kernel_rfl) (cast (congrFun (congrFun (congrFun drH_eq p) s) _) (drH_ok p s _))⟩
      · exact ⟨good_one, fun caps => dr_call p l _ hψ.1 hψ.2.1 hψ.2.2.1 hψ.2.2.2⟩
theorem oA_ok : VOk Try.prog { orc := orcAp0 Try.prog } := ⟨E0_ok.ct, E0_ok.cc, E0_ok.yc, orcAp0_ok⟩
theorem mixdG_ok : ∀ args H φ v H' l, freshG [.ints .i64, .ints .u8] mixdS args H = some (φ, v, H', l) → Asks φ → Call Try.prog 44 args H (fun v' H2 => v' = v ∧ H2 = H') ∧ Kept H H' l :=
  freshG_ok fun r s hk hs hψ => match r, hk with
    | [_, _], ⟨ha, hb, _⟩ => by
      rcases ha with rfl | ⟨s, rfl⟩ | ⟨l, rfl⟩
      · rcases hb with rfl | ⟨t, rfl⟩ | ⟨b, rfl⟩ <;> cases hs
        · exact ⟨good_nil, fun caps => Call.ofVcR oA_ok mixed (c := mxB) (inv := mx0I nilS [] 0) Try.func44 (by kernel_rfl) (cast mxNN_eq mxNN_ok)⟩
        · exact ⟨good_nil, fun caps => Call.ofVcR oA_ok mixed (c := mxB) (inv := mx0I (.slice (some ⟨0,0,t⟩) 0 _) [.gone] 1) Try.func44 (by kernel_rfl) (cast (congrFun (congrFun mxNH_eq t) _) (mxNH_ok t _))⟩
        · exact ⟨good_nil, fun caps => Call.ofVcR oA_ok mixed (c := mxB) (inv := mx0I (.slice (some ⟨0,0,none⟩) b.length _) [bys b] 1) Try.func44 (by kernel_rfl) (cast (congrFun (congrFun mxNR_eq b) _) (mxNR_ok b _))⟩
      · rcases hb with rfl | ⟨t, rfl⟩ | ⟨b, rfl⟩ <;> cases hs
      · rcases hb with rfl | ⟨t, rfl⟩ | ⟨b, rfl⟩ <;> cases hs
        · exact ⟨good_one, fun caps => Call.ofVc (VOk.ofCt CtOk.none) mixed (c := mxB) (inv := mx1I l nilS [ros l] 1) Try.func44 (by kernel_rfl) (cast (congrFun (congrFun mxRN_eq l) _) (mxRN_ok l _ hψ.1 hψ.2))⟩
        · exact ⟨good_one, fun caps => Call.ofVc (VOk.ofCt CtOk.none) mixed (c := mxB) (inv := mx1I l (.slice (some ⟨1,0,t⟩) 0 _) [ros l, .gone] 2) Try.func44 (by kernel_rfl) (cast (congrFun (congrFun (congrFun (congrFun mxRH_eq l) _) t) _) (mxRH_ok l _ t _ hψ.1 hψ.2))⟩
        · exact ⟨good_one, fun caps => mx_call l b _ _ hψ.1 hψ.2.1 hψ.2.2.1 hψ.2.2.2⟩
end Go.Pier.Lg
set_option maxRecDepth 100000
set_option linter.unusedVariables false
set_option linter.unusedSimpArgs false
namespace Go.Pier.Lg
open Go Go.Pier Go.Proofs
end Go.Pier.Lg
set_option maxRecDepth 100000
set_option linter.unusedVariables false
set_option linter.unusedSimpArgs false
namespace Go.Pier.Lg
open Go Go.Pier Go.Proofs
end Go.Pier.Lg
