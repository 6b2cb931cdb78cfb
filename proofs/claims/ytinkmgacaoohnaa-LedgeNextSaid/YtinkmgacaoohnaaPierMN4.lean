import Derived.Test.YtinkmgacaoohnaaPierMN2
import Derived.KernelRfl
set_option linter.unusedSimpArgs false
set_option linter.unusedVariables false
set_option maxRecDepth 100000
set_option linter.unusedVariables false
set_option linter.unusedSimpArgs false
namespace Go.Pier.Lg
open Go Go.Pier Go.Proofs
def endAt (n : Nat) (tk : Nat → Bool) (d : Nat) : Nat := d + farM false n tk d
theorem endAt_spec {n : Nat} {tk : Nat → Bool} {d : Nat} (hd : d ≤ n) : d ≤ endAt n tk d ∧ endAt n tk d ≤ n ∧ (∀ i, d ≤ i → i < endAt n tk d → tk i = true) ∧ (endAt n tk d < n → tk (endAt n tk d) = false) := by
  obtain ⟨_, h2, h3, h4⟩ := ffB_spec (fun j => tk (posM false n d j)) (cntM false n d) 0
  have e : endAt n tk d = d + ffB (fun j => tk (posM false n d j)) (cntM false n d) 0 := rfl
  have hc : cntM false n d = n - d := rfl
  refine ⟨by omega, by omega, fun i h5 h6 => ?_, fun h5 => ?_⟩
  · have := h3 (i - d) (Nat.zero_le _) (by omega)
    rw [show posM false n d (i - d) = i by show d + (i - d) = i; omega] at this
    exact this
  · rw [e]; exact h4 (by omega)
def core (s : PS) : (Nat → Bool) × Int × Int := (s.tk, s.slid, s.fell)
def stepC (n : Nat) (s : (Nat → Bool) × Int × Int) (d : Nat) : (Nat → Bool) × Int × Int :=
  if endAt n s.1 d < n then (updB s.1 (endAt n s.1 d), s.2.1 + (endAt n s.1 d - d : Int), s.2.2) else (s.1, s.2.1 + (endAt n s.1 d - d : Int), s.2.2 + 1)
theorem core_step {n : Nat} {s : PS} {d : Int} (hd : 0 ≤ d ∧ d < n) : core (stepP false n s d) = stepC n (core s) d.toNat := by
  obtain ⟨a, rfl⟩ := Int.eq_ofNat_of_zero_le hd.1
  have ha : a < n := by omega
  have h := endAt_spec (tk := s.tk) (show a ≤ n by omega)
  have e : endAt n s.tk a = a + farM false n s.tk a := rfl
  have hc : cntM false n (Int.toNat (a : Int)) = n - a := rfl
  unfold stepP stepC core
  rw [Int.toNat_natCast] at *
  by_cases hf : farM false n s.tk a < cntM false n a
  · rw [if_pos hf, if_pos (show endAt n s.tk a < n by omega)]
    simp only [Prod.mk.injEq, and_true]
    refine ⟨rfl, ?_⟩
    rw [e]; push_cast; omega
  · rw [if_neg hf, if_neg (show ¬ endAt n s.tk a < n by omega)]
    simp only [Prod.mk.injEq, and_true, true_and]
    omega
theorem updB_ne {tk : Nat → Bool} {a i : Nat} (h : i ≠ a) : updB tk a i = tk i := by
  rw [Bool.eq_iff_iff, updB_at]
  exact ⟨fun k => k.resolve_left h, .inr⟩
theorem updB_self {tk : Nat → Bool} {a : Nat} : updB tk a a = true := updB_at.2 (.inl rfl)
theorem core_run {n : Nat} : ∀ {l : List Int} {s : PS}, (∀ x ∈ l, 0 ≤ x ∧ x < (n : Int)) → core (l.foldl (stepP false n) s) = l.foldl (fun t d => stepC n t d.toNat) (core s)
  | [], _, _ => rfl
  | x :: l, s, h => by
    rw [List.foldl_cons, List.foldl_cons, core_run fun y hy => h y (List.mem_cons_of_mem _ hy), core_step (h x List.mem_cons_self)]
end Go.Pier.Lg
set_option maxRecDepth 100000
set_option linter.unusedVariables false
set_option linter.unusedSimpArgs false
namespace Go.Pier.Lg
open Go Go.Pier Go.Proofs
noncomputable def drB : Code := Try.f43.body.getD .skip
def dropped (n : Int) (l : List Int) : List Int := (l.take 12).map (· % n)
def bytesO (l : List Int) : AObj := .ro (l.map (.int .u8))
def drI (n : Int) (l : List Int) (c : Nat) : Nat → Option LInv := invOf 0 (.mk [
      ⟨Unit, fun _ => True, fun _ => [(0, vi n), (1, .slice (some ⟨0,0,none⟩) l.length c), (5, .slice none 0 0), (6, vi 0)], fun _ => [bytesO l], fun _ => 20, fun _ _ => none⟩,
      ⟨Nat, fun i => 0 < i ∧ i ≤ 12 ∧ i ≤ l.length, fun i => [(0, vi n), (1, .slice (some ⟨0,0,none⟩) l.length c), (5, .slice (some ⟨1,0,some 0⟩) i 0), (6, vi i)], fun i => [bytesO l, rws (dropped n (l.take i))], fun i => 12 - i, fun _ _ => none⟩]
    (fun _ b => b) (fun i _ => [nsub 1 (i + 2)]))
noncomputable def drV :=
fun (n : Int) (l : List Int) (c : Nat) ↦ ((∃ (y : Unit), Ob True ∧ (Ob (AObj.ro (List.map (Value.int IntKind.u8) l) = AObj.ro (List.map (nmap1 fun (b : Nat) ↦ b) (List.map (Value.int IntKind.u8) l)) ∧ AObj.sc (1 : Nat) (AObj.ro (List.map (Value.int IntKind.u8) l)) = true) ∧ True) ∧ Ob (n = n) ∧ Ob (Value.slice (some (ad0 0)) l.length c = Value.slice (some (ad0 0)) l.length c) ∧ Ob (Value.slice none (0 : Nat) (0 : Nat) = Value.slice none (0 : Nat) (0 : Nat)) ∧ Ob ((0 : Int) = (0 : Int)) ∧ True) ∨ ∃ (y : Nat), Ob ((0 : Nat) < y ∧ y ≤ (12 : Nat) ∧ y ≤ l.length) ∧ (Ob (AObj.ro (List.map (Value.int IntKind.u8) l) = AObj.ro (List.map (nmap1 fun (b : Nat) ↦ b) (List.map (Value.int IntKind.u8) l)) ∧ AObj.sc (2 : Nat) (AObj.ro (List.map (Value.int IntKind.u8) l)) = true) ∧ False) ∧ Ob (n = n) ∧ Ob (Value.slice (some (ad0 0)) l.length c = Value.slice (some (ad0 0)) l.length c) ∧ Ob (Value.slice none (0 : Nat) (0 : Nat) = Value.slice (some { block := (1 : Nat), off := (0 : Nat), spot := some (0 : Nat) }) y (0 : Nat)) ∧ Ob ((0 : Int) = (↑y : Int)) ∧ True) ∧ (∀ (x : Unit), Ob True → (decide ((0 : Int) < (↑l.length : Int)) = true → (true = true → Ob ((0 : Int) ≤ (0 : Int) ∧ (0 : Int) < (↑l.length : Int) ∧ true = true) ∧ Ob (IntAt IntKind.u8 (List.map (Value.int IntKind.u8) l) (0 : Nat)) ∧ Ob (n ≠ (0 : Int)) ∧ Ob (andP (some ((0 : Nat) + (1 : Nat) ≤ (1 : Nat) ∧ true = true)) ((1 : Nat) ≤ (1099511627776 : Nat) ∧ (2064 : Nat) ≤ (281474976710656 : Nat) ∧ (1 : Nat) = (1 : Nat) ∧ (0 : Nat) = (0 : Nat) ∧ (0 : Nat) < (1 : Nat))) ∧ ((∃ (y : Unit), Ob True ∧ Ob ((20 : Nat) < (20 : Nat)) ∧ (Ob (AObj.ro (List.map (Value.int IntKind.u8) l) = AObj.ro (List.map (nmap1 (nsub (1 : Nat) (2 : Nat))) (List.map (Value.int IntKind.u8) l)) ∧ AObj.sc (1 : Nat) (AObj.ro (List.map (Value.int IntKind.u8) l)) = true) ∧ True) ∧ Ob (n = n) ∧ Ob (Value.slice (some (ad0 0)) l.length c = Value.slice (some (ad0 0)) l.length c) ∧ Ob (Value.slice (some { block := (2 : Nat), off := (0 : Nat), spot := some (0 : Nat) }) (1 : Nat) (0 : Nat) = Value.slice none (0 : Nat) (0 : Nat)) ∧ Ob (IntKind.i64.wrap ((0 : Int) + (1 : Int)) = (0 : Int)) ∧ True) ∨ ∃ (y : Nat), Ob ((0 : Nat) < y ∧ y ≤ (12 : Nat) ∧ y ≤ l.length) ∧ Ob ((12 : Nat) - y < (20 : Nat)) ∧ (Ob (AObj.ro (List.map (Value.int IntKind.u8) l) = AObj.ro (List.map (nmap1 (nsub (1 : Nat) (2 : Nat))) (List.map (Value.int IntKind.u8) l)) ∧ AObj.sc (2 : Nat) (AObj.ro (List.map (Value.int IntKind.u8) l)) = true) ∧ Ob (AObj.rw [vi ((IntKind.i64.wrap (getI (List.map (Value.int IntKind.u8) l) (0 : Nat))).tmod n)] (some (1 : Nat)) = AObj.rw (List.map (nmap1 (nsub (1 : Nat) (2 : Nat))) (List.map (Value.int IntKind.i64) (dropped n (List.take y l)))) (some (1 : Nat)) ∧ AObj.sc (2 : Nat) (AObj.rw (List.map (Value.int IntKind.i64) (dropped n (List.take y l))) (some (1 : Nat))) = true) ∧ True) ∧ Ob (n = n) ∧ Ob (Value.slice (some (ad0 0)) l.length c = Value.slice (some (ad0 0)) l.length c) ∧ Ob (Value.slice (some { block := (2 : Nat), off := (0 : Nat), spot := some (0 : Nat) }) (1 : Nat) (0 : Nat) = Value.slice (some { block := (2 : Nat), off := (0 : Nat), spot := some (0 : Nat) }) y (0 : Nat)) ∧ Ob (IntKind.i64.wrap ((0 : Int) + (1 : Int)) = (↑y : Int)) ∧ True)) ∧ (true = false → True ∧ Ob (Value.slice none (0 : Nat) (0 : Nat) = Value.slice (some { block := (1 : Nat), off := (0 : Nat), spot := some (0 : Nat) }) (dropped n l).length (0 : Nat) ∧ [AObj.ro (List.map (Value.int IntKind.u8) l)] = [AObj.ro (List.map (Value.int IntKind.u8) l), AObj.rw (List.map (Value.int IntKind.i64) (dropped n l)) (some (1 : Nat))]))) ∧ (decide ((0 : Int) < (↑l.length : Int)) = false → True ∧ Ob (Value.slice none (0 : Nat) (0 : Nat) = Value.slice (some { block := (1 : Nat), off := (0 : Nat), spot := some (0 : Nat) }) (dropped n l).length (0 : Nat) ∧ [AObj.ro (List.map (Value.int IntKind.u8) l)] = [AObj.ro (List.map (Value.int IntKind.u8) l), AObj.rw (List.map (Value.int IntKind.i64) (dropped n l)) (some (1 : Nat))]))) ∧ ∀ (x : Nat), Ob ((0 : Nat) < x ∧ x ≤ (12 : Nat) ∧ x ≤ l.length) → (decide ((↑x : Int) < (↑l.length : Int)) = true → (decide ((↑x : Int) < (12 : Int)) = true → Ob ((0 : Int) ≤ (↑x : Int) ∧ (↑x : Int) < (↑l.length : Int) ∧ true = true) ∧ Ob (IntAt IntKind.u8 (List.map (Value.int IntKind.u8) l) ((0 : Nat) + (↑x : Int).toNat * (1 : Nat))) ∧ Ob (n ≠ (0 : Int)) ∧ Ob (andP (some ((0 : Nat) + (1 : Nat) ≤ (1 : Nat) ∧ true = true)) (x + (1 : Nat) ≤ (1099511627776 : Nat) ∧ ((2 : Nat) * (x + (1 : Nat)) + (256 : Nat)) * (8 : Nat) ≤ (281474976710656 : Nat) ∧ (1 : Nat) = (1 : Nat) ∧ (List.map (Value.int IntKind.i64) (dropped n (List.take x l))).length = x * (1 : Nat))) ∧ ((∃ (y : Unit), Ob True ∧ Ob ((20 : Nat) < (12 : Nat) - x) ∧ (Ob (AObj.ro (List.map (Value.int IntKind.u8) l) = AObj.ro (List.map (nmap1 (nsub (1 : Nat) (3 : Nat))) (List.map (Value.int IntKind.u8) l)) ∧ AObj.sc (1 : Nat) (AObj.ro (List.map (Value.int IntKind.u8) l)) = true) ∧ True) ∧ Ob (n = n) ∧ Ob (Value.slice (some (ad0 0)) l.length c = Value.slice (some (ad0 0)) l.length c) ∧ Ob (Value.slice (some { block := (3 : Nat), off := (0 : Nat), spot := some (0 : Nat) }) (x + (1 : Nat)) (0 : Nat) = Value.slice none (0 : Nat) (0 : Nat)) ∧ Ob (IntKind.i64.wrap ((↑x : Int) + (1 : Int)) = (0 : Int)) ∧ True) ∨ ∃ (y : Nat), Ob ((0 : Nat) < y ∧ y ≤ (12 : Nat) ∧ y ≤ l.length) ∧ Ob ((12 : Nat) - y < (12 : Nat) - x) ∧ (Ob (AObj.ro (List.map (Value.int IntKind.u8) l) = AObj.ro (List.map (nmap1 (nsub (1 : Nat) (3 : Nat))) (List.map (Value.int IntKind.u8) l)) ∧ AObj.sc (2 : Nat) (AObj.ro (List.map (Value.int IntKind.u8) l)) = true) ∧ Ob (AObj.rw (List.map (Value.int IntKind.i64) (dropped n (List.take x l)) ++ [vi ((IntKind.i64.wrap (getI (List.map (Value.int IntKind.u8) l) ((0 : Nat) + (↑x : Int).toNat * (1 : Nat)))).tmod n)]) (some (1 : Nat)) = AObj.rw (List.map (nmap1 (nsub (1 : Nat) (3 : Nat))) (List.map (Value.int IntKind.i64) (dropped n (List.take y l)))) (some (1 : Nat)) ∧ AObj.sc (2 : Nat) (AObj.rw (List.map (Value.int IntKind.i64) (dropped n (List.take y l))) (some (1 : Nat))) = true) ∧ True) ∧ Ob (n = n) ∧ Ob (Value.slice (some (ad0 0)) l.length c = Value.slice (some (ad0 0)) l.length c) ∧ Ob (Value.slice (some { block := (3 : Nat), off := (0 : Nat), spot := some (0 : Nat) }) (x + (1 : Nat)) (0 : Nat) = Value.slice (some { block := (3 : Nat), off := (0 : Nat), spot := some (0 : Nat) }) y (0 : Nat)) ∧ Ob (IntKind.i64.wrap ((↑x : Int) + (1 : Int)) = (↑y : Int)) ∧ True)) ∧ (decide ((↑x : Int) < (12 : Int)) = false → True ∧ Ob (Value.slice (some { block := (1 : Nat), off := (0 : Nat), spot := some (0 : Nat) }) x (0 : Nat) = Value.slice (some { block := (1 : Nat), off := (0 : Nat), spot := some (0 : Nat) }) (dropped n l).length (0 : Nat) ∧ [AObj.ro (List.map (Value.int IntKind.u8) l), AObj.rw (List.map (Value.int IntKind.i64) (dropped n (List.take x l))) (some (1 : Nat))] = [AObj.ro (List.map (Value.int IntKind.u8) l), AObj.rw (List.map (Value.int IntKind.i64) (dropped n l)) (some (1 : Nat))]))) ∧ (decide ((↑x : Int) < (↑l.length : Int)) = false → True ∧ Ob (Value.slice (some { block := (1 : Nat), off := (0 : Nat), spot := some (0 : Nat) }) x (0 : Nat) = Value.slice (some { block := (1 : Nat), off := (0 : Nat), spot := some (0 : Nat) }) (dropped n l).length (0 : Nat) ∧ [AObj.ro (List.map (Value.int IntKind.u8) l), AObj.rw (List.map (Value.int IntKind.i64) (dropped n (List.take x l))) (some (1 : Nat))] = [AObj.ro (List.map (Value.int IntKind.u8) l), AObj.rw (List.map (Value.int IntKind.i64) (dropped n l)) (some (1 : Nat))]))
theorem drV_eq : drV = fun (n : Int) (l : List Int) (c : Nat) => vc Try.prog {} 1 28 true (drI n l c) drB [] (argFr 0 [vi n, .slice (some ⟨0,0,none⟩) l.length c]) [bytesO l] (retK Try.prog Try.f43 (fun v H1 => v = .slice (some ⟨1,0,some 0⟩) (dropped n l).length 0 ∧ H1 = [bytesO l, rws (dropped n l)])) := by kernel_rfl
theorem dropped_succ {n : Int} {l : List Int} {i : Nat} (h : i < l.length) (h12 : i < 12) : dropped n (l.take (i + 1)) = dropped n (l.take i) ++ [l.getD i 0 % n] := by
  unfold dropped
  rw [List.take_take, List.take_take, show min 12 (i + 1) = i + 1 by omega, show min 12 i = i by omega, List.take_succ_eq_append_getElem h, List.map_append, List.map_singleton, List.getD_eq_getElem?_getD, List.getElem?_eq_getElem h]
  rfl
theorem dropped_len {n : Int} {l : List Int} {i : Nat} (h : i ≤ l.length) (h12 : i ≤ 12) : (dropped n (l.take i)).length = i := by
  simp [dropped]; omega
theorem u8_mod {l : List Int} {n : Int} {i : Nat} (hn : 0 < n) (hb : ∀ x ∈ l, 0 ≤ x ∧ x < 256) (h : i < l.length) : (IntKind.i64.wrap (l.getD i 0)).tmod n = l.getD i 0 % n := by
  have hm : l.getD i 0 ∈ l := by rw [List.getD_eq_getElem?_getD, List.getElem?_eq_getElem h]; exact List.getElem_mem h
  have := hb _ hm
  rw [wrap_in (by omega) (by omega), Int.tmod_eq_emod_of_nonneg this.1]
theorem dropped_end {n : Int} {l : List Int} {i : Nat} (h : i ≤ l.length) (h12 : i ≤ 12) (he : ¬ i < l.length ∨ ¬ i < 12) : dropped n (l.take i) = dropped n l := by
  unfold dropped
  rw [List.take_take]
  rcases he with he | he
  · rw [show min 12 i = i by omega, List.take_of_length_le (by omega), List.take_of_length_le (by omega)]
  · rw [show min 12 i = 12 by omega]
theorem drV_ok (n : Int) (l : List Int) (c : Nat) (hn : 0 < n ∧ n ≤ 8) (hl : 0 < l.length) (hb : ∀ x ∈ l, 0 ≤ x ∧ x < 256) (hlen : l.length ≤ 30) : drV n l c := by
  unfold drV
  simp only [ob_iff, map_nmap_int, sc_ro_int, sc_rw_int, getI_map, intAt_map, true_and, and_true, eq_self, Int.toNat_natCast, Nat.zero_add, Nat.mul_one, decide_eq_true_eq, decide_eq_false_iff_not, andP, List.set_cons_zero, List.length_cons, List.length_nil, List.drop_zero, List.take_succ_cons, List.take_zero,
    Value.slice.injEq, Option.some.injEq, Addr.mk.injEq, AObj.rw.injEq, List.cons.injEq, reduceCtorEq, List.length_append, List.length_map, false_and, and_false, exists_const, or_false, false_or, true_or, Nat.lt_irrefl, forall_const, true_implies, List.length_set]
  have h0 : IntKind.i64.wrap (0 + 1) = ((1 : Nat) : Int) := by rw [wrap_in (by omega) (by omega)]; rfl
  refine ⟨⟨fun hlt => ⟨⟨by omega, by omega, by omega, ⟨by omega, by omega, by omega, by omega⟩, 1, ⟨by omega, by omega, by omega⟩, by omega, ?_, rfl, h0⟩, fun h => h.elim⟩, by omega⟩, fun x ⟨h1, h2, h3⟩ => ⟨fun h4 => ⟨fun h5 => ?_, fun h5 => ?_⟩, fun h4 => ?_⟩⟩
  · rw [dropped_succ hl (by omega), u8_mod hn.1 hb hl]
    rfl
  · refine ⟨by omega, by omega, by omega, ⟨by omega, by omega, by omega, dropped_len h3 h2⟩, x + 1, ⟨by omega, by omega, by omega⟩, by omega, ?_, rfl, ?_⟩
    · rw [dropped_succ (by omega) (by omega), u8_mod hn.1 hb (by omega), List.map_append]
      rfl
    · rw [wrap_in (by omega) (by omega)]; rfl
  · rw [dropped_end h3 h2 (.inr (by omega))]
    refine ⟨?_, rfl⟩
    rw [← dropped_end h3 h2 (.inr (by omega)), dropped_len h3 h2]
  · rw [dropped_end h3 h2 (.inl (by omega))]
    refine ⟨?_, rfl⟩
    rw [← dropped_end h3 h2 (.inl (by omega)), dropped_len h3 h2]
theorem dr_call (n : Int) (l : List Int) (c : Nat) (hn : 0 < n ∧ n ≤ 8) (hl : 0 < l.length) (hb : ∀ x ∈ l, 0 ≤ x ∧ x < 256) (hlen : l.length ≤ 30) :
    Call Try.prog 43 [vi n, .slice (some ⟨0,0,none⟩) l.length c] [bytesO l] fun v H1 => v = .slice (some ⟨1,0,some 0⟩) (dropped n l).length 0 ∧ H1 = [bytesO l, rws (dropped n l)] :=
  Call.ofVc (VOk.ofCt CtOk.none) mixed (c := drB) (inv := drI n l c) Try.func43 (by kernel_rfl) (cast (congrFun (congrFun (congrFun drV_eq n) l) c) (drV_ok n l c hn hl hb hlen))
end Go.Pier.Lg
set_option maxRecDepth 100000
set_option linter.unusedVariables false
set_option linter.unusedSimpArgs false
namespace Go.Pier.Lg
open Go Go.Pier Go.Proofs
noncomputable def hasB : Code := Try.f45.body.getD .skip
def hasI (l : List Int) (n : Int) (c : Nat) : Nat → Option LInv := invOf 0 (LInv.one Nat (fun i => i ≤ l.length ∧ ∀ j, j < i → l.getD j 0 ≠ n) (fun i => [(0, .slice (some ⟨0,0,none⟩) l.length c), (1, vi n), (4, .bool false), (5, vi i)]) (fun _ => [.ro (l.map (.int .i64))]) (fun i => l.length - i))
def hasNI (n : Int) : Nat → Option LInv := invOf 0 (LInv.one Unit (fun _ => True) (fun _ => [(0, .slice none 0 0), (1, vi n), (4, .bool false), (5, vi 0)]) (fun _ => []) (fun _ => 0))
noncomputable def hasV :=
fun (l : List Int) (n : Int) (c : Nat) ↦ (∃ (y : Nat), Ob (y ≤ l.length ∧ ∀ (j : Nat), j < y → l.getD j (0 : Int) ≠ n) ∧ (Ob (AObj.ro (List.map (Value.int IntKind.i64) l) = AObj.ro (List.map (nmap1 fun (b : Nat) ↦ b) (List.map (Value.int IntKind.i64) l)) ∧ AObj.sc (1 : Nat) (AObj.ro (List.map (Value.int IntKind.i64) l)) = true) ∧ True) ∧ Ob (Value.slice (some (ad0 0)) l.length c = Value.slice (some (ad0 0)) l.length c) ∧ Ob (n = n) ∧ Ob (false = false) ∧ Ob ((0 : Int) = (↑y : Int)) ∧ True) ∧ ∀ (x : Nat), Ob (x ≤ l.length ∧ ∀ (j : Nat), j < x → l.getD j (0 : Int) ≠ n) → (decide ((↑x : Int) < (↑l.length : Int)) = true → Ob ((0 : Int) ≤ (↑x : Int) ∧ (↑x : Int) < (↑l.length : Int) ∧ true = true) ∧ Ob (IntAt IntKind.i64 (List.map (Value.int IntKind.i64) l) ((0 : Nat) + (↑x : Int).toNat * (1 : Nat))) ∧ ((getI (List.map (Value.int IntKind.i64) l) ((0 : Nat) + (↑x : Int).toNat * (1 : Nat)) == n) = true → True ∧ Ob (Value.bool true = Value.bool (decide (n ∈ l)) ∧ [AObj.ro (List.map (Value.int IntKind.i64) l)] = [AObj.ro (List.map (Value.int IntKind.i64) l)])) ∧ ((getI (List.map (Value.int IntKind.i64) l) ((0 : Nat) + (↑x : Int).toNat * (1 : Nat)) == n) = false → ∃ (y : Nat), Ob (y ≤ l.length ∧ ∀ (j : Nat), j < y → l.getD j (0 : Int) ≠ n) ∧ Ob (l.length - y < l.length - x) ∧ (Ob (AObj.ro (List.map (Value.int IntKind.i64) l) = AObj.ro (List.map (nmap1 fun (b : Nat) ↦ b) (List.map (Value.int IntKind.i64) l)) ∧ AObj.sc (1 : Nat) (AObj.ro (List.map (Value.int IntKind.i64) l)) = true) ∧ True) ∧ Ob (Value.slice (some (ad0 0)) l.length c = Value.slice (some (ad0 0)) l.length c) ∧ Ob (n = n) ∧ Ob (false = false) ∧ Ob (IntKind.i64.wrap ((↑x : Int) + (1 : Int)) = (↑y : Int)) ∧ True)) ∧ (decide ((↑x : Int) < (↑l.length : Int)) = false → True ∧ Ob (Value.bool false = Value.bool (decide (n ∈ l)) ∧ [AObj.ro (List.map (Value.int IntKind.i64) l)] = [AObj.ro (List.map (Value.int IntKind.i64) l)]))
theorem hasV_eq : hasV = fun (l : List Int) (n : Int) (c : Nat) => vc Try.prog {} 1 18 true (hasI l n c) hasB [] (argFr 0 [.slice (some ⟨0,0,none⟩) l.length c, vi n]) [.ro (l.map (.int .i64))] (retK Try.prog Try.f45 (fun v H1 => v = .bool (decide (n ∈ l)) ∧ H1 = [.ro (l.map (.int .i64))])) := by kernel_rfl
noncomputable def hasN :=
fun (n : Int) ↦ (∃ (y : Unit), Ob True ∧ True ∧ Ob (Value.slice none (0 : Nat) (0 : Nat) = Value.slice none (0 : Nat) (0 : Nat)) ∧ Ob (n = n) ∧ Ob (false = false) ∧ Ob ((0 : Int) = (0 : Int)) ∧ True) ∧ ∀ (x : Unit), Ob True → (false = true → False) ∧ (false = false → True ∧ Ob (Value.bool false = Value.bool false))
theorem hasN_eq : hasN = fun (n : Int) => vc Try.prog {} 0 18 true (hasNI n) hasB [] (argFr 0 [.slice none 0 0, vi n]) [] (retK Try.prog Try.f45 (fun v _ => v = .bool false)) := by kernel_rfl
theorem getD_memR {l : List Int} {i : Nat} (h : i < l.length) : l.getD i 0 ∈ l := by
  rw [List.getD_eq_getElem?_getD, List.getElem?_eq_getElem h]; exact List.getElem_mem h
theorem hasV_ok (l : List Int) (n : Int) (c : Nat) (hl : l.length < 1000000) : hasV l n c := by
  unfold hasV
  simp only [ob_iff, map_nmap_int, sc_ro_int, getI_map, intAt_map, true_and, and_true, eq_self, Int.toNat_natCast, Nat.zero_add, Nat.mul_one, beq_iff_eq, beq_eq_false_iff_ne, decide_eq_true_eq, decide_eq_false_iff_not, Value.bool.injEq]
  refine ⟨⟨0, ⟨by omega, fun j hj => by omega⟩, rfl⟩, fun x ⟨hx, hn⟩ => ⟨fun hlt => ⟨by omega, by omega, fun he => ?_, fun he => ⟨x + 1, ⟨by omega, fun j hj => ?_⟩, by omega, ?_⟩⟩, fun hge => ?_⟩⟩
  · have := getD_memR (l := l) (i := x) (by omega)
    rw [he] at this
    simp [this]
  · by_cases h : j = x
    · subst h; exact he
    · exact hn j (by omega)
  · rw [wrap_in (by omega) (by omega)]; rfl
  · symm
    rw [decide_eq_false_iff_not]
    intro hm
    obtain ⟨j, h1, h2⟩ := List.getElem_of_mem hm
    refine hn j (by omega) ?_
    rw [List.getD_eq_getElem?_getD, List.getElem?_eq_getElem h1]; exact h2
theorem has_call (l : List Int) (n : Int) (c : Nat) (hl : l.length < 1000000) : Call Try.prog 45 [.slice (some ⟨0,0,none⟩) l.length c, vi n] [.ro (l.map (.int .i64))] fun v H1 => v = .bool (decide (n ∈ l)) ∧ H1 = [.ro (l.map (.int .i64))] :=
  Call.ofVc (VOk.ofCt CtOk.none) mixed (c := hasB) (inv := hasI l n c) Try.func45 (by kernel_rfl) (cast (congrFun (congrFun (congrFun hasV_eq l) n) c) (hasV_ok l n c hl))
theorem hasN_ok (n : Int) : hasN n := by
  unfold hasN
  simp only [ob_iff, true_and, and_true, exists_const, Bool.false_eq_true, false_implies, forall_const]
theorem has_nil (n : Int) : Call Try.prog 45 [.slice none 0 0, vi n] [] fun v _ => v = .bool false :=
  Call.ofVc (VOk.ofCt CtOk.none) mixed (c := hasB) (inv := hasNI n) Try.func45 (by kernel_rfl) (cast (congrFun hasN_eq n) (hasN_ok n))
def hasG : List Value → Heap → Option (Option Prop × Value × Heap × List Nat) := fun args H => match args with
  | [.slice none 0 0, .int .i64 n] => some (none, .bool false, H, [])
  | [s, .int .i64 n] => match sliceInts .i64 H s with
    | some (φ, l) => some (some (φ ∧ l.length < 1000000), .bool (decide (n ∈ l)), H, [])
    | none => none
  | _ => none
theorem hasG_ok : ∀ args H φ v H' l, hasG args H = some (φ, v, H', l) → Asks φ → Call Try.prog 45 args H (fun v' H2 => v' = v ∧ H2 = H') ∧ Kept H H' l := by
  intro args H φ v H' l h hφ
  unfold hasG at h
  split at h
  · cases h
    refine ⟨?_, Kept.refl _ _⟩
    exact Call.ofArgs («as» := [.plain (.slice none 0 0), .plain (vi _)]) (fun caps => has_nil _) rfl ⟨rfl, rfl, rfl, rfl, trivial⟩
  · split at h <;> simp only [Option.some.injEq, Prod.mk.injEq, reduceCtorEq] at h
    rename_i s n _ _ ψ m hs
    obtain ⟨rfl, rfl, rfl, rfl⟩ := h
    refine ⟨?_, Kept.refl _ _⟩
    exact Call.ofArgs («as» := [.ints .i64 m, .plain (vi n)]) (fun caps => (has_call m n _ hφ.2).mono fun v H h => h.1) rfl ⟨⟨ψ, hs, hφ.1⟩, rfl, rfl, trivial⟩
  · cases h
end Go.Pier.Lg
set_option maxRecDepth 100000
set_option linter.unusedVariables false
set_option linter.unusedSimpArgs false
namespace Go.Pier.Lg
open Go Go.Pier Go.Proofs
def bys (l : List Int) : AObj := .ro (l.map (.int .u8))
end Go.Pier.Lg
set_option maxRecDepth 100000
set_option linter.unusedVariables false
set_option linter.unusedSimpArgs false
namespace Go.Pier.Lg
open Go Go.Pier Go.Proofs
end Go.Pier.Lg
namespace Go.Pier
open Go
variable {P : Program} {H : Heap} {f : FuncId}
def Arg.two : Arg → Arg2
  | .plain v => .val v
  | .ints k l => .ints k l
  | .hole s => .hole s
theorem canonA_two (caps : Nat → Nat) : ∀ (i : Nat) (r : List Arg), canonA2 caps i (r.map Arg.two) = canonA caps i r
  | _, [] => rfl
  | i, .plain v :: r => by rw [List.map_cons, Arg.two, canonA2, canonA, canonA_two caps i r]
  | i, .ints k l :: r => by rw [List.map_cons, Arg.two, canonA2, canonA, canonA_two caps (i + 1) r]
  | i, .hole s :: r => by rw [List.map_cons, Arg.two, canonA2, canonA, canonA_two caps (i + 1) r]
theorem canonH_two : ∀ (r : List Arg), canonH2 (r.map Arg.two) = canonH r
  | [] => rfl
  | .plain v :: r => by rw [List.map_cons, Arg.two, canonH2, canonH, canonH_two r]
  | .ints k l :: r => by rw [List.map_cons, Arg.two, canonH2, canonH, canonH_two r]
  | .hole s :: r => by rw [List.map_cons, Arg.two, canonH2, canonH, canonH_two r]
theorem nmap0_closed {σ : Nat → Nat} {v : Value} (h : sc0 0 v = true) : nmap0 σ v = v := by
  unfold sc0 at h
  split at h <;> simp_all [nmap0]
theorem nmapA_closed {σ : Nat → Nat} {v : Value} (h : scA 0 v = true) : nmapA σ v = v := by
  simp only [scA, Bool.or_eq_true] at h
  rcases h with h | h
  · have : nmapA σ v = nmap0 σ v := by cases v <;> first | rfl | (simp [sc0] at h)
    rw [this, nmap0_closed h]
  · cases v <;> simp only [aggAll, Bool.false_eq_true] at h
    simp only [nmapA]
    rw [map_id_all (fun _ => nmap0_closed) _ h]
theorem nmap1_closed {σ : Nat → Nat} {v : Value} (h : sc1 0 v = true) : nmap1 σ v = v := by
  unfold sc1 at h
  split at h
  · simp only [Bool.and_eq_true] at h
    simp only [nmap1, nmapFn]
    rw [map_id_all (fun _ => nmapA_closed) _ h.1, map_id_all (fun _ => nmap0_closed) _ h.2]
  · simp at h
  · have : nmap1 σ v = nmap0 σ v := by cases v <;> first | rfl | (simp [sc0] at h)
    rw [this, nmap0_closed h]
theorem nmap2_closed {σ : Nat → Nat} {v : Value} (h : sc2 0 v = true) : nmap2 σ v = v := by
  unfold sc2 at h
  split at h
  · simp only [nmap2]; rw [map_id_all (fun _ => nmap1_closed) _ h]
  · have : nmap2 σ v = nmap1 σ v := by cases v <;> first | rfl | (simp [sc1, sc0] at h) | (rename_i h1 _; exact absurd rfl (h1 _))
    rw [this, nmap1_closed h]
theorem nmap_closed {σ : Nat → Nat} {v : Value} (h : sc 0 v = true) : nmap σ v = v := by
  unfold sc at h
  split at h
  · simp only [nmap]; rw [map_id_all (fun _ => nmap2_closed) _ h]
  · have : nmap σ v = nmap2 σ v := by cases v <;> first | rfl | (simp [sc2, sc1, sc0] at h) | (rename_i h1; exact absurd rfl (h1 _))
    rw [this, nmap2_closed h]
theorem nm0_closed {p : Nat → Bool} {v : Value} (h : sc0 0 v = true) : nm0 p v = true := by
  unfold sc0 at h
  split at h <;> simp_all [nm0]
theorem nmA_closed {p : Nat → Bool} {v : Value} (h : scA 0 v = true) : nmA p v = true := by
  simp only [scA, Bool.or_eq_true] at h
  rcases h with h | h
  · have : nmA p v = nm0 p v := by cases v <;> first | rfl | (simp [sc0] at h)
    rw [this, nm0_closed h]
  · cases v <;> simp only [aggAll, Bool.false_eq_true] at h
    simp only [nmA]
    exact all_mono (fun _ => nm0_closed) _ h
theorem nm1_closed {p : Nat → Bool} {v : Value} (h : sc1 0 v = true) : nm1 p v = true := by
  unfold sc1 at h
  split at h
  · simp only [Bool.and_eq_true] at h
    simp only [nm1, Bool.and_eq_true]
    exact ⟨rfl, all_mono (fun u hu => nmA_closed hu) _ h.1, all_mono (fun _ => nm0_closed) _ h.2⟩
  · simp at h
  · have : nm1 p v = nm0 p v := by cases v <;> first | rfl | (simp [sc0] at h)
    rw [this, nm0_closed h]
theorem nm2_closed {p : Nat → Bool} {v : Value} (h : sc2 0 v = true) : nm2 p v = true := by
  unfold sc2 at h
  split at h
  · simp only [nm2]; exact all_mono (fun _ => nm1_closed) _ h
  · have : nm2 p v = nm1 p v := by cases v <;> first | rfl | (simp [sc1, sc0] at h) | (rename_i h1 _; exact absurd rfl (h1 _))
    rw [this, nm1_closed h]
theorem nm_closed {p : Nat → Bool} {v : Value} (h : sc 0 v = true) : nm p v = true := by
  unfold sc at h
  split at h
  · simp only [nm]; exact all_mono (fun _ => nm2_closed) _ h
  · have : nm p v = nm2 p v := by cases v <;> first | rfl | (simp [sc2, sc1, sc0] at h) | (rename_i h1; exact absurd rfl (h1 _))
    rw [this, nm2_closed h]
theorem read_two {B : List Nat} (hB : B = []) {σ : Nat → Nat} : ∀ {r : List Arg} {vs : List Value}, ReadA H r vs → ReadA2 H σ B 0 (r.map Arg.two) vs
  | [], [], _ => trivial
  | .plain u :: r, v :: vs, h => ⟨by rw [h.1, nmap_closed h.2.1], by rw [h.1]; exact h.2.1, read_two hB h.2.2⟩
  | .ints k l :: r, v :: vs, h => ⟨h.1, fun b _ hm => (by rw [hB] at hm; cases hm), read_two hB h.2⟩
  | .hole s :: r, v :: vs, h => ⟨h.1, read_two hB h.2⟩
structure Fresh where
  ask : Prop
  val : Nat → Value
  new : Nat → Heap
structure Fresh.Good (s : Fresh) : Prop where
  val : ∀ e n, nmap (fun c => n + (c - e)) (s.val e) = s.val n
  new : ∀ e n, (s.new e).map (omap fun c => n + (c - e)) = s.new n
  ro : ∀ n, ∀ o ∈ s.new n, o.isRo = false
  nmv : ∀ n, nm (fun d => decide (n ≤ d)) (s.val n) = true
  nmn : ∀ n, ∀ o ∈ s.new n, o.nm (fun d => decide (n ≤ d)) = true
  scv : ∀ n, sc (n + (s.new n).length) (s.val n) = true
  scn : ∀ n, ∀ o ∈ s.new n, o.sc (n + (s.new n).length) = true
def freshG (ps : List PK) (spec : List Arg → Option Fresh) : List Value → Heap → Option (Option Prop × Value × Heap × List Nat) := fun args H => match toArgs H ps args with
  | some (φ, r) => match spec r with
    | some s => some (andO φ (some s.ask), s.val H.length, H ++ s.new H.length, [])
    | none => none
  | none => none
theorem nm_weak {e : Nat} : (fun d => decide (d < 0) || decide (e ≤ d)) = fun d => decide (e ≤ d) := by
  funext d; simp
theorem nameL_nil {e n : Nat} : nameL [] e n = fun c => n + (c - e) := by
  funext c; unfold nameL; simp
theorem Fresh.call {s : Fresh} (g : s.Good) {r : List Arg} {args : List Value} (h4 : ∀ caps, Call P f (canonA caps 0 r) (canonH r) fun v H' => v = s.val (canonH r).length ∧ H' = canonH r ++ s.new (canonH r).length) (hR : ReadA H r args) :
    Call P f args H (fun v' H2 => v' = s.val H.length ∧ H2 = H ++ s.new H.length) ∧ Kept H (H ++ s.new H.length) [] := by
  refine ⟨?_, Kept.append _ _ _⟩
  have h5 : ∀ caps, Call P f (canonA2 caps 0 (r.map Arg.two)) ([] ++ canonH2 (r.map Arg.two)) fun v' F' => v' = s.val (canonH r).length ∧ F' = [] ++ canonH2 (r.map Arg.two) ++ s.new (canonH r).length := fun caps => by
    rw [canonA_two, canonH_two, List.nil_append]; exact h4 caps
  have := Call.frameL (P := P) (f := f) (H := H) (Et := []) (Ft := []) (N := s.new (canonH r).length) (L := []) (ags := r.map Arg.two) (vs := args) (v := s.val (canonH r).length) rfl rfl (by simp) (fun _ h => by cases h) (fun c o h => by simp at h) (fun _ h => by cases h)
    (read_two rfl hR) h5
    (by rw [List.nil_append, List.nil_append, canonH_two]; simp only [List.length_nil, nm_weak]; exact g.nmn _)
    (g.ro _)
    (by rw [List.nil_append, canonH_two]; simp only [List.length_nil, nm_weak]; exact g.nmv _)
    (by
      rw [List.nil_append, List.nil_append, canonH_two, nameL_nil]
      intro o ho
      have hm := List.mem_map_of_mem (f := omap fun c => H.length + (c - (canonH r).length)) ho
      rw [g.new] at hm
      have := g.scn H.length _ hm
      rw [show (s.new (canonH r).length).length = (s.new H.length).length by rw [← g.new (canonH r).length H.length, List.length_map]]
      exact this)
    (by
      rw [List.nil_append, canonH_two, nameL_nil, g.val]
      have := g.scv H.length
      rw [show (s.new (canonH r).length).length = (s.new H.length).length by rw [← g.new (canonH r).length H.length, List.length_map]]
      exact this)
  rw [List.nil_append, canonH_two, nameL_nil, g.val, g.new] at this
  exact this.1
theorem freshG_ok {ps : List PK} {spec : List Arg → Option Fresh} (h : ∀ r s, kinds ps r → spec r = some s → s.ask → s.Good ∧ ∀ caps, Call P f (canonA caps 0 r) (canonH r) fun v H' => v = s.val (canonH r).length ∧ H' = canonH r ++ s.new (canonH r).length) :
    ∀ args H φ v H' l, freshG ps spec args H = some (φ, v, H', l) → Asks φ → Call P f args H (fun v' H2 => v' = v ∧ H2 = H') ∧ Kept H H' l := by
  intro args H φ v H' l hg hφ
  unfold freshG at hg
  split at hg <;> try (cases hg; done)
  rename_i φ1 r hr
  split at hg <;> cases hg
  rename_i s hb
  obtain ⟨h1, h2⟩ := andO_iff.1 hφ
  obtain ⟨g, h4⟩ := h r s (toArgs_kinds hr) hb h2
  exact Fresh.call g h4 (toArgs_ok hr h1)
def madeS (b n : Nat) : Value := .slice (some ⟨b, 0, none⟩) n n
theorem fresh_plain {p : Prop} {v : Value} (h : sc 0 v = true) : Fresh.Good ⟨p, fun _ => v, fun _ => []⟩ where
  val _ _ := nmap_closed h
  new _ _ := rfl
  ro _ _ h := by cases h
  nmv n := by
    exact nm_closed h
  nmn _ _ h := by cases h
  scv n := sc_mono (Nat.zero_le _) h
  scn _ _ h := by cases h
def aNothing (P : Program) (H : Heap) (tys : Array TypeId) (s x : Value) : Option (Prop × Value × Heap) :=
  match tys[0]?, tys[1]? with
  | some t0, some t1 => match P.underlying t0, P.underlying t1, s, x with
    | some (.slice elem), some (.slice _), .slice (some a) sLen sCap, .slice _ n _ => match a.spot, Nat.beq n 0 with
      | none, true => match P.info? elem, zeroT P elem with
        | some i, some z => some (sLen ≤ 1099511627776 ∧ (2 * sLen + 256) * i.bytes ≤ 281474976710656 ∧ z.cells.size = i.size ∧ sLen ≤ sCap, .slice (some a) sLen sCap, H)
        | _, _ => none
      | _, _ => none
    | _, _, _, _ => none
  | _, _ => none
theorem aNothing_ok {tys : Array TypeId} {s x v : Value} {φ : Prop} {H' : Heap} (h : aNothing P H tys s x = some (φ, v, H')) (hφ : φ) : aAppend P H tys s x = some (v, H') := by
  unfold aNothing at h
  split at h <;> try (cases h; done)
  rename_i t0 t1 h0 h1
  split at h <;> try (cases h; done)
  rename_i elem e1 a sLen sCap xb n xc hu0 hu1
  split at h <;> try (cases h; done)
  rename_i hs hn
  split at h <;> cases h
  rename_i i z hi hz
  obtain rfl := Nat.eq_of_beq_eq_true hn
  obtain ⟨k1, k2, k3, k4⟩ := hφ
  have hf : aFirst H i.size 0 (.slice xb 0 xc) = some [] := by
    unfold aFirst
    cases xb with
    | none => rfl
    | some b => simp only [Nat.zero_mul]
  unfold aAppend
  simp only [h0, h1, hu0, hu1, hi, hz, Option.bind_some, hf]
  rw [if_pos ⟨by omega, by simpa using k2, k3, by simp⟩]
  simp only [hs]
  rw [if_pos (by omega)]
  rfl
def orcAp0 (P : Program) : Orc := fun env H o => match o.op with
  | .call c => match c.callee with
    | .builtin .append => match envs env c.args.toList with
      | some [s, x] => match aNothing P H c.argTypes s x with
        | some (φ, v, H') => some (φ, some v, H')
        | none => none
      | _ => none
    | _ => none
  | _ => none
theorem orcAp0_ok : OrcOk P (orcAp0 P) := fun env H o φ v H' h hφ => by
  unfold orcAp0 at h
  split at h <;> try (cases h; done)
  rename_i c hop
  split at h <;> try (cases h; done)
  rename_i hcal
  split at h <;> try (cases h; done)
  rename_i s x hargs
  split at h <;> cases h
  rename_i v hr
  unfold evOp
  rw [hop]
  simp only [evCall, hargs, Option.bind_some, hcal, evBuiltin, aNothing_ok hr hφ, Option.map_some, outOf]
end Go.Pier
set_option maxRecDepth 100000
set_option linter.unusedVariables false
set_option linter.unusedSimpArgs false
namespace Go.Pier.Lg
open Go Go.Pier Go.Proofs
noncomputable def apT : Ct := ((Ct.none.add 23 (pureG [.int .i64, .ints .i64] cdS)).add 49 pushedG).add 51 (whG goodT)
noncomputable def apE : VEnv := { ct := apT }
noncomputable def afuB : Code := Try.f21.body.getD .skip
noncomputable def aliB : Code := Try.f19.body.getD .skip
noncomputable def acrB : Code := Try.f32.body.getD .skip
def madeA (l : List Int) : AObj := .rw (l.map (.int .i64)) none
def ledC (n : Nat) (l : List Int) : Int := if (runA n l).fell = 0 then 0 else 20
noncomputable def afuV_s0 (n : Nat) (l : List Int) (c : Nat) := (runA (↑n : Int).toNat (List.take l.length (List.drop (0 : Nat) (intsOf (List.map (Value.int IntKind.i64) l)))))
noncomputable def afuV_s1 (n : Nat) (l : List Int) (c : Nat) := (whL (fA (Value.func (Fn.func (52 : Nat)) { toList := [Value.agg { toList := (lgC (↑n : Int) ((afuV_s0 n l c).tk)) }] } { toList := [] })) (fN (lgC (↑n : Int) ((afuV_s0 n l c).tk))).toNat)
noncomputable def afuV_s2 (n : Nat) (l : List Int) (c : Nat) := (vi (↑n : Int) :: T8 ((afuV_s0 n l c).tk) [Value.slice (some { block := (1 : Nat) + (1 : Nat), off := (0 : Nat), spot := some (0 : Nat) }) (List.take l.length (List.drop (0 : Nat) (intsOf (List.map (Value.int IntKind.i64) l)))).length (0 : Nat), vi (afuV_s0 n l c).slid, vi (afuV_s0 n l c).fell])
noncomputable def afuV_s3 (n : Nat) (l : List Int) (c : Nat) := (List.take l.length (List.drop (0 : Nat) (intsOf (List.map (Value.int IntKind.i64) l))))
noncomputable def afuV_s4 (n : Nat) (l : List Int) (c : Nat) : Array Value := { toList := [Value.slice (some (ad0 3)) (whL (runA n l).tk n).length (whL (runA n l).tk n).length, vi (runA n l).fell, vi (0 : Int)] }
noncomputable def afuV_s5 (n : Nat) (l : List Int) (c : Nat) := (lgC (↑n : Int) ((afuV_s0 n l c).tk))
noncomputable def afuV_s6 (n : Nat) (l : List Int) (c : Nat) := (List.map (Value.int IntKind.i64) l)
noncomputable def afuV :=
fun (n : Nat) (l : List Int) (c : Nat) ↦ Ob ((List.take l.length (List.drop (0 : Nat) (afuV_s6 n l c)) = List.map (Value.int IntKind.i64) (afuV_s3 n l c) ∧ (0 : Nat) + l.length ≤ (afuV_s6 n l c).length ∧ true = true) ∧ errD (↑n : Int) (afuV_s3 n l c) = (0 : Int) ∧ (0 : Nat) < (afuV_s3 n l c).length ∧ (0 : Int) ≤ (↑n : Int)) ∧ (false = true → (Ob (AObj.ro (afuV_s6 n l c) = AObj.ro (List.map (nmap1 (nsub (1 : Nat) (3 : Nat))) (afuV_s6 n l c)) ∧ AObj.sc (2 : Nat) (AObj.ro (afuV_s6 n l c)) = true) ∧ False) ∧ Ob (Value.tuple { toList := [Value.slice none (0 : Nat) (0 : Nat), vi (0 : Int), vi (0 : Int)] } = Value.tuple (afuV_s4 n l c)) ∧ True) ∧ (false = false → Ob (Value.agg { toList := (afuV_s5 n l c) } = Value.agg { toList := (lgC (fN (afuV_s5 n l c)) (fT (afuV_s5 n l c))) } ∧ (0 : Int) ≤ fN (afuV_s5 n l c) ∧ fN (afuV_s5 n l c) ≤ (8 : Int) ∧ Value.func (Fn.func (52 : Nat)) { toList := [Value.agg { toList := (afuV_s5 n l c) }] } { toList := [] } = Value.func (Fn.func (52 : FuncId)) { toList := [Value.agg { toList := (lgC (fN (afuV_s5 n l c)) (fA (Value.func (Fn.func (52 : Nat)) { toList := [Value.agg { toList := (afuV_s5 n l c) }] } { toList := [] }))) }] } { toList := [] }) ∧ Ob (IntAt IntKind.i64 (afuV_s2 n l c) ((0 : Nat) + (11 : Nat))) ∧ (Ob (AObj.ro (afuV_s6 n l c) = AObj.ro (List.map (nmap1 (nsub (1 : Nat) (3 : Nat))) (afuV_s6 n l c)) ∧ AObj.sc (2 : Nat) (AObj.ro (afuV_s6 n l c)) = true) ∧ Ob (AObj.rw (List.map (Value.int IntKind.i64) (afuV_s1 n l c)) none = AObj.rw (List.map (nmap1 (nsub (1 : Nat) (3 : Nat))) (List.map (Value.int IntKind.i64) (whL (runA n l).tk n))) none ∧ AObj.sc (2 : Nat) (AObj.rw (List.map (Value.int IntKind.i64) (whL (runA n l).tk n)) none) = true) ∧ True) ∧ Ob (Value.tuple { toList := [Value.slice (some (ad0 3)) (afuV_s1 n l c).length (afuV_s1 n l c).length, vi (getI (afuV_s2 n l c) ((0 : Nat) + (11 : Nat))), vi (0 : Int)] } = Value.tuple (afuV_s4 n l c)) ∧ True)
theorem afuV_eq : afuV = fun (n : Nat) (l : List Int) (c : Nat) => vc Try.prog apE 1 32 true (fun _ => none) afuB [] (argFr 0 [vi n, .slice (some ⟨0,0,none⟩) l.length c]) [ros l] (retR Try.prog Try.f21 1 (nsub 1 3) (.tuple #[madeS 1 (whL (runA n l).tk n).length, vi (runA n l).fell, vi 0]) [ros l, madeA (whL (runA n l).tk n)]) := by kernel_rfl
noncomputable def afuN_s0 (n : Nat) := (whL (fA (Value.func (Fn.func (52 : Nat)) { toList := [Value.agg { toList := (lgC (↑n : Int) emp) }] } { toList := [] })) (fN (lgC (↑n : Int) emp)).toNat)
noncomputable def afuN_s1 (n : Nat) : Array Value := { toList := [Value.slice (some (ad0 1)) (whL emp n).length (whL emp n).length, vi (0 : Int), vi (0 : Int)] }
noncomputable def afuN :=
fun (n : Nat) ↦ Ob (errD (↑n : Int) [] = (0 : Int)) ∧ (false = true → False ∧ Ob (Value.tuple { toList := [Value.slice none (0 : Nat) (0 : Nat), vi (0 : Int), vi (0 : Int)] } = Value.tuple (afuN_s1 n)) ∧ True) ∧ (false = false → Ob (Value.agg { toList := (lgC (↑n : Int) emp) } = Value.agg { toList := (lgC (fN (lgC (↑n : Int) emp)) emp) } ∧ (0 : Int) ≤ fN (lgC (↑n : Int) emp) ∧ fN (lgC (↑n : Int) emp) ≤ (8 : Int) ∧ Value.func (Fn.func (52 : Nat)) { toList := [Value.agg { toList := (lgC (↑n : Int) emp) }] } { toList := [] } = Value.func (Fn.func (52 : FuncId)) { toList := [Value.agg { toList := (lgC (fN (lgC (↑n : Int) emp)) emp) }] } { toList := [] }) ∧ Ob (some (vi (0 : Int)) = some (vi (0 : Int))) ∧ (Ob (AObj.rw (List.map (Value.int IntKind.i64) (afuN_s0 n)) none = AObj.rw (List.map (nmap1 (nsub (0 : Nat) (1 : Nat))) (List.map (Value.int IntKind.i64) (whL emp n))) none ∧ AObj.sc (1 : Nat) (AObj.rw (List.map (Value.int IntKind.i64) (whL emp n)) none) = true) ∧ True) ∧ Ob (Value.tuple { toList := [Value.slice (some (ad0 1)) (afuN_s0 n).length (afuN_s0 n).length, vi (0 : Int), vi (0 : Int)] } = Value.tuple (afuN_s1 n)) ∧ True)
theorem afuN_eq : afuN = fun (n : Nat) => vc Try.prog apE 0 32 true (fun _ => none) afuB [] (argFr 0 [vi n, nilS]) [] (retR Try.prog Try.f21 0 (nsub 0 1) (.tuple #[madeS 0 (whL emp n).length, vi 0, vi 0]) [madeA (whL emp n)]) := by kernel_rfl
noncomputable def afuH_s0 (n : Nat) (s : Option Nat) (c : Nat) := (whL (fA (Value.func (Fn.func (52 : Nat)) { toList := [Value.agg { toList := (lgC (↑n : Int) emp) }] } { toList := [] })) (fN (lgC (↑n : Int) emp)).toNat)
noncomputable def afuH_s1 (n : Nat) (s : Option Nat) (c : Nat) : Array Value := { toList := [Value.slice (some (ad0 2)) (whL emp n).length (whL emp n).length, vi (0 : Int), vi (0 : Int)] }
noncomputable def afuH :=
fun (n : Nat) (s : Option Nat) (c : Nat) ↦ Ob (errD (↑n : Int) [] = (0 : Int)) ∧ (false = true → False ∧ Ob (Value.tuple { toList := [Value.slice none (0 : Nat) (0 : Nat), vi (0 : Int), vi (0 : Int)] } = Value.tuple (afuH_s1 n s c)) ∧ True) ∧ (false = false → Ob (Value.agg { toList := (lgC (↑n : Int) emp) } = Value.agg { toList := (lgC (fN (lgC (↑n : Int) emp)) emp) } ∧ (0 : Int) ≤ fN (lgC (↑n : Int) emp) ∧ fN (lgC (↑n : Int) emp) ≤ (8 : Int) ∧ Value.func (Fn.func (52 : Nat)) { toList := [Value.agg { toList := (lgC (↑n : Int) emp) }] } { toList := [] } = Value.func (Fn.func (52 : FuncId)) { toList := [Value.agg { toList := (lgC (fN (lgC (↑n : Int) emp)) emp) }] } { toList := [] }) ∧ Ob (some (vi (0 : Int)) = some (vi (0 : Int))) ∧ (Ob (AObj.rw (List.map (Value.int IntKind.i64) (afuH_s0 n s c)) none = AObj.rw (List.map (nmap1 (nsub (1 : Nat) (2 : Nat))) (List.map (Value.int IntKind.i64) (whL emp n))) none ∧ AObj.sc (2 : Nat) (AObj.rw (List.map (Value.int IntKind.i64) (whL emp n)) none) = true) ∧ True) ∧ Ob (Value.tuple { toList := [Value.slice (some (ad0 2)) (afuH_s0 n s c).length (afuH_s0 n s c).length, vi (0 : Int), vi (0 : Int)] } = Value.tuple (afuH_s1 n s c)) ∧ True)
theorem afuH_eq : afuH = fun (n : Nat) (s : Option Nat) (c : Nat) => vc Try.prog apE 1 32 true (fun _ => none) afuB [] (argFr 0 [vi n, .slice (some ⟨0,0,s⟩) 0 c]) [.gone] (retR Try.prog Try.f21 1 (nsub 1 2) (.tuple #[madeS 1 (whL emp n).length, vi 0, vi 0]) [.gone, madeA (whL emp n)]) := by kernel_rfl
noncomputable def aliV_s0 (n : Nat) (l : List Int) (c : Nat) := (List.take l.length (List.drop (0 : Nat) (intsOf (List.map (Value.int IntKind.i64) l))))
noncomputable def aliV_s1 (n : Nat) (l : List Int) (c : Nat) := (vi (↑n : Int) :: T8 ((runA (↑n : Int).toNat (aliV_s0 n l c)).tk) [Value.slice (some { block := (1 : Nat) + (1 : Nat), off := (0 : Nat), spot := some (0 : Nat) }) (aliV_s0 n l c).length (0 : Nat), vi (runA (↑n : Int).toNat (aliV_s0 n l c)).slid, vi (runA (↑n : Int).toNat (aliV_s0 n l c)).fell])
noncomputable def aliV_s2 (n : Nat) (l : List Int) (c : Nat) : Array Value := { toList := [Value.slice (some { block := (2 : Nat), off := (0 : Nat), spot := some (0 : Nat) }) l.length (0 : Nat), vi (runA n l).slid, vi (0 : Int)] }
noncomputable def aliV_s3 (n : Nat) (l : List Int) (c : Nat) := (List.map (Value.int IntKind.i64) l)
noncomputable def aliV_s4 (n : Nat) (l : List Int) (c : Nat) := (List.map (Value.int IntKind.i64) (runA n l).lies)
noncomputable def aliV :=
fun (n : Nat) (l : List Int) (c : Nat) ↦ Ob ((List.take l.length (List.drop (0 : Nat) (aliV_s3 n l c)) = List.map (Value.int IntKind.i64) (aliV_s0 n l c) ∧ (0 : Nat) + l.length ≤ (aliV_s3 n l c).length ∧ true = true) ∧ errD (↑n : Int) (aliV_s0 n l c) = (0 : Int) ∧ (0 : Nat) < (aliV_s0 n l c).length ∧ (0 : Int) ≤ (↑n : Int)) ∧ (false = true → (Ob (AObj.ro (aliV_s3 n l c) = AObj.ro (List.map (nmap1 (nsub (1 : Nat) (2 : Nat))) (aliV_s3 n l c)) ∧ AObj.sc (2 : Nat) (AObj.ro (aliV_s3 n l c)) = true) ∧ Ob (AObj.rw (List.map (Value.int IntKind.i64) (runA (↑n : Int).toNat (aliV_s0 n l c)).lies) (some (1 : Nat)) = AObj.rw (List.map (nmap1 (nsub (1 : Nat) (2 : Nat))) (aliV_s4 n l c)) (some (1 : Nat)) ∧ AObj.sc (2 : Nat) (AObj.rw (aliV_s4 n l c) (some (1 : Nat))) = true) ∧ True) ∧ Ob (Value.tuple { toList := [Value.slice none (0 : Nat) (0 : Nat), vi (0 : Int), vi (0 : Int)] } = Value.tuple (aliV_s2 n l c)) ∧ True) ∧ (false = false → Ob (IntAt IntKind.i64 (aliV_s1 n l c) ((0 : Nat) + (10 : Nat))) ∧ (Ob (AObj.ro (aliV_s3 n l c) = AObj.ro (List.map (nmap1 (nsub (1 : Nat) (2 : Nat))) (aliV_s3 n l c)) ∧ AObj.sc (2 : Nat) (AObj.ro (aliV_s3 n l c)) = true) ∧ Ob (AObj.rw (List.map (Value.int IntKind.i64) (runA (↑n : Int).toNat (aliV_s0 n l c)).lies) (some (1 : Nat)) = AObj.rw (List.map (nmap1 (nsub (1 : Nat) (2 : Nat))) (aliV_s4 n l c)) (some (1 : Nat)) ∧ AObj.sc (2 : Nat) (AObj.rw (aliV_s4 n l c) (some (1 : Nat))) = true) ∧ True) ∧ Ob (Value.tuple { toList := [Value.slice (some { block := (1 : Nat) + (1 : Nat), off := (0 : Nat), spot := some (0 : Nat) }) (aliV_s0 n l c).length (0 : Nat), vi (getI (aliV_s1 n l c) ((0 : Nat) + (10 : Nat))), vi (0 : Int)] } = Value.tuple (aliV_s2 n l c)) ∧ True)
theorem aliV_eq : aliV = fun (n : Nat) (l : List Int) (c : Nat) => vc Try.prog apE 1 26 true (fun _ => none) aliB [] (argFr 0 [vi n, .slice (some ⟨0,0,none⟩) l.length c]) [ros l] (retR Try.prog Try.f19 1 (nsub 1 2) (.tuple #[newS 1 l.length, vi (runA n l).slid, vi 0]) [ros l, rws (runA n l).lies]) := by kernel_rfl
noncomputable def aliN_s0 (n : Nat) : Array Value := { toList := [Value.slice none (0 : Nat) (0 : Nat), vi (0 : Int), vi (0 : Int)] }
noncomputable def aliN :=
fun (n : Nat) ↦ Ob (errD (↑n : Int) [] = (0 : Int)) ∧ (false = true → True ∧ Ob (Value.tuple (aliN_s0 n) = Value.tuple (aliN_s0 n)) ∧ True) ∧ (false = false → Ob (some (vi (0 : Int)) = some (vi (0 : Int))) ∧ True ∧ Ob (Value.tuple (aliN_s0 n) = Value.tuple (aliN_s0 n)) ∧ True)
theorem aliN_eq : aliN = fun (n : Nat) => vc Try.prog apE 0 26 true (fun _ => none) aliB [] (argFr 0 [vi n, nilS]) [] (retR Try.prog Try.f19 0 (fun b => b) (.tuple #[nilS, vi 0, vi 0]) []) := by kernel_rfl
noncomputable def aliH_s0 (n : Nat) (s : Option Nat) (c : Nat) : Array Value := { toList := [Value.slice none (0 : Nat) (0 : Nat), vi (0 : Int), vi (0 : Int)] }
noncomputable def aliH :=
fun (n : Nat) (s : Option Nat) (c : Nat) ↦ Ob (errD (↑n : Int) [] = (0 : Int)) ∧ (false = true → True ∧ Ob (Value.tuple (aliH_s0 n s c) = Value.tuple (aliH_s0 n s c)) ∧ True) ∧ (false = false → Ob (some (vi (0 : Int)) = some (vi (0 : Int))) ∧ True ∧ Ob (Value.tuple (aliH_s0 n s c) = Value.tuple (aliH_s0 n s c)) ∧ True)
theorem aliH_eq : aliH = fun (n : Nat) (s : Option Nat) (c : Nat) => vc Try.prog apE 1 26 true (fun _ => none) aliB [] (argFr 0 [vi n, .slice (some ⟨0,0,s⟩) 0 c]) [.gone] (retR Try.prog Try.f19 1 (fun b => b) (.tuple #[nilS, vi 0, vi 0]) [.gone]) := by kernel_rfl
noncomputable def acrV_s0 (n : Nat) (l : List Int) (c : Nat) := (vi (↑n : Int) :: T8 ((runA (↑n : Int).toNat (List.take l.length (List.drop (0 : Nat) (intsOf (List.map (Value.int IntKind.i64) l))))).tk) [Value.slice (some { block := (1 : Nat) + (1 : Nat), off := (0 : Nat), spot := some (0 : Nat) }) (List.take l.length (List.drop (0 : Nat) (intsOf (List.map (Value.int IntKind.i64) l)))).length (0 : Nat), vi (runA (↑n : Int).toNat (List.take l.length (List.drop (0 : Nat) (intsOf (List.map (Value.int IntKind.i64) l))))).slid, vi (runA (↑n : Int).toNat (List.take l.length (List.drop (0 : Nat) (intsOf (List.map (Value.int IntKind.i64) l))))).fell])
noncomputable def acrV_s1 (n : Nat) (l : List Int) (c : Nat) := (List.take l.length (List.drop (0 : Nat) (intsOf (List.map (Value.int IntKind.i64) l))))
noncomputable def acrV :=
fun (n : Nat) (l : List Int) (c : Nat) ↦ Ob ((List.take l.length (List.drop (0 : Nat) (List.map (Value.int IntKind.i64) l)) = List.map (Value.int IntKind.i64) (acrV_s1 n l c) ∧ (0 : Nat) + l.length ≤ (List.map (Value.int IntKind.i64) l).length ∧ true = true) ∧ errD (↑n : Int) (acrV_s1 n l c) = (0 : Int) ∧ (0 : Nat) < (acrV_s1 n l c).length ∧ (0 : Int) ≤ (↑n : Int)) ∧ (false = true → True ∧ Ob (vi (0 : Int) = vi (ledC n l))) ∧ (false = false → Ob (IntAt IntKind.i64 (acrV_s0 n l c) ((0 : Nat) + (11 : Nat))) ∧ (decide ((0 : Int) < getI (acrV_s0 n l c) ((0 : Nat) + (11 : Nat))) = true → True ∧ Ob (vi (20 : Int) = vi (ledC n l))) ∧ (decide ((0 : Int) < getI (acrV_s0 n l c) ((0 : Nat) + (11 : Nat))) = false → True ∧ Ob (vi (0 : Int) = vi (ledC n l))))
theorem acrV_eq : acrV = fun (n : Nat) (l : List Int) (c : Nat) => vc Try.prog apE 1 21 true (fun _ => none) acrB [] (argFr 0 [vi n, .slice (some ⟨0,0,none⟩) l.length c]) [ros l] (retK Try.prog Try.f32 (fun v _ => v = vi (ledC n l))) := by kernel_rfl
noncomputable def acrN :=
fun (n : Nat) ↦ Ob (errD (↑n : Int) [] = (0 : Int)) ∧ (false = true → True ∧ Ob (vi (0 : Int) = vi (0 : Int))) ∧ (false = false → Ob (some (vi (0 : Int)) = some (vi (0 : Int))) ∧ (decide ((0 : Int) < (0 : Int)) = true → True ∧ Ob (vi (20 : Int) = vi (0 : Int))) ∧ (decide ((0 : Int) < (0 : Int)) = false → True ∧ Ob (vi (0 : Int) = vi (0 : Int))))
theorem acrN_eq : acrN = fun (n : Nat) => vc Try.prog apE 0 21 true (fun _ => none) acrB [] (argFr 0 [vi n, nilS]) [] (retK Try.prog Try.f32 (fun v _ => v = vi 0)) := by kernel_rfl
noncomputable def acrH :=
fun (n : Nat) (s : Option Nat) (c : Nat) ↦ Ob (errD (↑n : Int) [] = (0 : Int)) ∧ (false = true → True ∧ Ob (vi (0 : Int) = vi (0 : Int))) ∧ (false = false → Ob (some (vi (0 : Int)) = some (vi (0 : Int))) ∧ (decide ((0 : Int) < (0 : Int)) = true → True ∧ Ob (vi (20 : Int) = vi (0 : Int))) ∧ (decide ((0 : Int) < (0 : Int)) = false → True ∧ Ob (vi (0 : Int) = vi (0 : Int))))
theorem acrH_eq : acrH = fun (n : Nat) (s : Option Nat) (c : Nat) => vc Try.prog apE 1 21 true (fun _ => none) acrB [] (argFr 0 [vi n, .slice (some ⟨0,0,s⟩) 0 c]) [.gone] (retK Try.prog Try.f32 (fun v _ => v = vi 0)) := by kernel_rfl
theorem whL_cg {g g' : Nat → Bool} : ∀ {m : Nat}, (∀ i, i < m → g i = g' i) → whL g m = whL g' m
  | 0, _ => rfl
  | m + 1, h => by rw [whL_succ, whL_succ, whL_cg (m := m) fun i hi => h i (by omega), h m (by omega)]
theorem whL_fa {n : Nat} {tk : Nat → Bool} (hn : n ≤ 8) : whL (fA (Value.func (Fn.func 52) { toList := [Value.agg { toList := lgC n tk }] } { toList := [] })) (fN (lgC n tk)).toNat = whL tk n :=
  whL_cg (m := n) fun i hi => by
    have : i < 8 := by omega
    rcases i with _ | _ | _ | _ | _ | _ | _ | _ | i <;> first | rfl | omega
theorem whL_em {n : Nat} : whL emp n = [] := by
  unfold whL emp; simp
theorem T8_10 {t : Nat → Bool} {n x y : Int} {a : Value} : getI (vi n :: T8 t [a, vi x, vi y]) 10 = x := rfl
theorem T8_11 {t : Nat → Bool} {n x y : Int} {a : Value} : getI (vi n :: T8 t [a, vi x, vi y]) 11 = y := rfl
theorem T8_i10 {t : Nat → Bool} {n x y : Int} {a : Value} : IntAt .i64 (vi n :: T8 t [a, vi x, vi y]) 10 := rfl
theorem T8_i11 {t : Nat → Bool} {n x y : Int} {a : Value} : IntAt .i64 (vi n :: T8 t [a, vi x, vi y]) 11 := rfl
theorem lies_len {ar : Bool} {n : Nat} {l : List Int} (hl : ∀ x ∈ l, 0 ≤ x ∧ x < (n : Int)) : (runP ar n emp l).lies.length = l.length := by
  have := (stI_bd (ar := ar) (tk := emp) hl (Nat.le_refl l.length)).1
  rwa [stI_end (Nat.le_refl _)] at this
theorem afuV_ok (n : Nat) (l : List Int) (c : Nat) (he : errD n l = 0) (h0 : 0 < l.length) : afuV n l c := by
  obtain ⟨hn, hb, hl⟩ := pre_ok he
  unfold afuV afuV_s6 afuV_s5 afuV_s4 afuV_s3 afuV_s2 afuV_s1 afuV_s0
  simp only [SS, reduceCtorEq, Arg.list, Arg.num, Arg.flag, intOf, andP, Nat.reduceLeDiff, Nat.reduceAdd, Nat.reduceMul, Nat.reduceLT, whL_fa hn, he, T8_10, T8_11, T8_i10, T8_i11, madeA]
  exact ⟨⟨h0, by omega⟩, rfl, by show (0 : Int) ≤ n; omega, by show (n : Int) ≤ 8; omega, rfl⟩
theorem afuN_ok (n : Nat) (he : errD n [] = 0) : afuN n := by
  obtain ⟨hn, hb, hl⟩ := pre_ok he
  unfold afuN afuN_s1 afuN_s0
  simp only [SS, reduceCtorEq, Arg.list, Arg.num, Arg.flag, intOf, andP, Nat.reduceLeDiff, Nat.reduceAdd, Nat.reduceMul, Nat.reduceLT, whL_fa hn, he, T8_10, T8_11, T8_i10, T8_i11, madeA, whL_em]
  refine ⟨⟨rfl, by show (0 : Int) ≤ n; omega, by show (n : Int) ≤ 8; omega, rfl⟩, ?_⟩
  rfl
theorem afuH_ok (n : Nat) (s : Option Nat) (c : Nat) (he : errD n [] = 0) : afuH n s c := by
  obtain ⟨hn, hb, hl⟩ := pre_ok he
  unfold afuH afuH_s1 afuH_s0
  simp only [SS, reduceCtorEq, Arg.list, Arg.num, Arg.flag, intOf, andP, Nat.reduceLeDiff, Nat.reduceAdd, Nat.reduceMul, Nat.reduceLT, whL_fa hn, he, T8_10, T8_11, T8_i10, T8_i11, madeA, whL_em]
  refine ⟨⟨rfl, by show (0 : Int) ≤ n; omega, by show (n : Int) ≤ 8; omega, rfl⟩, ?_⟩
  rfl
theorem aliV_ok (n : Nat) (l : List Int) (c : Nat) (he : errD n l = 0) (h0 : 0 < l.length) : aliV n l c := by
  unfold aliV aliV_s4 aliV_s3 aliV_s2 aliV_s1 aliV_s0
  simp only [SS, reduceCtorEq, Arg.list, Arg.num, Arg.flag, intOf, andP, Nat.reduceLeDiff, Nat.reduceAdd, Nat.reduceMul, Nat.reduceLT, he, T8_10, T8_11, T8_i10, T8_i11]
  exact ⟨h0, by omega⟩
theorem aliN_ok (n : Nat) (he : errD n [] = 0) : aliN n := by
  unfold aliN aliN_s0
  simp only [SS, reduceCtorEq, Arg.list, Arg.num, Arg.flag, intOf, andP, Nat.reduceLeDiff, Nat.reduceAdd, Nat.reduceMul, Nat.reduceLT, he, nilS]
theorem aliH_ok (n : Nat) (s : Option Nat) (c : Nat) (he : errD n [] = 0) : aliH n s c := by
  unfold aliH aliH_s0
  simp only [SS, reduceCtorEq, Arg.list, Arg.num, Arg.flag, intOf, andP, Nat.reduceLeDiff, Nat.reduceAdd, Nat.reduceMul, Nat.reduceLT, he, nilS]
theorem fell_nn {ar : Bool} {n : Nat} {l : List Int} (hl : ∀ x ∈ l, 0 ≤ x ∧ x < (n : Int)) : 0 ≤ (runP ar n emp l).fell := by
  have := (stI_bd (ar := ar) (tk := emp) hl (Nat.le_refl l.length)).2.2.2.1
  rwa [stI_end (Nat.le_refl _)] at this
theorem acrV_ok (n : Nat) (l : List Int) (c : Nat) (he : errD n l = 0) (h0 : 0 < l.length) : acrV n l c := by
  obtain ⟨hn, hb, hl⟩ := pre_ok he
  have hf : 0 ≤ (runA n l).fell := fell_nn (ar := false) hb
  unfold acrV acrV_s1 acrV_s0
  simp only [SS, reduceCtorEq, Arg.list, Arg.num, Arg.flag, intOf, andP, Nat.reduceLeDiff, Nat.reduceAdd, Nat.reduceMul, Nat.reduceLT, he, T8_10, T8_11, T8_i10, T8_i11, ledC]
  exact ⟨⟨h0, by omega⟩, fun h => by rw [if_neg (by omega)], fun h => by rw [if_pos (by omega)]⟩
theorem acrN_ok (n : Nat) (he : errD n [] = 0) : acrN n := by
  unfold acrN
  simp only [SS, reduceCtorEq, Arg.list, Arg.num, Arg.flag, intOf, andP, Nat.reduceLeDiff, Nat.reduceAdd, Nat.reduceMul, Nat.reduceLT, he]
  exact fun h => absurd h (by decide)
theorem acrH_ok (n : Nat) (s : Option Nat) (c : Nat) (he : errD n [] = 0) : acrH n s c := by
  unfold acrH
  simp only [SS, reduceCtorEq, Arg.list, Arg.num, Arg.flag, intOf, andP, Nat.reduceLeDiff, Nat.reduceAdd, Nat.reduceMul, Nat.reduceLT, he]
  exact fun h => absurd h (by decide)
theorem good_list {p : Prop} {s : Option Nat} {k c : Nat} {u v : Int} {l : List Int} {r : Option Nat} : Fresh.Good ⟨p, fun b => .tuple #[.slice (some ⟨b, 0, s⟩) k c, vi u, vi v], fun _ => [.rw (l.map (.int .i64)) r]⟩ where
  val e n := by simp [nmap, nmap2, nmap1, nmap0, am]
  new e n := omap_one
  ro n := mem_one rfl
  nmv n := by simp [nm, nm2, nm1, nm0]
  nmn n := mem_one nm_ints
  scv n := by simp [sc, sc2, sc1, sc0]
  scn n := mem_one sc_ints
theorem good_one {p : Prop} {s : Option Nat} {k c : Nat} {l : List Int} {r : Option Nat} : Fresh.Good ⟨p, fun b => .slice (some ⟨b, 0, s⟩) k c, fun _ => [.rw (l.map (.int .i64)) r]⟩ where
  val e n := by simp [nmap, nmap2, nmap1, nmap0, am]
  new e n := omap_one
  ro n := mem_one rfl
  nmv n := by simp [nm, nm2, nm1, nm0]
  nmn n := mem_one nm_ints
  scv n := by simp [sc, sc2, sc1, sc0]
  scn n := mem_one sc_ints
def afullS (r : List Arg) : Option Fresh := match r with
  | [p, .ints _ l] => some ⟨errD p.num l = 0 ∧ 0 < l.length, fun b => .tuple #[madeS b (whL (runA p.num.toNat l).tk p.num.toNat).length, vi (runA p.num.toNat l).fell, vi 0], fun _ => [madeA (whL (runA p.num.toNat l).tk p.num.toNat)]⟩
  | [p, _] => some ⟨errD p.num [] = 0, fun b => .tuple #[madeS b (whL emp p.num.toNat).length, vi 0, vi 0], fun _ => [madeA (whL emp p.num.toNat)]⟩
  | _ => none
def alieS (r : List Arg) : Option Fresh := match r with
  | [p, .ints _ l] => some ⟨errD p.num l = 0 ∧ 0 < l.length, fun b => .tuple #[newS b l.length, vi (runA p.num.toNat l).slid, vi 0], fun _ => [rws (runA p.num.toNat l).lies]⟩
  | [p, _] => some ⟨errD p.num [] = 0, fun _ => .tuple #[nilS, vi 0, vi 0], fun _ => []⟩
  | _ => none
def arowS (r : List Arg) : Prop × Value := match r with
  | [p, .ints _ l] => (errD p.num l = 0 ∧ 0 < l.length, vi (ledC p.num.toNat l))
  | [p, _] => (errD p.num [] = 0, vi 0)
  | _ => (False, undef)
theorem apE_ok : VOk Try.prog apE := VOk.ofCt (((CtOk.none.add cdG_ok).add pushedG_ok).add whTG_ok)
theorem sc0_lie0 : sc 0 (.tuple #[nilS, vi 0, vi 0]) = true := by simp [nilS, sc, sc2, sc1, sc0]
abbrev psA : List PK := [.int .i64, .ints .i64]
theorem afullG_ok : ∀ args H φ v H' l, freshG psA afullS args H = some (φ, v, H', l) → Asks φ → Call Try.prog 21 args H (fun v' H2 => v' = v ∧ H2 = H') ∧ Kept H H' l :=
  freshG_ok fun r s hk hs hψ => match r, hk with
    | [_, _], ⟨⟨p, rfl⟩, ha, _⟩ => by
      rcases ha with rfl | ⟨s, rfl⟩ | ⟨l, rfl⟩ <;> cases hs
      · obtain ⟨n, rfl⟩ : ∃ n : Nat, p = n := errD_pos hψ
        exact ⟨good_list, fun caps => Call.ofVcR apE_ok mixed (c := afuB) Try.func21 (by kernel_rfl) (cast (congrFun afuN_eq n) (afuN_ok n hψ))⟩
      · obtain ⟨n, rfl⟩ : ∃ n : Nat, p = n := errD_pos hψ
        exact ⟨good_list, fun caps => Call.ofVcR apE_ok mixed (c := afuB) Try.func21 (by kernel_rfl) (cast (congrFun (congrFun (congrFun afuH_eq n) s) _) (afuH_ok n s _ hψ))⟩
      · obtain ⟨n, rfl⟩ : ∃ n : Nat, p = n := errD_pos hψ.1
        exact ⟨good_list, fun caps => Call.ofVcR apE_ok mixed (c := afuB) Try.func21 (by kernel_rfl) (cast (congrFun (congrFun (congrFun afuV_eq n) l) _) (afuV_ok n l _ hψ.1 hψ.2))⟩
theorem alieG_ok : ∀ args H φ v H' l, freshG psA alieS args H = some (φ, v, H', l) → Asks φ → Call Try.prog 19 args H (fun v' H2 => v' = v ∧ H2 = H') ∧ Kept H H' l :=
  freshG_ok fun r s hk hs hψ => match r, hk with
    | [_, _], ⟨⟨p, rfl⟩, ha, _⟩ => by
      rcases ha with rfl | ⟨s, rfl⟩ | ⟨l, rfl⟩ <;> cases hs
      · obtain ⟨n, rfl⟩ : ∃ n : Nat, p = n := errD_pos hψ
        exact ⟨fresh_plain sc0_lie0, fun caps => Call.ofVcR apE_ok mixed (c := aliB) Try.func19 (by kernel_rfl) (cast (congrFun aliN_eq n) (aliN_ok n hψ))⟩
      · obtain ⟨n, rfl⟩ : ∃ n : Nat, p = n := errD_pos hψ
        exact ⟨fresh_plain sc0_lie0, fun caps => Call.ofVcR apE_ok mixed (c := aliB) Try.func19 (by kernel_rfl) (cast (congrFun (congrFun (congrFun aliH_eq n) s) _) (aliH_ok n s _ hψ))⟩
      · obtain ⟨n, rfl⟩ : ∃ n : Nat, p = n := errD_pos hψ.1
        exact ⟨good_list, fun caps => Call.ofVcR apE_ok mixed (c := aliB) Try.func19 (by kernel_rfl) (cast (congrFun (congrFun (congrFun aliV_eq n) l) _) (aliV_ok n l _ hψ.1 hψ.2))⟩
theorem arowG_ok : ∀ args H φ v H' l, pureG psA arowS args H = some (φ, v, H', l) → Asks φ → Call Try.prog 32 args H (fun v' H2 => v' = v ∧ H2 = H') ∧ Kept H H' l :=
  pureG_ok fun r hk hs => match r, hk with
    | [_, _], ⟨⟨p, rfl⟩, ha, _⟩ => by
      rcases ha with rfl | ⟨s, rfl⟩ | ⟨l, rfl⟩
      · obtain ⟨n, rfl⟩ : ∃ n : Nat, p = n := errD_pos hs
        exact ⟨rfl, fun caps => Call.ofVc apE_ok mixed (c := acrB) Try.func32 (by kernel_rfl) (cast (congrFun acrN_eq n) (acrN_ok n hs))⟩
      · obtain ⟨n, rfl⟩ : ∃ n : Nat, p = n := errD_pos hs
        exact ⟨rfl, fun caps => Call.ofVc apE_ok mixed (c := acrB) Try.func32 (by kernel_rfl) (cast (congrFun (congrFun (congrFun acrH_eq n) s) _) (acrH_ok n s _ hs))⟩
      · obtain ⟨n, rfl⟩ : ∃ n : Nat, p = n := errD_pos hs.1
        exact ⟨rfl, fun caps => Call.ofVc apE_ok mixed (c := acrB) Try.func32 (by kernel_rfl) (cast (congrFun (congrFun (congrFun acrV_eq n) l) _) (acrV_ok n l _ hs.1 hs.2))⟩
end Go.Pier.Lg
set_option maxRecDepth 100000
set_option linter.unusedVariables false
set_option linter.unusedSimpArgs false
namespace Go.Pier.Lg
open Go Go.Pier Go.Proofs
def dr0I (n : Int) (sv : Value) (H : Heap) : Nat → Option LInv := invOf 0 (LInv.one Unit (fun _ => True) (fun _ => [(0, vi n), (1, sv), (5, .slice none 0 0), (6, vi 0)]) (fun _ => H) (fun _ => 0))
noncomputable def drN :=
fun (n : Int) ↦ (∃ (y : Unit), Ob True ∧ True ∧ Ob (n = n) ∧ Ob (Value.slice none (0 : Nat) (0 : Nat) = Value.slice none (0 : Nat) (0 : Nat)) ∧ Ob (Value.slice none (0 : Nat) (0 : Nat) = Value.slice none (0 : Nat) (0 : Nat)) ∧ Ob ((0 : Int) = (0 : Int)) ∧ True) ∧ ∀ (x : Unit), Ob True → (false = true → (true = true → False) ∧ (true = false → True ∧ Ob (Value.slice none (0 : Nat) (0 : Nat) = Value.slice none (0 : Nat) (0 : Nat)) ∧ True)) ∧ (false = false → True ∧ Ob (Value.slice none (0 : Nat) (0 : Nat) = Value.slice none (0 : Nat) (0 : Nat)) ∧ True)
theorem drN_eq : drN = fun (n : Int) => vc Try.prog {} 0 28 true (dr0I n nilS []) drB [] (argFr 0 [vi n, nilS]) [] (retR Try.prog Try.f43 0 (fun b => b) nilS []) := by kernel_rfl
noncomputable def drH :=
fun (n : Int) (s : Option Nat) (c : Nat) ↦ (∃ (y : Unit), Ob True ∧ True ∧ Ob (n = n) ∧ Ob (Value.slice (some { block := (0 : Nat), off := (0 : Nat), spot := s }) (0 : Nat) c = Value.slice (some { block := (0 : Nat), off := (0 : Nat), spot := s }) (0 : Nat) c) ∧ Ob (Value.slice none (0 : Nat) (0 : Nat) = Value.slice none (0 : Nat) (0 : Nat)) ∧ Ob ((0 : Int) = (0 : Int)) ∧ True) ∧ ∀ (x : Unit), Ob True → (false = true → (true = true → Ob ((0 : Int) ≤ (0 : Int) ∧ (0 : Int) < (↑(0 : Nat) : Int) ∧ std { block := (0 : Nat), off := (0 : Nat), spot := s } c = true) ∧ False) ∧ (true = false → True ∧ Ob (Value.slice none (0 : Nat) (0 : Nat) = Value.slice none (0 : Nat) (0 : Nat)) ∧ True)) ∧ (false = false → True ∧ Ob (Value.slice none (0 : Nat) (0 : Nat) = Value.slice none (0 : Nat) (0 : Nat)) ∧ True)
theorem drH_eq : drH = fun (n : Int) (s : Option Nat) (c : Nat) => vc Try.prog {} 1 28 true (dr0I n (.slice (some ⟨0,0,s⟩) 0 c) [.gone]) drB [] (argFr 0 [vi n, .slice (some ⟨0,0,s⟩) 0 c]) [.gone] (retR Try.prog Try.f43 1 (fun b => b) nilS [.gone]) := by kernel_rfl
theorem drN_ok (n : Int) : drN n := by
  unfold drN
  simp only [SS, reduceCtorEq, Arg.list, Arg.num, Arg.flag, intOf, andP, Nat.reduceLeDiff, Nat.reduceAdd, Nat.reduceMul, Nat.reduceLT]
theorem drH_ok (n : Int) (s : Option Nat) (c : Nat) : drH n s c := by
  unfold drH
  simp only [SS, reduceCtorEq, Arg.list, Arg.num, Arg.flag, intOf, andP, Nat.reduceLeDiff, Nat.reduceAdd, Nat.reduceMul, Nat.reduceLT]
def u8s (l : List Int) : Prop := ∀ x ∈ l, 0 ≤ x ∧ x < 256
def dpdS (r : List Arg) : Option Fresh := match r with
  | [p, .ints _ l] => some ⟨(0 < p.num ∧ p.num ≤ 8) ∧ 0 < l.length ∧ u8s l ∧ l.length ≤ 30, fun b => newS b (dropped p.num l).length, fun _ => [rws (dropped p.num l)]⟩
  | [_, _] => some ⟨True, fun _ => nilS, fun _ => []⟩
  | _ => none
theorem sc0_nil : sc 0 nilS = true := by simp [nilS, sc, sc2, sc1, sc0]
theorem dpdG_ok : ∀ args H φ v H' l, freshG [.int .i64, .ints .u8] dpdS args H = some (φ, v, H', l) → Asks φ → Call Try.prog 43 args H (fun v' H2 => v' = v ∧ H2 = H') ∧ Kept H H' l :=
  freshG_ok fun r s hk hs hψ => match r, hk with
    | [_, _], ⟨⟨p, rfl⟩, ha, _⟩ => by
      rcases ha with rfl | ⟨s, rfl⟩ | ⟨l, rfl⟩ <;> cases hs
      · exact ⟨fresh_plain sc0_nil, fun caps => Call.ofVcR (VOk.ofCt CtOk.none) mixed (c := drB) (inv := dr0I p nilS []) Try.func43 (by kernel_rfl) (cast (congrFun drN_eq p) (drN_ok p))⟩
      · exact ⟨fresh_plain sc0_nil, fun caps => Call.ofVcR (VOk.ofCt CtOk.none) mixed (c := drB) (inv := dr0I p (.slice (some ⟨0,0,s⟩) 0 _) [.gone]) Try.func43 (by kernel_rfl) (cast (congrFun (congrFun (congrFun drH_eq p) s) _) (drH_ok p s _))⟩
      · exact ⟨good_one, fun caps => dr_call p l _ hψ.1 hψ.2.1 hψ.2.2.1 hψ.2.2.2⟩
end Go.Pier.Lg
set_option maxRecDepth 100000
set_option linter.unusedVariables false
set_option linter.unusedSimpArgs false
namespace Go.Pier.Lg
open Go Go.Pier Go.Proofs
end Go.Pier.Lg
set_option maxRecDepth 100000
set_option linter.unusedVariables false
set_option linter.unusedSimpArgs false
namespace Go.Pier.Lg
open Go Go.Pier Go.Proofs
end Go.Pier.Lg
