/-
  Pier: PierLcounted.
-/
import Derived.Test.YtinkmgacaoohnaaPierMC2
import Derived.Test.YtinkmgacaoohnaaPierLgW
import Derived.KernelRfl
set_option linter.unusedSimpArgs false
set_option linter.unusedVariables false
set_option maxRecDepth 100000
set_option linter.unusedVariables false
set_option linter.unusedSimpArgs false
namespace Go.Pier.Lg
open Go Go.Pier Go.Proofs 
noncomputable def ctB : Code := Try.f12.body.getD .skip
def rowsS2 : List Value → Option (Prop × Value) := fun args => match args with
  | [.int .i64 p, .int .i64 m] => some ((1 ≤ p ∧ p ≤ 8) ∧ 0 ≤ m ∧ m ≤ 12, vi (rowsF p m))
  | _ => none
def worksS (r : List Arg) : Prop × Value := match r with | [] => (True, .bool true) | _ => (False, undef)
def plcd (a : Int) : Int := 1 + a % 8
def ctI (a b : Int) : Nat → Option LInv := invOf 0 (LInv.one Nat (fun i => 1 ≤ i ∧ (i : Int) ≤ b % 13)
  (fun i => [(4, .bool false), (5, vi (plcd a)), (6, vi (b % 13)), (7, vi (rowsF (plcd a) (b % 13))), (9, vi ((plcd a + 1 - b % 13) * (plcd a + 1) ^ (i - 1))), (10, vi i)]) (fun _ => []) (fun i => (b % 13 - i).toNat))
noncomputable def ctC : Ct := ((Ct.none.add 65 (pureG [.int .i64, .int .i64, .ints .i64] wiS)).add 66 (plainG rowsS2)).add 18 (pureG [] worksS)
noncomputable def ctE1 : VEnv := { ct := ctC }
noncomputable def ctE2 : VEnv := { ct := ctC, cc := ccIn Try.prog ctE1 [⟨54, Try.f54, fun _ _ _ => none⟩] }
noncomputable def ctE : VEnv := { ct := ctC, cc := ccIn Try.prog ctE2 [⟨42, Try.f42, fun _ _ _ => none⟩, ⟨34, Try.f34, fun _ _ _ => none⟩] }
noncomputable def ctV :=
fun (a b : Int) ↦ Ob ((8 : Int) ≠ (0 : Int)) ∧ Ob ((13 : Int) ≠ (0 : Int)) ∧ Ob (([vi (IntKind.i64.wrap ((1 : Int) + (IntKind.i64.wrap a).tmod (8 : Int)))] = [vi (intOf (vi (IntKind.i64.wrap ((1 : Int) + (IntKind.i64.wrap a).tmod (8 : Int)))))] ∧ (1 : Nat) ≤ (1 : Nat) ∧ true = true) ∧ (1 : Nat) ≤ (1000000 : Nat)) ∧ ((!wiF (Arg.plain (vi (1 : Int))).num (Arg.plain (vi (8 : Int))).num [intOf (vi (IntKind.i64.wrap ((1 : Int) + (IntKind.i64.wrap a).tmod (8 : Int))))]) = true → (true = true → True ∧ Ob (Value.bool false = Value.bool true)) ∧ (true = false → (((IntKind.i64.wrap b).tmod (13 : Int) == (0 : Int)) = true → (false = true → Ob True ∧ True ∧ Ob (Value.bool true = Value.bool true)) ∧ (false = false → True ∧ Ob (Value.bool false = Value.bool true))) ∧ (((IntKind.i64.wrap b).tmod (13 : Int) == (0 : Int)) = false → (decide (IntKind.i64.wrap ((1 : Int) + (IntKind.i64.wrap a).tmod (8 : Int)) < (IntKind.i64.wrap b).tmod (13 : Int)) = true → (true = true → Ob True ∧ True ∧ Ob (Value.bool true = Value.bool true)) ∧ (true = false → True ∧ Ob (Value.bool false = Value.bool true))) ∧ (decide (IntKind.i64.wrap ((1 : Int) + (IntKind.i64.wrap a).tmod (8 : Int)) < (IntKind.i64.wrap b).tmod (13 : Int)) = false → (∃ (y : Nat), Ob ((1 : Nat) ≤ y ∧ (↑y : Int) ≤ b % (13 : Int)) ∧ True ∧ Ob (false = false) ∧ Ob (IntKind.i64.wrap ((1 : Int) + (IntKind.i64.wrap a).tmod (8 : Int)) = plcd a) ∧ Ob ((IntKind.i64.wrap b).tmod (13 : Int) = b % (13 : Int)) ∧ Ob ((0 : Int) = rowsF (plcd a) (b % (13 : Int))) ∧ Ob (IntKind.i64.wrap (IntKind.i64.wrap (IntKind.i64.wrap ((1 : Int) + (IntKind.i64.wrap a).tmod (8 : Int)) + (1 : Int)) - (IntKind.i64.wrap b).tmod (13 : Int)) = (plcd a + (1 : Int) - b % (13 : Int)) * (plcd a + (1 : Int)) ^ (y - (1 : Nat))) ∧ Ob ((1 : Int) = (↑y : Int)) ∧ True) ∧ ∀ (x : Nat), Ob ((1 : Nat) ≤ x ∧ (↑x : Int) ≤ b % (13 : Int)) → (decide ((↑x : Int) < b % (13 : Int)) = true → ∃ (y : Nat), Ob ((1 : Nat) ≤ y ∧ (↑y : Int) ≤ b % (13 : Int)) ∧ Ob ((b % (13 : Int) - (↑y : Int)).toNat < (b % (13 : Int) - (↑x : Int)).toNat) ∧ True ∧ Ob (false = false) ∧ Ob (plcd a = plcd a) ∧ Ob (b % (13 : Int) = b % (13 : Int)) ∧ Ob (rowsF (plcd a) (b % (13 : Int)) = rowsF (plcd a) (b % (13 : Int))) ∧ Ob (IntKind.i64.wrap ((plcd a + (1 : Int) - b % (13 : Int)) * (plcd a + (1 : Int)) ^ (x - (1 : Nat)) * IntKind.i64.wrap (plcd a + (1 : Int))) = (plcd a + (1 : Int) - b % (13 : Int)) * (plcd a + (1 : Int)) ^ (y - (1 : Nat))) ∧ Ob (IntKind.i64.wrap ((↑x : Int) + (1 : Int)) = (↑y : Int)) ∧ True) ∧ (decide ((↑x : Int) < b % (13 : Int)) = false → ((rowsF (plcd a) (b % (13 : Int)) == (plcd a + (1 : Int) - b % (13 : Int)) * (plcd a + (1 : Int)) ^ (x - (1 : Nat))) = true → Ob True ∧ True ∧ Ob (Value.bool true = Value.bool true)) ∧ ((rowsF (plcd a) (b % (13 : Int)) == (plcd a + (1 : Int) - b % (13 : Int)) * (plcd a + (1 : Int)) ^ (x - (1 : Nat))) = false → True ∧ Ob (Value.bool false = Value.bool true))))))) ∧ ((!wiF (Arg.plain (vi (1 : Int))).num (Arg.plain (vi (8 : Int))).num [intOf (vi (IntKind.i64.wrap ((1 : Int) + (IntKind.i64.wrap a).tmod (8 : Int))))]) = false → Ob (([vi ((IntKind.i64.wrap b).tmod (13 : Int))] = [vi (intOf (vi ((IntKind.i64.wrap b).tmod (13 : Int))))] ∧ (0 : Nat) + (1 : Nat) ≤ (1 : Nat) ∧ true = true) ∧ (1 : Nat) ≤ (1000000 : Nat)) ∧ ((!wiF (Arg.plain (vi (0 : Int))).num (Arg.plain (vi (12 : Int))).num [intOf (vi ((IntKind.i64.wrap b).tmod (13 : Int)))]) = true → (true = true → True ∧ Ob (Value.bool false = Value.bool true)) ∧ (true = false → (((IntKind.i64.wrap b).tmod (13 : Int) == (0 : Int)) = true → (false = true → Ob True ∧ True ∧ Ob (Value.bool true = Value.bool true)) ∧ (false = false → True ∧ Ob (Value.bool false = Value.bool true))) ∧ (((IntKind.i64.wrap b).tmod (13 : Int) == (0 : Int)) = false → (decide (IntKind.i64.wrap ((1 : Int) + (IntKind.i64.wrap a).tmod (8 : Int)) < (IntKind.i64.wrap b).tmod (13 : Int)) = true → (true = true → Ob True ∧ True ∧ Ob (Value.bool true = Value.bool true)) ∧ (true = false → True ∧ Ob (Value.bool false = Value.bool true))) ∧ (decide (IntKind.i64.wrap ((1 : Int) + (IntKind.i64.wrap a).tmod (8 : Int)) < (IntKind.i64.wrap b).tmod (13 : Int)) = false → (∃ (y : Nat), Ob ((1 : Nat) ≤ y ∧ (↑y : Int) ≤ b % (13 : Int)) ∧ True ∧ Ob (false = false) ∧ Ob (IntKind.i64.wrap ((1 : Int) + (IntKind.i64.wrap a).tmod (8 : Int)) = plcd a) ∧ Ob ((IntKind.i64.wrap b).tmod (13 : Int) = b % (13 : Int)) ∧ Ob ((0 : Int) = rowsF (plcd a) (b % (13 : Int))) ∧ Ob (IntKind.i64.wrap (IntKind.i64.wrap (IntKind.i64.wrap ((1 : Int) + (IntKind.i64.wrap a).tmod (8 : Int)) + (1 : Int)) - (IntKind.i64.wrap b).tmod (13 : Int)) = (plcd a + (1 : Int) - b % (13 : Int)) * (plcd a + (1 : Int)) ^ (y - (1 : Nat))) ∧ Ob ((1 : Int) = (↑y : Int)) ∧ True) ∧ ∀ (x : Nat), Ob ((1 : Nat) ≤ x ∧ (↑x : Int) ≤ b % (13 : Int)) → (decide ((↑x : Int) < b % (13 : Int)) = true → ∃ (y : Nat), Ob ((1 : Nat) ≤ y ∧ (↑y : Int) ≤ b % (13 : Int)) ∧ Ob ((b % (13 : Int) - (↑y : Int)).toNat < (b % (13 : Int) - (↑x : Int)).toNat) ∧ True ∧ Ob (false = false) ∧ Ob (plcd a = plcd a) ∧ Ob (b % (13 : Int) = b % (13 : Int)) ∧ Ob (rowsF (plcd a) (b % (13 : Int)) = rowsF (plcd a) (b % (13 : Int))) ∧ Ob (IntKind.i64.wrap ((plcd a + (1 : Int) - b % (13 : Int)) * (plcd a + (1 : Int)) ^ (x - (1 : Nat)) * IntKind.i64.wrap (plcd a + (1 : Int))) = (plcd a + (1 : Int) - b % (13 : Int)) * (plcd a + (1 : Int)) ^ (y - (1 : Nat))) ∧ Ob (IntKind.i64.wrap ((↑x : Int) + (1 : Int)) = (↑y : Int)) ∧ True) ∧ (decide ((↑x : Int) < b % (13 : Int)) = false → ((rowsF (plcd a) (b % (13 : Int)) == (plcd a + (1 : Int) - b % (13 : Int)) * (plcd a + (1 : Int)) ^ (x - (1 : Nat))) = true → Ob True ∧ True ∧ Ob (Value.bool true = Value.bool true)) ∧ ((rowsF (plcd a) (b % (13 : Int)) == (plcd a + (1 : Int) - b % (13 : Int)) * (plcd a + (1 : Int)) ^ (x - (1 : Nat))) = false → True ∧ Ob (Value.bool false = Value.bool true))))))) ∧ ((!wiF (Arg.plain (vi (0 : Int))).num (Arg.plain (vi (12 : Int))).num [intOf (vi ((IntKind.i64.wrap b).tmod (13 : Int)))]) = false → Ob (((1 : Int) ≤ IntKind.i64.wrap ((1 : Int) + (IntKind.i64.wrap a).tmod (8 : Int)) ∧ IntKind.i64.wrap ((1 : Int) + (IntKind.i64.wrap a).tmod (8 : Int)) ≤ (8 : Int)) ∧ (0 : Int) ≤ (IntKind.i64.wrap b).tmod (13 : Int) ∧ (IntKind.i64.wrap b).tmod (13 : Int) ≤ (12 : Int)) ∧ (false = true → True ∧ Ob (Value.bool false = Value.bool true)) ∧ (false = false → (((IntKind.i64.wrap b).tmod (13 : Int) == (0 : Int)) = true → ((rowsF (IntKind.i64.wrap ((1 : Int) + (IntKind.i64.wrap a).tmod (8 : Int))) ((IntKind.i64.wrap b).tmod (13 : Int)) == (1 : Int)) = true → Ob True ∧ True ∧ Ob (Value.bool true = Value.bool true)) ∧ ((rowsF (IntKind.i64.wrap ((1 : Int) + (IntKind.i64.wrap a).tmod (8 : Int))) ((IntKind.i64.wrap b).tmod (13 : Int)) == (1 : Int)) = false → True ∧ Ob (Value.bool false = Value.bool true))) ∧ (((IntKind.i64.wrap b).tmod (13 : Int) == (0 : Int)) = false → (decide (IntKind.i64.wrap ((1 : Int) + (IntKind.i64.wrap a).tmod (8 : Int)) < (IntKind.i64.wrap b).tmod (13 : Int)) = true → ((rowsF (IntKind.i64.wrap ((1 : Int) + (IntKind.i64.wrap a).tmod (8 : Int))) ((IntKind.i64.wrap b).tmod (13 : Int)) == (0 : Int)) = true → Ob True ∧ True ∧ Ob (Value.bool true = Value.bool true)) ∧ ((rowsF (IntKind.i64.wrap ((1 : Int) + (IntKind.i64.wrap a).tmod (8 : Int))) ((IntKind.i64.wrap b).tmod (13 : Int)) == (0 : Int)) = false → True ∧ Ob (Value.bool false = Value.bool true))) ∧ (decide (IntKind.i64.wrap ((1 : Int) + (IntKind.i64.wrap a).tmod (8 : Int)) < (IntKind.i64.wrap b).tmod (13 : Int)) = false → (∃ (y : Nat), Ob ((1 : Nat) ≤ y ∧ (↑y : Int) ≤ b % (13 : Int)) ∧ True ∧ Ob (false = false) ∧ Ob (IntKind.i64.wrap ((1 : Int) + (IntKind.i64.wrap a).tmod (8 : Int)) = plcd a) ∧ Ob ((IntKind.i64.wrap b).tmod (13 : Int) = b % (13 : Int)) ∧ Ob (rowsF (IntKind.i64.wrap ((1 : Int) + (IntKind.i64.wrap a).tmod (8 : Int))) ((IntKind.i64.wrap b).tmod (13 : Int)) = rowsF (plcd a) (b % (13 : Int))) ∧ Ob (IntKind.i64.wrap (IntKind.i64.wrap (IntKind.i64.wrap ((1 : Int) + (IntKind.i64.wrap a).tmod (8 : Int)) + (1 : Int)) - (IntKind.i64.wrap b).tmod (13 : Int)) = (plcd a + (1 : Int) - b % (13 : Int)) * (plcd a + (1 : Int)) ^ (y - (1 : Nat))) ∧ Ob ((1 : Int) = (↑y : Int)) ∧ True) ∧ ∀ (x : Nat), Ob ((1 : Nat) ≤ x ∧ (↑x : Int) ≤ b % (13 : Int)) → (decide ((↑x : Int) < b % (13 : Int)) = true → ∃ (y : Nat), Ob ((1 : Nat) ≤ y ∧ (↑y : Int) ≤ b % (13 : Int)) ∧ Ob ((b % (13 : Int) - (↑y : Int)).toNat < (b % (13 : Int) - (↑x : Int)).toNat) ∧ True ∧ Ob (false = false) ∧ Ob (plcd a = plcd a) ∧ Ob (b % (13 : Int) = b % (13 : Int)) ∧ Ob (rowsF (plcd a) (b % (13 : Int)) = rowsF (plcd a) (b % (13 : Int))) ∧ Ob (IntKind.i64.wrap ((plcd a + (1 : Int) - b % (13 : Int)) * (plcd a + (1 : Int)) ^ (x - (1 : Nat)) * IntKind.i64.wrap (plcd a + (1 : Int))) = (plcd a + (1 : Int) - b % (13 : Int)) * (plcd a + (1 : Int)) ^ (y - (1 : Nat))) ∧ Ob (IntKind.i64.wrap ((↑x : Int) + (1 : Int)) = (↑y : Int)) ∧ True) ∧ (decide ((↑x : Int) < b % (13 : Int)) = false → ((rowsF (plcd a) (b % (13 : Int)) == (plcd a + (1 : Int) - b % (13 : Int)) * (plcd a + (1 : Int)) ^ (x - (1 : Nat))) = true → Ob True ∧ True ∧ Ob (Value.bool true = Value.bool true)) ∧ ((rowsF (plcd a) (b % (13 : Int)) == (plcd a + (1 : Int) - b % (13 : Int)) * (plcd a + (1 : Int)) ^ (x - (1 : Nat))) = false → True ∧ Ob (Value.bool false = Value.bool true))))))))
theorem ctV_eq : ctV = fun (a b : Int) => vc Try.prog ctE 0 58 true (ctI a b) ctB [] (argFr 0 [.int .u8 a, .int .u8 b]) [] (retK Try.prog Try.f12 (fun v _ => v = .bool true)) := by kernel_rfl


theorem ctV_ok (a b : Int) (ha : 0 ≤ a ∧ a < 256) (hb : 0 ≤ b ∧ b < 256) : ctV a b := by
  have wA : IntKind.i64.wrap (1 + (IntKind.i64.wrap a).tmod 8) = plcd a := by
    rw [wrap_in (x := a) (by omega) (by omega), Int.tmod_eq_emod_of_nonneg ha.1]
    unfold plcd
    exact wrap_in (by omega) (by omega)
  have wB : (IntKind.i64.wrap b).tmod 13 = b % 13 := by rw [wrap_in (by omega) (by omega), Int.tmod_eq_emod_of_nonneg hb.1]
  have hp : 1 ≤ plcd a ∧ plcd a ≤ 8 := by unfold plcd; omega
  have hm : 0 ≤ b % 13 ∧ b % 13 ≤ 12 := by omega
  unfold ctV
  generalize plcd a = p at *
  generalize b % 13 = m at *
  have w1 : wiF 1 8 [p] = true := by rw [wiF, decide_eq_true_eq]; intro x hx; rw [List.mem_singleton.1 hx]; exact hp
  have w2 : wiF 0 12 [m] = true := by rw [wiF, decide_eq_true_eq]; intro x hx; rw [List.mem_singleton.1 hx]; exact hm
  simp only [wA, wB]
  simp only [ob_iff, map_nmap_int, sc_ro_int, sc_rw_int, getI_map, intAt_map, getB_map, boolAt_map, true_and, and_true, eq_self, Int.toNat_natCast, Nat.zero_add, Nat.add_zero, Nat.mul_one, Nat.one_mul, decide_eq_true_eq, decide_eq_false_iff_not, Value.bool.injEq, Value.int.injEq, Value.slice.injEq, Value.tuple.injEq, Option.some.injEq, Addr.mk.injEq, AObj.rw.injEq, AObj.ro.injEq, List.cons.injEq, reduceCtorEq, List.length_append, List.length_map, List.length_cons, List.length_nil, List.length_set, List.set_cons_zero, List.set_cons_succ, List.take_succ_cons, List.take_zero, List.take_nil, List.drop_nil, List.drop_zero, List.drop_succ_cons, intsOf_map, sl_id, sl_cells, Arg.list, Arg.num, Arg.flag, intOf, List.map_cons, List.map_nil, false_and, and_false, exists_const, or_false, false_or, true_or, forall_const, true_implies, false_implies, implies_true, beq_iff_eq, bne_iff_ne, beq_eq_false_iff_ne, bne_eq_false_iff_eq, Bool.not_eq_true', Bool.not_eq_false', ne_eq, not_true_eq_false, not_false_eq_true, Nat.le_refl, Nat.lt_irrefl, andP, Bool.not_true, Bool.not_false, Bool.true_eq_false, Bool.false_eq_true, Nat.reduceLeDiff, Nat.reduceAdd, Nat.reduceMul, Nat.reduceLT, Nat.zero_le, beq_self_eq_true, take_map_len, List.take_length, int_snoc, w1, w2, wA, wB]
  refine ⟨by decide, by decide, ⟨hp, hm⟩, fun h h1 => h1 (by simp [rowsF, h]), fun h => ⟨fun h1 h2 => h2 (by simp [rowsF, h, h1]), fun h1 => ⟨⟨1, ⟨by omega, by omega⟩, ?_, rfl⟩, fun x hx => ⟨fun h2 => ?_, fun h2 h3 => h3 ?_⟩⟩⟩⟩
  · rw [wrap_in (x := p + 1) (by omega) (by omega), wrap_in (by omega) (by omega)]; simp
  · refine ⟨x + 1, ⟨by omega, by omega⟩, by omega, ?_, by rw [wrap_in (by omega) (by omega)]; push_cast; rfl⟩
    have hb := mul_bd (A := 8) ⟨by omega, by omega⟩ (pow9i (p := p + 1) (x := x) (by omega) (by omega)) (a := p + 1 - m)
    obtain ⟨y, rfl⟩ : ∃ y, x = y + 1 := ⟨x - 1, by omega⟩
    rw [wrap_in (x := p + 1) (by omega) (by omega), Int.mul_assoc, Nat.add_sub_cancel, Nat.add_sub_cancel, show (p + 1) ^ y * (p + 1) = (p + 1) ^ (y + 1) from (Int.pow_succ _ _).symm, wrap_in (by omega) (by omega)]
  · rw [rowsF, if_neg h, if_neg h1, show (m - 1).toNat = x - 1 by omega]
theorem rowsG2_ok : ∀ args H φ v H' l, plainG rowsS2 args H = some (φ, v, H', l) → Asks φ → Call Try.prog 66 args H (fun v' H2 => v' = v ∧ H2 = H') ∧ Kept H H' l :=
  plainG_ok fun args φ v hs hφ => by
    unfold rowsS2 at hs
    split at hs <;> cases hs
    exact ⟨mem_two vi_plain vi_plain, vi_plain, rows_call _ _ hφ.1 hφ.2⟩
theorem worksG_ok : ∀ args H φ v H' l, pureG [] worksS args H = some (φ, v, H', l) → Asks φ → Call Try.prog 18 args H (fun v' H2 => v' = v ∧ H2 = H') ∧ Kept H H' l :=
  closedG_ok (works_ok.call.mono fun v H h => h.1) rfl
theorem ctC_ok : CtOk Try.prog ctC := ((CtOk.none.add wiG_ok).add rowsG2_ok).add worksG_ok
theorem ctE1_ok : VOk Try.prog ctE1 := VOk.ofCt ctC_ok
theorem ctE2_ok : VOk Try.prog ctE2 := ⟨ctC_ok, ccIn_ok ctE1_ok mixed (inl_one Try.func54), E0_ok.yc, E0_ok.orc⟩
theorem ctE_ok : VOk Try.prog ctE := ⟨ctC_ok, ccIn_ok ctE2_ok mixed (fun e he => by
  rcases List.mem_cons.1 he with rfl | he
  · exact Try.func42
  · rw [List.mem_singleton.1 he]; exact Try.func34), E0_ok.yc, E0_ok.orc⟩
theorem counted_call (a b : Int) (ha : 0 ≤ a ∧ a < 256) (hb : 0 ≤ b ∧ b < 256) : Call Try.prog 12 [.int .u8 a, .int .u8 b] [] fun v _ => v = .bool true :=
  Call.ofVc ctE_ok mixed (c := ctB) (inv := ctI a b) Try.func12 (by kernel_rfl) (cast (congrFun (congrFun ctV_eq a) b) (ctV_ok a b ha hb))
theorem wf_u8 {n : Int} (h : (Lit.int .u8 n).wf = true) : 0 ≤ n ∧ n < 256 := by
  simp only [Lit.wf, Bool.and_eq_true, decide_eq_true_eq] at h
  have h1 : IntKind.u8.min = 0 := rfl
  have h2 : IntKind.u8.max = 255 := rfl
  rw [h1, h2] at h
  omega
theorem counted_law {K : Type} : ∀ (H : Heap) (avs : List Value) (ds : List (DataW K)), Still H → ReadsAll Try.prog H Try.f12.params.toList avs ds → Call Try.prog 12 avs H fun v _ => v = .bool true :=
  law_of (ps := [.int .u8, .int .u8]) (by kernel_rfl) fun r hr caps => match r, hr with
    | [_, _], ⟨⟨a, ea, ha⟩, ⟨b, eb, hb⟩, _⟩ => by
      subst ea; subst eb
      exact counted_call a b (wf_u8 ha) (wf_u8 hb)

end Go.Pier.Lg

