/-
  Pier: PierLpushed, PierZT, PierZU, PierLkeys, PierLwom, PierLbes.
-/
import Derived.Test.YtinkmgacaoohnaaPierMC2
import Derived.KernelRfl
import Derived.Test.YtinkmgacaoohnaaPierV
set_option linter.unusedSimpArgs false
set_option linter.unusedVariables false
set_option maxRecDepth 100000
set_option linter.unusedVariables false
set_option linter.unusedSimpArgs false
namespace Go.Pier.Lg
open Go Go.Pier Go.Proofs 
noncomputable def ctP : Ct := (Ct.none.add 23 (pureG [.int .i64, .ints .i64] cdS)).add 74 (dropG false)
noncomputable def EPush : VEnv := { ct := ctP, cc := ccIn Try.prog {} [⟨62, Try.f62, fun _ _ _ => none⟩] }
noncomputable def pdB : Code := Try.f49.body.getD .skip
def runA (n : Nat) (l : List Int) : PS := runP false n emp l
def nilP : Value := .pointer none
noncomputable def pdV :=
fun (n : Nat) (l : List Int) (c : Nat) ↦ Ob ((List.take l.length (List.drop (0 : Nat) (List.map (Value.int IntKind.i64) l)) = List.map (Value.int IntKind.i64) (List.take l.length (List.drop (0 : Nat) (intsOf (List.map (Value.int IntKind.i64) l)))) ∧ (0 : Nat) + l.length ≤ (List.map (Value.int IntKind.i64) l).length ∧ true = true) ∧ (Arg.ints IntKind.i64 (List.take l.length (List.drop (0 : Nat) (intsOf (List.map (Value.int IntKind.i64) l))))).list.length ≤ (1000000 : Nat)) ∧ ((errD (Arg.plain (vi (↑n : Int))).num (Arg.ints IntKind.i64 (List.take l.length (List.drop (0 : Nat) (intsOf (List.map (Value.int IntKind.i64) l))))).list != (0 : Int)) = true → (Ob (AObj.ro (List.map (Value.int IntKind.i64) l) = AObj.ro (List.map (nmap1 fun (b : Nat) ↦ b) (List.map (Value.int IntKind.i64) l)) ∧ AObj.sc (3 : Nat) (AObj.ro (List.map (Value.int IntKind.i64) l)) = true) ∧ False) ∧ Ob (Value.tuple { toList := [Value.pointer none, vi (errD (Arg.plain (vi (↑n : Int))).num (Arg.ints IntKind.i64 (List.take l.length (List.drop (0 : Nat) (intsOf (List.map (Value.int IntKind.i64) l))))).list)] } = Value.tuple { toList := [ptr0 1, vi (0 : Int)] }) ∧ True) ∧ ((errD (Arg.plain (vi (↑n : Int))).num (Arg.ints IntKind.i64 (List.take l.length (List.drop (0 : Nat) (intsOf (List.map (Value.int IntKind.i64) l))))).list != (0 : Int)) = false → Ob ((List.take l.length (List.drop (0 : Nat) (List.map (Value.int IntKind.i64) l)) = List.map (Value.int IntKind.i64) (List.take l.length (List.drop (0 : Nat) (intsOf (List.map (Value.int IntKind.i64) l)))) ∧ (0 : Nat) + l.length ≤ (List.map (Value.int IntKind.i64) l).length ∧ true = true) ∧ dropPre false (vi (↑n : Int) :: T8 emp [Value.slice none (0 : Nat) (0 : Nat), vi (0 : Int), vi (0 : Int)]) (Value.func (Fn.func (77 : Nat)) { toList := [Value.agg { toList := (lgC (↑n : Int) emp) }] } { toList := [] }) (List.take l.length (List.drop (0 : Nat) (intsOf (List.map (Value.int IntKind.i64) l)))) ∧ (0 : Nat) < (List.take l.length (List.drop (0 : Nat) (intsOf (List.map (Value.int IntKind.i64) l)))).length ∧ some (0 : Nat) ≠ some (1 : Nat)) ∧ (Ob (AObj.ro (List.map (Value.int IntKind.i64) l) = AObj.ro (List.map (nmap1 fun (b : Nat) ↦ b) (List.map (Value.int IntKind.i64) l)) ∧ AObj.sc (3 : Nat) (AObj.ro (List.map (Value.int IntKind.i64) l)) = true) ∧ Ob (AObj.rw (vi (fN (vi (↑n : Int) :: T8 emp [Value.slice none (0 : Nat) (0 : Nat), vi (0 : Int), vi (0 : Int)])) :: T8 ((runP false (fN (vi (↑n : Int) :: T8 emp [Value.slice none (0 : Nat) (0 : Nat), vi (0 : Int), vi (0 : Int)])).toNat (fT (vi (↑n : Int) :: T8 emp [Value.slice none (0 : Nat) (0 : Nat), vi (0 : Int), vi (0 : Int)])) (List.take l.length (List.drop (0 : Nat) (intsOf (List.map (Value.int IntKind.i64) l))))).tk) [Value.slice (some { block := (2 : Nat), off := (0 : Nat), spot := some (0 : Nat) }) (List.take l.length (List.drop (0 : Nat) (intsOf (List.map (Value.int IntKind.i64) l)))).length (0 : Nat), vi (runP false (fN (vi (↑n : Int) :: T8 emp [Value.slice none (0 : Nat) (0 : Nat), vi (0 : Int), vi (0 : Int)])).toNat (fT (vi (↑n : Int) :: T8 emp [Value.slice none (0 : Nat) (0 : Nat), vi (0 : Int), vi (0 : Int)])) (List.take l.length (List.drop (0 : Nat) (intsOf (List.map (Value.int IntKind.i64) l))))).slid, vi (runP false (fN (vi (↑n : Int) :: T8 emp [Value.slice none (0 : Nat) (0 : Nat), vi (0 : Int), vi (0 : Int)])).toNat (fT (vi (↑n : Int) :: T8 emp [Value.slice none (0 : Nat) (0 : Nat), vi (0 : Int), vi (0 : Int)])) (List.take l.length (List.drop (0 : Nat) (intsOf (List.map (Value.int IntKind.i64) l))))).fell]) none = AObj.rw (vi (↑n : Int) :: T8 ((runA n l).tk) [Value.slice (some { block := (2 : Nat), off := (0 : Nat), spot := some (0 : Nat) }) l.length (0 : Nat), vi (runA n l).slid, vi (runA n l).fell]) none ∧ true = true) ∧ Ob (AObj.rw (List.map (Value.int IntKind.i64) (runP false (fN (vi (↑n : Int) :: T8 emp [Value.slice none (0 : Nat) (0 : Nat), vi (0 : Int), vi (0 : Int)])).toNat (fT (vi (↑n : Int) :: T8 emp [Value.slice none (0 : Nat) (0 : Nat), vi (0 : Int), vi (0 : Int)])) (List.take l.length (List.drop (0 : Nat) (intsOf (List.map (Value.int IntKind.i64) l))))).lies) (some (1 : Nat)) = AObj.rw (List.map (nmap1 fun (b : Nat) ↦ b) (List.map (Value.int IntKind.i64) (runA n l).lies)) (some (1 : Nat)) ∧ AObj.sc (3 : Nat) (AObj.rw (List.map (Value.int IntKind.i64) (runA n l).lies) (some (1 : Nat))) = true) ∧ True) ∧ Ob (Value.tuple { toList := [ptr0 1, vi (0 : Int)] } = Value.tuple { toList := [ptr0 1, vi (0 : Int)] }) ∧ True)
theorem pdV_eq : pdV = fun (n : Nat) (l : List Int) (c : Nat) => vc Try.prog EPush 1 25 true (fun _ => none) pdB [] (argFr 0 [vi n, .slice (some ⟨0,0,none⟩) l.length c]) [ros l] (retR Try.prog Try.f49 1 (fun b => b) (.tuple #[ptr0 1, vi 0]) [ros l, pu n (runA n l).tk (newS 2 l.length) (runA n l).slid (runA n l).fell, rws (runA n l).lies]) := by kernel_rfl
noncomputable def pdX :=
fun (p : Int) (l : List Int) (c : Nat) ↦ Ob ((List.take l.length (List.drop (0 : Nat) (List.map (Value.int IntKind.i64) l)) = List.map (Value.int IntKind.i64) (List.take l.length (List.drop (0 : Nat) (intsOf (List.map (Value.int IntKind.i64) l)))) ∧ (0 : Nat) + l.length ≤ (List.map (Value.int IntKind.i64) l).length ∧ true = true) ∧ (Arg.ints IntKind.i64 (List.take l.length (List.drop (0 : Nat) (intsOf (List.map (Value.int IntKind.i64) l))))).list.length ≤ (1000000 : Nat)) ∧ ((errD (Arg.plain (vi p)).num (Arg.ints IntKind.i64 (List.take l.length (List.drop (0 : Nat) (intsOf (List.map (Value.int IntKind.i64) l))))).list != (0 : Int)) = true → (Ob (AObj.ro (List.map (Value.int IntKind.i64) l) = AObj.ro (List.map (nmap1 fun (b : Nat) ↦ b) (List.map (Value.int IntKind.i64) l)) ∧ AObj.sc (1 : Nat) (AObj.ro (List.map (Value.int IntKind.i64) l)) = true) ∧ True) ∧ Ob (Value.tuple { toList := [Value.pointer none, vi (errD (Arg.plain (vi p)).num (Arg.ints IntKind.i64 (List.take l.length (List.drop (0 : Nat) (intsOf (List.map (Value.int IntKind.i64) l))))).list)] } = Value.tuple { toList := [Value.pointer none, vi (errD p l)] }) ∧ True) ∧ ((errD (Arg.plain (vi p)).num (Arg.ints IntKind.i64 (List.take l.length (List.drop (0 : Nat) (intsOf (List.map (Value.int IntKind.i64) l))))).list != (0 : Int)) = false → Ob ((List.take l.length (List.drop (0 : Nat) (List.map (Value.int IntKind.i64) l)) = List.map (Value.int IntKind.i64) (List.take l.length (List.drop (0 : Nat) (intsOf (List.map (Value.int IntKind.i64) l)))) ∧ (0 : Nat) + l.length ≤ (List.map (Value.int IntKind.i64) l).length ∧ true = true) ∧ dropPre false (vi p :: T8 emp [Value.slice none (0 : Nat) (0 : Nat), vi (0 : Int), vi (0 : Int)]) (Value.func (Fn.func (77 : Nat)) { toList := [Value.agg { toList := (lgC p emp) }] } { toList := [] }) (List.take l.length (List.drop (0 : Nat) (intsOf (List.map (Value.int IntKind.i64) l)))) ∧ (0 : Nat) < (List.take l.length (List.drop (0 : Nat) (intsOf (List.map (Value.int IntKind.i64) l)))).length ∧ some (0 : Nat) ≠ some (1 : Nat)) ∧ (Ob (AObj.ro (List.map (Value.int IntKind.i64) l) = AObj.ro (List.map (nmap1 fun (b : Nat) ↦ b) (List.map (Value.int IntKind.i64) l)) ∧ AObj.sc (1 : Nat) (AObj.ro (List.map (Value.int IntKind.i64) l)) = true) ∧ True) ∧ Ob (Value.tuple { toList := [ptr0 1, vi (0 : Int)] } = Value.tuple { toList := [Value.pointer none, vi (errD p l)] }) ∧ True)
theorem pdX_eq : pdX = fun (p : Int) (l : List Int) (c : Nat) => vc Try.prog EPush 1 25 true (fun _ => none) pdB [] (argFr 0 [vi p, .slice (some ⟨0,0,none⟩) l.length c]) [ros l] (retR Try.prog Try.f49 1 (fun b => b) (.tuple #[nilP, vi (errD p l)]) [ros l]) := by kernel_rfl
noncomputable def pdN :=
fun (n : Nat) ↦ Ob ((0 : Nat) ≤ (1000000 : Nat)) ∧ ((errD (Arg.plain (vi (↑n : Int))).num [] != (0 : Int)) = true → False ∧ Ob (Value.tuple { toList := [Value.pointer none, vi (errD (Arg.plain (vi (↑n : Int))).num [])] } = Value.tuple { toList := [ptr0 0, vi (0 : Int)] }) ∧ True) ∧ ((errD (Arg.plain (vi (↑n : Int))).num [] != (0 : Int)) = false → Ob (dropPre false (vi (↑n : Int) :: T8 emp [Value.slice none (0 : Nat) (0 : Nat), vi (0 : Int), vi (0 : Int)]) (Value.func (Fn.func (77 : Nat)) { toList := [Value.agg { toList := (lgC (↑n : Int) emp) }] } { toList := [] }) []) ∧ (Ob (AObj.rw (vi (↑n : Int) :: T8 emp [Value.slice none (0 : Nat) (0 : Nat), vi (0 : Int), vi (0 : Int)]) none = AObj.rw (vi (↑n : Int) :: T8 emp [Value.slice none (0 : Nat) (0 : Nat), vi (0 : Int), vi (0 : Int)]) none ∧ true = true) ∧ True) ∧ Ob (Value.tuple { toList := [ptr0 0, vi (0 : Int)] } = Value.tuple { toList := [ptr0 0, vi (0 : Int)] }) ∧ True)
theorem pdN_eq : pdN = fun (n : Nat) => vc Try.prog EPush 0 25 true (fun _ => none) pdB [] (argFr 0 [vi n, nilS]) [] (retR Try.prog Try.f49 0 (fun b => b) (.tuple #[ptr0 0, vi 0]) [pu n emp nilS 0 0]) := by kernel_rfl
noncomputable def pdNX :=
fun (p : Int) ↦ Ob ((0 : Nat) ≤ (1000000 : Nat)) ∧ ((errD (Arg.plain (vi p)).num [] != (0 : Int)) = true → True ∧ Ob (Value.tuple { toList := [Value.pointer none, vi (errD (Arg.plain (vi p)).num [])] } = Value.tuple { toList := [Value.pointer none, vi (errD p [])] }) ∧ True) ∧ ((errD (Arg.plain (vi p)).num [] != (0 : Int)) = false → Ob (dropPre false (vi p :: T8 emp [Value.slice none (0 : Nat) (0 : Nat), vi (0 : Int), vi (0 : Int)]) (Value.func (Fn.func (77 : Nat)) { toList := [Value.agg { toList := (lgC p emp) }] } { toList := [] }) []) ∧ True ∧ Ob (Value.tuple { toList := [ptr0 0, vi (0 : Int)] } = Value.tuple { toList := [Value.pointer none, vi (errD p [])] }) ∧ True)
theorem pdNX_eq : pdNX = fun (p : Int) => vc Try.prog EPush 0 25 true (fun _ => none) pdB [] (argFr 0 [vi p, nilS]) [] (retR Try.prog Try.f49 0 (fun b => b) (.tuple #[nilP, vi (errD p [])]) []) := by kernel_rfl
noncomputable def pdH :=
fun (n : Nat) (s : Option Nat) (c : Nat) ↦ Ob ((0 : Nat) ≤ (1000000 : Nat)) ∧ ((errD (Arg.plain (vi (↑n : Int))).num [] != (0 : Int)) = true → False ∧ Ob (Value.tuple { toList := [Value.pointer none, vi (errD (Arg.plain (vi (↑n : Int))).num [])] } = Value.tuple { toList := [ptr0 1, vi (0 : Int)] }) ∧ True) ∧ ((errD (Arg.plain (vi (↑n : Int))).num [] != (0 : Int)) = false → Ob (dropPre false (vi (↑n : Int) :: T8 emp [Value.slice none (0 : Nat) (0 : Nat), vi (0 : Int), vi (0 : Int)]) (Value.func (Fn.func (77 : Nat)) { toList := [Value.agg { toList := (lgC (↑n : Int) emp) }] } { toList := [] }) []) ∧ (Ob (AObj.rw (vi (↑n : Int) :: T8 emp [Value.slice none (0 : Nat) (0 : Nat), vi (0 : Int), vi (0 : Int)]) none = AObj.rw (vi (↑n : Int) :: T8 emp [Value.slice none (0 : Nat) (0 : Nat), vi (0 : Int), vi (0 : Int)]) none ∧ true = true) ∧ True) ∧ Ob (Value.tuple { toList := [ptr0 1, vi (0 : Int)] } = Value.tuple { toList := [ptr0 1, vi (0 : Int)] }) ∧ True)
theorem pdH_eq : pdH = fun (n : Nat) (s : Option Nat) (c : Nat) => vc Try.prog EPush 1 25 true (fun _ => none) pdB [] (argFr 0 [vi n, .slice (some ⟨0,0,s⟩) 0 c]) [.gone] (retR Try.prog Try.f49 1 (fun b => b) (.tuple #[ptr0 1, vi 0]) [.gone, pu n emp nilS 0 0]) := by kernel_rfl
noncomputable def pdHX :=
fun (p : Int) (s : Option Nat) (c : Nat) ↦ Ob ((0 : Nat) ≤ (1000000 : Nat)) ∧ ((errD (Arg.plain (vi p)).num [] != (0 : Int)) = true → True ∧ Ob (Value.tuple { toList := [Value.pointer none, vi (errD (Arg.plain (vi p)).num [])] } = Value.tuple { toList := [Value.pointer none, vi (errD p [])] }) ∧ True) ∧ ((errD (Arg.plain (vi p)).num [] != (0 : Int)) = false → Ob (dropPre false (vi p :: T8 emp [Value.slice none (0 : Nat) (0 : Nat), vi (0 : Int), vi (0 : Int)]) (Value.func (Fn.func (77 : Nat)) { toList := [Value.agg { toList := (lgC p emp) }] } { toList := [] }) []) ∧ True ∧ Ob (Value.tuple { toList := [ptr0 1, vi (0 : Int)] } = Value.tuple { toList := [Value.pointer none, vi (errD p [])] }) ∧ True)
theorem pdHX_eq : pdHX = fun (p : Int) (s : Option Nat) (c : Nat) => vc Try.prog EPush 1 25 true (fun _ => none) pdB [] (argFr 0 [vi p, .slice (some ⟨0,0,s⟩) 0 c]) [.gone] (retR Try.prog Try.f49 1 (fun b => b) (.tuple #[nilP, vi (errD p [])]) [.gone]) := by kernel_rfl


theorem pre_ok {n : Nat} {l : List Int} (h : errD n l = 0) : n ≤ 8 ∧ (∀ x ∈ l, 0 ≤ x ∧ x < (n : Int)) ∧ l.length ≤ 12 := by
  unfold errD at h
  split at h
  · cases h
  · split at h
    · rename_i h1 h2
      rw [wiF, decide_eq_true_eq] at h2
      exact ⟨by omega, fun x hx => by have := h2 x hx; omega, by omega⟩
    · cases h
theorem pre_iff {p : Int} {l : List Int} {nv : Value} : dropPre false (vi p :: T8 emp [nilS, vi 0, vi 0]) nv l ↔ nv = nextV false p (fA nv) ∧ 0 ≤ p ∧ p ≤ 8 ∧ (∀ x ∈ l, 0 ≤ x ∧ x < p) ∧ l.length ≤ 12 := by
  unfold dropPre
  rw [show fN (vi p :: T8 emp [nilS, vi 0, vi 0]) = p from rfl]
  constructor
  · exact fun h => h.2
  · exact fun h => ⟨rfl, h⟩
theorem pre_mk {n : Nat} {l : List Int} (h : errD n l = 0) : dropPre false (vi n :: T8 emp [Value.slice none 0 0, vi 0, vi 0]) (Value.func (Fn.func 77) { toList := [Value.agg { toList := lgC n emp }] } { toList := [] }) l := by
  obtain ⟨h1, h2, h3⟩ := pre_ok h
  exact ⟨rfl, rfl, by rw [fN_T8]; omega, by rw [fN_T8]; omega, by rw [fN_T8]; exact h2, h3⟩
theorem pdV_ok (n : Nat) (l : List Int) (c : Nat) (h : errD n l = 0) (h0 : 0 < l.length) : pdV n l c := by
  have h3 := (pre_ok h).2.2
  unfold pdV
  simp only [ob_iff, map_nmap_int, sc_ro_int, sc_rw_int, getI_map, intAt_map, getB_map, boolAt_map, true_and, and_true, eq_self, Int.toNat_natCast, Nat.zero_add, Nat.add_zero, Nat.mul_one, Nat.one_mul, decide_eq_true_eq, decide_eq_false_iff_not, Value.bool.injEq, Value.int.injEq, Value.slice.injEq, Value.tuple.injEq, Option.some.injEq, Addr.mk.injEq, AObj.rw.injEq, AObj.ro.injEq, List.cons.injEq, reduceCtorEq, List.length_append, List.length_map, List.length_cons, List.length_nil, List.length_set, List.set_cons_zero, List.set_cons_succ, List.take_succ_cons, List.take_zero, List.take_nil, List.drop_nil, List.drop_zero, List.drop_succ_cons, intsOf_map, sl_id, sl_cells, Arg.list, Arg.num, Arg.flag, intOf, List.map_cons, List.map_nil, false_and, and_false, exists_const, or_false, false_or, true_or, forall_const, true_implies, false_implies, implies_true, beq_iff_eq, bne_iff_ne, beq_eq_false_iff_ne, bne_eq_false_iff_eq, Bool.not_eq_true', Bool.not_eq_false', ne_eq, not_true_eq_false, not_false_eq_true, Nat.le_refl, Nat.lt_irrefl, andP, Bool.not_true, Bool.not_false, Bool.true_eq_false, Bool.false_eq_true, Nat.reduceLeDiff, Nat.reduceAdd, Nat.reduceMul, Nat.reduceLT, Nat.zero_le, beq_self_eq_true, take_map_len, List.take_length, int_snoc, h, fN_T8, fT_emp, T8_fT]
  exact ⟨by omega, ⟨pre_mk h, h0⟩, rfl, rfl⟩
theorem pdX_ok (p : Int) (l : List Int) (c : Nat) (h : errD p l ≠ 0) (hl : l.length ≤ 1000000) : pdX p l c := by
  unfold pdX
  simp only [ob_iff, map_nmap_int, sc_ro_int, sc_rw_int, getI_map, intAt_map, getB_map, boolAt_map, true_and, and_true, eq_self, Int.toNat_natCast, Nat.zero_add, Nat.add_zero, Nat.mul_one, Nat.one_mul, decide_eq_true_eq, decide_eq_false_iff_not, Value.bool.injEq, Value.int.injEq, Value.slice.injEq, Value.tuple.injEq, Option.some.injEq, Addr.mk.injEq, AObj.rw.injEq, AObj.ro.injEq, List.cons.injEq, reduceCtorEq, List.length_append, List.length_map, List.length_cons, List.length_nil, List.length_set, List.set_cons_zero, List.set_cons_succ, List.take_succ_cons, List.take_zero, List.take_nil, List.drop_nil, List.drop_zero, List.drop_succ_cons, intsOf_map, sl_id, sl_cells, Arg.list, Arg.num, Arg.flag, intOf, List.map_cons, List.map_nil, false_and, and_false, exists_const, or_false, false_or, true_or, forall_const, true_implies, false_implies, implies_true, beq_iff_eq, bne_iff_ne, beq_eq_false_iff_ne, bne_eq_false_iff_eq, Bool.not_eq_true', Bool.not_eq_false', ne_eq, not_true_eq_false, not_false_eq_true, Nat.le_refl, Nat.lt_irrefl, andP, Bool.not_true, Bool.not_false, Bool.true_eq_false, Bool.false_eq_true, Nat.reduceLeDiff, Nat.reduceAdd, Nat.reduceMul, Nat.reduceLT, Nat.zero_le, beq_self_eq_true, take_map_len, List.take_length, int_snoc, h]
  exact hl
theorem pdN_ok (n : Nat) (h : errD n [] = 0) : pdN n := by
  unfold pdN
  simp only [ob_iff, map_nmap_int, sc_ro_int, sc_rw_int, getI_map, intAt_map, getB_map, boolAt_map, true_and, and_true, eq_self, Int.toNat_natCast, Nat.zero_add, Nat.add_zero, Nat.mul_one, Nat.one_mul, decide_eq_true_eq, decide_eq_false_iff_not, Value.bool.injEq, Value.int.injEq, Value.slice.injEq, Value.tuple.injEq, Option.some.injEq, Addr.mk.injEq, AObj.rw.injEq, AObj.ro.injEq, List.cons.injEq, reduceCtorEq, List.length_append, List.length_map, List.length_cons, List.length_nil, List.length_set, List.set_cons_zero, List.set_cons_succ, List.take_succ_cons, List.take_zero, List.take_nil, List.drop_nil, List.drop_zero, List.drop_succ_cons, intsOf_map, sl_id, sl_cells, Arg.list, Arg.num, Arg.flag, intOf, List.map_cons, List.map_nil, false_and, and_false, exists_const, or_false, false_or, true_or, forall_const, true_implies, false_implies, implies_true, beq_iff_eq, bne_iff_ne, beq_eq_false_iff_ne, bne_eq_false_iff_eq, Bool.not_eq_true', Bool.not_eq_false', ne_eq, not_true_eq_false, not_false_eq_true, Nat.le_refl, Nat.lt_irrefl, andP, Bool.not_true, Bool.not_false, Bool.true_eq_false, Bool.false_eq_true, Nat.reduceLeDiff, Nat.reduceAdd, Nat.reduceMul, Nat.reduceLT, Nat.zero_le, beq_self_eq_true, take_map_len, List.take_length, int_snoc, h, fN_T8, fT_emp, T8_fT]
  exact pre_mk h
theorem pdNX_ok (p : Int) (h : errD p [] ≠ 0) : pdNX p := by
  unfold pdNX
  simp only [ob_iff, map_nmap_int, sc_ro_int, sc_rw_int, getI_map, intAt_map, getB_map, boolAt_map, true_and, and_true, eq_self, Int.toNat_natCast, Nat.zero_add, Nat.add_zero, Nat.mul_one, Nat.one_mul, decide_eq_true_eq, decide_eq_false_iff_not, Value.bool.injEq, Value.int.injEq, Value.slice.injEq, Value.tuple.injEq, Option.some.injEq, Addr.mk.injEq, AObj.rw.injEq, AObj.ro.injEq, List.cons.injEq, reduceCtorEq, List.length_append, List.length_map, List.length_cons, List.length_nil, List.length_set, List.set_cons_zero, List.set_cons_succ, List.take_succ_cons, List.take_zero, List.take_nil, List.drop_nil, List.drop_zero, List.drop_succ_cons, intsOf_map, sl_id, sl_cells, Arg.list, Arg.num, Arg.flag, intOf, List.map_cons, List.map_nil, false_and, and_false, exists_const, or_false, false_or, true_or, forall_const, true_implies, false_implies, implies_true, beq_iff_eq, bne_iff_ne, beq_eq_false_iff_ne, bne_eq_false_iff_eq, Bool.not_eq_true', Bool.not_eq_false', ne_eq, not_true_eq_false, not_false_eq_true, Nat.le_refl, Nat.lt_irrefl, andP, Bool.not_true, Bool.not_false, Bool.true_eq_false, Bool.false_eq_true, Nat.reduceLeDiff, Nat.reduceAdd, Nat.reduceMul, Nat.reduceLT, Nat.zero_le, beq_self_eq_true, take_map_len, List.take_length, int_snoc, h]
theorem pdH_ok (n : Nat) (s : Option Nat) (c : Nat) (h : errD n [] = 0) : pdH n s c := by
  unfold pdH
  simp only [ob_iff, map_nmap_int, sc_ro_int, sc_rw_int, getI_map, intAt_map, getB_map, boolAt_map, true_and, and_true, eq_self, Int.toNat_natCast, Nat.zero_add, Nat.add_zero, Nat.mul_one, Nat.one_mul, decide_eq_true_eq, decide_eq_false_iff_not, Value.bool.injEq, Value.int.injEq, Value.slice.injEq, Value.tuple.injEq, Option.some.injEq, Addr.mk.injEq, AObj.rw.injEq, AObj.ro.injEq, List.cons.injEq, reduceCtorEq, List.length_append, List.length_map, List.length_cons, List.length_nil, List.length_set, List.set_cons_zero, List.set_cons_succ, List.take_succ_cons, List.take_zero, List.take_nil, List.drop_nil, List.drop_zero, List.drop_succ_cons, intsOf_map, sl_id, sl_cells, Arg.list, Arg.num, Arg.flag, intOf, List.map_cons, List.map_nil, false_and, and_false, exists_const, or_false, false_or, true_or, forall_const, true_implies, false_implies, implies_true, beq_iff_eq, bne_iff_ne, beq_eq_false_iff_ne, bne_eq_false_iff_eq, Bool.not_eq_true', Bool.not_eq_false', ne_eq, not_true_eq_false, not_false_eq_true, Nat.le_refl, Nat.lt_irrefl, andP, Bool.not_true, Bool.not_false, Bool.true_eq_false, Bool.false_eq_true, Nat.reduceLeDiff, Nat.reduceAdd, Nat.reduceMul, Nat.reduceLT, Nat.zero_le, beq_self_eq_true, take_map_len, List.take_length, int_snoc, h, fN_T8, fT_emp, T8_fT]
  exact pre_mk h
theorem pdHX_ok (p : Int) (s : Option Nat) (c : Nat) (h : errD p [] ≠ 0) : pdHX p s c := by
  unfold pdHX
  simp only [ob_iff, map_nmap_int, sc_ro_int, sc_rw_int, getI_map, intAt_map, getB_map, boolAt_map, true_and, and_true, eq_self, Int.toNat_natCast, Nat.zero_add, Nat.add_zero, Nat.mul_one, Nat.one_mul, decide_eq_true_eq, decide_eq_false_iff_not, Value.bool.injEq, Value.int.injEq, Value.slice.injEq, Value.tuple.injEq, Option.some.injEq, Addr.mk.injEq, AObj.rw.injEq, AObj.ro.injEq, List.cons.injEq, reduceCtorEq, List.length_append, List.length_map, List.length_cons, List.length_nil, List.length_set, List.set_cons_zero, List.set_cons_succ, List.take_succ_cons, List.take_zero, List.take_nil, List.drop_nil, List.drop_zero, List.drop_succ_cons, intsOf_map, sl_id, sl_cells, Arg.list, Arg.num, Arg.flag, intOf, List.map_cons, List.map_nil, false_and, and_false, exists_const, or_false, false_or, true_or, forall_const, true_implies, false_implies, implies_true, beq_iff_eq, bne_iff_ne, beq_eq_false_iff_ne, bne_eq_false_iff_eq, Bool.not_eq_true', Bool.not_eq_false', ne_eq, not_true_eq_false, not_false_eq_true, Nat.le_refl, Nat.lt_irrefl, andP, Bool.not_true, Bool.not_false, Bool.true_eq_false, Bool.false_eq_true, Nat.reduceLeDiff, Nat.reduceAdd, Nat.reduceMul, Nat.reduceLT, Nat.zero_le, beq_self_eq_true, take_map_len, List.take_length, int_snoc, h]
theorem EPush_ok : VOk Try.prog EPush := ⟨(CtOk.none.add cdG_ok).add dropA_ok, ccIn_ok E0_ok mixed (inl_one Try.func62), E0_ok.yc, E0_ok.orc⟩
/-- What was handed over: a list of any kind. -/
theorem toArg_any {H : Heap} {sv : Value} {φ : Option Prop} {a : Arg} (h : toArg H (.ints .i64) sv = some (φ, a)) (hφ : Asks φ) :
    (sv = nilS ∧ a.list = []) ∨ (∃ b s c, sv = .slice (some ⟨b,0,s⟩) 0 c ∧ a.list = []) ∨ ∃ ad m c l, sv = .slice (some ad) m c ∧ a = .ints .i64 l ∧ ∃ φ, sliceInts .i64 H sv = some (φ, l) ∧ φ := by
  unfold toArg at h
  split at h <;> try (cases h; done)
  · rename_i h0; cases h0
  · rename_i h0; cases h0
  · cases h; exact .inl ⟨rfl, rfl⟩
  · rename_i k ad m c h0
    cases h0
    split at h
    · rename_i φ' l hs
      cases h
      exact .inr (.inr ⟨ad, m, c, l, rfl, rfl, _, hs, hφ⟩)
    · split at h <;> cases h
      rename_i hc
      simp only [Bool.and_eq_true] at hc
      obtain rfl := Nat.eq_of_beq_eq_true hc.1
      have h0' := Nat.eq_of_beq_eq_true hc.2
      obtain ⟨bb, oo, ss⟩ := ad
      simp only at h0'
      subst h0'
      exact .inr (.inl ⟨bb, ss, c, rfl, rfl⟩)
def pushNew (b : Nat) (n : Nat) (l : List Int) : Heap := match l with
  | [] => [pu n emp nilS 0 0]
  | _ => [pu n (runA n l).tk (newS (b + 1) l.length) (runA n l).slid (runA n l).fell, rws (runA n l).lies]
def pushedG : List Value → Heap → Option (Option Prop × Value × Heap × List Nat) := fun args H => match args with
  | [.int .i64 p, sv] => match toArg H (.ints .i64) sv with
    | some (φ, .ints _ l) => some (andO φ (some (errD p l = 0 ∧ 0 < l.length ∧ 0 ≤ p)), .tuple #[ptr0 H.length, vi 0], H ++ [pu p (runA p.toNat l).tk (newS (H.length + 1) l.length) (runA p.toNat l).slid (runA p.toNat l).fell, rws (runA p.toNat l).lies], [])
    | some (φ, _) => some (andO φ (some (errD p [] = 0)), .tuple #[ptr0 H.length, vi 0], H ++ [pu p emp nilS 0 0], [])
    | none => none
  | _ => none
def pushedX : List Value → Heap → Option (Option Prop × Value × Heap × List Nat) := fun args H => match args with
  | [.int .i64 p, sv] => match toArg H (.ints .i64) sv with
    | some (φ, a) => some (andO φ (some (errD p a.list ≠ 0 ∧ a.list.length ≤ 1000000)), .tuple #[nilP, vi (errD p a.list)], H, [])
    | none => none
  | _ => none
theorem errD_pos {p : Int} {l : List Int} (h : errD p l = 0) : ∃ n : Nat, p = n := by
  unfold errD at h
  split at h
  · cases h
  · exact ⟨p.toNat, by omega⟩
theorem sc_two {m b : Nat} (h : b < m) : sc m (.tuple #[ptr0 b, vi 0]) = true := by simp [sc, sc2, sc1, sc0, h]
theorem nmap_two {σ : Nat → Nat} {b : Nat} : nmap σ (.tuple #[ptr0 b, vi 0]) = .tuple #[ptr0 (σ b), vi 0] := by simp [nmap, nmap2, nmap1, nmap0, am]
theorem nm_two {p : Nat → Bool} {b : Nat} (h : p b = true) : nm p (.tuple #[ptr0 b, vi 0]) = true := by simp [nm, nm2, nm1, nm0, h]
theorem omap_pu {σ : Nat → Nat} {n s f : Int} {tk : Nat → Bool} {b m : Nat} : omap σ (pu n tk (newS b m) s f) = pu n tk (newS (σ b) m) s f := by simp [pu, puC, T8, omap, nmap1, nmap0, newS, am]
theorem omap_puN {σ : Nat → Nat} {n s f : Int} {tk : Nat → Bool} : omap σ (pu n tk nilS s f) = pu n tk nilS s f := by simp [pu, puC, T8, omap, nmap1, nmap0, nilS]
theorem sc_pu {k : Nat} {n s f : Int} {tk : Nat → Bool} {b m : Nat} (h : b < k) : (pu n tk (newS b m) s f).sc k = true := by simp [pu, puC, T8, AObj.sc, sc1, sc0, newS, h]
theorem sc_puN {k : Nat} {n s f : Int} {tk : Nat → Bool} : (pu n tk nilS s f).sc k = true := by simp [pu, puC, T8, AObj.sc, sc1, sc0, nilS]
theorem nm_pu {p : Nat → Bool} {n s f : Int} {tk : Nat → Bool} {b m : Nat} (h : p b = true) : (pu n tk (newS b m) s f).nm p = true := by simp [pu, puC, T8, AObj.nm, nm1, nm0, newS, h]
theorem nm_puN {p : Nat → Bool} {n s f : Int} {tk : Nat → Bool} : (pu n tk nilS s f).nm p = true := by simp [pu, puC, T8, AObj.nm, nm1, nm0, nilS]
theorem omap_rws {σ : Nat → Nat} {l : List Int} : omap σ (rws l) = rws l := omap_ints
theorem pushedG_ok : ∀ args H φ v H' l, pushedG args H = some (φ, v, H', l) → Asks φ → Call Try.prog 49 args H (fun v' H2 => v' = v ∧ H2 = H') ∧ Kept H H' l := by
  intro args H φ v H' l h hφ
  unfold pushedG at h
  split at h <;> try (cases h; done)
  rename_i p sv
  split at h <;> cases h
  · rename_i ψ k li ht
    obtain ⟨hψ, h1, h2, h3⟩ := andO_iff.1 hφ
    obtain ⟨n, rfl⟩ := errD_pos h1
    rcases toArg_any ht hψ with ⟨_, h4⟩ | ⟨_, _, _, _, h4⟩ | ⟨ad, m, c, l', rfl, e, hi⟩
    · simp only [Arg.list] at h4; subst h4; simp at h2
    · simp only [Arg.list] at h4; subst h4; simp at h2
    · cases e
      have hc := fun caps : Nat → Nat => Call.ofVcR EPush_ok mixed (c := pdB) (args := [vi n, .slice (some ⟨0,0,none⟩) li.length (caps 0)]) Try.func49 (by kernel_rfl) (cast (congrFun (congrFun (congrFun pdV_eq n) li) (caps 0)) (pdV_ok n li (caps 0) h1 h2))
      have := Call.frameL (P := Try.prog) (f := 49) (H := H) (Et := []) (Ft := []) (N := [pu n (runA n li).tk (newS 2 li.length) (runA n li).slid (runA n li).fell, rws (runA n li).lies]) (L := [])
        (ags := [.val (vi n), .ints .i64 li]) (vs := [vi n, .slice (some ad) m c]) (v := .tuple #[ptr0 1, vi 0]) rfl rfl (by simp) (fun _ h => by cases h) (fun c o h => by simp at h) (fun _ h => by cases h)
        ⟨rfl, rfl, hi, (fun _ _ hm => by cases hm), trivial⟩ hc (mem_two (nm_pu rfl) nm_ints) (mem_two rfl rfl) (nm_two rfl)
        (mem_two (by rw [omap_pu]; exact sc_pu (by simp [nameL, canonH2])) (by rw [omap_rws]; exact sc_ints)) (by rw [nmap_two]; exact sc_two (by simp [nameL, canonH2]))
      simp only [List.map_cons, List.map_nil, omap_pu, omap_rws, nmap_two] at this
      simp only [Int.toNat_natCast]
      exact this
  · rename_i ψ a hne ht
    obtain ⟨hψ, h1⟩ := andO_iff.1 hφ
    obtain ⟨n, rfl⟩ := errD_pos h1
    rcases toArg_any ht hψ with ⟨rfl, h4⟩ | ⟨b, s, c, rfl, h4⟩ | ⟨ad, m, c, l', rfl, e, hi⟩
    · have hc := fun _ : Nat → Nat => Call.ofVcR EPush_ok mixed (c := pdB) (args := [vi n, nilS]) Try.func49 (by kernel_rfl) (cast (congrFun pdN_eq n) (pdN_ok n h1))
      have := Call.frameL (P := Try.prog) (f := 49) (H := H) (Et := []) (Ft := []) (N := [pu n emp nilS 0 0]) (L := [])
        (ags := [.val (vi n), .val nilS]) (vs := [vi n, nilS]) (v := .tuple #[ptr0 0, vi 0]) rfl rfl (by simp) (fun _ h => by cases h) (fun c o h => by simp at h) (fun _ h => by cases h)
        ⟨rfl, rfl, rfl, rfl, trivial⟩ hc (mem_one nm_puN) (mem_one rfl) (nm_two rfl) (mem_one (by rw [omap_puN]; exact sc_puN)) (by rw [nmap_two]; exact sc_two (by simp [nameL, canonH2]))
      simp only [List.map_cons, List.map_nil, omap_puN, nmap_two] at this
      exact this
    · have hc := fun caps : Nat → Nat => Call.ofVcR EPush_ok mixed (c := pdB) (args := [vi n, .slice (some ⟨0,0,s⟩) 0 (caps 0)]) Try.func49 (by kernel_rfl) (cast (congrFun (congrFun (congrFun pdH_eq n) s) (caps 0)) (pdH_ok n s (caps 0) h1))
      have := Call.frameL (P := Try.prog) (f := 49) (H := H) (Et := []) (Ft := []) (N := [pu n emp nilS 0 0]) (L := [])
        (ags := [.val (vi n), .hole s]) (vs := [vi n, .slice (some ⟨b,0,s⟩) 0 c]) (v := .tuple #[ptr0 1, vi 0]) rfl rfl (by simp) (fun _ h => by cases h) (fun c o h => by simp at h) (fun _ h => by cases h)
        ⟨rfl, rfl, ⟨b, c, rfl⟩, trivial⟩ hc (mem_one nm_puN) (mem_one rfl) (nm_two rfl) (mem_one (by rw [omap_puN]; exact sc_puN)) (by rw [nmap_two]; exact sc_two (by simp [nameL, canonH2]))
      simp only [List.map_cons, List.map_nil, omap_puN, nmap_two] at this
      exact this
    · exact absurd e (hne _ _)
theorem pushedX_ok : ∀ args H φ v H' l, pushedX args H = some (φ, v, H', l) → Asks φ → Call Try.prog 49 args H (fun v' H2 => v' = v ∧ H2 = H') ∧ Kept H H' l := by
  intro args H φ v H' l h hφ
  unfold pushedX at h
  split at h <;> try (cases h; done)
  rename_i p sv
  split at h <;> cases h
  rename_i ψ a ht
  obtain ⟨hψ, h1, h2⟩ := andO_iff.1 hφ
  have fin : ∀ {e : Int} {as0 : List Arg} , (∀ caps, Call Try.prog 49 (canonA caps 0 as0) (canonH as0) fun v _ => v = .tuple #[nilP, vi e]) → ReadA H as0 [vi p, sv] → Call Try.prog 49 [vi p, sv] H (fun v' H2 => v' = .tuple #[nilP, vi e] ∧ H2 = H) ∧ Kept H H [] :=
    fun hc hr => ⟨Call.ofArgs hc (by simp [sc, sc2, sc1, sc0, nilP]) hr, Kept.refl _ _⟩
  rcases toArg_any ht hψ with ⟨rfl, h4⟩ | ⟨b, s, c, rfl, h4⟩ | ⟨ad, m, c, l', rfl, rfl, hi⟩
  · rw [h4] at h1 ⊢
    exact fin («as0» := [.plain (vi p), .plain nilS]) (fun caps => (Call.ofVcR EPush_ok mixed (c := pdB) Try.func49 (by kernel_rfl) (cast (congrFun pdNX_eq p) (pdNX_ok p h1))).mono fun _ _ h => h.1) ⟨rfl, rfl, rfl, rfl, trivial⟩
  · rw [h4] at h1 ⊢
    exact fin («as0» := [.plain (vi p), .hole s]) (fun caps => (Call.ofVcR EPush_ok mixed (c := pdB) Try.func49 (by kernel_rfl) (cast (congrFun (congrFun (congrFun pdHX_eq p) s) (caps 0)) (pdHX_ok p s (caps 0) h1))).mono fun _ _ h => h.1) ⟨rfl, rfl, ⟨b, c, rfl⟩, trivial⟩
  · exact fin («as0» := [.plain (vi p), .ints .i64 l']) (fun caps => (Call.ofVcR EPush_ok mixed (c := pdB) Try.func49 (by kernel_rfl) (cast (congrFun (congrFun (congrFun pdX_eq p) l') (caps 0)) (pdX_ok p l' (caps 0) h1 h2))).mono fun _ _ h => h.1) ⟨rfl, rfl, hi, trivial⟩

end Go.Pier.Lg

/-
  Pier, part ZT: maps whose entries are known ags a list of keys and numbers; ranges over them, in whatever order.
-/
namespace Go.Pier
open Go

variable {P : Program} {H H' : Heap} {K : Type} [DecidableEq K] {g : K → Prop} {kv : K → Value}

omit [DecidableEq K] in
theorem erase_mapG {α β : Type} (f : α → β) : ∀ (l : List α) (i : Nat), (l.map f).eraseIdx i = (l.eraseIdx i).map f
  | [], _ => rfl
  | _ :: _, 0 => rfl
  | a :: l, i + 1 => by simp only [List.map_cons, List.eraseIdx_cons_succ, erase_mapG f l i]

structure KeyOk (P : Program) (kt : TypeId) (g : K → Prop) (kv : K → Value) : Prop where
  eq : ∀ a b, g a → g b → pureRun P (Op.equal kt (kv a) (kv b)) = some (decide (a = b))
  now : ∃ d, P.underlying kt = some d ∧ ∀ a b, g a → g b → Instr.sameNow d (kv a) (kv b) = none
  chk : ∀ e a, g a → pureRun P (Instr.checkKey e 10000 kt (kv a)) = some ()
  bits : ∀ a, g a → Instr.sameBits 10000 (kv a) (kv a) = true
  sc : ∀ a, g a → sc2 0 (kv a) = true

abbrev Ent (K : Type) := K × Int × Nat
def mkE (kv : K → Value) (x : Ent K) : MapEntry := { key := kv x.1, val := .int .i64 x.2.1, born := x.2.2 }
def ent (kv : K → Value) (L : List (Ent K)) : List MapEntry := L.map (mkE kv)
def unE (uk : Value → K) (e : MapEntry) : Ent K := (uk e.key, intOf e.val, e.born)
def un (uk : Value → K) (es : List MapEntry) : List (Ent K) := es.map (unE uk)
omit [DecidableEq K] in
theorem un_ent {uk : Value → K} {L : List (Ent K)} (h : ∀ x ∈ L, uk (kv x.1) = x.1) : un uk (ent kv L) = L := by
  unfold un ent
  rw [List.map_map]
  have : L.map (unE uk ∘ mkE kv) = L.map id := List.map_congr_left fun x hx => by
    simp only [Function.comp, unE, mkE, h x hx, intOf, id]
  rw [this, List.map_id]

structure WF (g : K → Prop) (L : List (Ent K)) (c : Nat) : Prop where
  good : ∀ x ∈ L, g x.1
  keys : L.Pairwise fun a b => a.1 ≠ b.1
  borns : L.Pairwise fun a b => a.2.2 ≠ b.2.2
  old : ∀ x ∈ L, x.2.2 < c
omit [DecidableEq K] in
theorem WF.sub {L M : List (Ent K)} {c : Nat} (h : WF g L c) (hs : M.Sublist L) : WF g M c :=
  ⟨fun x hx => h.good x (hs.subset hx), h.keys.sublist hs, h.borns.sublist hs, fun x hx => h.old x (hs.subset hx)⟩

/-- Where a key stands, and what is beside it. -/
def findK (k : K) : List (Ent K) → Nat → Option (Nat × Ent K)
  | [], _ => none
  | x :: r, i => if x.1 = k then some (i, x) else findK k r (i + 1)
def hasK (L : List (Ent K)) (k : K) : Bool := L.any fun x => decide (x.1 = k)
def lookL (L : List (Ent K)) (k : K) : Int := match findK k L 0 with | some (_, x) => x.2.1 | none => 0
def slotL (L : List (Ent K)) (k : K) (c : Nat) : Nat := match findK k L 0 with | some (_, x) => x.2.2 | none => c
def touchL (L : List (Ent K)) (k : K) (c : Nat) : List (Ent K) := match findK k L 0 with | some _ => L | none => L ++ [(k, 0, c)]
def touchC (L : List (Ent K)) (k : K) (c : Nat) : Nat := match findK k L 0 with | some _ => c | none => c + 1
def delL (L : List (Ent K)) (k : K) : List (Ent K) := L.filter fun x => !decide (x.1 = k)
omit [DecidableEq K] in
def storeL (L : List (Ent K)) (n : Nat) (v : Int) : List (Ent K) := L.map fun x => if x.2.2 = n then (x.1, v, x.2.2) else x
def addL (L : List (Ent K)) (k : K) (d : Int) (c : Nat) : List (Ent K) := match findK k L 0 with | some _ => L.map fun x => if x.1 = k then (x.1, x.2.1 + d, x.2.2) else x | none => L ++ [(k, d, c)]

theorem findK_some {k : K} : ∀ {L : List (Ent K)} {j i : Nat} {x : Ent K}, findK k L j = some (i, x) → j ≤ i ∧ L[i - j]? = some x ∧ x.1 = k
  | [], _, _, _, h => by cases h
  | a :: r, j, i, x, h => by
    unfold findK at h
    split at h
    · cases h; simp [*]
    · obtain ⟨h1, h2, h3⟩ := findK_some h
      refine ⟨by omega, ?_, h3⟩
      rw [show i - j = (i - (j + 1)) + 1 by omega]
      simpa using h2
theorem findK_none {k : K} : ∀ {L : List (Ent K)} {j : Nat}, findK k L j = none → ∀ x ∈ L, x.1 ≠ k
  | [], _, _, x, hx => by cases hx
  | a :: r, j, h, x, hx => by
    unfold findK at h
    split at h
    · cases h
    · rcases List.mem_cons.1 hx with rfl | hx
      · assumption
      · exact findK_none h x hx
theorem inj_of {α β : Type} {f : α → β} {L : List α} (h : L.Pairwise fun a b => f a ≠ f b) {x y : α} (hx : x ∈ L) (hy : y ∈ L) (e : f x = f y) : x = y := by
  induction L with
  | nil => cases hx
  | cons a l ih =>
    rw [List.pairwise_cons] at h
    rcases List.mem_cons.1 hx with rfl | h1 <;> rcases List.mem_cons.1 hy with rfl | h2
    · rfl
    · exact absurd e (h.1 _ h2)
    · exact absurd e.symm (h.1 _ h1)
    · exact ih h.2 h1 h2
theorem inj_idx {α β : Type} {f : α → β} : ∀ {L : List α} {i j : Nat} {x y : α}, L.Pairwise (fun a b => f a ≠ f b) → L[i]? = some x → L[j]? = some y → f x = f y → i = j
  | [], _, _, _, _, _, h, _, _ => by simp at h
  | a :: l, 0, 0, _, _, _, _, _, _ => rfl
  | a :: l, 0, j + 1, x, y, h, hx, hy, e => by
    simp only [List.getElem?_cons_zero, Option.some.injEq] at hx
    subst hx
    exact absurd e ((List.pairwise_cons.1 h).1 y (List.mem_of_getElem? (by simpa using hy)))
  | a :: l, i + 1, 0, x, y, h, hx, hy, e => by
    simp only [List.getElem?_cons_zero, Option.some.injEq] at hy
    subst hy
    exact absurd e.symm ((List.pairwise_cons.1 h).1 x (List.mem_of_getElem? (by simpa using hx)))
  | a :: l, i + 1, j + 1, x, y, h, hx, hy, e => by
    have := inj_idx (f := f) (i := i) (j := j) (List.pairwise_cons.1 h).2 (by simpa using hx) (by simpa using hy) e
    rw [this]
theorem findK_mem {k : K} {L : List (Ent K)} {x : Ent K} (hw : L.Pairwise fun a b => a.1 ≠ b.1) (hx : x ∈ L) (hk : x.1 = k) : ∃ i, findK k L 0 = some (i, x) := by
  cases h : findK k L 0 with
  | none => exact absurd hk (findK_none h x hx)
  | some p =>
    obtain ⟨i, y⟩ := p
    obtain ⟨_, h2, h3⟩ := findK_some h
    have hy := List.mem_of_getElem? h2
    have := inj_of (f := fun x : Ent K => x.1) hw hx hy (hk.trans h3.symm)
    exact ⟨i, by rw [this]⟩
theorem ask_ent {kt : TypeId} (hK : KeyOk P kt g kv) {k : K} (hk : g k) : ∀ (L : List (Ent K)) (j : Nat), (∀ x ∈ L, g x.1) → aAsk P kt (kv k) (ent kv L) j = some ((findK k L j).map fun p => (p.1, Value.int .i64 p.2.2.1))
  | [], _, _ => rfl
  | x :: r, j, h => by
    have h1 := hK.eq k x.1 hk (h x List.mem_cons_self)
    show (pureRun P (Op.equal kt (kv k) (kv x.1))).bind _ = _
    rw [h1]
    simp only [Option.bind_some, decide_eq_true_eq]
    unfold findK
    by_cases e : k = x.1
    · rw [if_pos e, if_pos e.symm]; rfl
    · rw [if_neg e, if_neg (Ne.symm e)]
      exact ask_ent hK hk r (j + 1) fun y hy => h y (List.mem_cons_of_mem _ hy)
theorem find_ent {kt : TypeId} (hK : KeyOk P kt g kv) {k : K} (hk : g k) {L : List (Ent K)} (h : ∀ x ∈ L, g x.1) : aFindKey P kt (kv k) (ent kv L) = some ((findK k L 0).map fun p => (p.1, Value.int .i64 p.2.2.1)) := by
  obtain ⟨d, h1, h2⟩ := hK.now
  unfold aFindKey
  rw [h1]
  simp only [Option.bind_some]
  cases L with
  | nil => rfl
  | cons x r =>
    have hn : Instr.findNow d (kv k) (ent kv (x :: r)) 0 = none := by
      show (match Instr.sameNow d (kv k) (kv x.1) with | some true => _ | some false => _ | none => none) = none
      rw [h2 k x.1 hk (h x List.mem_cons_self)]
    rw [hn]
    exact ask_ent hK hk _ 0 h

theorem erase_filter {k : K} : ∀ {M : List (Ent K)} {i j : Nat} {x : Ent K}, M.Pairwise (fun a b => a.1 ≠ b.1) → findK k M j = some (i, x) → M.eraseIdx (i - j) = delL M k
  | [], _, _, _, _, h => by cases h
  | a :: r, i, j, x, hp, h => by
    obtain ⟨hp1, hp2⟩ := List.pairwise_cons.1 hp
    unfold findK at h
    split at h
    · rename_i e
      cases h
      simp only [Nat.sub_self, List.eraseIdx_zero, List.tail_cons]
      unfold delL
      rw [List.filter_cons, if_neg (by simp [e])]
      exact (List.filter_eq_self.2 fun y hy => by
        have := hp1 y hy
        simp; intro e2; exact this (e.trans e2.symm)).symm
    · rename_i e
      obtain ⟨h1, _, _⟩ := findK_some h
      have := erase_filter hp2 h
      rw [show i - j = (i - (j + 1)) + 1 by omega, List.eraseIdx_cons_succ, this]
      unfold delL
      rw [List.filter_cons, if_pos (by simp [e])]
theorem del_none {k : K} {M : List (Ent K)} (h : findK k M 0 = none) : delL M k = M :=
  List.filter_eq_self.2 fun y hy => by simp [findK_none h y hy]
section
variable {kt et t : TypeId} (hK : KeyOk P kt g kv) {m c : Nat} {L : List (Ent K)} (hu : P.underlying t = some (.map kt et)) (hw : WF g L c)
include hK hu hw
theorem look_ok (hz : zeroT P et = some (.int .i64 0)) (hm : H[m]? = some (.map (ent kv L) c)) {k : K} (hk : g k) : aLookup P H t (.map (some m)) (kv k) false = some (.int .i64 (lookL L k)) := by
  unfold aLookup
  rw [hu]
  simp only [aEntries, hm, Option.bind_some]
  rw [if_pos (sc_of_sc2 (hK.sc k hk)), hK.chk _ k hk]
  simp only [Option.bind_some, find_ent hK hk hw.good]
  unfold lookL
  cases findK k L 0 with
  | none => simp [hz]
  | some p => simp
theorem del_ok {tys : Array TypeId} (ht : tys[0]? = some t) (hm : H[m]? = some (.map (ent kv L) c)) {k : K} (hk : g k) : aDelete P H tys (.map (some m)) (kv k) = some (H.set m (.map (ent kv (delL L k)) c)) := by
  unfold aDelete
  rw [ht]
  simp only [hu, hm]
  rw [if_pos (sc_of_sc2 (hK.sc k hk)), hK.chk _ k hk]
  simp only [Option.bind_some, find_ent hK hk hw.good, Option.map_some]
  cases hf : findK k L 0 with
  | none => simp only [Option.map_none]; rw [del_none hf]
  | some p =>
    obtain ⟨i, x⟩ := p
    simp only [Option.map_some]
    have := erase_filter hw.keys hf
    rw [Nat.sub_zero] at this
    unfold ent
    rw [← this, erase_mapG]
theorem entry_ok (hz : zeroT P et = some (.int .i64 0)) (hm : H[m]? = some (.map (ent kv L) c)) {k : K} (hk : g k) :
    aMapEntry P H t (.map (some m)) (kv k) = some (.tuple #[.int .i64 (lookL L k), goInt (slotL L k c)], H.set m (.map (ent kv (touchL L k c)) (touchC L k c))) := by
  unfold aMapEntry
  rw [hu]
  simp only [hm]
  rw [if_pos (hK.sc k hk), hK.chk _ k hk]
  simp only [Option.bind_some, find_ent hK hk hw.good]
  unfold lookL slotL touchL touchC
  cases hf : findK k L 0 with
  | none =>
    simp only [Option.map_none, hz, Option.map_some]
    simp [ent, mkE]
  | some p =>
    obtain ⟨i, x⟩ := p
    obtain ⟨_, h2, h3⟩ := findK_some hf
    rw [Nat.sub_zero] at h2
    simp only [Option.map_some]
    have hx : (ent kv L)[i]? = some (mkE kv x) := by unfold ent; rw [List.getElem?_map, h2]; rfl
    rw [hx]
    simp only
    rw [if_pos (by show Instr.sameBits 10000 (kv x.1) (kv k) = true; rw [h3]; exact hK.bits k hk)]
    have hmod : (ent kv L).modify i (fun e => { e with key := kv k }) = ent kv L := by
      apply List.ext_getElem?
      intro j
      rw [List.getElem?_modify]
      by_cases e : i = j
      · subst e; rw [hx]; simp [mkE, h3]
      · simp [e]
    rw [hmod]
    rfl
end
omit [DecidableEq K] in
theorem store_ok {m c n : Nat} {L : List (Ent K)} {v : Int} (hb : L.Pairwise fun a b => a.2.2 ≠ b.2.2) (hm : H[m]? = some (.map (ent kv L) c)) (hn : ∃ x ∈ L, x.2.2 = n) :
    aEntryStore H (.map (some m)) (goInt n) (.int .i64 v) = some (H.set m (.map (ent kv (storeL L n v)) c)) := by
  unfold aEntryStore goInt
  simp only [hm]
  rw [if_pos (show sc2 H.length (.int .i64 v) = true from rfl)]
  have hf : ∃ i x, (ent kv L).findIdx? (fun e => (e.born : Int) == (n : Int)) = some i ∧ L[i]? = some x ∧ x.2.2 = n := by
    obtain ⟨x, hx, hxn⟩ := hn
    cases h : (ent kv L).findIdx? (fun e => (e.born : Int) == (n : Int)) with
    | none =>
      rw [List.findIdx?_eq_none_iff] at h
      have := h (mkE kv x) (List.mem_map_of_mem hx)
      simp [mkE, hxn] at this
    | some i =>
      rw [List.findIdx?_eq_some_iff_getElem] at h
      obtain ⟨h1, h2, _⟩ := h
      have hlt : i < L.length := by simpa [ent] using h1
      refine ⟨i, L[i], rfl, List.getElem?_eq_getElem hlt, ?_⟩
      simp [ent, mkE] at h2
      omega
  obtain ⟨i, x, h1, h2, h3⟩ := hf
  rw [h1]
  simp only
  congr 2
  congr 1
  apply List.ext_getElem?
  intro j
  unfold ent storeL
  rw [List.getElem?_modify, List.getElem?_map, List.getElem?_map, List.getElem?_map]
  by_cases e : i = j
  · subst e; rw [h2]; simp [mkE, h3]
  · cases hj : L[j]? with
    | none => simp
    | some y =>
      have hne : y.2.2 ≠ n := fun hy => by
        have h4 := inj_idx (f := fun x : Ent K => x.2.2) hb h2 hj (h3.trans hy.symm)
        exact e h4
      simp [e, hne]
/-- Adding to an entry, new or not. -/
theorem store_touch {L : List (Ent K)} {c : Nat} {k : K} {d : Int} (hw : WF g L c) : storeL (touchL L k c) (slotL L k c) (lookL L k + d) = addL L k d c := by
  unfold touchL slotL lookL addL
  cases hf : findK k L 0 with
  | none =>
    simp only
    unfold storeL
    rw [List.map_append]
    have : L.map (fun x : Ent K => if x.2.2 = c then (x.1, 0 + d, x.2.2) else x) = L.map id := List.map_congr_left fun x hx => by
      have := hw.old x hx
      simp only [id]
      rw [if_neg (by omega)]
    rw [this]
    simp
  | some p =>
    obtain ⟨i, x⟩ := p
    obtain ⟨_, h2, h3⟩ := findK_some hf
    simp only
    unfold storeL
    refine List.map_congr_left fun y hy => ?_
    by_cases e : y.1 = k
    · have := inj_of (f := fun x : Ent K => x.1) hw.keys hy (List.mem_of_getElem? h2) (e.trans h3.symm)
      subst this
      simp [e]
    · rw [if_neg e, if_neg]
      intro hb
      have := inj_of (f := fun x : Ent K => x.2.2) hw.borns hy (List.mem_of_getElem? h2) hb
      subst this
      exact e h3
theorem addL_wf {L : List (Ent K)} {c : Nat} {k : K} {d : Int} (hw : WF g L c) (hk : g k) : WF g (addL L k d c) (touchC L k c) := by
  unfold addL touchC
  cases hf : findK k L 0 with
  | none =>
    simp only
    have hn := findK_none hf
    refine ⟨fun x hx => ?_, ?_, ?_, fun x hx => ?_⟩
    · rcases List.mem_append.1 hx with h | h
      · exact hw.good x h
      · rw [List.mem_singleton.1 h]; exact hk
    · rw [List.pairwise_append]
      exact ⟨hw.keys, by simp, fun a ha b hb => by rw [List.mem_singleton.1 hb]; exact hn a ha⟩
    · rw [List.pairwise_append]
      exact ⟨hw.borns, by simp, fun a ha b hb => by rw [List.mem_singleton.1 hb]; have := hw.old a ha; simp only; omega⟩
    · rcases List.mem_append.1 hx with h | h
      · have := hw.old x h; omega
      · rw [List.mem_singleton.1 h]; simp
  | some p =>
    simp only
    refine ⟨fun x hx => ?_, ?_, ?_, fun x hx => ?_⟩
    · obtain ⟨y, hy, rfl⟩ := List.mem_map.1 hx
      split <;> exact hw.good y hy
    · rw [List.pairwise_map]
      refine hw.keys.imp fun {a b} h => ?_
      split <;> split <;> exact h
    · rw [List.pairwise_map]
      refine hw.borns.imp fun {a b} h => ?_
      split <;> split <;> exact h
    · obtain ⟨y, hy, rfl⟩ := List.mem_map.1 hx
      split <;> exact hw.old y hy

/-! ### What a list of entries says of a key -/
theorem look_mem {L : List (Ent K)} (hw : L.Pairwise fun a b => a.1 ≠ b.1) {x : Ent K} (hx : x ∈ L) : lookL L x.1 = x.2.1 := by
  obtain ⟨i, h⟩ := findK_mem hw hx rfl
  unfold lookL; rw [h]
theorem look_none {L : List (Ent K)} {k : K} (h : ∀ x ∈ L, x.1 ≠ k) : lookL L k = 0 := by
  unfold lookL
  cases hf : findK k L 0 with
  | none => rfl
  | some p => obtain ⟨_, h2, h3⟩ := findK_some (i := p.1) (x := p.2) hf; exact absurd h3 (h _ (List.mem_of_getElem? h2))
theorem look_add {L : List (Ent K)} {c : Nat} {k j : K} {d : Int} (hw : WF g L c) (hk : g k) : lookL (addL L k d c) j = lookL L j + if k = j then d else 0 := by
  have hw' := addL_wf (d := d) hw hk
  by_cases hj : ∃ x ∈ addL L k d c, x.1 = j
  · obtain ⟨x, hx, rfl⟩ := hj
    rw [look_mem hw'.keys hx]
    unfold addL at hx
    split at hx
    · rename_i p hp
      obtain ⟨y, hy, rfl⟩ := List.mem_map.1 hx
      by_cases e : y.1 = k
      · rw [if_pos e]
        simp only [if_pos e.symm, look_mem hw.keys hy]
      · simp only [if_neg e, look_mem hw.keys hy, if_neg (Ne.symm e)]; simp
    · rename_i hp
      rcases List.mem_append.1 hx with h | h
      · have := findK_none hp x h
        rw [look_mem hw.keys h, if_neg (Ne.symm this)]; simp
      · rw [List.mem_singleton.1 h]
        simp only [if_pos]
        rw [look_none (findK_none hp)]; simp
  · rw [look_none fun x hx e => hj ⟨x, hx, e⟩]
    unfold addL at hj
    split at hj
    · rename_i p hp
      have h1 : ∀ x ∈ L, x.1 ≠ j := fun x hx e => hj ⟨_, List.mem_map_of_mem hx, by split <;> exact e⟩
      obtain ⟨_, h2, h3⟩ := findK_some (i := p.1) (x := p.2) hp
      rw [look_none h1, if_neg (fun e => h1 _ (List.mem_of_getElem? h2) (h3.trans e))]; simp
    · rw [look_none fun x hx e => hj ⟨x, List.mem_append_left _ hx, e⟩, if_neg (fun e => hj ⟨_, List.mem_append_right _ (List.mem_singleton_self _), e⟩)]; simp
theorem look_del {L : List (Ent K)} {c : Nat} {k j : K} (hw : WF g L c) : lookL (delL L k) j = if k = j then 0 else lookL L j := by
  have hs : (delL L k).Sublist L := List.filter_sublist
  by_cases hj : ∃ x ∈ delL L k, x.1 = j
  · obtain ⟨x, hx, rfl⟩ := hj
    rw [look_mem (hw.keys.sublist hs) hx]
    have h2 := (List.mem_filter.1 hx).2
    simp only [Bool.not_eq_true', decide_eq_false_iff_not] at h2
    rw [if_neg (Ne.symm h2), look_mem hw.keys (hs.subset hx)]
  · rw [look_none fun x hx e => hj ⟨x, hx, e⟩]
    split
    · rfl
    · rename_i e
      symm
      refine look_none fun x hx e2 => hj ⟨x, List.mem_filter.2 ⟨hx, ?_⟩, e2⟩
      simp; intro e3; exact e (e3.symm.trans e2)
end Go.Pier

/-
  Pier, part ZU: operations on maps that are known ags lists, told.
-/
namespace Go.Pier
open Go

variable {P : Program} {H H' : Heap} {K : Type} [DecidableEq K] {g : K → Prop} {kv : K → Value} {uk : Value → K}

def orcMap (P : Program) (kv : K → Value) (uk : Value → K) (tn : Nat) : Orc := fun env H o => match o.op with
  | .lookup t x i ok => match ok, env x, env i with
    | false, some (.map (some m)), some k => match H[m]? with
      | some (.map es _) => some (aLookup P H t (.map (some m)) k false = some (.int .i64 (lookL (un uk es) (uk k))), some (.int .i64 (lookL (un uk es) (uk k))), H)
      | _ => none
    | _, _, _ => none
  | .mapEntry t x i => match env x, env i with
    | some (.map (some m)), some k => match H[m]? with
      | some (.map es c) => some (aMapEntry P H t (.map (some m)) k = some (.tuple #[.int .i64 (lookL (un uk es) (uk k)), .int .i64 (slotL (un uk es) (uk k) c)], H.set m (.map (ent kv (touchL (un uk es) (uk k) c)) (touchC (un uk es) (uk k) c))),
          some (.tuple #[.int .i64 (lookL (un uk es) (uk k)), .int .i64 (slotL (un uk es) (uk k) c)]), H.set m (.map (ent kv (touchL (un uk es) (uk k) c)) (touchC (un uk es) (uk k) c)))
      | _ => none
    | _, _ => none
  | .entryStore _ x s v => match env x, env s, env v with
    | some (.map (some m)), some (.int .i64 n), some (.int .i64 d) => match H[m]? with
      | some (.map es c) => some (aEntryStore H (.map (some m)) (.int .i64 n) (.int .i64 d) = some (H.set m (.map (ent kv (storeL (un uk es) n.toNat d)) c)), none, H.set m (.map (ent kv (storeL (un uk es) n.toNat d)) c))
      | _ => none
    | _, _, _ => none
  | .entry x => match env x, env (.tmp tn) with
    | some it, some (.tuple vs) => match vs.toList with
      | [_, k, v] => some (aEntry H it = some (.tuple #[k, v]), some (.tuple #[k, v]), H)
      | _ => none
    | _, _ => none
  | .call c => match c.callee with
    | .builtin .delete => match envs env c.args.toList with
      | some [.map (some m), k] => match H[m]? with
        | some (.map es cl) => some (aDelete P H c.argTypes (.map (some m)) k = some (H.set m (.map (ent kv (delL (un uk es) (uk k))) cl)), some (.tuple #[]), H.set m (.map (ent kv (delL (un uk es) (uk k))) cl))
        | _ => none
      | _ => none
    | _ => none
  | _ => none
theorem orcMap_ok {tn : Nat} : OrcOk P (orcMap P kv uk tn) := fun env H o φ v H' h hφ => by
  unfold orcMap at h
  split at h <;> try (cases h; done)
  · rename_i t x i ok hop
    split at h <;> try (cases h; done)
    rename_i m k hx hi
    split at h <;> cases h
    unfold evOp
    rw [hop]
    simp only [hx, hi, show aLookup P H t (.map (some m)) k false = _ from hφ, Option.map_some, outOf]
  · rename_i t x i hop
    split at h <;> try (cases h; done)
    rename_i m k hx hi
    split at h <;> cases h
    unfold evOp
    rw [hop]
    simp only [hx, hi, show aMapEntry P H t (.map (some m)) k = _ from hφ, Option.map_some, outOf]
  · rename_i t x s vv hop
    split at h <;> try (cases h; done)
    rename_i m n d hx hs hv
    split at h <;> cases h
    unfold evOp
    rw [hop]
    simp only [hx, hs, hv, show aEntryStore H (.map (some m)) (.int .i64 n) (.int .i64 d) = _ from hφ, Option.map_some, outOf]
  · rename_i x hop
    split at h <;> try (cases h; done)
    rename_i it vs hx ht
    split at h <;> cases h
    unfold evOp
    rw [hop]
    simp only [hx, Option.bind_some, show aEntry H it = _ from hφ, Option.map_some, outOf]
  · rename_i c hop
    split at h <;> try (cases h; done)
    rename_i hcal
    split at h <;> try (cases h; done)
    rename_i m k hargs
    split at h <;> cases h
    unfold evOp
    rw [hop]
    simp only [evCall, hargs, Option.bind_some, hcal, evBuiltin, show aDelete P H c.argTypes (.map (some m)) k = _ from hφ, Option.map_some, outOf]

def doneS (H : Heap) (L : List (Ent K)) (sl : List Nat) : NShape := ⟨Unit, fun _ => ∀ x ∈ L, x.2.2 ∈ sl, fun _ => .tuple #[.bool false], fun _ => H, some false⟩
def moreS (kv : K → Value) (H : Heap) (a m s : Nat) (L : List (Ent K)) (sl : List Nat) (c : Nat) : NShape :=
  ⟨Ent K, fun x => x ∈ L ∧ x.2.2 ∉ sl, fun x => .tuple #[.bool true, kv x.1, .int .i64 x.2.1], fun x => H.set a (.iter m s (sl ++ [x.2.2]).toArray c), some true⟩
def nxMap (kv : K → Value) (uk : Value → K) : Heap → Value → List NShape := fun H v => match v with
  | .pointer (some a) => match H[a.block]? with
    | some (.iter m s seen c) => match H[m]? with
      | some (.map es _) => [doneS H (un uk es) seen.toList, moreS kv H a.block m s (un uk es) seen.toList c]
      | _ => []
    | _ => []
  | _ => []
omit [DecidableEq K] in
theorem next_ok {a m c : Nat} {sl : List Nat} {L : List (Ent K)} (hw : WF g L c) (hi : H[a]? = some (.iter m c sl.toArray c)) (hm : H[m]? = some (.map (ent kv L) c)) :
    NextOk H (.pointer (some ⟨a, 0, none⟩)) [doneS H L sl, moreS kv H a m c L sl c] := by
  unfold NextOk aNext
  simp only [if_true, hi, hm]
  rw [if_neg]
  · refine ⟨_, rfl, fun p hp => ?_⟩
    obtain ⟨q, hq, rfl⟩ := List.mem_map.1 hp
    unfold candList at hq
    simp only at hq
    rcases List.mem_append.1 hq with h | h
    · split at h
      · rename_i he
        rw [List.mem_singleton.1 h]
        refine ⟨doneS H L sl, List.mem_cons_self, (), fun x hx => ?_, rfl⟩
        rw [List.isEmpty_iff, List.filter_eq_nil_iff] at he
        have h1 := hw.old x hx
        have h2 := he (mkE kv x)
        by_cases hs : x.2.2 ∈ sl
        · exact hs
        · exact absurd (decide_eq_true (p := (mkE kv x).born < c) h1) (h2 (List.mem_filter.2 ⟨List.mem_map_of_mem hx, by simp [mkE, hs]⟩))
      · cases h
    · obtain ⟨e, he, rfl⟩ := List.mem_map.1 h
      have he' : e ∈ (ent kv L).filter fun e => !sl.toArray.contains e.born := by
        rcases List.mem_append.1 he with h1 | h1
        · exact (List.mem_filter.1 h1).1
        · exact (List.mem_filter.1 h1).1
      obtain ⟨h1, h2⟩ := List.mem_filter.1 he'
      obtain ⟨x, hx, rfl⟩ := List.mem_map.1 h1
      refine ⟨moreS kv H a m c L sl c, List.mem_cons_of_mem _ List.mem_cons_self, x, ⟨hx, by simpa [mkE] using h2⟩, ?_⟩
      simp [moreS, mkE]
  · simp only [Bool.and_eq_true, not_and, Bool.not_eq_true]
    intro ⟨_, hne⟩
    cases L with
    | nil => simp [ent] at hne
    | cons x l =>
      have := hw.old x List.mem_cons_self
      simp [ent, mkE]; intro hx; omega
omit [DecidableEq K] in
theorem ent_ok {a m c : Nat} {sl : List Nat} {L : List (Ent K)} {x : Ent K} (hb : L.Pairwise fun a b => a.2.2 ≠ b.2.2) (hx : x ∈ L) (hi : H[a]? = some (.iter m c (sl ++ [x.2.2]).toArray c)) (hm : H[m]? = some (.map (ent kv L) c)) :
    aEntry H (.pointer (some ⟨a, 0, none⟩)) = some (.tuple #[kv x.1, .int .i64 x.2.1]) := by
  unfold aEntry
  have h1 : ((sl ++ [x.2.2]).toArray).back? = some x.2.2 := by simp
  simp only [if_true, hi, hm, h1]
  have hf : (ent kv L).find? (fun e => e.born == x.2.2) = some (mkE kv x) := by
    cases h : (ent kv L).find? (fun e => e.born == x.2.2) with
    | none =>
      have := List.find?_eq_none.1 h (mkE kv x) (List.mem_map_of_mem hx)
      simp [mkE] at this
    | some y =>
      have h2 := List.mem_of_find?_eq_some h
      have h3 := List.find?_some h
      obtain ⟨z, hz, rfl⟩ := List.mem_map.1 h2
      have := inj_of (f := fun x : Ent K => x.2.2) hb hz hx (by simpa [mkE] using h3)
      rw [this]
  rw [hf]; rfl

end Go.Pier

set_option maxRecDepth 100000
set_option linter.unusedVariables false
set_option linter.unusedSimpArgs false
namespace Go.Pier.Lg
open Go Go.Pier Go.Proofs 
/-- A ledge as a key: its places, and which are taken. -/
def kL (n : Int) (k : Fin 256) : Value := .agg #[vi n, .bool (k.1.testBit 0), .bool (k.1.testBit 1), .bool (k.1.testBit 2), .bool (k.1.testBit 3), .bool (k.1.testBit 4), .bool (k.1.testBit 5), .bool (k.1.testBit 6), .bool (k.1.testBit 7)]
def maskOf (b : Nat → Bool) : Nat := (b 0).toNat + 2 * (b 1).toNat + 4 * (b 2).toNat + 8 * (b 3).toNat + 16 * (b 4).toNat + 32 * (b 5).toNat + 64 * (b 6).toNat + 128 * (b 7).toNat
def aggC' : Value → List Value | .agg cs => cs.toList | _ => []
theorem mask_lt (b : Nat → Bool) : maskOf b < 256 := by
  unfold maskOf
  have h : ∀ c : Bool, c.toNat ≤ 1 := fun c => by cases c <;> decide
  have := h (b 0); have := h (b 1); have := h (b 2); have := h (b 3); have := h (b 4); have := h (b 5); have := h (b 6); have := h (b 7)
  omega
def uL (v : Value) : Fin 256 := ⟨maskOf fun i => getB (aggC' v) (1 + i), mask_lt _⟩
def gL (_ : Fin 256) : Prop := True


theorem undl {t : TypeId} {d : TypeDesc} (h : Try.prog.underlying t = some d) : pureRun Try.prog (Go.underlying t) = some d := by
  show pureRun Try.prog (match Try.prog.underlying t with | some d => (Sem.pure d : Sem TypeDesc) | none => stuck "no such type") = _
  rw [h]; rfl
theorem u60 : Try.prog.underlying 60 = some (.array 8 4) := by kernel_rfl
theorem u4 : Try.prog.underlying 4 = some .bool := by kernel_rfl
theorem u3 : Try.prog.underlying 3 = some (.int .i64) := by kernel_rfl
theorem eqBool (d : Nat) (a b : Bool) : pureRun Try.prog (Op.equalIn (d + 1) 4 (.bool a) (.bool b)) = some (a == b) := by
  unfold Op.equalIn
  rw [pureRun_bind (undl u4)]
  rfl
theorem eqInt (d : Nat) (a b : Int) : pureRun Try.prog (Op.equalIn (d + 1) 3 (vi a) (vi b)) = some (a == b) := by
  unfold Op.equalIn
  rw [pureRun_bind (undl u3)]
  rfl
theorem loop_eq {α : Type} {f : α → Option Bool × Unit → Sem (ForInStep (Option Bool × Unit))} {e : α → Bool} : ∀ (l : List α), (∀ i ∈ l, ∀ s, pureRun Try.prog (f i s) = some (if e i = true then .yield (none, ()) else .done (some false, ()))) →
    pureRun Try.prog (forIn l ((none, ()) : Option Bool × Unit) f) = some (if l.all e = true then (none, ()) else (some false, ()))
  | [], _ => rfl
  | a :: l, h => by
    rw [List.forIn_cons, pureRun_bind (h a List.mem_cons_self _)]
    cases he : e a with
    | true =>
      simp only [if_true, List.all_cons, he, Bool.true_and]
      exact loop_eq l fun i hi s => h i (List.mem_cons_of_mem _ hi) s
    | false => simp [he]; rfl
theorem partAt {x0 x1 x2 x3 x4 x5 x6 x7 : Bool} {i : Nat} (h : i < 8) : pureRun Try.prog (part 4 #[.bool x0, .bool x1, .bool x2, .bool x3, .bool x4, .bool x5, .bool x6, .bool x7] (i * 1)) = some (.bool (getB [.bool x0, .bool x1, .bool x2, .bool x3, .bool x4, .bool x5, .bool x6, .bool x7] i)) := by
  rcases i with _ | _ | _ | _ | _ | _ | _ | _ | i
  · kernel_rfl
  · kernel_rfl
  · kernel_rfl
  · kernel_rfl
  · kernel_rfl
  · kernel_rfl
  · kernel_rfl
  · kernel_rfl
  · omega
theorem eqArr (d : Nat) (x0 x1 x2 x3 x4 x5 x6 x7 y0 y1 y2 y3 y4 y5 y6 y7 : Bool) : pureRun Try.prog (Op.equalIn (d + 2) 60 (.agg #[.bool x0, .bool x1, .bool x2, .bool x3, .bool x4, .bool x5, .bool x6, .bool x7]) (.agg #[.bool y0, .bool y1, .bool y2, .bool y3, .bool y4, .bool y5, .bool y6, .bool y7])) =
    some ((List.range' 0 8).all fun i => getB [.bool x0, .bool x1, .bool x2, .bool x3, .bool x4, .bool x5, .bool x6, .bool x7] i == getB [.bool y0, .bool y1, .bool y2, .bool y3, .bool y4, .bool y5, .bool y6, .bool y7] i) := by
  unfold Op.equalIn
  rw [pureRun_bind (undl u60)]
  simp only []
  rw [pureRun_bind (show pureRun Try.prog (sizeOf 4) = some 1 by kernel_rfl)]
  simp only [Std.Legacy.Range.forIn_eq_forIn_range']
  rw [pureRun_bind (loop_eq (e := fun i => getB [.bool x0, .bool x1, .bool x2, .bool x3, .bool x4, .bool x5, .bool x6, .bool x7] i == getB [.bool y0, .bool y1, .bool y2, .bool y3, .bool y4, .bool y5, .bool y6, .bool y7] i) _ fun i hi s => ?_)]
  · have e8 : List.range' 0 ([:8] : Std.Legacy.Range).size = List.range' 0 8 := rfl
    rw [e8]
    cases (List.range' 0 8).all fun i => getB [.bool x0, .bool x1, .bool x2, .bool x3, .bool x4, .bool x5, .bool x6, .bool x7] i == getB [.bool y0, .bool y1, .bool y2, .bool y3, .bool y4, .bool y5, .bool y6, .bool y7] i <;> rfl
  · have hi8 : i < 8 := by
      have : i ∈ List.range' 0 8 := hi
      simp [List.mem_range'] at this
      omega
    rw [pureRun_bind (partAt hi8), pureRun_bind (partAt hi8), pureRun_bind (eqBool _ _ _)]
    cases getB [.bool x0, .bool x1, .bool x2, .bool x3, .bool x4, .bool x5, .bool x6, .bool x7] i == getB [.bool y0, .bool y1, .bool y2, .bool y3, .bool y4, .bool y5, .bool y6, .bool y7] i <;> rfl
noncomputable def fs62 : Array Field := match Try.prog.underlying 62 with | some (.struct f) => f | _ => #[]
noncomputable def fd0 : Field := fs62.toList.getD 0 default
noncomputable def fd1 : Field := fs62.toList.getD 1 default
theorem u62 : Try.prog.underlying 62 = some (.struct fs62) := by kernel_rfl
theorem l62 : fs62.toList = [fd0, fd1] := by kernel_rfl
theorem eqStruct (d : Nat) (n : Int) (x0 x1 x2 x3 x4 x5 x6 x7 y0 y1 y2 y3 y4 y5 y6 y7 : Bool) : pureRun Try.prog (Op.equalIn (d + 3) 62 (.agg #[vi n, .bool x0, .bool x1, .bool x2, .bool x3, .bool x4, .bool x5, .bool x6, .bool x7]) (.agg #[vi n, .bool y0, .bool y1, .bool y2, .bool y3, .bool y4, .bool y5, .bool y6, .bool y7])) =
    some ((List.range' 0 8).all fun i => getB [.bool x0, .bool x1, .bool x2, .bool x3, .bool x4, .bool x5, .bool x6, .bool x7] i == getB [.bool y0, .bool y1, .bool y2, .bool y3, .bool y4, .bool y5, .bool y6, .bool y7] i) := by
  unfold Op.equalIn
  rw [pureRun_bind (undl u62)]
  simp only []
  rw [pureRun_bind (show pureRun Try.prog program = some Try.prog from rfl)]
  rw [if_neg (show ¬ Program.stoodInHeld Try.prog 62 = true by rw [show Program.stoodInHeld Try.prog 62 = false by kernel_rfl]; exact Bool.false_ne_true)]
  rw [← Array.forIn_toList, l62]
  rw [pureRun_bind (loop_eq (e := fun f : Field => f.offset == 0 || ((List.range' 0 8).all fun i => getB [.bool x0, .bool x1, .bool x2, .bool x3, .bool x4, .bool x5, .bool x6, .bool x7] i == getB [.bool y0, .bool y1, .bool y2, .bool y3, .bool y4, .bool y5, .bool y6, .bool y7] i)) _ fun f hf s => ?_)]
  · have o0 : (fd0.offset == 0) = true := by kernel_rfl
    have o1 : (fd1.offset == 0) = false := by kernel_rfl
    simp only [List.all_cons, List.all_nil, o0, o1, Bool.true_or, Bool.false_or, Bool.true_and, Bool.and_true]
    cases (List.range' 0 8).all fun i => getB [.bool x0, .bool x1, .bool x2, .bool x3, .bool x4, .bool x5, .bool x6, .bool x7] i == getB [.bool y0, .bool y1, .bool y2, .bool y3, .bool y4, .bool y5, .bool y6, .bool y7] i <;> rfl
  · rcases List.mem_cons.1 hf with rfl | hf
    · have o0 : (fd0.offset == 0) = true := by kernel_rfl
      rw [if_pos (show fd0.name ≠ "_" from of_decide_eq_true (by kernel_rfl))]
      rw [pureRun_bind (show pureRun Try.prog (part fd0.type #[vi n, .bool x0, .bool x1, .bool x2, .bool x3, .bool x4, .bool x5, .bool x6, .bool x7] fd0.offset) = some (vi n) by kernel_rfl)]
      rw [pureRun_bind (show pureRun Try.prog (part fd0.type #[vi n, .bool y0, .bool y1, .bool y2, .bool y3, .bool y4, .bool y5, .bool y6, .bool y7] fd0.offset) = some (vi n) by kernel_rfl)]
      rw [show fd0.type = 3 by kernel_rfl, pureRun_bind (eqInt _ _ _), o0]
      simp only [beq_self_eq_true, Bool.true_or]
      rfl
    · rw [List.mem_singleton.1 hf]
      have o1 : (fd1.offset == 0) = false := by kernel_rfl
      rw [if_pos (show fd1.name ≠ "_" from of_decide_eq_true (by kernel_rfl))]
      rw [pureRun_bind (show pureRun Try.prog (part fd1.type #[vi n, .bool x0, .bool x1, .bool x2, .bool x3, .bool x4, .bool x5, .bool x6, .bool x7] fd1.offset) = some (.agg #[.bool x0, .bool x1, .bool x2, .bool x3, .bool x4, .bool x5, .bool x6, .bool x7]) by kernel_rfl)]
      rw [pureRun_bind (show pureRun Try.prog (part fd1.type #[vi n, .bool y0, .bool y1, .bool y2, .bool y3, .bool y4, .bool y5, .bool y6, .bool y7] fd1.offset) = some (.agg #[.bool y0, .bool y1, .bool y2, .bool y3, .bool y4, .bool y5, .bool y6, .bool y7]) by kernel_rfl)]
      rw [show fd1.type = 60 by kernel_rfl, pureRun_bind (eqArr _ _ _ _ _ _ _ _ _ _ _ _ _ _ _ _ _), o1]
      simp only [Bool.false_or]
      cases (List.range' 0 8).all fun i => getB [.bool x0, .bool x1, .bool x2, .bool x3, .bool x4, .bool x5, .bool x6, .bool x7] i == getB [.bool y0, .bool y1, .bool y2, .bool y3, .bool y4, .bool y5, .bool y6, .bool y7] i <;> rfl
theorem bits8 : ∀ b0 b1 b2 b3 b4 b5 b6 b7 : Bool, ∀ m, m = b0.toNat + 2 * b1.toNat + 4 * b2.toNat + 8 * b3.toNat + 16 * b4.toNat + 32 * b5.toNat + 64 * b6.toNat + 128 * b7.toNat →
    m.testBit 0 = b0 ∧ m.testBit 1 = b1 ∧ m.testBit 2 = b2 ∧ m.testBit 3 = b3 ∧ m.testBit 4 = b4 ∧ m.testBit 5 = b5 ∧ m.testBit 6 = b6 ∧ m.testBit 7 = b7 := by
  have : ∀ b0 b1 b2 b3 b4 b5 b6 b7 : Bool, (fun m : Nat => m.testBit 0 = b0 ∧ m.testBit 1 = b1 ∧ m.testBit 2 = b2 ∧ m.testBit 3 = b3 ∧ m.testBit 4 = b4 ∧ m.testBit 5 = b5 ∧ m.testBit 6 = b6 ∧ m.testBit 7 = b7)
      (b0.toNat + 2 * b1.toNat + 4 * b2.toNat + 8 * b3.toNat + 16 * b4.toNat + 32 * b5.toNat + 64 * b6.toNat + 128 * b7.toNat) := by decide +kernel
  intro b0 b1 b2 b3 b4 b5 b6 b7 m hm
  subst hm
  exact this b0 b1 b2 b3 b4 b5 b6 b7
theorem mask_bit (b : Nat → Bool) {i : Nat} (hi : i < 8) : (maskOf b).testBit i = b i := by
  obtain ⟨h0, h1, h2, h3, h4, h5, h6, h7⟩ := bits8 (b 0) (b 1) (b 2) (b 3) (b 4) (b 5) (b 6) (b 7) (maskOf b) rfl
  rcases i with _ | _ | _ | _ | _ | _ | _ | _ | i <;> first | assumption | omega
theorem mask_own : ∀ k : Nat, k < 256 → maskOf (fun i => k.testBit i) = k := by decide +kernel
theorem bits_inj {a b : Nat} (ha : a < 256) (hb : b < 256) (h : ∀ i, i < 8 → a.testBit i = b.testBit i) : a = b := by
  rw [← mask_own a ha, ← mask_own b hb]
  unfold maskOf
  simp only [h 0 (by omega), h 1 (by omega), h 2 (by omega), h 3 (by omega), h 4 (by omega), h 5 (by omega), h 6 (by omega), h 7 (by omega)]
theorem uL_kL {n : Int} {k : Fin 256} : uL (kL n k) = k := Fin.ext (mask_own k.1 k.2)
theorem key_eq (n : Int) (a b : Fin 256) : pureRun Try.prog (Op.equal 62 (kL n a) (kL n b)) = some (decide (a = b)) := by
  have := eqStruct 9997 n (a.1.testBit 0) (a.1.testBit 1) (a.1.testBit 2) (a.1.testBit 3) (a.1.testBit 4) (a.1.testBit 5) (a.1.testBit 6) (a.1.testBit 7) (b.1.testBit 0) (b.1.testBit 1) (b.1.testBit 2) (b.1.testBit 3) (b.1.testBit 4) (b.1.testBit 5) (b.1.testBit 6) (b.1.testBit 7)
  show pureRun Try.prog (Op.equalIn (9997 + 3) 62 _ _) = _
  unfold kL
  rw [this]
  congr 1
  rw [Bool.eq_iff_iff, List.all_eq_true, decide_eq_true_eq]
  constructor
  · intro h
    refine Fin.ext (bits_inj a.2 b.2 fun i hi => ?_)
    have := h i (by simp [List.mem_range']; omega)
    rcases i with _ | _ | _ | _ | _ | _ | _ | _ | i <;> first | (simpa [getB] using this) | omega
  · rintro rfl i _
    simp
theorem keyOk (n : Int) : KeyOk Try.prog 62 gL (kL n) where
  eq := fun a b _ _ => key_eq n a b
  now := ⟨_, u62, fun _ _ _ _ => rfl⟩
  chk := fun e a _ => by cases e <;> kernel_rfl
  bits := fun a _ => by simp [kL, Instr.sameBits]
  sc := fun a _ => by simp [kL, sc2, sc1, sc0]
theorem un_kL {n : Int} {L : List (Ent (Fin 256))} : un uL (ent (kL n) L) = L := un_ent fun _ _ => uL_kL
theorem map_ent {n : Int} {L : List (Ent (Fin 256))} {σ : Nat → Nat} : List.map (fun (e : MapEntry) => { key := e.key, val := nmap2 σ e.val, born := e.born }) (ent (kL n) L) = ent (kL n) L := by
  unfold ent
  rw [List.map_map]
  exact List.map_congr_left fun _ _ => rfl
theorem sc_ent {n : Int} {L : List (Ent (Fin 256))} {m c : Nat} : AObj.sc m (.map (ent (kL n) L) c) = true := by
  refine List.all_eq_true.2 fun e he => ?_
  obtain ⟨x, _, rfl⟩ := List.mem_map.1 he
  simp [mkE, kL, sc2, sc1, sc0]
theorem kL_mask {n : Int} {tk : Nat → Bool} : Value.agg { toList := lgC n tk } = kL n (uL (.agg { toList := lgC n tk })) := by
  have hb : ∀ i, i < 8 → (uL (.agg { toList := lgC n tk })).1.testBit i = tk i := fun i hi => by
    show (maskOf fun i => getB (lgC n tk) (1 + i)).testBit i = tk i
    rw [mask_bit _ hi, lg_getB hi]
  unfold kL
  rw [hb 0 (by omega), hb 1 (by omega), hb 2 (by omega), hb 3 (by omega), hb 4 (by omega), hb 5 (by omega), hb 6 (by omega), hb 7 (by omega)]
  rfl
theorem kL_uL {n : Int} {tk : Nat → Bool} : uL (.agg { toList := lgC n tk }) = ⟨maskOf tk, mask_lt _⟩ := rfl
theorem fT_bits {v : Value} {k : Fin 256} {x : Option Addr} {m c : Nat} {s f : Int} : fT (v :: T8 k.1.testBit [.slice x m c, vi s, vi f]) = k.1.testBit := by
  funext i
  rcases i with _ | _ | _ | _ | _ | _ | _ | _ | _ | _ | _ | i
  all_goals first | rfl | skip
  all_goals symm
  · exact Nat.testBit_lt_two_pow (Nat.lt_of_lt_of_le k.2 (by decide))
  · exact Nat.testBit_lt_two_pow (Nat.lt_of_lt_of_le k.2 (by decide))
  · exact Nat.testBit_lt_two_pow (Nat.lt_of_lt_of_le k.2 (by decide))
  · show k.1.testBit (i + 11) = getB _ (1 + (i + 11))
    rw [Nat.testBit_lt_two_pow (Nat.lt_of_lt_of_le k.2 (by rw [show (256 : Nat) = 2 ^ 8 from rfl]; exact Nat.pow_le_pow_right (by decide) (by omega)))]
    unfold getB
    rw [List.getElem?_eq_none (by simp [T8]; omega)]

end Go.Pier.Lg

set_option maxRecDepth 100000
set_option linter.unusedVariables false
set_option linter.unusedSimpArgs false
namespace Go.Pier.Lg
open Go Go.Pier Go.Proofs 
noncomputable def womB : Code := Try.f79.body.getD .skip
abbrev EL := List (Ent (Fin 256))
/-- Where one more copper comes to lie: the set with it, if it does not fall. -/
def oneMore (n : Nat) (k : Fin 256) (i : Nat) : Option (Fin 256) := if (runP false n k.1.testBit [(i : Int)]).fell = 0 then some ⟨maskOf (runP false n k.1.testBit [(i : Int)]).tk, mask_lt _⟩ else none
def addUp (n : Nat) (k : Fin 256) (v : Int) (s : EL × Nat) : Nat → EL × Nat
  | 0 => s
  | i + 1 => match oneMore n k i with
    | some j => (addL (addUp n k v s i).1 j v (addUp n k v s i).2, touchC (addUp n k v s i).1 j (addUp n k v s i).2)
    | none => addUp n k v s i
def outL (n : Nat) (D : EL) : EL × Nat := D.foldl (fun s x => addUp n x.1 x.2.1 s n) ([], 0)
def bornsL (D : EL) : List Nat := D.map fun x => x.2.2
def womI2 (n : Nat) (o : AObj) (W : EL) (c : Nat) (D : EL) : LInv := LInv.one (Ent (Fin 256) × Nat) (fun p => p.2 ≤ n ∧ ∃ r, (D ++ p.1 :: r).Perm W)
  (fun p => [(3, .map (some 2)), (4, ptr0 4), (5, vi p.1.2.1), (10, ptr0 3), (17, vi n), (18, vi p.2)])
  (fun p => [o, .map (ent (kL n) W) c, .map (ent (kL n) (addUp n p.1.1 p.1.2.1 (outL n D) p.2).1) (addUp n p.1.1 p.1.2.1 (outL n D) p.2).2, .iter 1 c (bornsL D ++ [p.1.2.2]).toArray c, .rw (lgC n p.1.1.1.testBit) none]) (fun p => n - p.2)
def womI (n : Nat) (o : AObj) (W : EL) (c : Nat) : Nat → Option LInv := invOf 0 (LInv.one EL (fun D => ∃ r, (D ++ r).Perm W)
  (fun D => [(3, .map (some 2)), (10, ptr0 3)]) (fun D => [o, .map (ent (kL n) W) c, .map (ent (kL n) (outL n D).1) (outL n D).2, .iter 1 c (bornsL D).toArray c]) (fun D => W.length - D.length)
  (fun D => invOf 2 (womI2 n o W c D)))
noncomputable def womE (n : Int) : VEnv := { ct := Ct.none.add 74 (dropG false), orc := orcMap Try.prog (kL n) uL 11, nx := nxMap (kL n) uL }
noncomputable def womR (n : Nat) (o : AObj) (W : EL) (c : Nat) : Value → Heap → Prop := fun v H => ∃ D : EL, Ob (D.Perm W) ∧ Reach 2 (fun b => b) [(0, v)] H [(0, .map (some 2))] [o, .map (ent (kL n) W) c, .map (ent (kL n) (outL n D).1) (outL n D).2]
noncomputable def womV :=
fun (n : Nat) (tk : Nat → Bool) (W : EL) (c : Nat) ↦ (∃ (y : List (Ent (Fin (256 : Nat)))), Ob (∃ (r : EL), List.Perm (y ++ r) W) ∧ (Ob (AObj.rw (lgC (↑n : Int) tk) none = AObj.rw (lgC (↑n : Int) tk) none ∧ true = true) ∧ Ob (AObj.map (ent (kL (↑n : Int)) W) c = AObj.map (List.map (fun (e : MapEntry) ↦ { key := e.key, val := nmap2 (fun (b : Nat) ↦ b) e.val, born := e.born }) (ent (kL (↑n : Int)) W)) c ∧ AObj.sc (4 : Nat) (AObj.map (ent (kL (↑n : Int)) W) c) = true) ∧ Ob (AObj.map [] (0 : Nat) = AObj.map (List.map (fun (e : MapEntry) ↦ { key := e.key, val := nmap2 (fun (b : Nat) ↦ b) e.val, born := e.born }) (ent (kL (↑n : Int)) (outL n y).fst)) (outL n y).snd ∧ AObj.sc (4 : Nat) (AObj.map (ent (kL (↑n : Int)) (outL n y).fst) (outL n y).snd) = true) ∧ Ob (AObj.iter (1 : Nat) c { toList := [] } c = AObj.iter (1 : Nat) c { toList := bornsL y } c ∧ true = true) ∧ True) ∧ Ob (Value.map (some (2 : Nat)) = Value.map (some (2 : Nat))) ∧ Ob (ptr0 3 = ptr0 3) ∧ True) ∧ ∀ (x : List (Ent (Fin (256 : Nat)))), Ob (∃ (r : EL), List.Perm (x ++ r) W) → Ob (NextOk [AObj.rw (lgC (↑n : Int) tk) none, AObj.map (ent (kL (↑n : Int)) W) c, AObj.map (ent (kL (↑n : Int)) (outL n x).fst) (outL n x).snd, AObj.iter (1 : Nat) c { toList := bornsL x } c] (ptr0 3) [doneS [AObj.rw (lgC (↑n : Int) tk) none, AObj.map (ent (kL (↑n : Int)) W) c, AObj.map (ent (kL (↑n : Int)) (outL n x).fst) (outL n x).snd, AObj.iter (1 : Nat) c { toList := bornsL x } c] (un uL (ent (kL (↑n : Int)) W)) (bornsL x), moreS (kL (↑n : Int)) [AObj.rw (lgC (↑n : Int) tk) none, AObj.map (ent (kL (↑n : Int)) W) c, AObj.map (ent (kL (↑n : Int)) (outL n x).fst) (outL n x).snd, AObj.iter (1 : Nat) c { toList := bornsL x } c] (3 : Nat) (1 : Nat) c (un uL (ent (kL (↑n : Int)) W)) (bornsL x) c]) ∧ (∀ (x_1 : Unit), Ob (∀ (x_2 : Ent (Fin (256 : Nat))), x_2 ∈ un uL (ent (kL (↑n : Int)) W) → x_2.snd.snd ∈ bornsL x) → ∃ (D : List (Ent (Fin (256 : Nat)))), Ob (D.Perm W) ∧ (Ob (AObj.rw (lgC (↑n : Int) tk) none = AObj.rw (lgC (↑n : Int) tk) none ∧ true = true) ∧ Ob (AObj.map (ent (kL (↑n : Int)) W) c = AObj.map (List.map (fun (e : MapEntry) ↦ { key := e.key, val := nmap2 (fun (b : Nat) ↦ b) e.val, born := e.born }) (ent (kL (↑n : Int)) W)) c ∧ AObj.sc (3 : Nat) (AObj.map (ent (kL (↑n : Int)) W) c) = true) ∧ Ob (AObj.map (ent (kL (↑n : Int)) (outL n x).fst) (outL n x).snd = AObj.map (List.map (fun (e : MapEntry) ↦ { key := e.key, val := nmap2 (fun (b : Nat) ↦ b) e.val, born := e.born }) (ent (kL (↑n : Int)) (outL n D).fst)) (outL n D).snd ∧ AObj.sc (3 : Nat) (AObj.map (ent (kL (↑n : Int)) (outL n D).fst) (outL n D).snd) = true) ∧ True) ∧ Ob (Value.map (some (2 : Nat)) = Value.map (some (2 : Nat))) ∧ True) ∧ ∀ (x_1 : Fin (256 : Nat) × Int × Nat), Ob (x_1 ∈ un uL (ent (kL (↑n : Int)) W) ∧ ¬x_1.snd.snd ∈ bornsL x) → Ob (aEntry [AObj.rw (lgC (↑n : Int) tk) none, AObj.map (ent (kL (↑n : Int)) W) c, AObj.map (ent (kL (↑n : Int)) (outL n x).fst) (outL n x).snd, AObj.iter (1 : Nat) c { toList := bornsL x ++ [x_1.snd.snd] } c] (ptr0 3) = some (Value.tuple { toList := [Value.agg { toList := (lgC (↑n : Int) ((↑x_1.fst : Nat).testBit)) }, vi x_1.snd.fst] })) ∧ Ob ((0 : Nat) + (9 : Nat) ≤ (9 : Nat)) ∧ Ob (some (vi (↑n : Int)) = some (vi (↑n : Int))) ∧ (∃ (y : Ent (Fin (256 : Nat)) × Nat), Ob (y.snd ≤ n ∧ ∃ (r : List (Ent (Fin (256 : Nat)))), List.Perm (x ++ y.fst :: r) W) ∧ (Ob (AObj.rw (lgC (↑n : Int) tk) none = AObj.rw (lgC (↑n : Int) tk) none ∧ true = true) ∧ Ob (AObj.map (ent (kL (↑n : Int)) W) c = AObj.map (List.map (fun (e : MapEntry) ↦ { key := e.key, val := nmap2 (fun (b : Nat) ↦ b) e.val, born := e.born }) (ent (kL (↑n : Int)) W)) c ∧ AObj.sc (5 : Nat) (AObj.map (ent (kL (↑n : Int)) W) c) = true) ∧ Ob (AObj.map (ent (kL (↑n : Int)) (outL n x).fst) (outL n x).snd = AObj.map (List.map (fun (e : MapEntry) ↦ { key := e.key, val := nmap2 (fun (b : Nat) ↦ b) e.val, born := e.born }) (ent (kL (↑n : Int)) (addUp n y.fst.fst y.fst.snd.fst (outL n x) y.snd).fst)) (addUp n y.fst.fst y.fst.snd.fst (outL n x) y.snd).snd ∧ AObj.sc (5 : Nat) (AObj.map (ent (kL (↑n : Int)) (addUp n y.fst.fst y.fst.snd.fst (outL n x) y.snd).fst) (addUp n y.fst.fst y.fst.snd.fst (outL n x) y.snd).snd) = true) ∧ Ob (AObj.iter (1 : Nat) c { toList := bornsL x ++ [x_1.snd.snd] } c = AObj.iter (1 : Nat) c { toList := bornsL x ++ [y.fst.snd.snd] } c ∧ true = true) ∧ Ob (AObj.rw (lgC (↑n : Int) ((↑x_1.fst : Nat).testBit)) none = AObj.rw (lgC (↑n : Int) ((↑y.fst.fst : Nat).testBit)) none ∧ true = true) ∧ True) ∧ Ob (Value.map (some (2 : Nat)) = Value.map (some (2 : Nat))) ∧ Ob (ptr0 4 = ptr0 4) ∧ Ob (x_1.snd.fst = y.fst.snd.fst) ∧ Ob (ptr0 3 = ptr0 3) ∧ Ob ((↑n : Int) = (↑n : Int)) ∧ Ob ((0 : Int) = (↑y.snd : Int)) ∧ True) ∧ ∀ (x_2 : Ent (Fin (256 : Nat)) × Nat), Ob (x_2.snd ≤ n ∧ ∃ (r : List (Ent (Fin (256 : Nat)))), List.Perm (x ++ x_2.fst :: r) W) → (decide ((↑x_2.snd : Int) < (↑n : Int)) = true → Ob ((0 : Nat) + (12 : Nat) ≤ (12 : Nat)) ∧ Ob (([vi (↑x_2.snd : Int)] = [vi (intOf (vi (↑x_2.snd : Int)))] ∧ (0 : Nat) + (1 : Nat) ≤ (1 : Nat) ∧ true = true) ∧ dropPre false (vi (↑n : Int) :: T8 ((↑x_2.fst.fst : Nat).testBit) [Value.slice none (0 : Nat) (0 : Nat), vi (0 : Int), vi (0 : Int)]) (Value.func (Fn.func (77 : Nat)) { toList := [Value.agg { toList := (lgC (↑n : Int) ((↑x_2.fst.fst : Nat).testBit)) }] } { toList := [] }) [intOf (vi (↑x_2.snd : Int))] ∧ (0 : Nat) < (1 : Nat) ∧ some (6 : Nat) ≠ some (5 : Nat)) ∧ Ob (IntAt IntKind.i64 (vi (fN (vi (↑n : Int) :: T8 ((↑x_2.fst.fst : Nat).testBit) [Value.slice none (0 : Nat) (0 : Nat), vi (0 : Int), vi (0 : Int)])) :: T8 ((runP false (fN (vi (↑n : Int) :: T8 ((↑x_2.fst.fst : Nat).testBit) [Value.slice none (0 : Nat) (0 : Nat), vi (0 : Int), vi (0 : Int)])).toNat (fT (vi (↑n : Int) :: T8 ((↑x_2.fst.fst : Nat).testBit) [Value.slice none (0 : Nat) (0 : Nat), vi (0 : Int), vi (0 : Int)])) [intOf (vi (↑x_2.snd : Int))]).tk) [Value.slice (some { block := (7 : Nat), off := (0 : Nat), spot := some (0 : Nat) }) (1 : Nat) (0 : Nat), vi (runP false (fN (vi (↑n : Int) :: T8 ((↑x_2.fst.fst : Nat).testBit) [Value.slice none (0 : Nat) (0 : Nat), vi (0 : Int), vi (0 : Int)])).toNat (fT (vi (↑n : Int) :: T8 ((↑x_2.fst.fst : Nat).testBit) [Value.slice none (0 : Nat) (0 : Nat), vi (0 : Int), vi (0 : Int)])) [intOf (vi (↑x_2.snd : Int))]).slid, vi (runP false (fN (vi (↑n : Int) :: T8 ((↑x_2.fst.fst : Nat).testBit) [Value.slice none (0 : Nat) (0 : Nat), vi (0 : Int), vi (0 : Int)])).toNat (fT (vi (↑n : Int) :: T8 ((↑x_2.fst.fst : Nat).testBit) [Value.slice none (0 : Nat) (0 : Nat), vi (0 : Int), vi (0 : Int)])) [intOf (vi (↑x_2.snd : Int))]).fell]) ((0 : Nat) + (11 : Nat))) ∧ ((getI (vi (fN (vi (↑n : Int) :: T8 ((↑x_2.fst.fst : Nat).testBit) [Value.slice none (0 : Nat) (0 : Nat), vi (0 : Int), vi (0 : Int)])) :: T8 ((runP false (fN (vi (↑n : Int) :: T8 ((↑x_2.fst.fst : Nat).testBit) [Value.slice none (0 : Nat) (0 : Nat), vi (0 : Int), vi (0 : Int)])).toNat (fT (vi (↑n : Int) :: T8 ((↑x_2.fst.fst : Nat).testBit) [Value.slice none (0 : Nat) (0 : Nat), vi (0 : Int), vi (0 : Int)])) [intOf (vi (↑x_2.snd : Int))]).tk) [Value.slice (some { block := (7 : Nat), off := (0 : Nat), spot := some (0 : Nat) }) (1 : Nat) (0 : Nat), vi (runP false (fN (vi (↑n : Int) :: T8 ((↑x_2.fst.fst : Nat).testBit) [Value.slice none (0 : Nat) (0 : Nat), vi (0 : Int), vi (0 : Int)])).toNat (fT (vi (↑n : Int) :: T8 ((↑x_2.fst.fst : Nat).testBit) [Value.slice none (0 : Nat) (0 : Nat), vi (0 : Int), vi (0 : Int)])) [intOf (vi (↑x_2.snd : Int))]).slid, vi (runP false (fN (vi (↑n : Int) :: T8 ((↑x_2.fst.fst : Nat).testBit) [Value.slice none (0 : Nat) (0 : Nat), vi (0 : Int), vi (0 : Int)])).toNat (fT (vi (↑n : Int) :: T8 ((↑x_2.fst.fst : Nat).testBit) [Value.slice none (0 : Nat) (0 : Nat), vi (0 : Int), vi (0 : Int)])) [intOf (vi (↑x_2.snd : Int))]).fell]) ((0 : Nat) + (11 : Nat)) == (0 : Int)) = true → Ob (aLookup Try.prog [AObj.rw (lgC (↑n : Int) tk) none, AObj.map (ent (kL (↑n : Int)) W) c, AObj.map (ent (kL (↑n : Int)) (addUp n x_2.fst.fst x_2.fst.snd.fst (outL n x) x_2.snd).fst) (addUp n x_2.fst.fst x_2.fst.snd.fst (outL n x) x_2.snd).snd, AObj.iter (1 : Nat) c { toList := bornsL x ++ [x_2.fst.snd.snd] } c, AObj.rw (lgC (↑n : Int) ((↑x_2.fst.fst : Nat).testBit)) none, AObj.rw (vi (fN (vi (↑n : Int) :: T8 ((↑x_2.fst.fst : Nat).testBit) [Value.slice none (0 : Nat) (0 : Nat), vi (0 : Int), vi (0 : Int)])) :: T8 ((runP false (fN (vi (↑n : Int) :: T8 ((↑x_2.fst.fst : Nat).testBit) [Value.slice none (0 : Nat) (0 : Nat), vi (0 : Int), vi (0 : Int)])).toNat (fT (vi (↑n : Int) :: T8 ((↑x_2.fst.fst : Nat).testBit) [Value.slice none (0 : Nat) (0 : Nat), vi (0 : Int), vi (0 : Int)])) [intOf (vi (↑x_2.snd : Int))]).tk) [Value.slice (some { block := (7 : Nat), off := (0 : Nat), spot := some (0 : Nat) }) (1 : Nat) (0 : Nat), vi (runP false (fN (vi (↑n : Int) :: T8 ((↑x_2.fst.fst : Nat).testBit) [Value.slice none (0 : Nat) (0 : Nat), vi (0 : Int), vi (0 : Int)])).toNat (fT (vi (↑n : Int) :: T8 ((↑x_2.fst.fst : Nat).testBit) [Value.slice none (0 : Nat) (0 : Nat), vi (0 : Int), vi (0 : Int)])) [intOf (vi (↑x_2.snd : Int))]).slid, vi (runP false (fN (vi (↑n : Int) :: T8 ((↑x_2.fst.fst : Nat).testBit) [Value.slice none (0 : Nat) (0 : Nat), vi (0 : Int), vi (0 : Int)])).toNat (fT (vi (↑n : Int) :: T8 ((↑x_2.fst.fst : Nat).testBit) [Value.slice none (0 : Nat) (0 : Nat), vi (0 : Int), vi (0 : Int)])) [intOf (vi (↑x_2.snd : Int))]).fell]) none, AObj.rw [vi (↑x_2.snd : Int)] none, AObj.rw (List.map (Value.int IntKind.i64) (runP false (fN (vi (↑n : Int) :: T8 ((↑x_2.fst.fst : Nat).testBit) [Value.slice none (0 : Nat) (0 : Nat), vi (0 : Int), vi (0 : Int)])).toNat (fT (vi (↑n : Int) :: T8 ((↑x_2.fst.fst : Nat).testBit) [Value.slice none (0 : Nat) (0 : Nat), vi (0 : Int), vi (0 : Int)])) [intOf (vi (↑x_2.snd : Int))]).lies) (some (1 : Nat))] (85 : Nat) (Value.map (some (2 : Nat))) (Value.agg { toList := (lgC (fN (vi (↑n : Int) :: T8 ((↑x_2.fst.fst : Nat).testBit) [Value.slice none (0 : Nat) (0 : Nat), vi (0 : Int), vi (0 : Int)])) ((runP false (fN (vi (↑n : Int) :: T8 ((↑x_2.fst.fst : Nat).testBit) [Value.slice none (0 : Nat) (0 : Nat), vi (0 : Int), vi (0 : Int)])).toNat (fT (vi (↑n : Int) :: T8 ((↑x_2.fst.fst : Nat).testBit) [Value.slice none (0 : Nat) (0 : Nat), vi (0 : Int), vi (0 : Int)])) [intOf (vi (↑x_2.snd : Int))]).tk)) }) false = some (vi (lookL (un uL (ent (kL (↑n : Int)) (addUp n x_2.fst.fst x_2.fst.snd.fst (outL n x) x_2.snd).fst)) (uL (Value.agg { toList := (lgC (fN (vi (↑n : Int) :: T8 ((↑x_2.fst.fst : Nat).testBit) [Value.slice none (0 : Nat) (0 : Nat), vi (0 : Int), vi (0 : Int)])) ((runP false (fN (vi (↑n : Int) :: T8 ((↑x_2.fst.fst : Nat).testBit) [Value.slice none (0 : Nat) (0 : Nat), vi (0 : Int), vi (0 : Int)])).toNat (fT (vi (↑n : Int) :: T8 ((↑x_2.fst.fst : Nat).testBit) [Value.slice none (0 : Nat) (0 : Nat), vi (0 : Int), vi (0 : Int)])) [intOf (vi (↑x_2.snd : Int))]).tk)) }))))) ∧ Ob (aMapEntry Try.prog [AObj.rw (lgC (↑n : Int) tk) none, AObj.map (ent (kL (↑n : Int)) W) c, AObj.map (ent (kL (↑n : Int)) (addUp n x_2.fst.fst x_2.fst.snd.fst (outL n x) x_2.snd).fst) (addUp n x_2.fst.fst x_2.fst.snd.fst (outL n x) x_2.snd).snd, AObj.iter (1 : Nat) c { toList := bornsL x ++ [x_2.fst.snd.snd] } c, AObj.rw (lgC (↑n : Int) ((↑x_2.fst.fst : Nat).testBit)) none, AObj.rw (vi (fN (vi (↑n : Int) :: T8 ((↑x_2.fst.fst : Nat).testBit) [Value.slice none (0 : Nat) (0 : Nat), vi (0 : Int), vi (0 : Int)])) :: T8 ((runP false (fN (vi (↑n : Int) :: T8 ((↑x_2.fst.fst : Nat).testBit) [Value.slice none (0 : Nat) (0 : Nat), vi (0 : Int), vi (0 : Int)])).toNat (fT (vi (↑n : Int) :: T8 ((↑x_2.fst.fst : Nat).testBit) [Value.slice none (0 : Nat) (0 : Nat), vi (0 : Int), vi (0 : Int)])) [intOf (vi (↑x_2.snd : Int))]).tk) [Value.slice (some { block := (7 : Nat), off := (0 : Nat), spot := some (0 : Nat) }) (1 : Nat) (0 : Nat), vi (runP false (fN (vi (↑n : Int) :: T8 ((↑x_2.fst.fst : Nat).testBit) [Value.slice none (0 : Nat) (0 : Nat), vi (0 : Int), vi (0 : Int)])).toNat (fT (vi (↑n : Int) :: T8 ((↑x_2.fst.fst : Nat).testBit) [Value.slice none (0 : Nat) (0 : Nat), vi (0 : Int), vi (0 : Int)])) [intOf (vi (↑x_2.snd : Int))]).slid, vi (runP false (fN (vi (↑n : Int) :: T8 ((↑x_2.fst.fst : Nat).testBit) [Value.slice none (0 : Nat) (0 : Nat), vi (0 : Int), vi (0 : Int)])).toNat (fT (vi (↑n : Int) :: T8 ((↑x_2.fst.fst : Nat).testBit) [Value.slice none (0 : Nat) (0 : Nat), vi (0 : Int), vi (0 : Int)])) [intOf (vi (↑x_2.snd : Int))]).fell]) none, AObj.rw [vi (↑x_2.snd : Int)] none, AObj.rw (List.map (Value.int IntKind.i64) (runP false (fN (vi (↑n : Int) :: T8 ((↑x_2.fst.fst : Nat).testBit) [Value.slice none (0 : Nat) (0 : Nat), vi (0 : Int), vi (0 : Int)])).toNat (fT (vi (↑n : Int) :: T8 ((↑x_2.fst.fst : Nat).testBit) [Value.slice none (0 : Nat) (0 : Nat), vi (0 : Int), vi (0 : Int)])) [intOf (vi (↑x_2.snd : Int))]).lies) (some (1 : Nat))] (85 : Nat) (Value.map (some (2 : Nat))) (Value.agg { toList := (lgC (fN (vi (↑n : Int) :: T8 ((↑x_2.fst.fst : Nat).testBit) [Value.slice none (0 : Nat) (0 : Nat), vi (0 : Int), vi (0 : Int)])) ((runP false (fN (vi (↑n : Int) :: T8 ((↑x_2.fst.fst : Nat).testBit) [Value.slice none (0 : Nat) (0 : Nat), vi (0 : Int), vi (0 : Int)])).toNat (fT (vi (↑n : Int) :: T8 ((↑x_2.fst.fst : Nat).testBit) [Value.slice none (0 : Nat) (0 : Nat), vi (0 : Int), vi (0 : Int)])) [intOf (vi (↑x_2.snd : Int))]).tk)) }) = some (Value.tuple { toList := [vi (lookL (un uL (ent (kL (↑n : Int)) (addUp n x_2.fst.fst x_2.fst.snd.fst (outL n x) x_2.snd).fst)) (uL (Value.agg { toList := (lgC (fN (vi (↑n : Int) :: T8 ((↑x_2.fst.fst : Nat).testBit) [Value.slice none (0 : Nat) (0 : Nat), vi (0 : Int), vi (0 : Int)])) ((runP false (fN (vi (↑n : Int) :: T8 ((↑x_2.fst.fst : Nat).testBit) [Value.slice none (0 : Nat) (0 : Nat), vi (0 : Int), vi (0 : Int)])).toNat (fT (vi (↑n : Int) :: T8 ((↑x_2.fst.fst : Nat).testBit) [Value.slice none (0 : Nat) (0 : Nat), vi (0 : Int), vi (0 : Int)])) [intOf (vi (↑x_2.snd : Int))]).tk)) }))), vi (↑(slotL (un uL (ent (kL (↑n : Int)) (addUp n x_2.fst.fst x_2.fst.snd.fst (outL n x) x_2.snd).fst)) (uL (Value.agg { toList := (lgC (fN (vi (↑n : Int) :: T8 ((↑x_2.fst.fst : Nat).testBit) [Value.slice none (0 : Nat) (0 : Nat), vi (0 : Int), vi (0 : Int)])) ((runP false (fN (vi (↑n : Int) :: T8 ((↑x_2.fst.fst : Nat).testBit) [Value.slice none (0 : Nat) (0 : Nat), vi (0 : Int), vi (0 : Int)])).toNat (fT (vi (↑n : Int) :: T8 ((↑x_2.fst.fst : Nat).testBit) [Value.slice none (0 : Nat) (0 : Nat), vi (0 : Int), vi (0 : Int)])) [intOf (vi (↑x_2.snd : Int))]).tk)) })) (addUp n x_2.fst.fst x_2.fst.snd.fst (outL n x) x_2.snd).snd) : Int)] }, [AObj.rw (lgC (↑n : Int) tk) none, AObj.map (ent (kL (↑n : Int)) W) c, AObj.map (ent (kL (↑n : Int)) (touchL (un uL (ent (kL (↑n : Int)) (addUp n x_2.fst.fst x_2.fst.snd.fst (outL n x) x_2.snd).fst)) (uL (Value.agg { toList := (lgC (fN (vi (↑n : Int) :: T8 ((↑x_2.fst.fst : Nat).testBit) [Value.slice none (0 : Nat) (0 : Nat), vi (0 : Int), vi (0 : Int)])) ((runP false (fN (vi (↑n : Int) :: T8 ((↑x_2.fst.fst : Nat).testBit) [Value.slice none (0 : Nat) (0 : Nat), vi (0 : Int), vi (0 : Int)])).toNat (fT (vi (↑n : Int) :: T8 ((↑x_2.fst.fst : Nat).testBit) [Value.slice none (0 : Nat) (0 : Nat), vi (0 : Int), vi (0 : Int)])) [intOf (vi (↑x_2.snd : Int))]).tk)) })) (addUp n x_2.fst.fst x_2.fst.snd.fst (outL n x) x_2.snd).snd)) (touchC (un uL (ent (kL (↑n : Int)) (addUp n x_2.fst.fst x_2.fst.snd.fst (outL n x) x_2.snd).fst)) (uL (Value.agg { toList := (lgC (fN (vi (↑n : Int) :: T8 ((↑x_2.fst.fst : Nat).testBit) [Value.slice none (0 : Nat) (0 : Nat), vi (0 : Int), vi (0 : Int)])) ((runP false (fN (vi (↑n : Int) :: T8 ((↑x_2.fst.fst : Nat).testBit) [Value.slice none (0 : Nat) (0 : Nat), vi (0 : Int), vi (0 : Int)])).toNat (fT (vi (↑n : Int) :: T8 ((↑x_2.fst.fst : Nat).testBit) [Value.slice none (0 : Nat) (0 : Nat), vi (0 : Int), vi (0 : Int)])) [intOf (vi (↑x_2.snd : Int))]).tk)) })) (addUp n x_2.fst.fst x_2.fst.snd.fst (outL n x) x_2.snd).snd), AObj.iter (1 : Nat) c { toList := bornsL x ++ [x_2.fst.snd.snd] } c, AObj.rw (lgC (↑n : Int) ((↑x_2.fst.fst : Nat).testBit)) none, AObj.rw (vi (fN (vi (↑n : Int) :: T8 ((↑x_2.fst.fst : Nat).testBit) [Value.slice none (0 : Nat) (0 : Nat), vi (0 : Int), vi (0 : Int)])) :: T8 ((runP false (fN (vi (↑n : Int) :: T8 ((↑x_2.fst.fst : Nat).testBit) [Value.slice none (0 : Nat) (0 : Nat), vi (0 : Int), vi (0 : Int)])).toNat (fT (vi (↑n : Int) :: T8 ((↑x_2.fst.fst : Nat).testBit) [Value.slice none (0 : Nat) (0 : Nat), vi (0 : Int), vi (0 : Int)])) [intOf (vi (↑x_2.snd : Int))]).tk) [Value.slice (some { block := (7 : Nat), off := (0 : Nat), spot := some (0 : Nat) }) (1 : Nat) (0 : Nat), vi (runP false (fN (vi (↑n : Int) :: T8 ((↑x_2.fst.fst : Nat).testBit) [Value.slice none (0 : Nat) (0 : Nat), vi (0 : Int), vi (0 : Int)])).toNat (fT (vi (↑n : Int) :: T8 ((↑x_2.fst.fst : Nat).testBit) [Value.slice none (0 : Nat) (0 : Nat), vi (0 : Int), vi (0 : Int)])) [intOf (vi (↑x_2.snd : Int))]).slid, vi (runP false (fN (vi (↑n : Int) :: T8 ((↑x_2.fst.fst : Nat).testBit) [Value.slice none (0 : Nat) (0 : Nat), vi (0 : Int), vi (0 : Int)])).toNat (fT (vi (↑n : Int) :: T8 ((↑x_2.fst.fst : Nat).testBit) [Value.slice none (0 : Nat) (0 : Nat), vi (0 : Int), vi (0 : Int)])) [intOf (vi (↑x_2.snd : Int))]).fell]) none, AObj.rw [vi (↑x_2.snd : Int)] none, AObj.rw (List.map (Value.int IntKind.i64) (runP false (fN (vi (↑n : Int) :: T8 ((↑x_2.fst.fst : Nat).testBit) [Value.slice none (0 : Nat) (0 : Nat), vi (0 : Int), vi (0 : Int)])).toNat (fT (vi (↑n : Int) :: T8 ((↑x_2.fst.fst : Nat).testBit) [Value.slice none (0 : Nat) (0 : Nat), vi (0 : Int), vi (0 : Int)])) [intOf (vi (↑x_2.snd : Int))]).lies) (some (1 : Nat))])) ∧ Ob ((AObj.sc (8 : Nat) (AObj.map (ent (kL (↑n : Int)) (touchL (un uL (ent (kL (↑n : Int)) (addUp n x_2.fst.fst x_2.fst.snd.fst (outL n x) x_2.snd).fst)) (uL (Value.agg { toList := (lgC (fN (vi (↑n : Int) :: T8 ((↑x_2.fst.fst : Nat).testBit) [Value.slice none (0 : Nat) (0 : Nat), vi (0 : Int), vi (0 : Int)])) ((runP false (fN (vi (↑n : Int) :: T8 ((↑x_2.fst.fst : Nat).testBit) [Value.slice none (0 : Nat) (0 : Nat), vi (0 : Int), vi (0 : Int)])).toNat (fT (vi (↑n : Int) :: T8 ((↑x_2.fst.fst : Nat).testBit) [Value.slice none (0 : Nat) (0 : Nat), vi (0 : Int), vi (0 : Int)])) [intOf (vi (↑x_2.snd : Int))]).tk)) })) (addUp n x_2.fst.fst x_2.fst.snd.fst (outL n x) x_2.snd).snd)) (touchC (un uL (ent (kL (↑n : Int)) (addUp n x_2.fst.fst x_2.fst.snd.fst (outL n x) x_2.snd).fst)) (uL (Value.agg { toList := (lgC (fN (vi (↑n : Int) :: T8 ((↑x_2.fst.fst : Nat).testBit) [Value.slice none (0 : Nat) (0 : Nat), vi (0 : Int), vi (0 : Int)])) ((runP false (fN (vi (↑n : Int) :: T8 ((↑x_2.fst.fst : Nat).testBit) [Value.slice none (0 : Nat) (0 : Nat), vi (0 : Int), vi (0 : Int)])).toNat (fT (vi (↑n : Int) :: T8 ((↑x_2.fst.fst : Nat).testBit) [Value.slice none (0 : Nat) (0 : Nat), vi (0 : Int), vi (0 : Int)])) [intOf (vi (↑x_2.snd : Int))]).tk)) })) (addUp n x_2.fst.fst x_2.fst.snd.fst (outL n x) x_2.snd).snd)) = true ∧ aLookup Try.prog [AObj.rw (lgC (↑n : Int) tk) none, AObj.map (ent (kL (↑n : Int)) W) c, AObj.map (ent (kL (↑n : Int)) (touchL (un uL (ent (kL (↑n : Int)) (addUp n x_2.fst.fst x_2.fst.snd.fst (outL n x) x_2.snd).fst)) (uL (Value.agg { toList := (lgC (fN (vi (↑n : Int) :: T8 ((↑x_2.fst.fst : Nat).testBit) [Value.slice none (0 : Nat) (0 : Nat), vi (0 : Int), vi (0 : Int)])) ((runP false (fN (vi (↑n : Int) :: T8 ((↑x_2.fst.fst : Nat).testBit) [Value.slice none (0 : Nat) (0 : Nat), vi (0 : Int), vi (0 : Int)])).toNat (fT (vi (↑n : Int) :: T8 ((↑x_2.fst.fst : Nat).testBit) [Value.slice none (0 : Nat) (0 : Nat), vi (0 : Int), vi (0 : Int)])) [intOf (vi (↑x_2.snd : Int))]).tk)) })) (addUp n x_2.fst.fst x_2.fst.snd.fst (outL n x) x_2.snd).snd)) (touchC (un uL (ent (kL (↑n : Int)) (addUp n x_2.fst.fst x_2.fst.snd.fst (outL n x) x_2.snd).fst)) (uL (Value.agg { toList := (lgC (fN (vi (↑n : Int) :: T8 ((↑x_2.fst.fst : Nat).testBit) [Value.slice none (0 : Nat) (0 : Nat), vi (0 : Int), vi (0 : Int)])) ((runP false (fN (vi (↑n : Int) :: T8 ((↑x_2.fst.fst : Nat).testBit) [Value.slice none (0 : Nat) (0 : Nat), vi (0 : Int), vi (0 : Int)])).toNat (fT (vi (↑n : Int) :: T8 ((↑x_2.fst.fst : Nat).testBit) [Value.slice none (0 : Nat) (0 : Nat), vi (0 : Int), vi (0 : Int)])) [intOf (vi (↑x_2.snd : Int))]).tk)) })) (addUp n x_2.fst.fst x_2.fst.snd.fst (outL n x) x_2.snd).snd), AObj.iter (1 : Nat) c { toList := bornsL x ++ [x_2.fst.snd.snd] } c, AObj.rw (lgC (↑n : Int) ((↑x_2.fst.fst : Nat).testBit)) none, AObj.rw (vi (fN (vi (↑n : Int) :: T8 ((↑x_2.fst.fst : Nat).testBit) [Value.slice none (0 : Nat) (0 : Nat), vi (0 : Int), vi (0 : Int)])) :: T8 ((runP false (fN (vi (↑n : Int) :: T8 ((↑x_2.fst.fst : Nat).testBit) [Value.slice none (0 : Nat) (0 : Nat), vi (0 : Int), vi (0 : Int)])).toNat (fT (vi (↑n : Int) :: T8 ((↑x_2.fst.fst : Nat).testBit) [Value.slice none (0 : Nat) (0 : Nat), vi (0 : Int), vi (0 : Int)])) [intOf (vi (↑x_2.snd : Int))]).tk) [Value.slice (some { block := (7 : Nat), off := (0 : Nat), spot := some (0 : Nat) }) (1 : Nat) (0 : Nat), vi (runP false (fN (vi (↑n : Int) :: T8 ((↑x_2.fst.fst : Nat).testBit) [Value.slice none (0 : Nat) (0 : Nat), vi (0 : Int), vi (0 : Int)])).toNat (fT (vi (↑n : Int) :: T8 ((↑x_2.fst.fst : Nat).testBit) [Value.slice none (0 : Nat) (0 : Nat), vi (0 : Int), vi (0 : Int)])) [intOf (vi (↑x_2.snd : Int))]).slid, vi (runP false (fN (vi (↑n : Int) :: T8 ((↑x_2.fst.fst : Nat).testBit) [Value.slice none (0 : Nat) (0 : Nat), vi (0 : Int), vi (0 : Int)])).toNat (fT (vi (↑n : Int) :: T8 ((↑x_2.fst.fst : Nat).testBit) [Value.slice none (0 : Nat) (0 : Nat), vi (0 : Int), vi (0 : Int)])) [intOf (vi (↑x_2.snd : Int))]).fell]) none, AObj.rw [vi (↑x_2.snd : Int)] none, AObj.rw (List.map (Value.int IntKind.i64) (runP false (fN (vi (↑n : Int) :: T8 ((↑x_2.fst.fst : Nat).testBit) [Value.slice none (0 : Nat) (0 : Nat), vi (0 : Int), vi (0 : Int)])).toNat (fT (vi (↑n : Int) :: T8 ((↑x_2.fst.fst : Nat).testBit) [Value.slice none (0 : Nat) (0 : Nat), vi (0 : Int), vi (0 : Int)])) [intOf (vi (↑x_2.snd : Int))]).lies) (some (1 : Nat))] (85 : Nat) (Value.map (some (2 : Nat))) (Value.agg { toList := (lgC (fN (vi (↑n : Int) :: T8 ((↑x_2.fst.fst : Nat).testBit) [Value.slice none (0 : Nat) (0 : Nat), vi (0 : Int), vi (0 : Int)])) ((runP false (fN (vi (↑n : Int) :: T8 ((↑x_2.fst.fst : Nat).testBit) [Value.slice none (0 : Nat) (0 : Nat), vi (0 : Int), vi (0 : Int)])).toNat (fT (vi (↑n : Int) :: T8 ((↑x_2.fst.fst : Nat).testBit) [Value.slice none (0 : Nat) (0 : Nat), vi (0 : Int), vi (0 : Int)])) [intOf (vi (↑x_2.snd : Int))]).tk)) }) false = some (vi (lookL (un uL (ent (kL (↑n : Int)) (touchL (un uL (ent (kL (↑n : Int)) (addUp n x_2.fst.fst x_2.fst.snd.fst (outL n x) x_2.snd).fst)) (uL (Value.agg { toList := (lgC (fN (vi (↑n : Int) :: T8 ((↑x_2.fst.fst : Nat).testBit) [Value.slice none (0 : Nat) (0 : Nat), vi (0 : Int), vi (0 : Int)])) ((runP false (fN (vi (↑n : Int) :: T8 ((↑x_2.fst.fst : Nat).testBit) [Value.slice none (0 : Nat) (0 : Nat), vi (0 : Int), vi (0 : Int)])).toNat (fT (vi (↑n : Int) :: T8 ((↑x_2.fst.fst : Nat).testBit) [Value.slice none (0 : Nat) (0 : Nat), vi (0 : Int), vi (0 : Int)])) [intOf (vi (↑x_2.snd : Int))]).tk)) })) (addUp n x_2.fst.fst x_2.fst.snd.fst (outL n x) x_2.snd).snd))) (uL (Value.agg { toList := (lgC (fN (vi (↑n : Int) :: T8 ((↑x_2.fst.fst : Nat).testBit) [Value.slice none (0 : Nat) (0 : Nat), vi (0 : Int), vi (0 : Int)])) ((runP false (fN (vi (↑n : Int) :: T8 ((↑x_2.fst.fst : Nat).testBit) [Value.slice none (0 : Nat) (0 : Nat), vi (0 : Int), vi (0 : Int)])).toNat (fT (vi (↑n : Int) :: T8 ((↑x_2.fst.fst : Nat).testBit) [Value.slice none (0 : Nat) (0 : Nat), vi (0 : Int), vi (0 : Int)])) [intOf (vi (↑x_2.snd : Int))]).tk)) })))) ∧ eqV (vi (lookL (un uL (ent (kL (↑n : Int)) (touchL (un uL (ent (kL (↑n : Int)) (addUp n x_2.fst.fst x_2.fst.snd.fst (outL n x) x_2.snd).fst)) (uL (Value.agg { toList := (lgC (fN (vi (↑n : Int) :: T8 ((↑x_2.fst.fst : Nat).testBit) [Value.slice none (0 : Nat) (0 : Nat), vi (0 : Int), vi (0 : Int)])) ((runP false (fN (vi (↑n : Int) :: T8 ((↑x_2.fst.fst : Nat).testBit) [Value.slice none (0 : Nat) (0 : Nat), vi (0 : Int), vi (0 : Int)])).toNat (fT (vi (↑n : Int) :: T8 ((↑x_2.fst.fst : Nat).testBit) [Value.slice none (0 : Nat) (0 : Nat), vi (0 : Int), vi (0 : Int)])) [intOf (vi (↑x_2.snd : Int))]).tk)) })) (addUp n x_2.fst.fst x_2.fst.snd.fst (outL n x) x_2.snd).snd))) (uL (Value.agg { toList := (lgC (fN (vi (↑n : Int) :: T8 ((↑x_2.fst.fst : Nat).testBit) [Value.slice none (0 : Nat) (0 : Nat), vi (0 : Int), vi (0 : Int)])) ((runP false (fN (vi (↑n : Int) :: T8 ((↑x_2.fst.fst : Nat).testBit) [Value.slice none (0 : Nat) (0 : Nat), vi (0 : Int), vi (0 : Int)])).toNat (fT (vi (↑n : Int) :: T8 ((↑x_2.fst.fst : Nat).testBit) [Value.slice none (0 : Nat) (0 : Nat), vi (0 : Int), vi (0 : Int)])) [intOf (vi (↑x_2.snd : Int))]).tk)) })))) (vi (lookL (un uL (ent (kL (↑n : Int)) (addUp n x_2.fst.fst x_2.fst.snd.fst (outL n x) x_2.snd).fst)) (uL (Value.agg { toList := (lgC (fN (vi (↑n : Int) :: T8 ((↑x_2.fst.fst : Nat).testBit) [Value.slice none (0 : Nat) (0 : Nat), vi (0 : Int), vi (0 : Int)])) ((runP false (fN (vi (↑n : Int) :: T8 ((↑x_2.fst.fst : Nat).testBit) [Value.slice none (0 : Nat) (0 : Nat), vi (0 : Int), vi (0 : Int)])).toNat (fT (vi (↑n : Int) :: T8 ((↑x_2.fst.fst : Nat).testBit) [Value.slice none (0 : Nat) (0 : Nat), vi (0 : Int), vi (0 : Int)])) [intOf (vi (↑x_2.snd : Int))]).tk)) })))) = true) ∧ (AObj.sc (8 : Nat) (AObj.map (ent (kL (↑n : Int)) (touchL (un uL (ent (kL (↑n : Int)) (addUp n x_2.fst.fst x_2.fst.snd.fst (outL n x) x_2.snd).fst)) (uL (Value.agg { toList := (lgC (fN (vi (↑n : Int) :: T8 ((↑x_2.fst.fst : Nat).testBit) [Value.slice none (0 : Nat) (0 : Nat), vi (0 : Int), vi (0 : Int)])) ((runP false (fN (vi (↑n : Int) :: T8 ((↑x_2.fst.fst : Nat).testBit) [Value.slice none (0 : Nat) (0 : Nat), vi (0 : Int), vi (0 : Int)])).toNat (fT (vi (↑n : Int) :: T8 ((↑x_2.fst.fst : Nat).testBit) [Value.slice none (0 : Nat) (0 : Nat), vi (0 : Int), vi (0 : Int)])) [intOf (vi (↑x_2.snd : Int))]).tk)) })) (addUp n x_2.fst.fst x_2.fst.snd.fst (outL n x) x_2.snd).snd)) (touchC (un uL (ent (kL (↑n : Int)) (addUp n x_2.fst.fst x_2.fst.snd.fst (outL n x) x_2.snd).fst)) (uL (Value.agg { toList := (lgC (fN (vi (↑n : Int) :: T8 ((↑x_2.fst.fst : Nat).testBit) [Value.slice none (0 : Nat) (0 : Nat), vi (0 : Int), vi (0 : Int)])) ((runP false (fN (vi (↑n : Int) :: T8 ((↑x_2.fst.fst : Nat).testBit) [Value.slice none (0 : Nat) (0 : Nat), vi (0 : Int), vi (0 : Int)])).toNat (fT (vi (↑n : Int) :: T8 ((↑x_2.fst.fst : Nat).testBit) [Value.slice none (0 : Nat) (0 : Nat), vi (0 : Int), vi (0 : Int)])) [intOf (vi (↑x_2.snd : Int))]).tk)) })) (addUp n x_2.fst.fst x_2.fst.snd.fst (outL n x) x_2.snd).snd)) = true ∧ eqV (vi (IntKind.i64.wrap (lookL (un uL (ent (kL (↑n : Int)) (addUp n x_2.fst.fst x_2.fst.snd.fst (outL n x) x_2.snd).fst)) (uL (Value.agg { toList := (lgC (fN (vi (↑n : Int) :: T8 ((↑x_2.fst.fst : Nat).testBit) [Value.slice none (0 : Nat) (0 : Nat), vi (0 : Int), vi (0 : Int)])) ((runP false (fN (vi (↑n : Int) :: T8 ((↑x_2.fst.fst : Nat).testBit) [Value.slice none (0 : Nat) (0 : Nat), vi (0 : Int), vi (0 : Int)])).toNat (fT (vi (↑n : Int) :: T8 ((↑x_2.fst.fst : Nat).testBit) [Value.slice none (0 : Nat) (0 : Nat), vi (0 : Int), vi (0 : Int)])) [intOf (vi (↑x_2.snd : Int))]).tk)) })) + x_2.fst.snd.fst))) (vi (IntKind.i64.wrap (lookL (un uL (ent (kL (↑n : Int)) (addUp n x_2.fst.fst x_2.fst.snd.fst (outL n x) x_2.snd).fst)) (uL (Value.agg { toList := (lgC (fN (vi (↑n : Int) :: T8 ((↑x_2.fst.fst : Nat).testBit) [Value.slice none (0 : Nat) (0 : Nat), vi (0 : Int), vi (0 : Int)])) ((runP false (fN (vi (↑n : Int) :: T8 ((↑x_2.fst.fst : Nat).testBit) [Value.slice none (0 : Nat) (0 : Nat), vi (0 : Int), vi (0 : Int)])).toNat (fT (vi (↑n : Int) :: T8 ((↑x_2.fst.fst : Nat).testBit) [Value.slice none (0 : Nat) (0 : Nat), vi (0 : Int), vi (0 : Int)])) [intOf (vi (↑x_2.snd : Int))]).tk)) })) + x_2.fst.snd.fst))) = true) ∧ True) ∧ Ob (aEntryStore [AObj.rw (lgC (↑n : Int) tk) none, AObj.map (ent (kL (↑n : Int)) W) c, AObj.map (ent (kL (↑n : Int)) (touchL (un uL (ent (kL (↑n : Int)) (addUp n x_2.fst.fst x_2.fst.snd.fst (outL n x) x_2.snd).fst)) (uL (Value.agg { toList := (lgC (fN (vi (↑n : Int) :: T8 ((↑x_2.fst.fst : Nat).testBit) [Value.slice none (0 : Nat) (0 : Nat), vi (0 : Int), vi (0 : Int)])) ((runP false (fN (vi (↑n : Int) :: T8 ((↑x_2.fst.fst : Nat).testBit) [Value.slice none (0 : Nat) (0 : Nat), vi (0 : Int), vi (0 : Int)])).toNat (fT (vi (↑n : Int) :: T8 ((↑x_2.fst.fst : Nat).testBit) [Value.slice none (0 : Nat) (0 : Nat), vi (0 : Int), vi (0 : Int)])) [intOf (vi (↑x_2.snd : Int))]).tk)) })) (addUp n x_2.fst.fst x_2.fst.snd.fst (outL n x) x_2.snd).snd)) (touchC (un uL (ent (kL (↑n : Int)) (addUp n x_2.fst.fst x_2.fst.snd.fst (outL n x) x_2.snd).fst)) (uL (Value.agg { toList := (lgC (fN (vi (↑n : Int) :: T8 ((↑x_2.fst.fst : Nat).testBit) [Value.slice none (0 : Nat) (0 : Nat), vi (0 : Int), vi (0 : Int)])) ((runP false (fN (vi (↑n : Int) :: T8 ((↑x_2.fst.fst : Nat).testBit) [Value.slice none (0 : Nat) (0 : Nat), vi (0 : Int), vi (0 : Int)])).toNat (fT (vi (↑n : Int) :: T8 ((↑x_2.fst.fst : Nat).testBit) [Value.slice none (0 : Nat) (0 : Nat), vi (0 : Int), vi (0 : Int)])) [intOf (vi (↑x_2.snd : Int))]).tk)) })) (addUp n x_2.fst.fst x_2.fst.snd.fst (outL n x) x_2.snd).snd), AObj.iter (1 : Nat) c { toList := bornsL x ++ [x_2.fst.snd.snd] } c, AObj.rw (lgC (↑n : Int) ((↑x_2.fst.fst : Nat).testBit)) none, AObj.rw (vi (fN (vi (↑n : Int) :: T8 ((↑x_2.fst.fst : Nat).testBit) [Value.slice none (0 : Nat) (0 : Nat), vi (0 : Int), vi (0 : Int)])) :: T8 ((runP false (fN (vi (↑n : Int) :: T8 ((↑x_2.fst.fst : Nat).testBit) [Value.slice none (0 : Nat) (0 : Nat), vi (0 : Int), vi (0 : Int)])).toNat (fT (vi (↑n : Int) :: T8 ((↑x_2.fst.fst : Nat).testBit) [Value.slice none (0 : Nat) (0 : Nat), vi (0 : Int), vi (0 : Int)])) [intOf (vi (↑x_2.snd : Int))]).tk) [Value.slice (some { block := (7 : Nat), off := (0 : Nat), spot := some (0 : Nat) }) (1 : Nat) (0 : Nat), vi (runP false (fN (vi (↑n : Int) :: T8 ((↑x_2.fst.fst : Nat).testBit) [Value.slice none (0 : Nat) (0 : Nat), vi (0 : Int), vi (0 : Int)])).toNat (fT (vi (↑n : Int) :: T8 ((↑x_2.fst.fst : Nat).testBit) [Value.slice none (0 : Nat) (0 : Nat), vi (0 : Int), vi (0 : Int)])) [intOf (vi (↑x_2.snd : Int))]).slid, vi (runP false (fN (vi (↑n : Int) :: T8 ((↑x_2.fst.fst : Nat).testBit) [Value.slice none (0 : Nat) (0 : Nat), vi (0 : Int), vi (0 : Int)])).toNat (fT (vi (↑n : Int) :: T8 ((↑x_2.fst.fst : Nat).testBit) [Value.slice none (0 : Nat) (0 : Nat), vi (0 : Int), vi (0 : Int)])) [intOf (vi (↑x_2.snd : Int))]).fell]) none, AObj.rw [vi (↑x_2.snd : Int)] none, AObj.rw (List.map (Value.int IntKind.i64) (runP false (fN (vi (↑n : Int) :: T8 ((↑x_2.fst.fst : Nat).testBit) [Value.slice none (0 : Nat) (0 : Nat), vi (0 : Int), vi (0 : Int)])).toNat (fT (vi (↑n : Int) :: T8 ((↑x_2.fst.fst : Nat).testBit) [Value.slice none (0 : Nat) (0 : Nat), vi (0 : Int), vi (0 : Int)])) [intOf (vi (↑x_2.snd : Int))]).lies) (some (1 : Nat))] (Value.map (some (2 : Nat))) (vi (↑(slotL (un uL (ent (kL (↑n : Int)) (addUp n x_2.fst.fst x_2.fst.snd.fst (outL n x) x_2.snd).fst)) (uL (Value.agg { toList := (lgC (fN (vi (↑n : Int) :: T8 ((↑x_2.fst.fst : Nat).testBit) [Value.slice none (0 : Nat) (0 : Nat), vi (0 : Int), vi (0 : Int)])) ((runP false (fN (vi (↑n : Int) :: T8 ((↑x_2.fst.fst : Nat).testBit) [Value.slice none (0 : Nat) (0 : Nat), vi (0 : Int), vi (0 : Int)])).toNat (fT (vi (↑n : Int) :: T8 ((↑x_2.fst.fst : Nat).testBit) [Value.slice none (0 : Nat) (0 : Nat), vi (0 : Int), vi (0 : Int)])) [intOf (vi (↑x_2.snd : Int))]).tk)) })) (addUp n x_2.fst.fst x_2.fst.snd.fst (outL n x) x_2.snd).snd) : Int)) (vi (IntKind.i64.wrap (lookL (un uL (ent (kL (↑n : Int)) (addUp n x_2.fst.fst x_2.fst.snd.fst (outL n x) x_2.snd).fst)) (uL (Value.agg { toList := (lgC (fN (vi (↑n : Int) :: T8 ((↑x_2.fst.fst : Nat).testBit) [Value.slice none (0 : Nat) (0 : Nat), vi (0 : Int), vi (0 : Int)])) ((runP false (fN (vi (↑n : Int) :: T8 ((↑x_2.fst.fst : Nat).testBit) [Value.slice none (0 : Nat) (0 : Nat), vi (0 : Int), vi (0 : Int)])).toNat (fT (vi (↑n : Int) :: T8 ((↑x_2.fst.fst : Nat).testBit) [Value.slice none (0 : Nat) (0 : Nat), vi (0 : Int), vi (0 : Int)])) [intOf (vi (↑x_2.snd : Int))]).tk)) })) + x_2.fst.snd.fst))) = some [AObj.rw (lgC (↑n : Int) tk) none, AObj.map (ent (kL (↑n : Int)) W) c, AObj.map (ent (kL (↑n : Int)) (storeL (un uL (ent (kL (↑n : Int)) (touchL (un uL (ent (kL (↑n : Int)) (addUp n x_2.fst.fst x_2.fst.snd.fst (outL n x) x_2.snd).fst)) (uL (Value.agg { toList := (lgC (fN (vi (↑n : Int) :: T8 ((↑x_2.fst.fst : Nat).testBit) [Value.slice none (0 : Nat) (0 : Nat), vi (0 : Int), vi (0 : Int)])) ((runP false (fN (vi (↑n : Int) :: T8 ((↑x_2.fst.fst : Nat).testBit) [Value.slice none (0 : Nat) (0 : Nat), vi (0 : Int), vi (0 : Int)])).toNat (fT (vi (↑n : Int) :: T8 ((↑x_2.fst.fst : Nat).testBit) [Value.slice none (0 : Nat) (0 : Nat), vi (0 : Int), vi (0 : Int)])) [intOf (vi (↑x_2.snd : Int))]).tk)) })) (addUp n x_2.fst.fst x_2.fst.snd.fst (outL n x) x_2.snd).snd))) (↑(slotL (un uL (ent (kL (↑n : Int)) (addUp n x_2.fst.fst x_2.fst.snd.fst (outL n x) x_2.snd).fst)) (uL (Value.agg { toList := (lgC (fN (vi (↑n : Int) :: T8 ((↑x_2.fst.fst : Nat).testBit) [Value.slice none (0 : Nat) (0 : Nat), vi (0 : Int), vi (0 : Int)])) ((runP false (fN (vi (↑n : Int) :: T8 ((↑x_2.fst.fst : Nat).testBit) [Value.slice none (0 : Nat) (0 : Nat), vi (0 : Int), vi (0 : Int)])).toNat (fT (vi (↑n : Int) :: T8 ((↑x_2.fst.fst : Nat).testBit) [Value.slice none (0 : Nat) (0 : Nat), vi (0 : Int), vi (0 : Int)])) [intOf (vi (↑x_2.snd : Int))]).tk)) })) (addUp n x_2.fst.fst x_2.fst.snd.fst (outL n x) x_2.snd).snd) : Int).toNat (IntKind.i64.wrap (lookL (un uL (ent (kL (↑n : Int)) (addUp n x_2.fst.fst x_2.fst.snd.fst (outL n x) x_2.snd).fst)) (uL (Value.agg { toList := (lgC (fN (vi (↑n : Int) :: T8 ((↑x_2.fst.fst : Nat).testBit) [Value.slice none (0 : Nat) (0 : Nat), vi (0 : Int), vi (0 : Int)])) ((runP false (fN (vi (↑n : Int) :: T8 ((↑x_2.fst.fst : Nat).testBit) [Value.slice none (0 : Nat) (0 : Nat), vi (0 : Int), vi (0 : Int)])).toNat (fT (vi (↑n : Int) :: T8 ((↑x_2.fst.fst : Nat).testBit) [Value.slice none (0 : Nat) (0 : Nat), vi (0 : Int), vi (0 : Int)])) [intOf (vi (↑x_2.snd : Int))]).tk)) })) + x_2.fst.snd.fst)))) (touchC (un uL (ent (kL (↑n : Int)) (addUp n x_2.fst.fst x_2.fst.snd.fst (outL n x) x_2.snd).fst)) (uL (Value.agg { toList := (lgC (fN (vi (↑n : Int) :: T8 ((↑x_2.fst.fst : Nat).testBit) [Value.slice none (0 : Nat) (0 : Nat), vi (0 : Int), vi (0 : Int)])) ((runP false (fN (vi (↑n : Int) :: T8 ((↑x_2.fst.fst : Nat).testBit) [Value.slice none (0 : Nat) (0 : Nat), vi (0 : Int), vi (0 : Int)])).toNat (fT (vi (↑n : Int) :: T8 ((↑x_2.fst.fst : Nat).testBit) [Value.slice none (0 : Nat) (0 : Nat), vi (0 : Int), vi (0 : Int)])) [intOf (vi (↑x_2.snd : Int))]).tk)) })) (addUp n x_2.fst.fst x_2.fst.snd.fst (outL n x) x_2.snd).snd), AObj.iter (1 : Nat) c { toList := bornsL x ++ [x_2.fst.snd.snd] } c, AObj.rw (lgC (↑n : Int) ((↑x_2.fst.fst : Nat).testBit)) none, AObj.rw (vi (fN (vi (↑n : Int) :: T8 ((↑x_2.fst.fst : Nat).testBit) [Value.slice none (0 : Nat) (0 : Nat), vi (0 : Int), vi (0 : Int)])) :: T8 ((runP false (fN (vi (↑n : Int) :: T8 ((↑x_2.fst.fst : Nat).testBit) [Value.slice none (0 : Nat) (0 : Nat), vi (0 : Int), vi (0 : Int)])).toNat (fT (vi (↑n : Int) :: T8 ((↑x_2.fst.fst : Nat).testBit) [Value.slice none (0 : Nat) (0 : Nat), vi (0 : Int), vi (0 : Int)])) [intOf (vi (↑x_2.snd : Int))]).tk) [Value.slice (some { block := (7 : Nat), off := (0 : Nat), spot := some (0 : Nat) }) (1 : Nat) (0 : Nat), vi (runP false (fN (vi (↑n : Int) :: T8 ((↑x_2.fst.fst : Nat).testBit) [Value.slice none (0 : Nat) (0 : Nat), vi (0 : Int), vi (0 : Int)])).toNat (fT (vi (↑n : Int) :: T8 ((↑x_2.fst.fst : Nat).testBit) [Value.slice none (0 : Nat) (0 : Nat), vi (0 : Int), vi (0 : Int)])) [intOf (vi (↑x_2.snd : Int))]).slid, vi (runP false (fN (vi (↑n : Int) :: T8 ((↑x_2.fst.fst : Nat).testBit) [Value.slice none (0 : Nat) (0 : Nat), vi (0 : Int), vi (0 : Int)])).toNat (fT (vi (↑n : Int) :: T8 ((↑x_2.fst.fst : Nat).testBit) [Value.slice none (0 : Nat) (0 : Nat), vi (0 : Int), vi (0 : Int)])) [intOf (vi (↑x_2.snd : Int))]).fell]) none, AObj.rw [vi (↑x_2.snd : Int)] none, AObj.rw (List.map (Value.int IntKind.i64) (runP false (fN (vi (↑n : Int) :: T8 ((↑x_2.fst.fst : Nat).testBit) [Value.slice none (0 : Nat) (0 : Nat), vi (0 : Int), vi (0 : Int)])).toNat (fT (vi (↑n : Int) :: T8 ((↑x_2.fst.fst : Nat).testBit) [Value.slice none (0 : Nat) (0 : Nat), vi (0 : Int), vi (0 : Int)])) [intOf (vi (↑x_2.snd : Int))]).lies) (some (1 : Nat))]) ∧ ∃ (y : Ent (Fin (256 : Nat)) × Nat), Ob (y.snd ≤ n ∧ ∃ (r : List (Ent (Fin (256 : Nat)))), List.Perm (x ++ y.fst :: r) W) ∧ Ob (n - y.snd < n - x_2.snd) ∧ (Ob (AObj.rw (lgC (↑n : Int) tk) none = AObj.rw (lgC (↑n : Int) tk) none ∧ true = true) ∧ Ob (AObj.map (ent (kL (↑n : Int)) W) c = AObj.map (List.map (fun (e : MapEntry) ↦ { key := e.key, val := nmap2 (fun (b : Nat) ↦ b) e.val, born := e.born }) (ent (kL (↑n : Int)) W)) c ∧ AObj.sc (5 : Nat) (AObj.map (ent (kL (↑n : Int)) W) c) = true) ∧ Ob (AObj.map (ent (kL (↑n : Int)) (storeL (un uL (ent (kL (↑n : Int)) (touchL (un uL (ent (kL (↑n : Int)) (addUp n x_2.fst.fst x_2.fst.snd.fst (outL n x) x_2.snd).fst)) (uL (Value.agg { toList := (lgC (fN (vi (↑n : Int) :: T8 ((↑x_2.fst.fst : Nat).testBit) [Value.slice none (0 : Nat) (0 : Nat), vi (0 : Int), vi (0 : Int)])) ((runP false (fN (vi (↑n : Int) :: T8 ((↑x_2.fst.fst : Nat).testBit) [Value.slice none (0 : Nat) (0 : Nat), vi (0 : Int), vi (0 : Int)])).toNat (fT (vi (↑n : Int) :: T8 ((↑x_2.fst.fst : Nat).testBit) [Value.slice none (0 : Nat) (0 : Nat), vi (0 : Int), vi (0 : Int)])) [intOf (vi (↑x_2.snd : Int))]).tk)) })) (addUp n x_2.fst.fst x_2.fst.snd.fst (outL n x) x_2.snd).snd))) (↑(slotL (un uL (ent (kL (↑n : Int)) (addUp n x_2.fst.fst x_2.fst.snd.fst (outL n x) x_2.snd).fst)) (uL (Value.agg { toList := (lgC (fN (vi (↑n : Int) :: T8 ((↑x_2.fst.fst : Nat).testBit) [Value.slice none (0 : Nat) (0 : Nat), vi (0 : Int), vi (0 : Int)])) ((runP false (fN (vi (↑n : Int) :: T8 ((↑x_2.fst.fst : Nat).testBit) [Value.slice none (0 : Nat) (0 : Nat), vi (0 : Int), vi (0 : Int)])).toNat (fT (vi (↑n : Int) :: T8 ((↑x_2.fst.fst : Nat).testBit) [Value.slice none (0 : Nat) (0 : Nat), vi (0 : Int), vi (0 : Int)])) [intOf (vi (↑x_2.snd : Int))]).tk)) })) (addUp n x_2.fst.fst x_2.fst.snd.fst (outL n x) x_2.snd).snd) : Int).toNat (IntKind.i64.wrap (lookL (un uL (ent (kL (↑n : Int)) (addUp n x_2.fst.fst x_2.fst.snd.fst (outL n x) x_2.snd).fst)) (uL (Value.agg { toList := (lgC (fN (vi (↑n : Int) :: T8 ((↑x_2.fst.fst : Nat).testBit) [Value.slice none (0 : Nat) (0 : Nat), vi (0 : Int), vi (0 : Int)])) ((runP false (fN (vi (↑n : Int) :: T8 ((↑x_2.fst.fst : Nat).testBit) [Value.slice none (0 : Nat) (0 : Nat), vi (0 : Int), vi (0 : Int)])).toNat (fT (vi (↑n : Int) :: T8 ((↑x_2.fst.fst : Nat).testBit) [Value.slice none (0 : Nat) (0 : Nat), vi (0 : Int), vi (0 : Int)])) [intOf (vi (↑x_2.snd : Int))]).tk)) })) + x_2.fst.snd.fst)))) (touchC (un uL (ent (kL (↑n : Int)) (addUp n x_2.fst.fst x_2.fst.snd.fst (outL n x) x_2.snd).fst)) (uL (Value.agg { toList := (lgC (fN (vi (↑n : Int) :: T8 ((↑x_2.fst.fst : Nat).testBit) [Value.slice none (0 : Nat) (0 : Nat), vi (0 : Int), vi (0 : Int)])) ((runP false (fN (vi (↑n : Int) :: T8 ((↑x_2.fst.fst : Nat).testBit) [Value.slice none (0 : Nat) (0 : Nat), vi (0 : Int), vi (0 : Int)])).toNat (fT (vi (↑n : Int) :: T8 ((↑x_2.fst.fst : Nat).testBit) [Value.slice none (0 : Nat) (0 : Nat), vi (0 : Int), vi (0 : Int)])) [intOf (vi (↑x_2.snd : Int))]).tk)) })) (addUp n x_2.fst.fst x_2.fst.snd.fst (outL n x) x_2.snd).snd) = AObj.map (List.map (fun (e : MapEntry) ↦ { key := e.key, val := nmap2 (fun (b : Nat) ↦ b) e.val, born := e.born }) (ent (kL (↑n : Int)) (addUp n y.fst.fst y.fst.snd.fst (outL n x) y.snd).fst)) (addUp n y.fst.fst y.fst.snd.fst (outL n x) y.snd).snd ∧ AObj.sc (5 : Nat) (AObj.map (ent (kL (↑n : Int)) (addUp n y.fst.fst y.fst.snd.fst (outL n x) y.snd).fst) (addUp n y.fst.fst y.fst.snd.fst (outL n x) y.snd).snd) = true) ∧ Ob (AObj.iter (1 : Nat) c { toList := bornsL x ++ [x_2.fst.snd.snd] } c = AObj.iter (1 : Nat) c { toList := bornsL x ++ [y.fst.snd.snd] } c ∧ true = true) ∧ Ob (AObj.rw (lgC (↑n : Int) ((↑x_2.fst.fst : Nat).testBit)) none = AObj.rw (lgC (↑n : Int) ((↑y.fst.fst : Nat).testBit)) none ∧ true = true) ∧ True) ∧ Ob (Value.map (some (2 : Nat)) = Value.map (some (2 : Nat))) ∧ Ob (ptr0 4 = ptr0 4) ∧ Ob (x_2.fst.snd.fst = y.fst.snd.fst) ∧ Ob (ptr0 3 = ptr0 3) ∧ Ob ((↑n : Int) = (↑n : Int)) ∧ Ob (IntKind.i64.wrap ((↑x_2.snd : Int) + (1 : Int)) = (↑y.snd : Int)) ∧ True) ∧ ((getI (vi (fN (vi (↑n : Int) :: T8 ((↑x_2.fst.fst : Nat).testBit) [Value.slice none (0 : Nat) (0 : Nat), vi (0 : Int), vi (0 : Int)])) :: T8 ((runP false (fN (vi (↑n : Int) :: T8 ((↑x_2.fst.fst : Nat).testBit) [Value.slice none (0 : Nat) (0 : Nat), vi (0 : Int), vi (0 : Int)])).toNat (fT (vi (↑n : Int) :: T8 ((↑x_2.fst.fst : Nat).testBit) [Value.slice none (0 : Nat) (0 : Nat), vi (0 : Int), vi (0 : Int)])) [intOf (vi (↑x_2.snd : Int))]).tk) [Value.slice (some { block := (7 : Nat), off := (0 : Nat), spot := some (0 : Nat) }) (1 : Nat) (0 : Nat), vi (runP false (fN (vi (↑n : Int) :: T8 ((↑x_2.fst.fst : Nat).testBit) [Value.slice none (0 : Nat) (0 : Nat), vi (0 : Int), vi (0 : Int)])).toNat (fT (vi (↑n : Int) :: T8 ((↑x_2.fst.fst : Nat).testBit) [Value.slice none (0 : Nat) (0 : Nat), vi (0 : Int), vi (0 : Int)])) [intOf (vi (↑x_2.snd : Int))]).slid, vi (runP false (fN (vi (↑n : Int) :: T8 ((↑x_2.fst.fst : Nat).testBit) [Value.slice none (0 : Nat) (0 : Nat), vi (0 : Int), vi (0 : Int)])).toNat (fT (vi (↑n : Int) :: T8 ((↑x_2.fst.fst : Nat).testBit) [Value.slice none (0 : Nat) (0 : Nat), vi (0 : Int), vi (0 : Int)])) [intOf (vi (↑x_2.snd : Int))]).fell]) ((0 : Nat) + (11 : Nat)) == (0 : Int)) = false → ∃ (y : Ent (Fin (256 : Nat)) × Nat), Ob (y.snd ≤ n ∧ ∃ (r : List (Ent (Fin (256 : Nat)))), List.Perm (x ++ y.fst :: r) W) ∧ Ob (n - y.snd < n - x_2.snd) ∧ (Ob (AObj.rw (lgC (↑n : Int) tk) none = AObj.rw (lgC (↑n : Int) tk) none ∧ true = true) ∧ Ob (AObj.map (ent (kL (↑n : Int)) W) c = AObj.map (List.map (fun (e : MapEntry) ↦ { key := e.key, val := nmap2 (fun (b : Nat) ↦ b) e.val, born := e.born }) (ent (kL (↑n : Int)) W)) c ∧ AObj.sc (5 : Nat) (AObj.map (ent (kL (↑n : Int)) W) c) = true) ∧ Ob (AObj.map (ent (kL (↑n : Int)) (addUp n x_2.fst.fst x_2.fst.snd.fst (outL n x) x_2.snd).fst) (addUp n x_2.fst.fst x_2.fst.snd.fst (outL n x) x_2.snd).snd = AObj.map (List.map (fun (e : MapEntry) ↦ { key := e.key, val := nmap2 (fun (b : Nat) ↦ b) e.val, born := e.born }) (ent (kL (↑n : Int)) (addUp n y.fst.fst y.fst.snd.fst (outL n x) y.snd).fst)) (addUp n y.fst.fst y.fst.snd.fst (outL n x) y.snd).snd ∧ AObj.sc (5 : Nat) (AObj.map (ent (kL (↑n : Int)) (addUp n y.fst.fst y.fst.snd.fst (outL n x) y.snd).fst) (addUp n y.fst.fst y.fst.snd.fst (outL n x) y.snd).snd) = true) ∧ Ob (AObj.iter (1 : Nat) c { toList := bornsL x ++ [x_2.fst.snd.snd] } c = AObj.iter (1 : Nat) c { toList := bornsL x ++ [y.fst.snd.snd] } c ∧ true = true) ∧ Ob (AObj.rw (lgC (↑n : Int) ((↑x_2.fst.fst : Nat).testBit)) none = AObj.rw (lgC (↑n : Int) ((↑y.fst.fst : Nat).testBit)) none ∧ true = true) ∧ True) ∧ Ob (Value.map (some (2 : Nat)) = Value.map (some (2 : Nat))) ∧ Ob (ptr0 4 = ptr0 4) ∧ Ob (x_2.fst.snd.fst = y.fst.snd.fst) ∧ Ob (ptr0 3 = ptr0 3) ∧ Ob ((↑n : Int) = (↑n : Int)) ∧ Ob (IntKind.i64.wrap ((↑x_2.snd : Int) + (1 : Int)) = (↑y.snd : Int)) ∧ True)) ∧ (decide ((↑x_2.snd : Int) < (↑n : Int)) = false → ∃ (y : List (Ent (Fin (256 : Nat)))), Ob (∃ (r : EL), List.Perm (y ++ r) W) ∧ Ob (List.length W - y.length < List.length W - x.length) ∧ (Ob (AObj.rw (lgC (↑n : Int) tk) none = AObj.rw (lgC (↑n : Int) tk) none ∧ true = true) ∧ Ob (AObj.map (ent (kL (↑n : Int)) W) c = AObj.map (List.map (fun (e : MapEntry) ↦ { key := e.key, val := nmap2 (fun (b : Nat) ↦ b) e.val, born := e.born }) (ent (kL (↑n : Int)) W)) c ∧ AObj.sc (4 : Nat) (AObj.map (ent (kL (↑n : Int)) W) c) = true) ∧ Ob (AObj.map (ent (kL (↑n : Int)) (addUp n x_2.fst.fst x_2.fst.snd.fst (outL n x) x_2.snd).fst) (addUp n x_2.fst.fst x_2.fst.snd.fst (outL n x) x_2.snd).snd = AObj.map (List.map (fun (e : MapEntry) ↦ { key := e.key, val := nmap2 (fun (b : Nat) ↦ b) e.val, born := e.born }) (ent (kL (↑n : Int)) (outL n y).fst)) (outL n y).snd ∧ AObj.sc (4 : Nat) (AObj.map (ent (kL (↑n : Int)) (outL n y).fst) (outL n y).snd) = true) ∧ Ob (AObj.iter (1 : Nat) c { toList := bornsL x ++ [x_2.fst.snd.snd] } c = AObj.iter (1 : Nat) c { toList := bornsL y } c ∧ true = true) ∧ True) ∧ Ob (Value.map (some (2 : Nat)) = Value.map (some (2 : Nat))) ∧ Ob (ptr0 3 = ptr0 3) ∧ True)
theorem womV_eq : womV = fun (n : Nat) (tk : Nat → Bool) (W : EL) (c : Nat) => vc Try.prog (womE n) 2 42 true (womI n (.rw (lgC n tk) none) W c) womB [] (argFr 0 [.map (some 1)]) [.rw (lgC n tk) none, .map (ent (kL n) W) c] (retC Try.prog Try.f79 (womR n (.rw (lgC n tk) none) W c)) := by kernel_rfl


theorem T85 : Try.prog.underlying 85 = some (.map 62 2) := by kernel_rfl
theorem Z2 : zeroT Try.prog 2 = some (.int .i64 0) := by kernel_rfl
def sumV (L : EL) : Int := (L.map fun x => x.2.1).sum
def nonneg (L : EL) : Prop := ∀ x ∈ L, 0 ≤ x.2.1
theorem sumV_cons {x : Ent (Fin 256)} {L : EL} : sumV (x :: L) = x.2.1 + sumV L := by simp [sumV]
theorem sumV_append {L M : EL} : sumV (L ++ M) = sumV L + sumV M := by simp [sumV]
theorem sumV_nonneg : ∀ {L : EL}, nonneg L → 0 ≤ sumV L
  | [], _ => by simp [sumV]
  | x :: L, h => by
    have h1 := h x List.mem_cons_self
    have h2 := sumV_nonneg fun y hy => h y (List.mem_cons_of_mem _ hy)
    rw [sumV_cons]; omega
theorem sumV_mem : ∀ {L : EL}, nonneg L → ∀ x ∈ L, x.2.1 ≤ sumV L
  | [], _, x, hx => by cases hx
  | y :: L, h, x, hx => by
    have h1 := h y List.mem_cons_self
    have hL : nonneg L := fun z hz => h z (List.mem_cons_of_mem _ hz)
    have h2 := sumV_nonneg hL
    rw [sumV_cons]
    rcases List.mem_cons.1 hx with rfl | hx
    · omega
    · have := sumV_mem hL x hx; omega
theorem sumV_perm {L M : EL} (h : L.Perm M) : sumV L = sumV M := by
  induction h with
  | nil => rfl
  | cons x _ ih => rw [sumV_cons, sumV_cons, ih]
  | swap x y l => rw [sumV_cons, sumV_cons, sumV_cons, sumV_cons]; omega
  | trans _ _ h1 h2 => rw [h1, h2]
theorem upd_sum {k : Fin 256} {d : Int} : ∀ {L : EL}, L.Pairwise (fun a b => a.1 ≠ b.1) → sumV (L.map fun x => if x.1 = k then (x.1, x.2.1 + d, x.2.2) else x) = sumV L + if (∃ x ∈ L, x.1 = k) then d else 0
  | [], _ => by simp [sumV]
  | y :: L, h => by
    obtain ⟨h1, h2⟩ := List.pairwise_cons.1 h
    rw [List.map_cons, sumV_cons, sumV_cons, upd_sum h2]
    by_cases e : y.1 = k
    · have hn : ¬ ∃ x ∈ L, x.1 = k := fun ⟨x, hx, hk⟩ => h1 x hx (e.trans hk.symm)
      rw [if_pos e, if_neg hn, if_pos ⟨y, List.mem_cons_self, e⟩]; simp only; omega
    · rw [if_neg e]
      by_cases hx : ∃ x ∈ L, x.1 = k
      · obtain ⟨x, hx1, hx2⟩ := hx
        rw [if_pos ⟨x, hx1, hx2⟩, if_pos ⟨x, List.mem_cons_of_mem _ hx1, hx2⟩]; omega
      · rw [if_neg hx, if_neg (fun ⟨x, hx1, hx2⟩ => by
          rcases List.mem_cons.1 hx1 with rfl | h3
          · exact e hx2
          · exact hx ⟨x, h3, hx2⟩)]; omega
theorem addL_sum {L : EL} {k : Fin 256} {d : Int} {c : Nat} (hw : WF gL L c) : sumV (addL L k d c) = sumV L + d := by
  unfold addL
  split
  · rename_i p hp
    obtain ⟨_, h2, h3⟩ := findK_some (i := p.1) (x := p.2) hp
    rw [upd_sum hw.keys, if_pos ⟨p.2, List.mem_of_getElem? h2, h3⟩]
  · rw [sumV_append]; simp [sumV]
theorem addL_nonneg {L : EL} {k : Fin 256} {d : Int} {c : Nat} (h : nonneg L) (hd : 0 ≤ d) : nonneg (addL L k d c) := by
  unfold addL
  split
  · intro x hx
    obtain ⟨y, hy, rfl⟩ := List.mem_map.1 hx
    have := h y hy
    split
    · show 0 ≤ y.2.1 + d; omega
    · exact this
  · intro x hx
    rcases List.mem_append.1 hx with hx | hx
    · exact h x hx
    · rw [List.mem_singleton.1 hx]; exact hd
theorem look_bd {L : EL} {k : Fin 256} (h : nonneg L) : 0 ≤ lookL L k ∧ lookL L k ≤ sumV L := by
  unfold lookL
  split
  · rename_i i x hp
    obtain ⟨_, h2, h3⟩ := findK_some hp
    exact ⟨h _ (List.mem_of_getElem? h2), sumV_mem h _ (List.mem_of_getElem? h2)⟩
  · exact ⟨Int.le_refl _, sumV_nonneg h⟩
theorem addUp_ok {n : Nat} {k : Fin 256} {v : Int} {s : EL × Nat} (hw : WF gL s.1 s.2) (hs : nonneg s.1) (hv : 0 ≤ v) : ∀ i : Nat, WF gL (addUp n k v s i).1 (addUp n k v s i).2 ∧ nonneg (addUp n k v s i).1 ∧ sumV (addUp n k v s i).1 ≤ sumV s.1 + i * v
  | 0 => ⟨hw, hs, by simp [addUp]⟩
  | i + 1 => by
    obtain ⟨h1, h2, h3⟩ := addUp_ok (n := n) (k := k) hw hs hv i
    have e : ((i + 1 : Nat) : Int) * v = i * v + v := by push_cast; rw [Int.add_mul, Int.one_mul]
    rw [addUp]
    split
    · rename_i j _
      refine ⟨addL_wf h1 trivial, addL_nonneg h2 hv, ?_⟩
      show sumV (addL _ _ _ _) ≤ _
      rw [addL_sum h1]; omega
    · exact ⟨h1, h2, by omega⟩
theorem outL_append {n : Nat} {D : EL} {x : Ent (Fin 256)} : outL n (D ++ [x]) = addUp n x.1 x.2.1 (outL n D) n := by
  unfold outL; rw [List.foldl_append]; rfl
theorem outL_ok {n : Nat} {D : EL} (h : nonneg D) : WF gL (outL n D).1 (outL n D).2 ∧ nonneg (outL n D).1 ∧ sumV (outL n D).1 ≤ n * sumV D := by
  have key : ∀ (R : EL), nonneg R → WF gL (outL n R.reverse).1 (outL n R.reverse).2 ∧ nonneg (outL n R.reverse).1 ∧ sumV (outL n R.reverse).1 ≤ n * sumV R.reverse := by
    intro R
    induction R with
    | nil => exact fun _ => ⟨⟨(fun x hx => by cases hx), List.Pairwise.nil, List.Pairwise.nil, (fun x hx => by cases hx)⟩, (fun x hx => by cases hx), by simp [outL, sumV]⟩
    | cons x R ih =>
      intro hR
      obtain ⟨h1, h2, h3⟩ := ih fun y hy => hR y (List.mem_cons_of_mem _ hy)
      rw [List.reverse_cons, outL_append]
      obtain ⟨k1, k2, k3⟩ := addUp_ok (n := n) (k := x.1) h1 h2 (hR x List.mem_cons_self) n
      refine ⟨k1, k2, ?_⟩
      rw [sumV_append]
      have : sumV [x] = x.2.1 := by simp [sumV]
      rw [this, Int.mul_add]; omega
  have := key D.reverse fun x hx => h x (List.mem_reverse.1 hx)
  rw [List.reverse_reverse] at this
  exact this
theorem perm_more {D r W : EL} {x : Ent (Fin 256)} (h : (D ++ r).Perm W) (hx : x ∈ W) (hn : x.2.2 ∉ bornsL D) : ∃ r', (D ++ x :: r').Perm W := by
  have hm : x ∈ D ++ r := h.mem_iff.2 hx
  have hr : x ∈ r := by
    rcases List.mem_append.1 hm with h1 | h1
    · exact absurd (List.mem_map_of_mem h1) hn
    · exact h1
  obtain ⟨r', hp⟩ := List.perm_cons_erase hr |>.symm |> fun h => (⟨_, h⟩ : ∃ r', (x :: r').Perm r)
  exact ⟨r', ((List.Perm.append_left D hp).trans h)⟩
theorem perm_done {D r W : EL} {c : Nat} (hw : WF gL W c) (h : (D ++ r).Perm W) (hd : ∀ x ∈ W, x.2.2 ∈ bornsL D) : D.Perm W := by
  cases r with
  | nil => rw [List.append_nil] at h; exact h
  | cons x r =>
    have hx : x ∈ W := h.mem_iff.1 (List.mem_append_right _ List.mem_cons_self)
    obtain ⟨y, hy, hyb⟩ := List.mem_map.1 (hd x hx)
    have hp : (D ++ x :: r).Pairwise fun a b => a.2.2 ≠ b.2.2 := (h.pairwise_iff (fun {a b} h e => h e.symm)).2 hw.borns
    exact absurd hyb ((List.pairwise_append.1 hp).2.2 y hy x List.mem_cons_self)
theorem touch_eq {L : EL} {k : Fin 256} {c : Nat} : touchL L k c = addL L k 0 c := by
  unfold touchL addL
  split
  · refine Eq.symm ((List.map_congr_left fun x _ => ?_).trans (List.map_id _))
    split
    · rw [Int.add_zero]; rfl
    · rfl
  · rfl
theorem slot_in {L : EL} {k : Fin 256} {c : Nat} : ∃ x ∈ touchL L k c, x.2.2 = slotL L k c := by
  unfold touchL slotL
  split
  · rename_i x h
    rw [h]
    obtain ⟨_, h2, _⟩ := findK_some (i := x.1) (x := x.2) h
    exact ⟨x.2, List.mem_of_getElem? h2, rfl⟩
  · rename_i h
    rw [h]
    exact ⟨_, List.mem_append_right _ List.mem_cons_self, rfl⟩
theorem womV_ok (n : Nat) (tk : Nat → Bool) (W : EL) (c : Nat) (hn : 1 ≤ n ∧ n ≤ 8) (hw : WF gL W c) (hp : nonneg W) (hs : sumV W ≤ 1000000000000) : womV n tk W c := by
  unfold womV
  simp only [ob_iff, map_nmap_int, sc_ro_int, sc_rw_int, getI_map, intAt_map, getB_map, boolAt_map, true_and, and_true, eq_self, Int.toNat_natCast, Nat.zero_add, Nat.add_zero, Nat.mul_one, Nat.one_mul, decide_eq_true_eq, decide_eq_false_iff_not, Value.bool.injEq, Value.int.injEq, Value.slice.injEq, Value.tuple.injEq, Option.some.injEq, Addr.mk.injEq, AObj.rw.injEq, AObj.ro.injEq, List.cons.injEq, reduceCtorEq, List.length_append, List.length_map, List.length_cons, List.length_nil, List.length_set, List.set_cons_zero, List.set_cons_succ, List.take_succ_cons, List.take_zero, List.take_nil, List.drop_nil, List.drop_zero, List.drop_succ_cons, intsOf_map, sl_id, sl_cells, Arg.list, Arg.num, Arg.flag, intOf, List.map_cons, List.map_nil, false_and, and_false, exists_const, or_false, false_or, true_or, forall_const, true_implies, false_implies, implies_true, beq_iff_eq, bne_iff_ne, beq_eq_false_iff_ne, bne_eq_false_iff_eq, Bool.not_eq_true', Bool.not_eq_false', ne_eq, not_true_eq_false, not_false_eq_true, Nat.le_refl, Nat.lt_irrefl, andP, Bool.not_true, Bool.not_false, Bool.true_eq_false, Bool.false_eq_true, Nat.reduceLeDiff, Nat.reduceAdd, Nat.reduceMul, Nat.reduceLT, Nat.zero_le, beq_self_eq_true, take_map_len, List.take_length, int_snoc, un_kL, map_ent, sc_ent, fT_bits, fN_T8, fF_T8, T8_fT, AObj.map.injEq, AObj.iter.injEq, Array.mk.injEq, T8_getB]
  refine ⟨⟨[], ⟨W, List.Perm.refl _⟩, ⟨rfl, rfl⟩, rfl⟩, fun D ⟨r, hD⟩ => ⟨next_ok hw rfl rfl, fun h1 => ?_, fun x hx => ?_⟩⟩
  · exact ⟨D, perm_done hw hD h1, rfl, rfl⟩
  · obtain ⟨k0, v0, b0⟩ := x
    refine ⟨ent_ok (kv := kL n) (x := (k0, v0, b0)) hw.borns hx.1 rfl rfl, ⟨((k0, v0, b0), 0), ⟨Nat.zero_le _, perm_more hD hx.1 hx.2⟩, ⟨⟨rfl, rfl⟩, rfl, rfl⟩, rfl, rfl⟩, fun y ⟨hy1, r', hy2⟩ => ⟨fun hlt => ?_, fun hge => ?_⟩⟩
    · obtain ⟨⟨k, v, b⟩, i⟩ := y
      simp only at hy1 hy2 hlt ⊢
      have hin : i < n := by omega
      have hmem : (k, v, b) ∈ W := hy2.mem_iff.1 (List.mem_append_right _ List.mem_cons_self)
      have hv : 0 ≤ v := hp _ hmem
      have hpD : nonneg D := fun z hz => hp z (hy2.mem_iff.1 (List.mem_append_left _ hz))
      have hsum : sumV D + v ≤ sumV W := by
        rw [← sumV_perm hy2, sumV_append, sumV_cons]
        have := sumV_nonneg (L := r') fun z hz => hp z (hy2.mem_iff.1 (List.mem_append_right _ (List.mem_cons_of_mem _ hz)))
        simp only
        omega
      obtain ⟨o1, o2, o3⟩ := outL_ok (n := n) hpD
      obtain ⟨u1, u2, u3⟩ := addUp_ok (n := n) (k := k) (v := v) o1 o2 hv i
      obtain ⟨j, hj⟩ : ∃ j, ∀ h, (⟨maskOf (runP false n k.1.testBit [(i : Int)]).tk, h⟩ : Fin 256) = j := ⟨⟨maskOf (runP false n k.1.testBit [(i : Int)]).tk, mask_lt _⟩, fun _ => rfl⟩
      have hone : (runP false n k.1.testBit [(i : Int)]).fell = 0 → addUp n k v (outL n D) (i + 1) = (addL (addUp n k v (outL n D) i).1 j v (addUp n k v (outL n D) i).2, touchC (addUp n k v (outL n D) i).1 j (addUp n k v (outL n D) i).2) := fun h => by
        rw [addUp]; unfold oneMore; rw [if_pos h, hj]
      have hone' : (runP false n k.1.testBit [(i : Int)]).fell ≠ 0 → addUp n k v (outL n D) (i + 1) = addUp n k v (outL n D) i := fun h => by
        rw [addUp]; unfold oneMore; rw [if_neg h]
      have ek : Value.agg { toList := lgC n (runP false n k.1.testBit [(i : Int)]).tk } = kL n j := by rw [← hj (mask_lt _)]; exact kL_mask
      have hbd : sumV (addUp n k v (outL n D) i).1 ≤ 8 * 1000000000000 := by
        have h1 : (n : Int) * sumV D ≤ 8 * sumV D := Int.mul_le_mul_of_nonneg_right (by omega) (sumV_nonneg hpD)
        have h2 : (i : Int) * v ≤ 8 * v := Int.mul_le_mul_of_nonneg_right (by omega) hv
        omega
      generalize addUp n k v (outL n D) i = S at *
      generalize runP false n k.1.testBit [(i : Int)] = R at *
      refine ⟨⟨⟨rfl, rfl, by rw [fN_T8]; omega, by rw [fN_T8]; omega, (fun z hz => by rw [List.mem_singleton.1 hz, fN_T8]; omega), by simp⟩, by decide⟩, rfl, fun hf => ?_, fun hf => ?_⟩
      · have hone2 := hone hf
        have hD0 := sumV_nonneg hpD
        simp only [kL_uL, hj]
        simp only [ek]
        have b0 := look_bd (k := j) u2
        have e1 : IntKind.i64.wrap (lookL S.1 j + v) = lookL S.1 j + v := wrap_in (by omega) (by omega)
        have e2 : IntKind.i64.wrap ((i : Int) + 1) = ((i + 1 : Nat) : Int) := by rw [wrap_in (by omega) (by omega)]; push_cast; rfl
        have w2 : WF gL (touchL S.1 j S.2) (touchC S.1 j S.2) := by rw [touch_eq]; exact addL_wf u1 trivial
        have l2 : lookL (touchL S.1 j S.2) j = lookL S.1 j := by rw [touch_eq, look_add u1 trivial]; simp
        refine ⟨look_ok (keyOk n) T85 u1 Z2 rfl trivial, entry_ok (keyOk n) T85 u1 Z2 rfl trivial, ⟨⟨look_ok (keyOk n) T85 w2 Z2 rfl trivial, by rw [l2]; unfold eqV; exact decide_eq_true rfl⟩, ?_⟩, ?_, ((k, v, b), i + 1), ⟨by omega, r', hy2⟩, ?_⟩
        · unfold eqV; exact decide_eq_true rfl
        · rw [e1]
          exact store_ok w2.borns rfl slot_in
        · refine ⟨by simp only; omega, ⟨⟨?_, ?_⟩, rfl, rfl⟩, rfl, e2⟩
          · simp only [hone2, e1, store_touch u1]
          · simp only [hone2]
      · have hone2 := hone' hf
        have e2 : IntKind.i64.wrap ((i : Int) + 1) = ((i + 1 : Nat) : Int) := by rw [wrap_in (by omega) (by omega)]; push_cast; rfl
        refine ⟨((k, v, b), i + 1), ⟨by omega, r', hy2⟩, by omega, ⟨?_, rfl, rfl⟩, rfl, e2⟩
        simp only [hone2]
        exact ⟨trivial, trivial⟩
    · obtain ⟨⟨k, v, b⟩, i⟩ := y
      simp only at hy1 hy2 hge ⊢
      have hi : i = n := by omega
      subst hi
      refine ⟨D ++ [(k, v, b)], ⟨r', by rw [List.append_assoc]; exact hy2⟩, ?_, ⟨?_, ?_⟩, ?_⟩
      · have := hy2.length_eq
        simp only [List.length_append, List.length_cons, List.length_nil] at this ⊢
        omega
      · rw [outL_append]
      · rw [outL_append]
      · simp [bornsL]
theorem womE_ok (n : Int) : VOk Try.prog (womE n) := ⟨CtOk.none.add dropA_ok, E0_ok.cc, E0_ok.yc, orcMap_ok⟩
/-- A call whose end is known up to names. -/
theorem ofVcC {E : VEnv} (hct : VOk Try.prog E) {f : FuncId} {fn : Func} {c : Code} {args : List Value} {H : Heap} {inv : Nat → Option LInv} {R : Value → Heap → Prop} (hf : Try.prog.funcs[f]? = some fn) (hb : fn.body = some c)
    (h : vc Try.prog E H.length (args.length + (fn.ntmps - args.length)) true inv c [] (argFr 0 args) H (retC Try.prog fn R)) : Call Try.prog f args H R :=
  Call.ofBody hct mixed hf hb (fun x D F' H' hr => by
    have hr' : (x = .normal ∨ x = .ret) ∧ (match fresults Try.prog fn F' H' with | some (φ, v) => (match φ with | [] => R v H' | φ => AskAll φ ∧ R v H') | none => False) := by
      cases x with
      | normal => exact ⟨.inl rfl, hr⟩
      | ret => exact ⟨.inr rfl, hr⟩
      | exit id => exact hr.elim
    refine ⟨hr'.1, ?_⟩
    have hr' := hr'.2
    split at hr'
    · rename_i φ v he
      refine ⟨φ, v, he, ?_⟩
      split at hr'
      · exact ⟨trivial, hr'⟩
      · exact hr'
    · exact hr'.elim) h
theorem wom_call (n : Nat) (tk : Nat → Bool) (W : EL) (c : Nat) (hn : 1 ≤ n ∧ n ≤ 8) (hw : WF gL W c) (hp : nonneg W) (hs : sumV W ≤ 1000000000000) :
    Call Try.prog 79 [.map (some 1)] [.rw (lgC n tk) none, .map (ent (kL n) W) c] fun v H' => ∃ D : EL, D.Perm W ∧ v = .map (some 2) ∧ H' = [.rw (lgC n tk) none, .map (ent (kL n) W) c, .map (ent (kL n) (outL n D).1) (outL n D).2] :=
  Call.anew ((ofVcC (womE_ok n) (c := womB) (inv := womI n (.rw (lgC n tk) none) W c) (H := [.rw (lgC n tk) none, .map (ent (kL n) W) c]) Try.func79 (by kernel_rfl) (cast (congrFun (congrFun (congrFun (congrFun womV_eq n) tk) W) c) (womV_ok n tk W c hn hw hp hs))).mono fun v H1 hr => by
    obtain ⟨D, hD, hr⟩ := hr
    obtain ⟨a, b⟩ := hr.anew
    obtain ⟨b1, b2⟩ := b 0 _ rfl
    exact ⟨_, _, _, a, Option.some.inj b1, b2, D, ob_iff.1 hD, rfl, rfl⟩)
/-- What one more copper asks, and what it leaves. -/
def womPre (n : Nat) (o : AObj) (es : List MapEntry) (c : Nat) : Prop := (∃ tk, o = .rw (lgC n tk) none) ∧ (1 ≤ n ∧ n ≤ 8) ∧ es = ent (kL n) (un uL es) ∧ WF gL (un uL es) c ∧ nonneg (un uL es) ∧ sumV (un uL es) ≤ 1000000000000
def ccWom (n : Nat) : Cc := fun f args H => match Nat.beq f 79, args, H with
  | true, [.map (some 1)], [o, .map es c] => some fun Q => Ob (womPre n o es c) ∧ ∀ D : EL, Ob (D.Perm (un uL es)) → Q (.map (some 2)) [o, .map es c, .map (ent (kL n) (outL n D).1) (outL n D).2]
  | _, _, _ => none
theorem ccWom_ok (n : Nat) : CcOk Try.prog (ccWom n) := fun f args H T h Q hT => by
  unfold ccWom at h
  split at h <;> cases h
  rename_i o es c hf
  rw [Nat.eq_of_beq_eq_true hf]
  obtain ⟨h0, h7⟩ := hT
  obtain ⟨⟨tk, h1⟩, h2, h3, h4, h5, h6⟩ := ob_iff.1 h0
  have := wom_call n tk (un uL es) c h2 h4 h5 h6
  rw [← h1, ← h3] at this
  exact this.mono fun v H' ⟨D, hD, hv, hH⟩ => by rw [hv, hH]; exact h7 D (ob_iff.2 hD)

end Go.Pier.Lg

set_option maxRecDepth 100000
set_option linter.unusedVariables false
set_option linter.unusedSimpArgs false
namespace Go.Pier.Lg
open Go Go.Pier Go.Proofs 
--T8
noncomputable def besB : Code := Try.f80.body.getD .skip
/-- Eight places as a value. -/
def aV (tk : Nat → Bool) : Value := .agg #[.bool (tk 0), .bool (tk 1), .bool (tk 2), .bool (tk 3), .bool (tk 4), .bool (tk 5), .bool (tk 6), .bool (tk 7)]
def besF (a b : Nat → Bool) (i j : Nat) : Bool := decide (j < i) && (a j && !b j)
def besI (a b : Nat → Bool) : Nat → Option LInv := invOf 0 (LInv.one Nat (fun i => i ≤ 8)
  (fun i => [(2, ptr0 0), (3, ptr0 1), (4, ptr0 2), (5, ptr0 3), (7, vi i)]) (fun i => [.rw (T8 a []) none, .rw (T8 b []) none, .rw (T8 emp []) none, .rw (T8 (besF a b i) []) none]) (fun i => 8 - i))
noncomputable def besE : VEnv := { orc := orcB }
noncomputable def besV :=
fun (a b : Nat → Bool) ↦ (∃ (y : Nat), Ob (y ≤ (8 : Nat)) ∧ (Ob (AObj.rw (T8 a []) none = AObj.rw (T8 a []) none ∧ true = true) ∧ Ob (AObj.rw (T8 b []) none = AObj.rw (T8 b []) none ∧ true = true) ∧ Ob (AObj.rw (T8 emp []) none = AObj.rw (T8 emp []) none ∧ true = true) ∧ Ob (AObj.rw (T8 emp []) none = AObj.rw (T8 (besF a b y) []) none ∧ true = true) ∧ True) ∧ Ob (ptr0 0 = ptr0 0) ∧ Ob (ptr0 1 = ptr0 1) ∧ Ob (ptr0 2 = ptr0 2) ∧ Ob (ptr0 3 = ptr0 3) ∧ Ob ((0 : Int) = (↑y : Int)) ∧ True) ∧ ∀ (x : Nat), Ob (x ≤ (8 : Nat)) → (decide ((↑x : Int) < (8 : Int)) = true → Ob ((0 : Int) ≤ (↑x : Int) ∧ (↑x : Int) < (↑(8 : Nat) : Int)) ∧ Ob (BoolAt (T8 a []) ((0 : Nat) + (↑x : Int).toNat * (1 : Nat))) ∧ (getB (T8 a []) ((0 : Nat) + (↑x : Int).toNat * (1 : Nat)) = true → Ob ((0 : Int) ≤ (↑x : Int) ∧ (↑x : Int) < (↑(8 : Nat) : Int)) ∧ Ob (BoolAt (T8 b []) ((0 : Nat) + (↑x : Int).toNat * (1 : Nat))) ∧ Ob ((0 : Int) ≤ (↑x : Int) ∧ (↑x : Int) < (↑(8 : Nat) : Int)) ∧ Ob (BoolAt (T8 (besF a b x) []) ((0 : Nat) + (↑x : Int).toNat * (1 : Nat)) ∧ some (1 : Nat) = some (1 : Nat)) ∧ ∃ (y : Nat), Ob (y ≤ (8 : Nat)) ∧ Ob ((8 : Nat) - y < (8 : Nat) - x) ∧ (Ob (AObj.rw (T8 a []) none = AObj.rw (T8 a []) none ∧ true = true) ∧ Ob (AObj.rw (T8 b []) none = AObj.rw (T8 b []) none ∧ true = true) ∧ Ob (AObj.rw (T8 emp []) none = AObj.rw (T8 emp []) none ∧ true = true) ∧ Ob (AObj.rw [Value.bool (bif Nat.beq (0 : Nat) ((0 : Nat) + (↑x : Int).toNat * (1 : Nat)) then !getB (T8 b []) ((0 : Nat) + (↑x : Int).toNat * (1 : Nat)) else besF a b x (0 : Nat)), Value.bool (bif Nat.beq (1 : Nat) ((0 : Nat) + (↑x : Int).toNat * (1 : Nat)) then !getB (T8 b []) ((0 : Nat) + (↑x : Int).toNat * (1 : Nat)) else besF a b x (1 : Nat)), Value.bool (bif Nat.beq (2 : Nat) ((0 : Nat) + (↑x : Int).toNat * (1 : Nat)) then !getB (T8 b []) ((0 : Nat) + (↑x : Int).toNat * (1 : Nat)) else besF a b x (2 : Nat)), Value.bool (bif Nat.beq (3 : Nat) ((0 : Nat) + (↑x : Int).toNat * (1 : Nat)) then !getB (T8 b []) ((0 : Nat) + (↑x : Int).toNat * (1 : Nat)) else besF a b x (3 : Nat)), Value.bool (bif Nat.beq (4 : Nat) ((0 : Nat) + (↑x : Int).toNat * (1 : Nat)) then !getB (T8 b []) ((0 : Nat) + (↑x : Int).toNat * (1 : Nat)) else besF a b x (4 : Nat)), Value.bool (bif Nat.beq (5 : Nat) ((0 : Nat) + (↑x : Int).toNat * (1 : Nat)) then !getB (T8 b []) ((0 : Nat) + (↑x : Int).toNat * (1 : Nat)) else besF a b x (5 : Nat)), Value.bool (bif Nat.beq (6 : Nat) ((0 : Nat) + (↑x : Int).toNat * (1 : Nat)) then !getB (T8 b []) ((0 : Nat) + (↑x : Int).toNat * (1 : Nat)) else besF a b x (6 : Nat)), Value.bool (bif Nat.beq (7 : Nat) ((0 : Nat) + (↑x : Int).toNat * (1 : Nat)) then !getB (T8 b []) ((0 : Nat) + (↑x : Int).toNat * (1 : Nat)) else besF a b x (7 : Nat))] none = AObj.rw (T8 (besF a b y) []) none ∧ true = true) ∧ True) ∧ Ob (ptr0 0 = ptr0 0) ∧ Ob (ptr0 1 = ptr0 1) ∧ Ob (ptr0 2 = ptr0 2) ∧ Ob (ptr0 3 = ptr0 3) ∧ Ob (IntKind.i64.wrap ((↑x : Int) + (1 : Int)) = (↑y : Int)) ∧ True) ∧ (getB (T8 a []) ((0 : Nat) + (↑x : Int).toNat * (1 : Nat)) = false → Ob ((0 : Int) ≤ (↑x : Int) ∧ (↑x : Int) < (↑(8 : Nat) : Int)) ∧ Ob (BoolAt (T8 (besF a b x) []) ((0 : Nat) + (↑x : Int).toNat * (1 : Nat)) ∧ some (1 : Nat) = some (1 : Nat)) ∧ ∃ (y : Nat), Ob (y ≤ (8 : Nat)) ∧ Ob ((8 : Nat) - y < (8 : Nat) - x) ∧ (Ob (AObj.rw (T8 a []) none = AObj.rw (T8 a []) none ∧ true = true) ∧ Ob (AObj.rw (T8 b []) none = AObj.rw (T8 b []) none ∧ true = true) ∧ Ob (AObj.rw (T8 emp []) none = AObj.rw (T8 emp []) none ∧ true = true) ∧ Ob (AObj.rw [Value.bool (bif Nat.beq (0 : Nat) ((0 : Nat) + (↑x : Int).toNat * (1 : Nat)) then false else besF a b x (0 : Nat)), Value.bool (bif Nat.beq (1 : Nat) ((0 : Nat) + (↑x : Int).toNat * (1 : Nat)) then false else besF a b x (1 : Nat)), Value.bool (bif Nat.beq (2 : Nat) ((0 : Nat) + (↑x : Int).toNat * (1 : Nat)) then false else besF a b x (2 : Nat)), Value.bool (bif Nat.beq (3 : Nat) ((0 : Nat) + (↑x : Int).toNat * (1 : Nat)) then false else besF a b x (3 : Nat)), Value.bool (bif Nat.beq (4 : Nat) ((0 : Nat) + (↑x : Int).toNat * (1 : Nat)) then false else besF a b x (4 : Nat)), Value.bool (bif Nat.beq (5 : Nat) ((0 : Nat) + (↑x : Int).toNat * (1 : Nat)) then false else besF a b x (5 : Nat)), Value.bool (bif Nat.beq (6 : Nat) ((0 : Nat) + (↑x : Int).toNat * (1 : Nat)) then false else besF a b x (6 : Nat)), Value.bool (bif Nat.beq (7 : Nat) ((0 : Nat) + (↑x : Int).toNat * (1 : Nat)) then false else besF a b x (7 : Nat))] none = AObj.rw (T8 (besF a b y) []) none ∧ true = true) ∧ True) ∧ Ob (ptr0 0 = ptr0 0) ∧ Ob (ptr0 1 = ptr0 1) ∧ Ob (ptr0 2 = ptr0 2) ∧ Ob (ptr0 3 = ptr0 3) ∧ Ob (IntKind.i64.wrap ((↑x : Int) + (1 : Int)) = (↑y : Int)) ∧ True)) ∧ (decide ((↑x : Int) < (8 : Int)) = false → Ob ((8 : Nat) ≤ (8 : Nat)) ∧ True ∧ Ob (Value.agg { toList := (T8 (besF a b x) []) } = Value.agg { toList := (T8 (besF a b (8 : Nat)) []) }) ∧ True)
theorem besV_eq : besV = fun (a b : Nat → Bool) => vc Try.prog besE 0 23 true (besI a b) besB [] (argFr 0 [aV a, aV b]) [] (retR Try.prog Try.f80 0 (fun b => b) (aV (besF a b 8)) []) := by kernel_rfl


theorem T80_getB {tk : Nat → Bool} {r : List Value} {a : Nat} (h : a < 8) : getB (T8 tk r) a = tk a := by
  rcases a with _ | _ | _ | _ | _ | _ | _ | _ | a <;> first | rfl | omega
theorem T80_boolAt {tk : Nat → Bool} {r : List Value} {a : Nat} (h : a < 8) : BoolAt (T8 tk r) a := by
  rcases a with _ | _ | _ | _ | _ | _ | _ | _ | a <;> first | rfl | omega
theorem bes_step {a b : Nat → Bool} {x j : Nat} {v : Bool} (h : v = (a x && !b x)) : (bif Nat.beq j x then v else besF a b x j) = besF a b (x + 1) j := by
  by_cases e : j = x
  · subst e; rw [Nat.beq_refl, h]; simp [besF]
  · have : Nat.beq j x = false := by
      cases hb : Nat.beq j x with
      | false => rfl
      | true => exact absurd (Nat.eq_of_beq_eq_true hb) e
    rw [this]
    by_cases h1 : j < x
    · simp [besF, h1, show j < x + 1 by omega]
    · simp [besF, h1, show ¬ j < x + 1 by omega]
theorem besV_ok (a b : Nat → Bool) : besV a b := by
  unfold besV
  simp only [ob_iff, map_nmap_int, sc_ro_int, sc_rw_int, getI_map, intAt_map, getB_map, boolAt_map, true_and, and_true, eq_self, Int.toNat_natCast, Nat.zero_add, Nat.add_zero, Nat.mul_one, Nat.one_mul, decide_eq_true_eq, decide_eq_false_iff_not, Value.bool.injEq, Value.int.injEq, Value.slice.injEq, Value.tuple.injEq, Option.some.injEq, Addr.mk.injEq, AObj.rw.injEq, AObj.ro.injEq, List.cons.injEq, reduceCtorEq, List.length_append, List.length_map, List.length_cons, List.length_nil, List.length_set, List.set_cons_zero, List.set_cons_succ, List.take_succ_cons, List.take_zero, List.take_nil, List.drop_nil, List.drop_zero, List.drop_succ_cons, intsOf_map, sl_id, sl_cells, Arg.list, Arg.num, Arg.flag, intOf, List.map_cons, List.map_nil, false_and, and_false, exists_const, or_false, false_or, true_or, forall_const, true_implies, false_implies, implies_true, beq_iff_eq, bne_iff_ne, beq_eq_false_iff_ne, bne_eq_false_iff_eq, Bool.not_eq_true', Bool.not_eq_false', ne_eq, not_true_eq_false, not_false_eq_true, Nat.le_refl, Nat.lt_irrefl, andP, Bool.not_true, Bool.not_false, Bool.true_eq_false, Bool.false_eq_true, Nat.reduceLeDiff, Nat.reduceAdd, Nat.reduceMul, Nat.reduceLT, Nat.zero_le, beq_self_eq_true, take_map_len, List.take_length, int_snoc]
  refine ⟨⟨0, Nat.zero_le _, ?_⟩, fun x hx => ⟨fun h => ?_, fun h => ?_⟩⟩
  · refine ⟨?_, rfl⟩
    simp [T8, emp, besF]
  · have hx8 : x < 8 := by omega
    have ew : IntKind.i64.wrap ((x : Int) + 1) = ((x + 1 : Nat) : Int) := by rw [wrap_in (by omega) (by omega)]; push_cast; rfl
    rw [T80_getB hx8, T80_getB hx8]
    refine ⟨⟨by omega, by omega⟩, T80_boolAt hx8, fun ha => ⟨⟨by omega, by omega⟩, T80_boolAt hx8, ⟨by omega, by omega⟩, T80_boolAt hx8, x + 1, by omega, by omega, ?_, ew⟩, fun ha => ⟨⟨by omega, by omega⟩, T80_boolAt hx8, x + 1, by omega, by omega, ?_, ew⟩⟩
    · have hv : (!b x) = (a x && !b x) := by rw [ha]; rfl
      simp only [bes_step hv]; rfl
    · have hv : false = (a x && !b x) := by rw [ha]; rfl
      simp only [bes_step hv]; rfl
  · rw [show x = 8 by omega]
theorem besE_ok : VOk Try.prog besE := ⟨CtOk.none, E0_ok.cc, E0_ok.yc, orcB_ok⟩
theorem bes_call (a b : Nat → Bool) : Call Try.prog 80 [aV a, aV b] [] fun v H' => v = aV (besF a b 8) ∧ H' = [] :=
  Call.ofVcR besE_ok mixed (c := besB) (inv := besI a b) Try.func80 (by kernel_rfl) (cast (congrFun (congrFun besV_eq a) b) (besV_ok a b))
/-! ### Functions of plain values -/
def plainG (s : List Value → Option (Prop × Value)) : List Value → Heap → Option (Option Prop × Value × Heap × List Nat) := fun args H => match s args with
  | some (φ, v) => some (some φ, v, H, [])
  | none => none
def Plain (v : Value) : Prop := (∀ σ, nmap σ v = v) ∧ (∀ m, sc m v = true) ∧ ∀ p, nm p v = true
theorem canon_vals {c : Nat → Nat} {m : Nat} : ∀ (l : List Value), canonA2 c m (l.map .val) = l
  | [] => rfl
  | a :: l => by rw [List.map_cons, canonA2, canon_vals l]
theorem canonH_vals : ∀ (l : List Value), canonH2 (l.map .val) = []
  | [] => rfl
  | a :: l => by rw [List.map_cons, canonH2, canonH_vals l]
theorem read_vals {H : Heap} {σ : Nat → Nat} {B : List Nat} {m : Nat} : ∀ (l : List Value), (∀ a ∈ l, Plain a) → ReadA2 H σ B m (l.map .val) l
  | [], _ => trivial
  | a :: l, h => ⟨((h a List.mem_cons_self).1 σ).symm, (h a List.mem_cons_self).2.1 m, read_vals l fun b hb => h b (List.mem_cons_of_mem _ hb)⟩
theorem plainG_ok {f : FuncId} {s : List Value → Option (Prop × Value)} (h : ∀ args φ v, s args = some (φ, v) → φ → (∀ a ∈ args, Plain a) ∧ Plain v ∧ Call Try.prog f args [] fun v' H' => v' = v ∧ H' = []) :
    ∀ args H φ v H' l, plainG s args H = some (φ, v, H', l) → Asks φ → Call Try.prog f args H (fun v' H2 => v' = v ∧ H2 = H') ∧ Kept H H' l := by
  intro args H φ v H' l hh hφ
  unfold plainG at hh
  split at hh <;> cases hh
  rename_i φ hs
  obtain ⟨h1, h2, h3⟩ := h args φ v hs hφ
  have := Call.frameL (P := Try.prog) (f := f) (H := H) (Et := []) (Ft := []) (N := []) (L := []) (ags := args.map .val) (vs := args) (v := v) rfl rfl (by simp) (fun _ h => by cases h)
    (fun c o h => by simp at h) (fun _ h => by cases h) (read_vals args h1) (fun caps => by rw [canon_vals, canonH_vals]; exact h3)
    (fun _ h => by cases h) (fun _ h => by cases h) (h2.2.2 _) (fun _ h => by cases h) (by rw [h2.1]; exact h2.2.1 _)
  rw [h2.1] at this
  simpa only [List.map_nil, List.append_nil, setL] using this
def fV (v : Value) : Nat → Bool := fun i => getB (aggC v) i
def besS : List Value → Option (Prop × Value) := fun args => match args with
  | [a, b] => some (a = aV (fV a) ∧ b = aV (fV b), aV (besF (fV a) (fV b) 8))
  | _ => none
theorem aV_plain {tk : Nat → Bool} : Plain (aV tk) := ⟨fun σ => by simp [aV, nmap, nmap2, nmap1, nmap0], fun m => by simp [aV, sc, sc2, sc1, sc0], fun p => by simp [aV, nm, nm2, nm1, nm0]⟩
theorem besG_ok : ∀ args H φ v H' l, plainG besS args H = some (φ, v, H', l) → Asks φ → Call Try.prog 80 args H (fun v' H2 => v' = v ∧ H2 = H') ∧ Kept H H' l :=
  plainG_ok fun args φ v hs hφ => by
    unfold besS at hs
    split at hs <;> cases hs
    rename_i a b
    obtain ⟨h1, h2⟩ := hφ
    have := bes_call (fV a) (fV b)
    rw [← h1, ← h2] at this
    refine ⟨mem_two ?_ ?_, aV_plain, this⟩
    · rw [h1]; exact aV_plain
    · rw [h2]; exact aV_plain

end Go.Pier.Lg

