/-
  Pier: PierLpushed, PierLrhas, PierLrlie, PierLrfull, PierLrcd, PierLrii, PierZT, PierZU, PierLkeys.
-/
import Derived.Test.YtinkmgacaoohnaaPierME2
import Derived.KernelRfl
set_option linter.unusedSimpArgs false
set_option linter.unusedVariables false
set_option maxRecDepth 100000
set_option linter.unusedVariables false
set_option linter.unusedSimpArgs false
namespace Go.Pier.Lg
open Go Go.Pier Go.Proofs 
noncomputable def ctP : Ct := (Ct.none.add 23 (pureG [.int .i64, .ints .i64] cdS)).add 74 (dropG false)
noncomputable def EPush : VEnv := { ct := ctP, cc := ccIn Try.prog {} [⟨62, Try.f62, fun _ _ _ => none⟩] }
noncomputable def pdB : Code := Try.f49.body.getD .skip
def runA (n : Nat) (l : List Int) : PS := runP false n emp l
def nilP : Value := .pointer none
noncomputable def pdV_s0 (n : Nat) (l : List Int) (c : Nat) := runP false (fN (vi (↑n : Int) :: T8 emp [Value.slice none (0 : Nat) (0 : Nat), vi (0 : Int), vi (0 : Int)])).toNat (fT (vi (↑n : Int) :: T8 emp [Value.slice none (0 : Nat) (0 : Nat), vi (0 : Int), vi (0 : Int)])) (List.take l.length (List.drop (0 : Nat) (intsOf (List.map (Value.int IntKind.i64) l))))
noncomputable def pdV_s1 (n : Nat) (l : List Int) (c : Nat) := List.take l.length (List.drop (0 : Nat) (intsOf (List.map (Value.int IntKind.i64) l)))
noncomputable def pdV :=
fun (n : Nat) (l : List Int) (c : Nat) ↦ Ob ((List.take l.length (List.drop (0 : Nat) (List.map (Value.int IntKind.i64) l)) = List.map (Value.int IntKind.i64) (pdV_s1 n l c) ∧ (0 : Nat) + l.length ≤ (List.map (Value.int IntKind.i64) l).length ∧ true = true) ∧ (Arg.ints IntKind.i64 (pdV_s1 n l c)).list.length ≤ (1000000 : Nat)) ∧ ((errD (Arg.plain (vi (↑n : Int))).num (Arg.ints IntKind.i64 (pdV_s1 n l c)).list != (0 : Int)) = true → (Ob (AObj.ro (List.map (Value.int IntKind.i64) l) = AObj.ro (List.map (nmap1 fun (b : Nat) ↦ b) (List.map (Value.int IntKind.i64) l)) ∧ AObj.sc (3 : Nat) (AObj.ro (List.map (Value.int IntKind.i64) l)) = true) ∧ False) ∧ Ob (Value.tuple { toList := [Value.pointer none, vi (errD (Arg.plain (vi (↑n : Int))).num (Arg.ints IntKind.i64 (pdV_s1 n l c)).list)] } = Value.tuple { toList := [ptr0 1, vi (0 : Int)] }) ∧ True) ∧ ((errD (Arg.plain (vi (↑n : Int))).num (Arg.ints IntKind.i64 (pdV_s1 n l c)).list != (0 : Int)) = false → Ob ((List.take l.length (List.drop (0 : Nat) (List.map (Value.int IntKind.i64) l)) = List.map (Value.int IntKind.i64) (pdV_s1 n l c) ∧ (0 : Nat) + l.length ≤ (List.map (Value.int IntKind.i64) l).length ∧ true = true) ∧ dropPre false (vi (↑n : Int) :: T8 emp [Value.slice none (0 : Nat) (0 : Nat), vi (0 : Int), vi (0 : Int)]) (Value.func (Fn.func (77 : Nat)) { toList := [Value.agg { toList := (lgC (↑n : Int) emp) }] } { toList := [] }) (pdV_s1 n l c) ∧ (0 : Nat) < (pdV_s1 n l c).length ∧ some (0 : Nat) ≠ some (1 : Nat)) ∧ (Ob (AObj.ro (List.map (Value.int IntKind.i64) l) = AObj.ro (List.map (nmap1 fun (b : Nat) ↦ b) (List.map (Value.int IntKind.i64) l)) ∧ AObj.sc (3 : Nat) (AObj.ro (List.map (Value.int IntKind.i64) l)) = true) ∧ Ob (AObj.rw (vi (fN (vi (↑n : Int) :: T8 emp [Value.slice none (0 : Nat) (0 : Nat), vi (0 : Int), vi (0 : Int)])) :: T8 ((pdV_s0 n l c).tk) [Value.slice (some { block := (2 : Nat), off := (0 : Nat), spot := some (0 : Nat) }) (pdV_s1 n l c).length (0 : Nat), vi (pdV_s0 n l c).slid, vi (pdV_s0 n l c).fell]) none = AObj.rw (vi (↑n : Int) :: T8 ((runA n l).tk) [Value.slice (some { block := (2 : Nat), off := (0 : Nat), spot := some (0 : Nat) }) l.length (0 : Nat), vi (runA n l).slid, vi (runA n l).fell]) none ∧ true = true) ∧ Ob (AObj.rw (List.map (Value.int IntKind.i64) (pdV_s0 n l c).lies) (some (1 : Nat)) = AObj.rw (List.map (nmap1 fun (b : Nat) ↦ b) (List.map (Value.int IntKind.i64) (runA n l).lies)) (some (1 : Nat)) ∧ AObj.sc (3 : Nat) (AObj.rw (List.map (Value.int IntKind.i64) (runA n l).lies) (some (1 : Nat))) = true) ∧ True) ∧ Ob (Value.tuple { toList := [ptr0 1, vi (0 : Int)] } = Value.tuple { toList := [ptr0 1, vi (0 : Int)] }) ∧ True)
theorem pdV_eq : pdV = fun (n : Nat) (l : List Int) (c : Nat) => vc Try.prog EPush 1 25 true (fun _ => none) pdB [] (argFr 0 [vi n, .slice (some ⟨0,0,none⟩) l.length c]) [ros l] (retR Try.prog Try.f49 1 (fun b => b) (.tuple #[ptr0 1, vi 0]) [ros l, pu n (runA n l).tk (newS 2 l.length) (runA n l).slid (runA n l).fell, rws (runA n l).lies]) := by kernel_rfl
noncomputable def pdX_s0 (p : Int) (l : List Int) (c : Nat) := List.take l.length (List.drop (0 : Nat) (intsOf (List.map (Value.int IntKind.i64) l)))
noncomputable def pdX :=
fun (p : Int) (l : List Int) (c : Nat) ↦ Ob ((List.take l.length (List.drop (0 : Nat) (List.map (Value.int IntKind.i64) l)) = List.map (Value.int IntKind.i64) (pdX_s0 p l c) ∧ (0 : Nat) + l.length ≤ (List.map (Value.int IntKind.i64) l).length ∧ true = true) ∧ (Arg.ints IntKind.i64 (pdX_s0 p l c)).list.length ≤ (1000000 : Nat)) ∧ ((errD (Arg.plain (vi p)).num (Arg.ints IntKind.i64 (pdX_s0 p l c)).list != (0 : Int)) = true → (Ob (AObj.ro (List.map (Value.int IntKind.i64) l) = AObj.ro (List.map (nmap1 fun (b : Nat) ↦ b) (List.map (Value.int IntKind.i64) l)) ∧ AObj.sc (1 : Nat) (AObj.ro (List.map (Value.int IntKind.i64) l)) = true) ∧ True) ∧ Ob (Value.tuple { toList := [Value.pointer none, vi (errD (Arg.plain (vi p)).num (Arg.ints IntKind.i64 (pdX_s0 p l c)).list)] } = Value.tuple { toList := [Value.pointer none, vi (errD p l)] }) ∧ True) ∧ ((errD (Arg.plain (vi p)).num (Arg.ints IntKind.i64 (pdX_s0 p l c)).list != (0 : Int)) = false → Ob ((List.take l.length (List.drop (0 : Nat) (List.map (Value.int IntKind.i64) l)) = List.map (Value.int IntKind.i64) (pdX_s0 p l c) ∧ (0 : Nat) + l.length ≤ (List.map (Value.int IntKind.i64) l).length ∧ true = true) ∧ dropPre false (vi p :: T8 emp [Value.slice none (0 : Nat) (0 : Nat), vi (0 : Int), vi (0 : Int)]) (Value.func (Fn.func (77 : Nat)) { toList := [Value.agg { toList := (lgC p emp) }] } { toList := [] }) (pdX_s0 p l c) ∧ (0 : Nat) < (pdX_s0 p l c).length ∧ some (0 : Nat) ≠ some (1 : Nat)) ∧ (Ob (AObj.ro (List.map (Value.int IntKind.i64) l) = AObj.ro (List.map (nmap1 fun (b : Nat) ↦ b) (List.map (Value.int IntKind.i64) l)) ∧ AObj.sc (1 : Nat) (AObj.ro (List.map (Value.int IntKind.i64) l)) = true) ∧ True) ∧ Ob (Value.tuple { toList := [ptr0 1, vi (0 : Int)] } = Value.tuple { toList := [Value.pointer none, vi (errD p l)] }) ∧ True)
theorem pdX_eq : pdX = fun (p : Int) (l : List Int) (c : Nat) => vc Try.prog EPush 1 25 true (fun _ => none) pdB [] (argFr 0 [vi p, .slice (some ⟨0,0,none⟩) l.length c]) [ros l] (retR Try.prog Try.f49 1 (fun b => b) (.tuple #[nilP, vi (errD p l)]) [ros l]) := by kernel_rfl
noncomputable def pdN :=
fun (n : Nat) ↦ Ob ((0 : Nat) ≤ (1000000 : Nat)) ∧ ((errD (Arg.plain (vi (↑n : Int))).num [] != (0 : Int)) = true → False ∧ Ob (Value.tuple { toList := [Value.pointer none, vi (errD (Arg.plain (vi (↑n : Int))).num [])] } = Value.tuple { toList := [ptr0 0, vi (0 : Int)] }) ∧ True) ∧ ((errD (Arg.plain (vi (↑n : Int))).num [] != (0 : Int)) = false → Ob (dropPre false (vi (↑n : Int) :: T8 emp [Value.slice none (0 : Nat) (0 : Nat), vi (0 : Int), vi (0 : Int)]) (Value.func (Fn.func (77 : Nat)) { toList := [Value.agg { toList := (lgC (↑n : Int) emp) }] } { toList := [] }) []) ∧ (Ob (AObj.rw (vi (↑n : Int) :: T8 emp [Value.slice none (0 : Nat) (0 : Nat), vi (0 : Int), vi (0 : Int)]) none = AObj.rw (vi (↑n : Int) :: T8 emp [Value.slice none (0 : Nat) (0 : Nat), vi (0 : Int), vi (0 : Int)]) none ∧ true = true) ∧ True) ∧ Ob (Value.tuple { toList := [ptr0 0, vi (0 : Int)] } = Value.tuple { toList := [ptr0 0, vi (0 : Int)] }) ∧ True)
theorem pdN_eq : pdN = fun (n : Nat) => vc Try.prog EPush 0 25 true (fun _ => none) pdB [] (argFr 0 [vi n, nilS]) [] (retR Try.prog Try.f49 0 (fun b => b) (.tuple #[ptr0 0, vi 0]) [pu n emp nilS 0 0]) := by kernel_rfl
noncomputable def pdNX :=
fun (p : Int) ↦ Ob ((0 : Nat) ≤ (1000000 : Nat)) ∧ ((errD (Arg.plain (vi p)).num [] != (0 : Int)) = true → True ∧ Ob (Value.tuple { toList := [Value.pointer none, vi (errD (Arg.plain (vi p)).num [])] } = Value.tuple { toList := [Value.pointer none, vi (errD p [])] }) ∧ True) ∧ ((errD (Arg.plain (vi p)).num [] != (0 : Int)) = false → Ob (dropPre false (vi p :: T8 emp [Value.slice none (0 : Nat) (0 : Nat), vi (0 : Int), vi (0 : Int)]) (Value.func (Fn.func (77 : Nat)) { toList := [Value.agg { toList := (lgC p emp) }] } { toList := [] }) []) ∧ True ∧ Ob (Value.tuple { toList := [ptr0 0, vi (0 : Int)] } = Value.tuple { toList := [Value.pointer none, vi (errD p [])] }) ∧ True)
theorem pdNX_eq : pdNX = fun (p : Int) => vc Try.prog EPush 0 25 true (fun _ => none) pdB [] (argFr 0 [vi p, nilS]) [] (retR Try.prog Try.f49 0 (fun b => b) (.tuple #[nilP, vi (errD p [])]) []) := by kernel_rfl
noncomputable def pdH :=
fun (n : Nat) (s : Option Nat) (c : Nat) ↦ Ob ((0 : Nat) ≤ (1000000 : Nat)) ∧ ((errD (Arg.plain (vi (↑n : Int))).num [] != (0 : Int)) = true → False ∧ Ob (Value.tuple { toList := [Value.pointer none, vi (errD (Arg.plain (vi (↑n : Int))).num [])] } = Value.tuple { toList := [ptr0 1, vi (0 : Int)] }) ∧ True) ∧ ((errD (Arg.plain (vi (↑n : Int))).num [] != (0 : Int)) = false → Ob (dropPre false (vi (↑n : Int) :: T8 emp [Value.slice none (0 : Nat) (0 : Nat), vi (0 : Int), vi (0 : Int)]) (Value.func (Fn.func (77 : Nat)) { toList := [Value.agg { toList := (lgC (↑n : Int) emp) }] } { toList := [] }) []) ∧ (Ob (AObj.rw (vi (↑n : Int) :: T8 emp [Value.slice none (0 : Nat) (0 : Nat), vi (0 : Int), vi (0 : Int)]) none = AObj.rw (vi (↑n : Int) :: T8 emp [Value.slice none (0 : Nat) (0 : Nat), vi (0 : Int), vi (0 : Int)]) none ∧ true = true) ∧ True) ∧ Ob (Value.tuple { toList := [ptr0 1, vi (0 : Int)] } = Value.tuple { toList := [ptr0 1, vi (0 : Int)] }) ∧ True)
theorem pdH_eq : pdH = fun (n : Nat) (s : Option Nat) (c : Nat) => vc Try.prog EPush 1 25 true (fun _ => none) pdB [] (argFr 0 [vi n, .slice (some ⟨0,0,s⟩) 0 c]) [.gone] (retR Try.prog Try.f49 1 (fun b => b) (.tuple #[ptr0 1, vi 0]) [.gone, pu n emp nilS 0 0]) := by kernel_rfl
noncomputable def pdHX :=
fun (p : Int) (s : Option Nat) (c : Nat) ↦ Ob ((0 : Nat) ≤ (1000000 : Nat)) ∧ ((errD (Arg.plain (vi p)).num [] != (0 : Int)) = true → True ∧ Ob (Value.tuple { toList := [Value.pointer none, vi (errD (Arg.plain (vi p)).num [])] } = Value.tuple { toList := [Value.pointer none, vi (errD p [])] }) ∧ True) ∧ ((errD (Arg.plain (vi p)).num [] != (0 : Int)) = false → Ob (dropPre false (vi p :: T8 emp [Value.slice none (0 : Nat) (0 : Nat), vi (0 : Int), vi (0 : Int)]) (Value.func (Fn.func (77 : Nat)) { toList := [Value.agg { toList := (lgC p emp) }] } { toList := [] }) []) ∧ True ∧ Ob (Value.tuple { toList := [ptr0 1, vi (0 : Int)] } = Value.tuple { toList := [Value.pointer none, vi (errD p [])] }) ∧ True)
theorem pdHX_eq : pdHX = fun (p : Int) (s : Option Nat) (c : Nat) => vc Try.prog EPush 1 25 true (fun _ => none) pdB [] (argFr 0 [vi p, .slice (some ⟨0,0,s⟩) 0 c]) [.gone] (retR Try.prog Try.f49 1 (fun b => b) (.tuple #[nilP, vi (errD p [])]) [.gone]) := by kernel_rfl


theorem pre_ok {n : Nat} {l : List Int} (h : errD n l = 0) : n ≤ 8 ∧ (∀ x ∈ l, 0 ≤ x ∧ x < (n : Int)) ∧ l.length ≤ 12 := by
  unfold errD at h
  split at h
  · cases h
  · split at h
    · rename_i h1 h2
      rw [wiF, decide_eq_true_eq] at h2
      exact ⟨by omega, fun x hx => by have := h2 x hx; omega, by omega⟩
    · cases h
theorem pre_iff {p : Int} {l : List Int} {nv : Value} : dropPre false (vi p :: T8 emp [nilS, vi 0, vi 0]) nv l ↔ nv = nextV false p (fA nv) ∧ 0 ≤ p ∧ p ≤ 8 ∧ (∀ x ∈ l, 0 ≤ x ∧ x < p) ∧ l.length ≤ 12 := by
  unfold dropPre
  rw [show fN (vi p :: T8 emp [nilS, vi 0, vi 0]) = p from rfl]
  constructor
  · exact fun h => h.2
  · exact fun h => ⟨rfl, h⟩
theorem pre_mk {n : Nat} {l : List Int} (h : errD n l = 0) : dropPre false (vi n :: T8 emp [Value.slice none 0 0, vi 0, vi 0]) (Value.func (Fn.func 77) { toList := [Value.agg { toList := lgC n emp }] } { toList := [] }) l := by
  obtain ⟨h1, h2, h3⟩ := pre_ok h
  exact ⟨rfl, rfl, by rw [fN_T8]; omega, by rw [fN_T8]; omega, by rw [fN_T8]; exact h2, h3⟩
theorem pdV_ok (n : Nat) (l : List Int) (c : Nat) (h : errD n l = 0) (h0 : 0 < l.length) : pdV n l c := by
  have h3 := (pre_ok h).2.2
  unfold pdV pdV_s1 pdV_s0
  simp only [ob_iff, map_nmap_int, sc_ro_int, sc_rw_int, getI_map, intAt_map, getB_map, boolAt_map, true_and, and_true, eq_self, Int.toNat_natCast, Nat.zero_add, Nat.add_zero, Nat.mul_one, Nat.one_mul, decide_eq_true_eq, decide_eq_false_iff_not, Value.bool.injEq, Value.int.injEq, Value.slice.injEq, Value.tuple.injEq, Option.some.injEq, Addr.mk.injEq, AObj.rw.injEq, AObj.ro.injEq, List.cons.injEq, reduceCtorEq, List.length_append, List.length_map, List.length_cons, List.length_nil, List.length_set, List.set_cons_zero, List.set_cons_succ, List.take_succ_cons, List.take_zero, List.take_nil, List.drop_nil, List.drop_zero, List.drop_succ_cons, intsOf_map, sl_id, sl_cells, Arg.list, Arg.num, Arg.flag, intOf, List.map_cons, List.map_nil, false_and, and_false, exists_const, or_false, false_or, true_or, forall_const, true_implies, false_implies, implies_true, beq_iff_eq, bne_iff_ne, beq_eq_false_iff_ne, bne_eq_false_iff_eq, Bool.not_eq_true', Bool.not_eq_false', ne_eq, not_true_eq_false, not_false_eq_true, Nat.le_refl, Nat.lt_irrefl, andP, Bool.not_true, Bool.not_false, Bool.true_eq_false, Bool.false_eq_true, Nat.reduceLeDiff, Nat.reduceAdd, Nat.reduceMul, Nat.reduceLT, Nat.zero_le, beq_self_eq_true, take_map_len, List.take_length, int_snoc, h, fN_T8, fT_emp, T8_fT]
  exact ⟨by omega, ⟨pre_mk h, h0⟩, rfl, rfl⟩
theorem pdX_ok (p : Int) (l : List Int) (c : Nat) (h : errD p l ≠ 0) (hl : l.length ≤ 1000000) : pdX p l c := by
  unfold pdX pdX_s0
  simp only [ob_iff, map_nmap_int, sc_ro_int, sc_rw_int, getI_map, intAt_map, getB_map, boolAt_map, true_and, and_true, eq_self, Int.toNat_natCast, Nat.zero_add, Nat.add_zero, Nat.mul_one, Nat.one_mul, decide_eq_true_eq, decide_eq_false_iff_not, Value.bool.injEq, Value.int.injEq, Value.slice.injEq, Value.tuple.injEq, Option.some.injEq, Addr.mk.injEq, AObj.rw.injEq, AObj.ro.injEq, List.cons.injEq, reduceCtorEq, List.length_append, List.length_map, List.length_cons, List.length_nil, List.length_set, List.set_cons_zero, List.set_cons_succ, List.take_succ_cons, List.take_zero, List.take_nil, List.drop_nil, List.drop_zero, List.drop_succ_cons, intsOf_map, sl_id, sl_cells, Arg.list, Arg.num, Arg.flag, intOf, List.map_cons, List.map_nil, false_and, and_false, exists_const, or_false, false_or, true_or, forall_const, true_implies, false_implies, implies_true, beq_iff_eq, bne_iff_ne, beq_eq_false_iff_ne, bne_eq_false_iff_eq, Bool.not_eq_true', Bool.not_eq_false', ne_eq, not_true_eq_false, not_false_eq_true, Nat.le_refl, Nat.lt_irrefl, andP, Bool.not_true, Bool.not_false, Bool.true_eq_false, Bool.false_eq_true, Nat.reduceLeDiff, Nat.reduceAdd, Nat.reduceMul, Nat.reduceLT, Nat.zero_le, beq_self_eq_true, take_map_len, List.take_length, int_snoc, h]
  exact hl
theorem pdN_ok (n : Nat) (h : errD n [] = 0) : pdN n := by
  unfold pdN
  simp only [ob_iff, map_nmap_int, sc_ro_int, sc_rw_int, getI_map, intAt_map, getB_map, boolAt_map, true_and, and_true, eq_self, Int.toNat_natCast, Nat.zero_add, Nat.add_zero, Nat.mul_one, Nat.one_mul, decide_eq_true_eq, decide_eq_false_iff_not, Value.bool.injEq, Value.int.injEq, Value.slice.injEq, Value.tuple.injEq, Option.some.injEq, Addr.mk.injEq, AObj.rw.injEq, AObj.ro.injEq, List.cons.injEq, reduceCtorEq, List.length_append, List.length_map, List.length_cons, List.length_nil, List.length_set, List.set_cons_zero, List.set_cons_succ, List.take_succ_cons, List.take_zero, List.take_nil, List.drop_nil, List.drop_zero, List.drop_succ_cons, intsOf_map, sl_id, sl_cells, Arg.list, Arg.num, Arg.flag, intOf, List.map_cons, List.map_nil, false_and, and_false, exists_const, or_false, false_or, true_or, forall_const, true_implies, false_implies, implies_true, beq_iff_eq, bne_iff_ne, beq_eq_false_iff_ne, bne_eq_false_iff_eq, Bool.not_eq_true', Bool.not_eq_false', ne_eq, not_true_eq_false, not_false_eq_true, Nat.le_refl, Nat.lt_irrefl, andP, Bool.not_true, Bool.not_false, Bool.true_eq_false, Bool.false_eq_true, Nat.reduceLeDiff, Nat.reduceAdd, Nat.reduceMul, Nat.reduceLT, Nat.zero_le, beq_self_eq_true, take_map_len, List.take_length, int_snoc, h, fN_T8, fT_emp, T8_fT]
  exact pre_mk h
theorem pdNX_ok (p : Int) (h : errD p [] ≠ 0) : pdNX p := by
  unfold pdNX
  simp only [ob_iff, map_nmap_int, sc_ro_int, sc_rw_int, getI_map, intAt_map, getB_map, boolAt_map, true_and, and_true, eq_self, Int.toNat_natCast, Nat.zero_add, Nat.add_zero, Nat.mul_one, Nat.one_mul, decide_eq_true_eq, decide_eq_false_iff_not, Value.bool.injEq, Value.int.injEq, Value.slice.injEq, Value.tuple.injEq, Option.some.injEq, Addr.mk.injEq, AObj.rw.injEq, AObj.ro.injEq, List.cons.injEq, reduceCtorEq, List.length_append, List.length_map, List.length_cons, List.length_nil, List.length_set, List.set_cons_zero, List.set_cons_succ, List.take_succ_cons, List.take_zero, List.take_nil, List.drop_nil, List.drop_zero, List.drop_succ_cons, intsOf_map, sl_id, sl_cells, Arg.list, Arg.num, Arg.flag, intOf, List.map_cons, List.map_nil, false_and, and_false, exists_const, or_false, false_or, true_or, forall_const, true_implies, false_implies, implies_true, beq_iff_eq, bne_iff_ne, beq_eq_false_iff_ne, bne_eq_false_iff_eq, Bool.not_eq_true', Bool.not_eq_false', ne_eq, not_true_eq_false, not_false_eq_true, Nat.le_refl, Nat.lt_irrefl, andP, Bool.not_true, Bool.not_false, Bool.true_eq_false, Bool.false_eq_true, Nat.reduceLeDiff, Nat.reduceAdd, Nat.reduceMul, Nat.reduceLT, Nat.zero_le, beq_self_eq_true, take_map_len, List.take_length, int_snoc, h]
theorem pdH_ok (n : Nat) (s : Option Nat) (c : Nat) (h : errD n [] = 0) : pdH n s c := by
  unfold pdH
  simp only [ob_iff, map_nmap_int, sc_ro_int, sc_rw_int, getI_map, intAt_map, getB_map, boolAt_map, true_and, and_true, eq_self, Int.toNat_natCast, Nat.zero_add, Nat.add_zero, Nat.mul_one, Nat.one_mul, decide_eq_true_eq, decide_eq_false_iff_not, Value.bool.injEq, Value.int.injEq, Value.slice.injEq, Value.tuple.injEq, Option.some.injEq, Addr.mk.injEq, AObj.rw.injEq, AObj.ro.injEq, List.cons.injEq, reduceCtorEq, List.length_append, List.length_map, List.length_cons, List.length_nil, List.length_set, List.set_cons_zero, List.set_cons_succ, List.take_succ_cons, List.take_zero, List.take_nil, List.drop_nil, List.drop_zero, List.drop_succ_cons, intsOf_map, sl_id, sl_cells, Arg.list, Arg.num, Arg.flag, intOf, List.map_cons, List.map_nil, false_and, and_false, exists_const, or_false, false_or, true_or, forall_const, true_implies, false_implies, implies_true, beq_iff_eq, bne_iff_ne, beq_eq_false_iff_ne, bne_eq_false_iff_eq, Bool.not_eq_true', Bool.not_eq_false', ne_eq, not_true_eq_false, not_false_eq_true, Nat.le_refl, Nat.lt_irrefl, andP, Bool.not_true, Bool.not_false, Bool.true_eq_false, Bool.false_eq_true, Nat.reduceLeDiff, Nat.reduceAdd, Nat.reduceMul, Nat.reduceLT, Nat.zero_le, beq_self_eq_true, take_map_len, List.take_length, int_snoc, h, fN_T8, fT_emp, T8_fT]
  exact pre_mk h
theorem pdHX_ok (p : Int) (s : Option Nat) (c : Nat) (h : errD p [] ≠ 0) : pdHX p s c := by
  unfold pdHX
  simp only [ob_iff, map_nmap_int, sc_ro_int, sc_rw_int, getI_map, intAt_map, getB_map, boolAt_map, true_and, and_true, eq_self, Int.toNat_natCast, Nat.zero_add, Nat.add_zero, Nat.mul_one, Nat.one_mul, decide_eq_true_eq, decide_eq_false_iff_not, Value.bool.injEq, Value.int.injEq, Value.slice.injEq, Value.tuple.injEq, Option.some.injEq, Addr.mk.injEq, AObj.rw.injEq, AObj.ro.injEq, List.cons.injEq, reduceCtorEq, List.length_append, List.length_map, List.length_cons, List.length_nil, List.length_set, List.set_cons_zero, List.set_cons_succ, List.take_succ_cons, List.take_zero, List.take_nil, List.drop_nil, List.drop_zero, List.drop_succ_cons, intsOf_map, sl_id, sl_cells, Arg.list, Arg.num, Arg.flag, intOf, List.map_cons, List.map_nil, false_and, and_false, exists_const, or_false, false_or, true_or, forall_const, true_implies, false_implies, implies_true, beq_iff_eq, bne_iff_ne, beq_eq_false_iff_ne, bne_eq_false_iff_eq, Bool.not_eq_true', Bool.not_eq_false', ne_eq, not_true_eq_false, not_false_eq_true, Nat.le_refl, Nat.lt_irrefl, andP, Bool.not_true, Bool.not_false, Bool.true_eq_false, Bool.false_eq_true, Nat.reduceLeDiff, Nat.reduceAdd, Nat.reduceMul, Nat.reduceLT, Nat.zero_le, beq_self_eq_true, take_map_len, List.take_length, int_snoc, h]
theorem EPush_ok : VOk Try.prog EPush := ⟨(CtOk.none.add cdG_ok).add dropA_ok, ccIn_ok E0_ok mixed (inl_one Try.func62), E0_ok.yc, E0_ok.orc⟩
theorem toArg_any {H : Heap} {sv : Value} {φ : Option Prop} {a : Arg} (h : toArg H (.ints .i64) sv = some (φ, a)) (hφ : Asks φ) :
    (sv = nilS ∧ a.list = []) ∨ (∃ b s c, sv = .slice (some ⟨b,0,s⟩) 0 c ∧ a.list = []) ∨ ∃ ad m c l, sv = .slice (some ad) m c ∧ a = .ints .i64 l ∧ ∃ φ, sliceInts .i64 H sv = some (φ, l) ∧ φ := by
  unfold toArg at h
  split at h <;> try (cases h; done)
  · rename_i h0; cases h0
  · rename_i h0; cases h0
  · cases h; exact .inl ⟨rfl, rfl⟩
  · rename_i k ad m c h0
    cases h0
    split at h
    · rename_i φ' l hs
      cases h
      exact .inr (.inr ⟨ad, m, c, l, rfl, rfl, _, hs, hφ⟩)
    · split at h <;> cases h
      rename_i hc
      simp only [Bool.and_eq_true] at hc
      obtain rfl := Nat.eq_of_beq_eq_true hc.1
      have h0' := Nat.eq_of_beq_eq_true hc.2
      obtain ⟨bb, oo, ss⟩ := ad
      simp only at h0'
      subst h0'
      exact .inr (.inl ⟨bb, ss, c, rfl, rfl⟩)
def pushNew (b : Nat) (n : Nat) (l : List Int) : Heap := match l with
  | [] => [pu n emp nilS 0 0]
  | _ => [pu n (runA n l).tk (newS (b + 1) l.length) (runA n l).slid (runA n l).fell, rws (runA n l).lies]
def pushedG : List Value → Heap → Option (Option Prop × Value × Heap × List Nat) := fun args H => match args with
  | [.int .i64 p, sv] => match toArg H (.ints .i64) sv with
    | some (φ, .ints _ l) => some (andO φ (some (errD p l = 0 ∧ 0 < l.length ∧ 0 ≤ p)), .tuple #[ptr0 H.length, vi 0], H ++ [pu p (runA p.toNat l).tk (newS (H.length + 1) l.length) (runA p.toNat l).slid (runA p.toNat l).fell, rws (runA p.toNat l).lies], [])
    | some (φ, _) => some (andO φ (some (errD p [] = 0)), .tuple #[ptr0 H.length, vi 0], H ++ [pu p emp nilS 0 0], [])
    | none => none
  | _ => none
def pushedX : List Value → Heap → Option (Option Prop × Value × Heap × List Nat) := fun args H => match args with
  | [.int .i64 p, sv] => match toArg H (.ints .i64) sv with
    | some (φ, a) => some (andO φ (some (errD p a.list ≠ 0 ∧ a.list.length ≤ 1000000)), .tuple #[nilP, vi (errD p a.list)], H, [])
    | none => none
  | _ => none
theorem errD_pos {p : Int} {l : List Int} (h : errD p l = 0) : ∃ n : Nat, p = n := by
  unfold errD at h
  split at h
  · cases h
  · exact ⟨p.toNat, by omega⟩
theorem sc_two {m b : Nat} (h : b < m) : sc m (.tuple #[ptr0 b, vi 0]) = true := by simp [sc, sc2, sc1, sc0, h]
theorem nmap_two {σ : Nat → Nat} {b : Nat} : nmap σ (.tuple #[ptr0 b, vi 0]) = .tuple #[ptr0 (σ b), vi 0] := by simp [nmap, nmap2, nmap1, nmap0, am]
theorem nm_two {p : Nat → Bool} {b : Nat} (h : p b = true) : nm p (.tuple #[ptr0 b, vi 0]) = true := by simp [nm, nm2, nm1, nm0, h]
theorem omap_pu {σ : Nat → Nat} {n s f : Int} {tk : Nat → Bool} {b m : Nat} : omap σ (pu n tk (newS b m) s f) = pu n tk (newS (σ b) m) s f := by simp [pu, puC, T8, omap, nmap1, nmap0, newS, am]
theorem omap_puN {σ : Nat → Nat} {n s f : Int} {tk : Nat → Bool} : omap σ (pu n tk nilS s f) = pu n tk nilS s f := by simp [pu, puC, T8, omap, nmap1, nmap0, nilS]
theorem sc_pu {k : Nat} {n s f : Int} {tk : Nat → Bool} {b m : Nat} (h : b < k) : (pu n tk (newS b m) s f).sc k = true := by simp [pu, puC, T8, AObj.sc, sc1, sc0, newS, h]
theorem sc_puN {k : Nat} {n s f : Int} {tk : Nat → Bool} : (pu n tk nilS s f).sc k = true := by simp [pu, puC, T8, AObj.sc, sc1, sc0, nilS]
theorem nm_pu {p : Nat → Bool} {n s f : Int} {tk : Nat → Bool} {b m : Nat} (h : p b = true) : (pu n tk (newS b m) s f).nm p = true := by simp [pu, puC, T8, AObj.nm, nm1, nm0, newS, h]
theorem nm_puN {p : Nat → Bool} {n s f : Int} {tk : Nat → Bool} : (pu n tk nilS s f).nm p = true := by simp [pu, puC, T8, AObj.nm, nm1, nm0, nilS]
theorem omap_rws {σ : Nat → Nat} {l : List Int} : omap σ (rws l) = rws l := omap_ints
theorem pushedG_ok : ∀ args H φ v H' l, pushedG args H = some (φ, v, H', l) → Asks φ → Call Try.prog 49 args H (fun v' H2 => v' = v ∧ H2 = H') ∧ Kept H H' l := by
  intro args H φ v H' l h hφ
  unfold pushedG at h
  split at h <;> try (cases h; done)
  rename_i p sv
  split at h <;> cases h
  · rename_i ψ k li ht
    obtain ⟨hψ, h1, h2, h3⟩ := andO_iff.1 hφ
    obtain ⟨n, rfl⟩ := errD_pos h1
    rcases toArg_any ht hψ with ⟨_, h4⟩ | ⟨_, _, _, _, h4⟩ | ⟨ad, m, c, l', rfl, e, hi⟩
    · simp only [Arg.list] at h4; subst h4; simp at h2
    · simp only [Arg.list] at h4; subst h4; simp at h2
    · cases e
      have hc := fun caps : Nat → Nat => Call.ofVcR EPush_ok mixed (c := pdB) (args := [vi n, .slice (some ⟨0,0,none⟩) li.length (caps 0)]) Try.func49 (by kernel_rfl) (cast (congrFun (congrFun (congrFun pdV_eq n) li) (caps 0)) (pdV_ok n li (caps 0) h1 h2))
      have := Call.frameL (P := Try.prog) (f := 49) (H := H) (Et := []) (Ft := []) (N := [pu n (runA n li).tk (newS 2 li.length) (runA n li).slid (runA n li).fell, rws (runA n li).lies]) (L := [])
        (ags := [.val (vi n), .ints .i64 li]) (vs := [vi n, .slice (some ad) m c]) (v := .tuple #[ptr0 1, vi 0]) rfl rfl (by simp) (fun _ h => by cases h) (fun c o h => by simp at h) (fun _ h => by cases h)
        ⟨rfl, rfl, hi, (fun _ _ hm => by cases hm), trivial⟩ hc (mem_two (nm_pu rfl) nm_ints) (mem_two rfl rfl) (nm_two rfl)
        (mem_two (by rw [omap_pu]; exact sc_pu (by simp [nameL, canonH2])) (by rw [omap_rws]; exact sc_ints)) (by rw [nmap_two]; exact sc_two (by simp [nameL, canonH2]))
      simp only [List.map_cons, List.map_nil, omap_pu, omap_rws, nmap_two] at this
      simp only [Int.toNat_natCast]
      exact this
  · rename_i ψ a hne ht
    obtain ⟨hψ, h1⟩ := andO_iff.1 hφ
    obtain ⟨n, rfl⟩ := errD_pos h1
    rcases toArg_any ht hψ with ⟨rfl, h4⟩ | ⟨b, s, c, rfl, h4⟩ | ⟨ad, m, c, l', rfl, e, hi⟩
    · have hc := fun _ : Nat → Nat => Call.ofVcR EPush_ok mixed (c := pdB) (args := [vi n, nilS]) Try.func49 (by kernel_rfl) (cast (congrFun pdN_eq n) (pdN_ok n h1))
      have := Call.frameL (P := Try.prog) (f := 49) (H := H) (Et := []) (Ft := []) (N := [pu n emp nilS 0 0]) (L := [])
        (ags := [.val (vi n), .val nilS]) (vs := [vi n, nilS]) (v := .tuple #[ptr0 0, vi 0]) rfl rfl (by simp) (fun _ h => by cases h) (fun c o h => by simp at h) (fun _ h => by cases h)
        ⟨rfl, rfl, rfl, rfl, trivial⟩ hc (mem_one nm_puN) (mem_one rfl) (nm_two rfl) (mem_one (by rw [omap_puN]; exact sc_puN)) (by rw [nmap_two]; exact sc_two (by simp [nameL, canonH2]))
      simp only [List.map_cons, List.map_nil, omap_puN, nmap_two] at this
      exact this
    · have hc := fun caps : Nat → Nat => Call.ofVcR EPush_ok mixed (c := pdB) (args := [vi n, .slice (some ⟨0,0,s⟩) 0 (caps 0)]) Try.func49 (by kernel_rfl) (cast (congrFun (congrFun (congrFun pdH_eq n) s) (caps 0)) (pdH_ok n s (caps 0) h1))
      have := Call.frameL (P := Try.prog) (f := 49) (H := H) (Et := []) (Ft := []) (N := [pu n emp nilS 0 0]) (L := [])
        (ags := [.val (vi n), .hole s]) (vs := [vi n, .slice (some ⟨b,0,s⟩) 0 c]) (v := .tuple #[ptr0 1, vi 0]) rfl rfl (by simp) (fun _ h => by cases h) (fun c o h => by simp at h) (fun _ h => by cases h)
        ⟨rfl, rfl, ⟨b, c, rfl⟩, trivial⟩ hc (mem_one nm_puN) (mem_one rfl) (nm_two rfl) (mem_one (by rw [omap_puN]; exact sc_puN)) (by rw [nmap_two]; exact sc_two (by simp [nameL, canonH2]))
      simp only [List.map_cons, List.map_nil, omap_puN, nmap_two] at this
      exact this
    · exact absurd e (hne _ _)
theorem pushedX_ok : ∀ args H φ v H' l, pushedX args H = some (φ, v, H', l) → Asks φ → Call Try.prog 49 args H (fun v' H2 => v' = v ∧ H2 = H') ∧ Kept H H' l := by
  intro args H φ v H' l h hφ
  unfold pushedX at h
  split at h <;> try (cases h; done)
  rename_i p sv
  split at h <;> cases h
  rename_i ψ a ht
  obtain ⟨hψ, h1, h2⟩ := andO_iff.1 hφ
  have fin : ∀ {e : Int} {as0 : List Arg} , (∀ caps, Call Try.prog 49 (canonA caps 0 as0) (canonH as0) fun v _ => v = .tuple #[nilP, vi e]) → ReadA H as0 [vi p, sv] → Call Try.prog 49 [vi p, sv] H (fun v' H2 => v' = .tuple #[nilP, vi e] ∧ H2 = H) ∧ Kept H H [] :=
    fun hc hr => ⟨Call.ofArgs hc (by simp [sc, sc2, sc1, sc0, nilP]) hr, Kept.refl _ _⟩
  rcases toArg_any ht hψ with ⟨rfl, h4⟩ | ⟨b, s, c, rfl, h4⟩ | ⟨ad, m, c, l', rfl, rfl, hi⟩
  · rw [h4] at h1 ⊢
    exact fin («as0» := [.plain (vi p), .plain nilS]) (fun caps => (Call.ofVcR EPush_ok mixed (c := pdB) Try.func49 (by kernel_rfl) (cast (congrFun pdNX_eq p) (pdNX_ok p h1))).mono fun _ _ h => h.1) ⟨rfl, rfl, rfl, rfl, trivial⟩
  · rw [h4] at h1 ⊢
    exact fin («as0» := [.plain (vi p), .hole s]) (fun caps => (Call.ofVcR EPush_ok mixed (c := pdB) Try.func49 (by kernel_rfl) (cast (congrFun (congrFun (congrFun pdHX_eq p) s) (caps 0)) (pdHX_ok p s (caps 0) h1))).mono fun _ _ h => h.1) ⟨rfl, rfl, ⟨b, c, rfl⟩, trivial⟩
  · exact fin («as0» := [.plain (vi p), .ints .i64 l']) (fun caps => (Call.ofVcR EPush_ok mixed (c := pdB) Try.func49 (by kernel_rfl) (cast (congrFun (congrFun (congrFun pdX_eq p) l') (caps 0)) (pdX_ok p l' (caps 0) h1 h2))).mono fun _ _ h => h.1) ⟨rfl, rfl, hi, trivial⟩

end Go.Pier.Lg

set_option maxRecDepth 100000
set_option linter.unusedVariables false
set_option linter.unusedSimpArgs false
namespace Go.Pier.Lg
open Go Go.Pier Go.Proofs 
noncomputable def hasB : Code := Try.f45.body.getD .skip
def hasI (l : List Int) (n : Int) (c : Nat) : Nat → Option LInv := invOf 0 (LInv.one Nat (fun i => i ≤ l.length ∧ ∀ j, j < i → l.getD j 0 ≠ n) (fun i => [(0, .slice (some ⟨0,0,none⟩) l.length c), (1, vi n), (4, .bool false), (5, vi i)]) (fun _ => [.ro (l.map (.int .i64))]) (fun i => l.length - i))
def hasNI (n : Int) : Nat → Option LInv := invOf 0 (LInv.one Unit (fun _ => True) (fun _ => [(0, .slice none 0 0), (1, vi n), (4, .bool false), (5, vi 0)]) (fun _ => []) (fun _ => 0))
noncomputable def hasV :=
fun (l : List Int) (n : Int) (c : Nat) ↦ (∃ (y : Nat), Ob (y ≤ l.length ∧ ∀ (j : Nat), j < y → l.getD j (0 : Int) ≠ n) ∧ (Ob (AObj.ro (List.map (Value.int IntKind.i64) l) = AObj.ro (List.map (nmap1 fun (b : Nat) ↦ b) (List.map (Value.int IntKind.i64) l)) ∧ AObj.sc (1 : Nat) (AObj.ro (List.map (Value.int IntKind.i64) l)) = true) ∧ True) ∧ Ob (Value.slice (some (ad0 0)) l.length c = Value.slice (some (ad0 0)) l.length c) ∧ Ob (n = n) ∧ Ob (false = false) ∧ Ob ((0 : Int) = (↑y : Int)) ∧ True) ∧ ∀ (x : Nat), Ob (x ≤ l.length ∧ ∀ (j : Nat), j < x → l.getD j (0 : Int) ≠ n) → (decide ((↑x : Int) < (↑l.length : Int)) = true → Ob ((0 : Int) ≤ (↑x : Int) ∧ (↑x : Int) < (↑l.length : Int) ∧ true = true) ∧ Ob (IntAt IntKind.i64 (List.map (Value.int IntKind.i64) l) ((0 : Nat) + (↑x : Int).toNat * (1 : Nat))) ∧ ((getI (List.map (Value.int IntKind.i64) l) ((0 : Nat) + (↑x : Int).toNat * (1 : Nat)) == n) = true → True ∧ Ob (Value.bool true = Value.bool (decide (n ∈ l)) ∧ [AObj.ro (List.map (Value.int IntKind.i64) l)] = [AObj.ro (List.map (Value.int IntKind.i64) l)])) ∧ ((getI (List.map (Value.int IntKind.i64) l) ((0 : Nat) + (↑x : Int).toNat * (1 : Nat)) == n) = false → ∃ (y : Nat), Ob (y ≤ l.length ∧ ∀ (j : Nat), j < y → l.getD j (0 : Int) ≠ n) ∧ Ob (l.length - y < l.length - x) ∧ (Ob (AObj.ro (List.map (Value.int IntKind.i64) l) = AObj.ro (List.map (nmap1 fun (b : Nat) ↦ b) (List.map (Value.int IntKind.i64) l)) ∧ AObj.sc (1 : Nat) (AObj.ro (List.map (Value.int IntKind.i64) l)) = true) ∧ True) ∧ Ob (Value.slice (some (ad0 0)) l.length c = Value.slice (some (ad0 0)) l.length c) ∧ Ob (n = n) ∧ Ob (false = false) ∧ Ob (IntKind.i64.wrap ((↑x : Int) + (1 : Int)) = (↑y : Int)) ∧ True)) ∧ (decide ((↑x : Int) < (↑l.length : Int)) = false → True ∧ Ob (Value.bool false = Value.bool (decide (n ∈ l)) ∧ [AObj.ro (List.map (Value.int IntKind.i64) l)] = [AObj.ro (List.map (Value.int IntKind.i64) l)]))
theorem hasV_eq : hasV = fun (l : List Int) (n : Int) (c : Nat) => vc Try.prog {} 1 18 true (hasI l n c) hasB [] (argFr 0 [.slice (some ⟨0,0,none⟩) l.length c, vi n]) [.ro (l.map (.int .i64))] (retK Try.prog Try.f45 (fun v H1 => v = .bool (decide (n ∈ l)) ∧ H1 = [.ro (l.map (.int .i64))])) := by kernel_rfl
noncomputable def hasN :=
fun (n : Int) ↦ (∃ (y : Unit), Ob True ∧ True ∧ Ob (Value.slice none (0 : Nat) (0 : Nat) = Value.slice none (0 : Nat) (0 : Nat)) ∧ Ob (n = n) ∧ Ob (false = false) ∧ Ob ((0 : Int) = (0 : Int)) ∧ True) ∧ ∀ (x : Unit), Ob True → (false = true → False) ∧ (false = false → True ∧ Ob (Value.bool false = Value.bool false))
theorem hasN_eq : hasN = fun (n : Int) => vc Try.prog {} 0 18 true (hasNI n) hasB [] (argFr 0 [.slice none 0 0, vi n]) [] (retK Try.prog Try.f45 (fun v _ => v = .bool false)) := by kernel_rfl


theorem getD_memR {l : List Int} {i : Nat} (h : i < l.length) : l.getD i 0 ∈ l := by
  rw [List.getD_eq_getElem?_getD, List.getElem?_eq_getElem h]; exact List.getElem_mem h
theorem hasV_ok (l : List Int) (n : Int) (c : Nat) (hl : l.length < 1000000) : hasV l n c := by
  unfold hasV
  simp only [ob_iff, map_nmap_int, sc_ro_int, getI_map, intAt_map, true_and, and_true, eq_self, Int.toNat_natCast, Nat.zero_add, Nat.mul_one, beq_iff_eq, beq_eq_false_iff_ne, decide_eq_true_eq, decide_eq_false_iff_not, Value.bool.injEq]
  refine ⟨⟨0, ⟨by omega, fun j hj => by omega⟩, rfl⟩, fun x ⟨hx, hn⟩ => ⟨fun hlt => ⟨by omega, by omega, fun he => ?_, fun he => ⟨x + 1, ⟨by omega, fun j hj => ?_⟩, by omega, ?_⟩⟩, fun hge => ?_⟩⟩
  · have := getD_memR (l := l) (i := x) (by omega)
    rw [he] at this
    simp [this]
  · by_cases h : j = x
    · subst h; exact he
    · exact hn j (by omega)
  · rw [wrap_in (by omega) (by omega)]; rfl
  · symm
    rw [decide_eq_false_iff_not]
    intro hm
    obtain ⟨j, h1, h2⟩ := List.getElem_of_mem hm
    refine hn j (by omega) ?_
    rw [List.getD_eq_getElem?_getD, List.getElem?_eq_getElem h1]; exact h2
theorem has_call (l : List Int) (n : Int) (c : Nat) (hl : l.length < 1000000) : Call Try.prog 45 [.slice (some ⟨0,0,none⟩) l.length c, vi n] [.ro (l.map (.int .i64))] fun v H1 => v = .bool (decide (n ∈ l)) ∧ H1 = [.ro (l.map (.int .i64))] :=
  Call.ofVc (VOk.ofCt CtOk.none) mixed (c := hasB) (inv := hasI l n c) Try.func45 (by kernel_rfl) (cast (congrFun (congrFun (congrFun hasV_eq l) n) c) (hasV_ok l n c hl))


theorem hasN_ok (n : Int) : hasN n := by
  unfold hasN
  simp only [ob_iff, true_and, and_true, exists_const, Bool.false_eq_true, false_implies, forall_const]
theorem has_nil (n : Int) : Call Try.prog 45 [.slice none 0 0, vi n] [] fun v _ => v = .bool false :=
  Call.ofVc (VOk.ofCt CtOk.none) mixed (c := hasB) (inv := hasNI n) Try.func45 (by kernel_rfl) (cast (congrFun hasN_eq n) (hasN_ok n))
def hasG : List Value → Heap → Option (Option Prop × Value × Heap × List Nat) := fun args H => match args with
  | [.slice none 0 0, .int .i64 n] => some (none, .bool false, H, [])
  | [s, .int .i64 n] => match sliceInts .i64 H s with
    | some (φ, l) => some (some (φ ∧ l.length < 1000000), .bool (decide (n ∈ l)), H, [])
    | none => none
  | _ => none
theorem hasG_ok : ∀ args H φ v H' l, hasG args H = some (φ, v, H', l) → Asks φ → Call Try.prog 45 args H (fun v' H2 => v' = v ∧ H2 = H') ∧ Kept H H' l := by
  intro args H φ v H' l h hφ
  unfold hasG at h
  split at h
  · cases h
    refine ⟨?_, Kept.refl _ _⟩
    exact Call.ofArgs («as» := [.plain (.slice none 0 0), .plain (vi _)]) (fun caps => has_nil _) rfl ⟨rfl, rfl, rfl, rfl, trivial⟩
  · split at h <;> simp only [Option.some.injEq, Prod.mk.injEq, reduceCtorEq] at h
    rename_i s n _ _ ψ m hs
    obtain ⟨rfl, rfl, rfl, rfl⟩ := h
    refine ⟨?_, Kept.refl _ _⟩
    exact Call.ofArgs («as» := [.ints .i64 m, .plain (vi n)]) (fun caps => (has_call m n _ hφ.2).mono fun v H h => h.1) rfl ⟨⟨ψ, hs, hφ.1⟩, rfl, rfl, trivial⟩
  · cases h

end Go.Pier.Lg

set_option maxRecDepth 100000
set_option linter.unusedVariables false
set_option linter.unusedSimpArgs false
namespace Go.Pier.Lg
open Go Go.Pier Go.Proofs 
noncomputable def lieRB : Code := Try.f50.body.getD .skip
noncomputable def lieRE : VEnv := { ct := Ct.none.add 45 hasG }
def slide (out : List Int) (p : Int) : Nat → Int → Int
  | 0, a => a
  | f + 1, a => if a < p ∧ a ∈ out then slide out p f (a + 1) else a
def slideAt (out : List Int) (p a : Int) : Int := slide out p (p - a).toNat a
def lieStep (p : Int) (s : List Int × Int) (d : Int) : List Int × Int := (s.1 ++ [if slideAt s.1 p d = p then -1 else slideAt s.1 p d], s.2 + (slideAt s.1 p d - d))
def lieOf (p : Int) (l : List Int) : List Int × Int := l.foldl (lieStep p) ([], 0)
def lieAt (p : Int) (l : List Int) (i : Nat) : List Int × Int := lieOf p (l.take i)
def lieRI2 (p : Int) (l : List Int) (c : Nat) (i : Nat) : LInv := LInv.one Int
  (fun a => l.getD i 0 ≤ a ∧ a ≤ p ∧ slideAt (lieAt p l i).1 p a = slideAt (lieAt p l i).1 p (l.getD i 0))
  (fun a => [(0, vi p), (1, .slice (some ⟨0,0,none⟩) l.length c), (6, .slice (some ⟨1,0,some 0⟩) i 0), (7, vi (lieAt p l i).2), (8, vi i), (9, vi a)])
  (fun _ => [ros l, rws (lieAt p l i).1]) (fun a => (p - a).toNat)
def lieRI1 (p : Int) (l : List Int) (c : Nat) : LInv := LInv.one Unit (fun _ => True)
  (fun _ => [(0, vi p), (1, .slice (some ⟨0,0,none⟩) l.length c), (6, .slice none 0 0), (7, vi 0), (8, vi 0), (9, vi (l.getD 0 0))]) (fun _ => [ros l]) (fun _ => 0)
def lieRI (p : Int) (l : List Int) (c : Nat) : Nat → Option LInv := invOf 0 (.mk [
      ⟨Unit, fun _ => True, fun _ => [(0, vi p), (1, .slice (some ⟨0,0,none⟩) l.length c), (6, .slice none 0 0), (7, vi 0), (8, vi 0)], fun _ => [ros l], fun _ => 20, fun _ => invOf 2 (lieRI1 p l c)⟩,
      ⟨Nat, fun i => 0 < i ∧ i ≤ l.length, fun i => [(0, vi p), (1, .slice (some ⟨0,0,none⟩) l.length c), (6, .slice (some ⟨1,0,some 0⟩) i 0), (7, vi (lieAt p l i).2), (8, vi i)], fun i => [ros l, rws (lieAt p l i).1], fun i => l.length - i, fun i => invOf 2 (lieRI2 p l c i)⟩]
    (fun _ b => b) (fun i _ => [nsub 1 (i + 2)]))
noncomputable def liV :=
fun (p : Int) (l : List Int) (c : Nat) ↦ ((∃ (y : Unit), Ob True ∧ (Ob (AObj.ro (List.map (Value.int IntKind.i64) l) = AObj.ro (List.map (nmap1 fun (b : Nat) ↦ b) (List.map (Value.int IntKind.i64) l)) ∧ AObj.sc (1 : Nat) (AObj.ro (List.map (Value.int IntKind.i64) l)) = true) ∧ True) ∧ Ob (p = p) ∧ Ob (Value.slice (some (ad0 0)) l.length c = Value.slice (some (ad0 0)) l.length c) ∧ Ob (Value.slice none (0 : Nat) (0 : Nat) = Value.slice none (0 : Nat) (0 : Nat)) ∧ Ob ((0 : Int) = (0 : Int)) ∧ Ob ((0 : Int) = (0 : Int)) ∧ True) ∨ ∃ (y : Nat), Ob ((0 : Nat) < y ∧ y ≤ l.length) ∧ (Ob (AObj.ro (List.map (Value.int IntKind.i64) l) = AObj.ro (List.map (nmap1 fun (b : Nat) ↦ b) (List.map (Value.int IntKind.i64) l)) ∧ AObj.sc (2 : Nat) (AObj.ro (List.map (Value.int IntKind.i64) l)) = true) ∧ False) ∧ Ob (p = p) ∧ Ob (Value.slice (some (ad0 0)) l.length c = Value.slice (some (ad0 0)) l.length c) ∧ Ob (Value.slice none (0 : Nat) (0 : Nat) = Value.slice (some { block := (1 : Nat), off := (0 : Nat), spot := some (0 : Nat) }) y (0 : Nat)) ∧ Ob ((0 : Int) = (lieAt p l y).snd) ∧ Ob ((0 : Int) = (↑y : Int)) ∧ True) ∧ (∀ (x : Unit), Ob True → (decide ((0 : Int) < (↑l.length : Int)) = true → Ob ((0 : Int) ≤ (0 : Int) ∧ (0 : Int) < (↑l.length : Int) ∧ true = true) ∧ Ob (IntAt IntKind.i64 (List.map (Value.int IntKind.i64) l) (0 : Nat)) ∧ (∃ (y : Unit), Ob True ∧ (Ob (AObj.ro (List.map (Value.int IntKind.i64) l) = AObj.ro (List.map (nmap1 fun (b : Nat) ↦ b) (List.map (Value.int IntKind.i64) l)) ∧ AObj.sc (1 : Nat) (AObj.ro (List.map (Value.int IntKind.i64) l)) = true) ∧ True) ∧ Ob (p = p) ∧ Ob (Value.slice (some (ad0 0)) l.length c = Value.slice (some (ad0 0)) l.length c) ∧ Ob (Value.slice none (0 : Nat) (0 : Nat) = Value.slice none (0 : Nat) (0 : Nat)) ∧ Ob ((0 : Int) = (0 : Int)) ∧ Ob ((0 : Int) = (0 : Int)) ∧ Ob (getI (List.map (Value.int IntKind.i64) l) (0 : Nat) = l.getD (0 : Nat) (0 : Int)) ∧ True) ∧ ∀ (x : Unit), Ob True → (decide (l.getD (0 : Nat) (0 : Int) < p) = true → (false = true → ∃ (y : Unit), Ob True ∧ Ob ((0 : Nat) < (0 : Nat)) ∧ (Ob (AObj.ro (List.map (Value.int IntKind.i64) l) = AObj.ro (List.map (nmap1 fun (b : Nat) ↦ b) (List.map (Value.int IntKind.i64) l)) ∧ AObj.sc (1 : Nat) (AObj.ro (List.map (Value.int IntKind.i64) l)) = true) ∧ True) ∧ Ob (p = p) ∧ Ob (Value.slice (some (ad0 0)) l.length c = Value.slice (some (ad0 0)) l.length c) ∧ Ob (Value.slice none (0 : Nat) (0 : Nat) = Value.slice none (0 : Nat) (0 : Nat)) ∧ Ob ((0 : Int) = (0 : Int)) ∧ Ob ((0 : Int) = (0 : Int)) ∧ Ob (IntKind.i64.wrap (l.getD (0 : Nat) (0 : Int) + (1 : Int)) = l.getD (0 : Nat) (0 : Int)) ∧ True) ∧ (false = false → Ob ((0 : Int) ≤ (0 : Int) ∧ (0 : Int) < (↑l.length : Int) ∧ true = true) ∧ Ob (IntAt IntKind.i64 (List.map (Value.int IntKind.i64) l) (0 : Nat)) ∧ ((l.getD (0 : Nat) (0 : Int) == p) = true → Ob (andP (some ((0 : Nat) + (1 : Nat) ≤ (1 : Nat) ∧ true = true)) ((1 : Nat) ≤ (1099511627776 : Nat) ∧ (2064 : Nat) ≤ (281474976710656 : Nat) ∧ (1 : Nat) = (1 : Nat) ∧ (0 : Nat) = (0 : Nat) ∧ (0 : Nat) < (1 : Nat))) ∧ ((∃ (y : Unit), Ob True ∧ Ob ((20 : Nat) < (20 : Nat)) ∧ (Ob (AObj.ro (List.map (Value.int IntKind.i64) l) = AObj.ro (List.map (nmap1 (nsub (1 : Nat) (2 : Nat))) (List.map (Value.int IntKind.i64) l)) ∧ AObj.sc (1 : Nat) (AObj.ro (List.map (Value.int IntKind.i64) l)) = true) ∧ True) ∧ Ob (p = p) ∧ Ob (Value.slice (some (ad0 0)) l.length c = Value.slice (some (ad0 0)) l.length c) ∧ Ob (Value.slice (some { block := (2 : Nat), off := (0 : Nat), spot := some (0 : Nat) }) (1 : Nat) (0 : Nat) = Value.slice none (0 : Nat) (0 : Nat)) ∧ Ob (IntKind.i64.wrap ((0 : Int) + IntKind.i64.wrap (l.getD (0 : Nat) (0 : Int) - getI (List.map (Value.int IntKind.i64) l) (0 : Nat))) = (0 : Int)) ∧ Ob (IntKind.i64.wrap ((0 : Int) + (1 : Int)) = (0 : Int)) ∧ True) ∨ ∃ (y : Nat), Ob ((0 : Nat) < y ∧ y ≤ l.length) ∧ Ob (l.length - y < (20 : Nat)) ∧ (Ob (AObj.ro (List.map (Value.int IntKind.i64) l) = AObj.ro (List.map (nmap1 (nsub (1 : Nat) (2 : Nat))) (List.map (Value.int IntKind.i64) l)) ∧ AObj.sc (2 : Nat) (AObj.ro (List.map (Value.int IntKind.i64) l)) = true) ∧ Ob (AObj.rw [vi (-1 : Int)] (some (1 : Nat)) = AObj.rw (List.map (nmap1 (nsub (1 : Nat) (2 : Nat))) (List.map (Value.int IntKind.i64) (lieAt p l y).fst)) (some (1 : Nat)) ∧ AObj.sc (2 : Nat) (AObj.rw (List.map (Value.int IntKind.i64) (lieAt p l y).fst) (some (1 : Nat))) = true) ∧ True) ∧ Ob (p = p) ∧ Ob (Value.slice (some (ad0 0)) l.length c = Value.slice (some (ad0 0)) l.length c) ∧ Ob (Value.slice (some { block := (2 : Nat), off := (0 : Nat), spot := some (0 : Nat) }) (1 : Nat) (0 : Nat) = Value.slice (some { block := (2 : Nat), off := (0 : Nat), spot := some (0 : Nat) }) y (0 : Nat)) ∧ Ob (IntKind.i64.wrap ((0 : Int) + IntKind.i64.wrap (l.getD (0 : Nat) (0 : Int) - getI (List.map (Value.int IntKind.i64) l) (0 : Nat))) = (lieAt p l y).snd) ∧ Ob (IntKind.i64.wrap ((0 : Int) + (1 : Int)) = (↑y : Int)) ∧ True)) ∧ ((l.getD (0 : Nat) (0 : Int) == p) = false → Ob (andP (some ((0 : Nat) + (1 : Nat) ≤ (1 : Nat) ∧ true = true)) ((1 : Nat) ≤ (1099511627776 : Nat) ∧ (2064 : Nat) ≤ (281474976710656 : Nat) ∧ (1 : Nat) = (1 : Nat) ∧ (0 : Nat) = (0 : Nat) ∧ (0 : Nat) < (1 : Nat))) ∧ ((∃ (y : Unit), Ob True ∧ Ob ((20 : Nat) < (20 : Nat)) ∧ (Ob (AObj.ro (List.map (Value.int IntKind.i64) l) = AObj.ro (List.map (nmap1 (nsub (1 : Nat) (2 : Nat))) (List.map (Value.int IntKind.i64) l)) ∧ AObj.sc (1 : Nat) (AObj.ro (List.map (Value.int IntKind.i64) l)) = true) ∧ True) ∧ Ob (p = p) ∧ Ob (Value.slice (some (ad0 0)) l.length c = Value.slice (some (ad0 0)) l.length c) ∧ Ob (Value.slice (some { block := (2 : Nat), off := (0 : Nat), spot := some (0 : Nat) }) (1 : Nat) (0 : Nat) = Value.slice none (0 : Nat) (0 : Nat)) ∧ Ob (IntKind.i64.wrap ((0 : Int) + IntKind.i64.wrap (l.getD (0 : Nat) (0 : Int) - getI (List.map (Value.int IntKind.i64) l) (0 : Nat))) = (0 : Int)) ∧ Ob (IntKind.i64.wrap ((0 : Int) + (1 : Int)) = (0 : Int)) ∧ True) ∨ ∃ (y : Nat), Ob ((0 : Nat) < y ∧ y ≤ l.length) ∧ Ob (l.length - y < (20 : Nat)) ∧ (Ob (AObj.ro (List.map (Value.int IntKind.i64) l) = AObj.ro (List.map (nmap1 (nsub (1 : Nat) (2 : Nat))) (List.map (Value.int IntKind.i64) l)) ∧ AObj.sc (2 : Nat) (AObj.ro (List.map (Value.int IntKind.i64) l)) = true) ∧ Ob (AObj.rw [vi (l.getD (0 : Nat) (0 : Int))] (some (1 : Nat)) = AObj.rw (List.map (nmap1 (nsub (1 : Nat) (2 : Nat))) (List.map (Value.int IntKind.i64) (lieAt p l y).fst)) (some (1 : Nat)) ∧ AObj.sc (2 : Nat) (AObj.rw (List.map (Value.int IntKind.i64) (lieAt p l y).fst) (some (1 : Nat))) = true) ∧ True) ∧ Ob (p = p) ∧ Ob (Value.slice (some (ad0 0)) l.length c = Value.slice (some (ad0 0)) l.length c) ∧ Ob (Value.slice (some { block := (2 : Nat), off := (0 : Nat), spot := some (0 : Nat) }) (1 : Nat) (0 : Nat) = Value.slice (some { block := (2 : Nat), off := (0 : Nat), spot := some (0 : Nat) }) y (0 : Nat)) ∧ Ob (IntKind.i64.wrap ((0 : Int) + IntKind.i64.wrap (l.getD (0 : Nat) (0 : Int) - getI (List.map (Value.int IntKind.i64) l) (0 : Nat))) = (lieAt p l y).snd) ∧ Ob (IntKind.i64.wrap ((0 : Int) + (1 : Int)) = (↑y : Int)) ∧ True)))) ∧ (decide (l.getD (0 : Nat) (0 : Int) < p) = false → Ob ((0 : Int) ≤ (0 : Int) ∧ (0 : Int) < (↑l.length : Int) ∧ true = true) ∧ Ob (IntAt IntKind.i64 (List.map (Value.int IntKind.i64) l) (0 : Nat)) ∧ ((l.getD (0 : Nat) (0 : Int) == p) = true → Ob (andP (some ((0 : Nat) + (1 : Nat) ≤ (1 : Nat) ∧ true = true)) ((1 : Nat) ≤ (1099511627776 : Nat) ∧ (2064 : Nat) ≤ (281474976710656 : Nat) ∧ (1 : Nat) = (1 : Nat) ∧ (0 : Nat) = (0 : Nat) ∧ (0 : Nat) < (1 : Nat))) ∧ ((∃ (y : Unit), Ob True ∧ Ob ((20 : Nat) < (20 : Nat)) ∧ (Ob (AObj.ro (List.map (Value.int IntKind.i64) l) = AObj.ro (List.map (nmap1 (nsub (1 : Nat) (2 : Nat))) (List.map (Value.int IntKind.i64) l)) ∧ AObj.sc (1 : Nat) (AObj.ro (List.map (Value.int IntKind.i64) l)) = true) ∧ True) ∧ Ob (p = p) ∧ Ob (Value.slice (some (ad0 0)) l.length c = Value.slice (some (ad0 0)) l.length c) ∧ Ob (Value.slice (some { block := (2 : Nat), off := (0 : Nat), spot := some (0 : Nat) }) (1 : Nat) (0 : Nat) = Value.slice none (0 : Nat) (0 : Nat)) ∧ Ob (IntKind.i64.wrap ((0 : Int) + IntKind.i64.wrap (l.getD (0 : Nat) (0 : Int) - getI (List.map (Value.int IntKind.i64) l) (0 : Nat))) = (0 : Int)) ∧ Ob (IntKind.i64.wrap ((0 : Int) + (1 : Int)) = (0 : Int)) ∧ True) ∨ ∃ (y : Nat), Ob ((0 : Nat) < y ∧ y ≤ l.length) ∧ Ob (l.length - y < (20 : Nat)) ∧ (Ob (AObj.ro (List.map (Value.int IntKind.i64) l) = AObj.ro (List.map (nmap1 (nsub (1 : Nat) (2 : Nat))) (List.map (Value.int IntKind.i64) l)) ∧ AObj.sc (2 : Nat) (AObj.ro (List.map (Value.int IntKind.i64) l)) = true) ∧ Ob (AObj.rw [vi (-1 : Int)] (some (1 : Nat)) = AObj.rw (List.map (nmap1 (nsub (1 : Nat) (2 : Nat))) (List.map (Value.int IntKind.i64) (lieAt p l y).fst)) (some (1 : Nat)) ∧ AObj.sc (2 : Nat) (AObj.rw (List.map (Value.int IntKind.i64) (lieAt p l y).fst) (some (1 : Nat))) = true) ∧ True) ∧ Ob (p = p) ∧ Ob (Value.slice (some (ad0 0)) l.length c = Value.slice (some (ad0 0)) l.length c) ∧ Ob (Value.slice (some { block := (2 : Nat), off := (0 : Nat), spot := some (0 : Nat) }) (1 : Nat) (0 : Nat) = Value.slice (some { block := (2 : Nat), off := (0 : Nat), spot := some (0 : Nat) }) y (0 : Nat)) ∧ Ob (IntKind.i64.wrap ((0 : Int) + IntKind.i64.wrap (l.getD (0 : Nat) (0 : Int) - getI (List.map (Value.int IntKind.i64) l) (0 : Nat))) = (lieAt p l y).snd) ∧ Ob (IntKind.i64.wrap ((0 : Int) + (1 : Int)) = (↑y : Int)) ∧ True)) ∧ ((l.getD (0 : Nat) (0 : Int) == p) = false → Ob (andP (some ((0 : Nat) + (1 : Nat) ≤ (1 : Nat) ∧ true = true)) ((1 : Nat) ≤ (1099511627776 : Nat) ∧ (2064 : Nat) ≤ (281474976710656 : Nat) ∧ (1 : Nat) = (1 : Nat) ∧ (0 : Nat) = (0 : Nat) ∧ (0 : Nat) < (1 : Nat))) ∧ ((∃ (y : Unit), Ob True ∧ Ob ((20 : Nat) < (20 : Nat)) ∧ (Ob (AObj.ro (List.map (Value.int IntKind.i64) l) = AObj.ro (List.map (nmap1 (nsub (1 : Nat) (2 : Nat))) (List.map (Value.int IntKind.i64) l)) ∧ AObj.sc (1 : Nat) (AObj.ro (List.map (Value.int IntKind.i64) l)) = true) ∧ True) ∧ Ob (p = p) ∧ Ob (Value.slice (some (ad0 0)) l.length c = Value.slice (some (ad0 0)) l.length c) ∧ Ob (Value.slice (some { block := (2 : Nat), off := (0 : Nat), spot := some (0 : Nat) }) (1 : Nat) (0 : Nat) = Value.slice none (0 : Nat) (0 : Nat)) ∧ Ob (IntKind.i64.wrap ((0 : Int) + IntKind.i64.wrap (l.getD (0 : Nat) (0 : Int) - getI (List.map (Value.int IntKind.i64) l) (0 : Nat))) = (0 : Int)) ∧ Ob (IntKind.i64.wrap ((0 : Int) + (1 : Int)) = (0 : Int)) ∧ True) ∨ ∃ (y : Nat), Ob ((0 : Nat) < y ∧ y ≤ l.length) ∧ Ob (l.length - y < (20 : Nat)) ∧ (Ob (AObj.ro (List.map (Value.int IntKind.i64) l) = AObj.ro (List.map (nmap1 (nsub (1 : Nat) (2 : Nat))) (List.map (Value.int IntKind.i64) l)) ∧ AObj.sc (2 : Nat) (AObj.ro (List.map (Value.int IntKind.i64) l)) = true) ∧ Ob (AObj.rw [vi (l.getD (0 : Nat) (0 : Int))] (some (1 : Nat)) = AObj.rw (List.map (nmap1 (nsub (1 : Nat) (2 : Nat))) (List.map (Value.int IntKind.i64) (lieAt p l y).fst)) (some (1 : Nat)) ∧ AObj.sc (2 : Nat) (AObj.rw (List.map (Value.int IntKind.i64) (lieAt p l y).fst) (some (1 : Nat))) = true) ∧ True) ∧ Ob (p = p) ∧ Ob (Value.slice (some (ad0 0)) l.length c = Value.slice (some (ad0 0)) l.length c) ∧ Ob (Value.slice (some { block := (2 : Nat), off := (0 : Nat), spot := some (0 : Nat) }) (1 : Nat) (0 : Nat) = Value.slice (some { block := (2 : Nat), off := (0 : Nat), spot := some (0 : Nat) }) y (0 : Nat)) ∧ Ob (IntKind.i64.wrap ((0 : Int) + IntKind.i64.wrap (l.getD (0 : Nat) (0 : Int) - getI (List.map (Value.int IntKind.i64) l) (0 : Nat))) = (lieAt p l y).snd) ∧ Ob (IntKind.i64.wrap ((0 : Int) + (1 : Int)) = (↑y : Int)) ∧ True)))) ∧ (decide ((0 : Int) < (↑l.length : Int)) = false → True ∧ Ob (Value.tuple { toList := [Value.slice none (0 : Nat) (0 : Nat), vi (0 : Int)] } = Value.tuple { toList := [Value.slice (some { block := (1 : Nat), off := (0 : Nat), spot := some (0 : Nat) }) l.length (0 : Nat), vi (lieOf p l).snd] } ∧ [AObj.ro (List.map (Value.int IntKind.i64) l)] = [AObj.ro (List.map (Value.int IntKind.i64) l), AObj.rw (List.map (Value.int IntKind.i64) (lieOf p l).fst) (some (1 : Nat))]))) ∧ ∀ (x : Nat), Ob ((0 : Nat) < x ∧ x ≤ l.length) → (decide ((↑x : Int) < (↑l.length : Int)) = true → Ob ((0 : Int) ≤ (↑x : Int) ∧ (↑x : Int) < (↑l.length : Int) ∧ true = true) ∧ Ob (IntAt IntKind.i64 (List.map (Value.int IntKind.i64) l) ((0 : Nat) + (↑x : Int).toNat * (1 : Nat))) ∧ (∃ (y : Int), Ob (l.getD x (0 : Int) ≤ y ∧ y ≤ p ∧ slideAt (lieAt p l x).fst p y = slideAt (lieAt p l x).fst p (l.getD x (0 : Int))) ∧ (Ob (AObj.ro (List.map (Value.int IntKind.i64) l) = AObj.ro (List.map (nmap1 fun (b : Nat) ↦ b) (List.map (Value.int IntKind.i64) l)) ∧ AObj.sc (2 : Nat) (AObj.ro (List.map (Value.int IntKind.i64) l)) = true) ∧ Ob (AObj.rw (List.map (Value.int IntKind.i64) (lieAt p l x).fst) (some (1 : Nat)) = AObj.rw (List.map (nmap1 fun (b : Nat) ↦ b) (List.map (Value.int IntKind.i64) (lieAt p l x).fst)) (some (1 : Nat)) ∧ AObj.sc (2 : Nat) (AObj.rw (List.map (Value.int IntKind.i64) (lieAt p l x).fst) (some (1 : Nat))) = true) ∧ True) ∧ Ob (p = p) ∧ Ob (Value.slice (some (ad0 0)) l.length c = Value.slice (some (ad0 0)) l.length c) ∧ Ob (Value.slice (some { block := (1 : Nat), off := (0 : Nat), spot := some (0 : Nat) }) x (0 : Nat) = Value.slice (some { block := (1 : Nat), off := (0 : Nat), spot := some (0 : Nat) }) x (0 : Nat)) ∧ Ob ((lieAt p l x).snd = (lieAt p l x).snd) ∧ Ob ((↑x : Int) = (↑x : Int)) ∧ Ob (getI (List.map (Value.int IntKind.i64) l) ((0 : Nat) + (↑x : Int).toNat * (1 : Nat)) = y) ∧ True) ∧ ∀ (x_1 : Int), Ob (l.getD x (0 : Int) ≤ x_1 ∧ x_1 ≤ p ∧ slideAt (lieAt p l x).fst p x_1 = slideAt (lieAt p l x).fst p (l.getD x (0 : Int))) → (decide (x_1 < p) = true → Ob ((List.take x (List.drop (0 : Nat) (List.map (Value.int IntKind.i64) (lieAt p l x).fst)) = List.map (Value.int IntKind.i64) (List.take x (List.drop (0 : Nat) (intsOf (List.map (Value.int IntKind.i64) (lieAt p l x).fst)))) ∧ (0 : Nat) + x ≤ (List.map (Value.int IntKind.i64) (lieAt p l x).fst).length ∧ true = true) ∧ (List.take x (List.drop (0 : Nat) (intsOf (List.map (Value.int IntKind.i64) (lieAt p l x).fst)))).length < (1000000 : Nat)) ∧ (decide (x_1 ∈ List.take x (List.drop (0 : Nat) (intsOf (List.map (Value.int IntKind.i64) (lieAt p l x).fst)))) = true → ∃ (y : Int), Ob (l.getD x (0 : Int) ≤ y ∧ y ≤ p ∧ slideAt (lieAt p l x).fst p y = slideAt (lieAt p l x).fst p (l.getD x (0 : Int))) ∧ Ob ((p - y).toNat < (p - x_1).toNat) ∧ (Ob (AObj.ro (List.map (Value.int IntKind.i64) l) = AObj.ro (List.map (nmap1 fun (b : Nat) ↦ b) (List.map (Value.int IntKind.i64) l)) ∧ AObj.sc (2 : Nat) (AObj.ro (List.map (Value.int IntKind.i64) l)) = true) ∧ Ob (AObj.rw (List.map (Value.int IntKind.i64) (lieAt p l x).fst) (some (1 : Nat)) = AObj.rw (List.map (nmap1 fun (b : Nat) ↦ b) (List.map (Value.int IntKind.i64) (lieAt p l x).fst)) (some (1 : Nat)) ∧ AObj.sc (2 : Nat) (AObj.rw (List.map (Value.int IntKind.i64) (lieAt p l x).fst) (some (1 : Nat))) = true) ∧ True) ∧ Ob (p = p) ∧ Ob (Value.slice (some (ad0 0)) l.length c = Value.slice (some (ad0 0)) l.length c) ∧ Ob (Value.slice (some { block := (1 : Nat), off := (0 : Nat), spot := some (0 : Nat) }) x (0 : Nat) = Value.slice (some { block := (1 : Nat), off := (0 : Nat), spot := some (0 : Nat) }) x (0 : Nat)) ∧ Ob ((lieAt p l x).snd = (lieAt p l x).snd) ∧ Ob ((↑x : Int) = (↑x : Int)) ∧ Ob (IntKind.i64.wrap (x_1 + (1 : Int)) = y) ∧ True) ∧ (decide (x_1 ∈ List.take x (List.drop (0 : Nat) (intsOf (List.map (Value.int IntKind.i64) (lieAt p l x).fst)))) = false → Ob ((0 : Int) ≤ (↑x : Int) ∧ (↑x : Int) < (↑l.length : Int) ∧ true = true) ∧ Ob (IntAt IntKind.i64 (List.map (Value.int IntKind.i64) l) ((0 : Nat) + (↑x : Int).toNat * (1 : Nat))) ∧ ((x_1 == p) = true → Ob (andP (some ((0 : Nat) + (1 : Nat) ≤ (1 : Nat) ∧ true = true)) (x + (1 : Nat) ≤ (1099511627776 : Nat) ∧ ((2 : Nat) * (x + (1 : Nat)) + (256 : Nat)) * (8 : Nat) ≤ (281474976710656 : Nat) ∧ (1 : Nat) = (1 : Nat) ∧ (List.map (Value.int IntKind.i64) (lieAt p l x).fst).length = x * (1 : Nat))) ∧ ((∃ (y : Unit), Ob True ∧ Ob ((20 : Nat) < l.length - x) ∧ (Ob (AObj.ro (List.map (Value.int IntKind.i64) l) = AObj.ro (List.map (nmap1 (nsub (1 : Nat) (3 : Nat))) (List.map (Value.int IntKind.i64) l)) ∧ AObj.sc (1 : Nat) (AObj.ro (List.map (Value.int IntKind.i64) l)) = true) ∧ True) ∧ Ob (p = p) ∧ Ob (Value.slice (some (ad0 0)) l.length c = Value.slice (some (ad0 0)) l.length c) ∧ Ob (Value.slice (some { block := (3 : Nat), off := (0 : Nat), spot := some (0 : Nat) }) (x + (1 : Nat)) (0 : Nat) = Value.slice none (0 : Nat) (0 : Nat)) ∧ Ob (IntKind.i64.wrap ((lieAt p l x).snd + IntKind.i64.wrap (x_1 - getI (List.map (Value.int IntKind.i64) l) ((0 : Nat) + (↑x : Int).toNat * (1 : Nat)))) = (0 : Int)) ∧ Ob (IntKind.i64.wrap ((↑x : Int) + (1 : Int)) = (0 : Int)) ∧ True) ∨ ∃ (y : Nat), Ob ((0 : Nat) < y ∧ y ≤ l.length) ∧ Ob (l.length - y < l.length - x) ∧ (Ob (AObj.ro (List.map (Value.int IntKind.i64) l) = AObj.ro (List.map (nmap1 (nsub (1 : Nat) (3 : Nat))) (List.map (Value.int IntKind.i64) l)) ∧ AObj.sc (2 : Nat) (AObj.ro (List.map (Value.int IntKind.i64) l)) = true) ∧ Ob (AObj.rw (List.map (Value.int IntKind.i64) (lieAt p l x).fst ++ [vi (-1 : Int)]) (some (1 : Nat)) = AObj.rw (List.map (nmap1 (nsub (1 : Nat) (3 : Nat))) (List.map (Value.int IntKind.i64) (lieAt p l y).fst)) (some (1 : Nat)) ∧ AObj.sc (2 : Nat) (AObj.rw (List.map (Value.int IntKind.i64) (lieAt p l y).fst) (some (1 : Nat))) = true) ∧ True) ∧ Ob (p = p) ∧ Ob (Value.slice (some (ad0 0)) l.length c = Value.slice (some (ad0 0)) l.length c) ∧ Ob (Value.slice (some { block := (3 : Nat), off := (0 : Nat), spot := some (0 : Nat) }) (x + (1 : Nat)) (0 : Nat) = Value.slice (some { block := (3 : Nat), off := (0 : Nat), spot := some (0 : Nat) }) y (0 : Nat)) ∧ Ob (IntKind.i64.wrap ((lieAt p l x).snd + IntKind.i64.wrap (x_1 - getI (List.map (Value.int IntKind.i64) l) ((0 : Nat) + (↑x : Int).toNat * (1 : Nat)))) = (lieAt p l y).snd) ∧ Ob (IntKind.i64.wrap ((↑x : Int) + (1 : Int)) = (↑y : Int)) ∧ True)) ∧ ((x_1 == p) = false → Ob (andP (some ((0 : Nat) + (1 : Nat) ≤ (1 : Nat) ∧ true = true)) (x + (1 : Nat) ≤ (1099511627776 : Nat) ∧ ((2 : Nat) * (x + (1 : Nat)) + (256 : Nat)) * (8 : Nat) ≤ (281474976710656 : Nat) ∧ (1 : Nat) = (1 : Nat) ∧ (List.map (Value.int IntKind.i64) (lieAt p l x).fst).length = x * (1 : Nat))) ∧ ((∃ (y : Unit), Ob True ∧ Ob ((20 : Nat) < l.length - x) ∧ (Ob (AObj.ro (List.map (Value.int IntKind.i64) l) = AObj.ro (List.map (nmap1 (nsub (1 : Nat) (3 : Nat))) (List.map (Value.int IntKind.i64) l)) ∧ AObj.sc (1 : Nat) (AObj.ro (List.map (Value.int IntKind.i64) l)) = true) ∧ True) ∧ Ob (p = p) ∧ Ob (Value.slice (some (ad0 0)) l.length c = Value.slice (some (ad0 0)) l.length c) ∧ Ob (Value.slice (some { block := (3 : Nat), off := (0 : Nat), spot := some (0 : Nat) }) (x + (1 : Nat)) (0 : Nat) = Value.slice none (0 : Nat) (0 : Nat)) ∧ Ob (IntKind.i64.wrap ((lieAt p l x).snd + IntKind.i64.wrap (x_1 - getI (List.map (Value.int IntKind.i64) l) ((0 : Nat) + (↑x : Int).toNat * (1 : Nat)))) = (0 : Int)) ∧ Ob (IntKind.i64.wrap ((↑x : Int) + (1 : Int)) = (0 : Int)) ∧ True) ∨ ∃ (y : Nat), Ob ((0 : Nat) < y ∧ y ≤ l.length) ∧ Ob (l.length - y < l.length - x) ∧ (Ob (AObj.ro (List.map (Value.int IntKind.i64) l) = AObj.ro (List.map (nmap1 (nsub (1 : Nat) (3 : Nat))) (List.map (Value.int IntKind.i64) l)) ∧ AObj.sc (2 : Nat) (AObj.ro (List.map (Value.int IntKind.i64) l)) = true) ∧ Ob (AObj.rw (List.map (Value.int IntKind.i64) (lieAt p l x).fst ++ [vi x_1]) (some (1 : Nat)) = AObj.rw (List.map (nmap1 (nsub (1 : Nat) (3 : Nat))) (List.map (Value.int IntKind.i64) (lieAt p l y).fst)) (some (1 : Nat)) ∧ AObj.sc (2 : Nat) (AObj.rw (List.map (Value.int IntKind.i64) (lieAt p l y).fst) (some (1 : Nat))) = true) ∧ True) ∧ Ob (p = p) ∧ Ob (Value.slice (some (ad0 0)) l.length c = Value.slice (some (ad0 0)) l.length c) ∧ Ob (Value.slice (some { block := (3 : Nat), off := (0 : Nat), spot := some (0 : Nat) }) (x + (1 : Nat)) (0 : Nat) = Value.slice (some { block := (3 : Nat), off := (0 : Nat), spot := some (0 : Nat) }) y (0 : Nat)) ∧ Ob (IntKind.i64.wrap ((lieAt p l x).snd + IntKind.i64.wrap (x_1 - getI (List.map (Value.int IntKind.i64) l) ((0 : Nat) + (↑x : Int).toNat * (1 : Nat)))) = (lieAt p l y).snd) ∧ Ob (IntKind.i64.wrap ((↑x : Int) + (1 : Int)) = (↑y : Int)) ∧ True)))) ∧ (decide (x_1 < p) = false → Ob ((0 : Int) ≤ (↑x : Int) ∧ (↑x : Int) < (↑l.length : Int) ∧ true = true) ∧ Ob (IntAt IntKind.i64 (List.map (Value.int IntKind.i64) l) ((0 : Nat) + (↑x : Int).toNat * (1 : Nat))) ∧ ((x_1 == p) = true → Ob (andP (some ((0 : Nat) + (1 : Nat) ≤ (1 : Nat) ∧ true = true)) (x + (1 : Nat) ≤ (1099511627776 : Nat) ∧ ((2 : Nat) * (x + (1 : Nat)) + (256 : Nat)) * (8 : Nat) ≤ (281474976710656 : Nat) ∧ (1 : Nat) = (1 : Nat) ∧ (List.map (Value.int IntKind.i64) (lieAt p l x).fst).length = x * (1 : Nat))) ∧ ((∃ (y : Unit), Ob True ∧ Ob ((20 : Nat) < l.length - x) ∧ (Ob (AObj.ro (List.map (Value.int IntKind.i64) l) = AObj.ro (List.map (nmap1 (nsub (1 : Nat) (3 : Nat))) (List.map (Value.int IntKind.i64) l)) ∧ AObj.sc (1 : Nat) (AObj.ro (List.map (Value.int IntKind.i64) l)) = true) ∧ True) ∧ Ob (p = p) ∧ Ob (Value.slice (some (ad0 0)) l.length c = Value.slice (some (ad0 0)) l.length c) ∧ Ob (Value.slice (some { block := (3 : Nat), off := (0 : Nat), spot := some (0 : Nat) }) (x + (1 : Nat)) (0 : Nat) = Value.slice none (0 : Nat) (0 : Nat)) ∧ Ob (IntKind.i64.wrap ((lieAt p l x).snd + IntKind.i64.wrap (x_1 - getI (List.map (Value.int IntKind.i64) l) ((0 : Nat) + (↑x : Int).toNat * (1 : Nat)))) = (0 : Int)) ∧ Ob (IntKind.i64.wrap ((↑x : Int) + (1 : Int)) = (0 : Int)) ∧ True) ∨ ∃ (y : Nat), Ob ((0 : Nat) < y ∧ y ≤ l.length) ∧ Ob (l.length - y < l.length - x) ∧ (Ob (AObj.ro (List.map (Value.int IntKind.i64) l) = AObj.ro (List.map (nmap1 (nsub (1 : Nat) (3 : Nat))) (List.map (Value.int IntKind.i64) l)) ∧ AObj.sc (2 : Nat) (AObj.ro (List.map (Value.int IntKind.i64) l)) = true) ∧ Ob (AObj.rw (List.map (Value.int IntKind.i64) (lieAt p l x).fst ++ [vi (-1 : Int)]) (some (1 : Nat)) = AObj.rw (List.map (nmap1 (nsub (1 : Nat) (3 : Nat))) (List.map (Value.int IntKind.i64) (lieAt p l y).fst)) (some (1 : Nat)) ∧ AObj.sc (2 : Nat) (AObj.rw (List.map (Value.int IntKind.i64) (lieAt p l y).fst) (some (1 : Nat))) = true) ∧ True) ∧ Ob (p = p) ∧ Ob (Value.slice (some (ad0 0)) l.length c = Value.slice (some (ad0 0)) l.length c) ∧ Ob (Value.slice (some { block := (3 : Nat), off := (0 : Nat), spot := some (0 : Nat) }) (x + (1 : Nat)) (0 : Nat) = Value.slice (some { block := (3 : Nat), off := (0 : Nat), spot := some (0 : Nat) }) y (0 : Nat)) ∧ Ob (IntKind.i64.wrap ((lieAt p l x).snd + IntKind.i64.wrap (x_1 - getI (List.map (Value.int IntKind.i64) l) ((0 : Nat) + (↑x : Int).toNat * (1 : Nat)))) = (lieAt p l y).snd) ∧ Ob (IntKind.i64.wrap ((↑x : Int) + (1 : Int)) = (↑y : Int)) ∧ True)) ∧ ((x_1 == p) = false → Ob (andP (some ((0 : Nat) + (1 : Nat) ≤ (1 : Nat) ∧ true = true)) (x + (1 : Nat) ≤ (1099511627776 : Nat) ∧ ((2 : Nat) * (x + (1 : Nat)) + (256 : Nat)) * (8 : Nat) ≤ (281474976710656 : Nat) ∧ (1 : Nat) = (1 : Nat) ∧ (List.map (Value.int IntKind.i64) (lieAt p l x).fst).length = x * (1 : Nat))) ∧ ((∃ (y : Unit), Ob True ∧ Ob ((20 : Nat) < l.length - x) ∧ (Ob (AObj.ro (List.map (Value.int IntKind.i64) l) = AObj.ro (List.map (nmap1 (nsub (1 : Nat) (3 : Nat))) (List.map (Value.int IntKind.i64) l)) ∧ AObj.sc (1 : Nat) (AObj.ro (List.map (Value.int IntKind.i64) l)) = true) ∧ True) ∧ Ob (p = p) ∧ Ob (Value.slice (some (ad0 0)) l.length c = Value.slice (some (ad0 0)) l.length c) ∧ Ob (Value.slice (some { block := (3 : Nat), off := (0 : Nat), spot := some (0 : Nat) }) (x + (1 : Nat)) (0 : Nat) = Value.slice none (0 : Nat) (0 : Nat)) ∧ Ob (IntKind.i64.wrap ((lieAt p l x).snd + IntKind.i64.wrap (x_1 - getI (List.map (Value.int IntKind.i64) l) ((0 : Nat) + (↑x : Int).toNat * (1 : Nat)))) = (0 : Int)) ∧ Ob (IntKind.i64.wrap ((↑x : Int) + (1 : Int)) = (0 : Int)) ∧ True) ∨ ∃ (y : Nat), Ob ((0 : Nat) < y ∧ y ≤ l.length) ∧ Ob (l.length - y < l.length - x) ∧ (Ob (AObj.ro (List.map (Value.int IntKind.i64) l) = AObj.ro (List.map (nmap1 (nsub (1 : Nat) (3 : Nat))) (List.map (Value.int IntKind.i64) l)) ∧ AObj.sc (2 : Nat) (AObj.ro (List.map (Value.int IntKind.i64) l)) = true) ∧ Ob (AObj.rw (List.map (Value.int IntKind.i64) (lieAt p l x).fst ++ [vi x_1]) (some (1 : Nat)) = AObj.rw (List.map (nmap1 (nsub (1 : Nat) (3 : Nat))) (List.map (Value.int IntKind.i64) (lieAt p l y).fst)) (some (1 : Nat)) ∧ AObj.sc (2 : Nat) (AObj.rw (List.map (Value.int IntKind.i64) (lieAt p l y).fst) (some (1 : Nat))) = true) ∧ True) ∧ Ob (p = p) ∧ Ob (Value.slice (some (ad0 0)) l.length c = Value.slice (some (ad0 0)) l.length c) ∧ Ob (Value.slice (some { block := (3 : Nat), off := (0 : Nat), spot := some (0 : Nat) }) (x + (1 : Nat)) (0 : Nat) = Value.slice (some { block := (3 : Nat), off := (0 : Nat), spot := some (0 : Nat) }) y (0 : Nat)) ∧ Ob (IntKind.i64.wrap ((lieAt p l x).snd + IntKind.i64.wrap (x_1 - getI (List.map (Value.int IntKind.i64) l) ((0 : Nat) + (↑x : Int).toNat * (1 : Nat)))) = (lieAt p l y).snd) ∧ Ob (IntKind.i64.wrap ((↑x : Int) + (1 : Int)) = (↑y : Int)) ∧ True)))) ∧ (decide ((↑x : Int) < (↑l.length : Int)) = false → True ∧ Ob (Value.tuple { toList := [Value.slice (some { block := (1 : Nat), off := (0 : Nat), spot := some (0 : Nat) }) x (0 : Nat), vi (lieAt p l x).snd] } = Value.tuple { toList := [Value.slice (some { block := (1 : Nat), off := (0 : Nat), spot := some (0 : Nat) }) l.length (0 : Nat), vi (lieOf p l).snd] } ∧ [AObj.ro (List.map (Value.int IntKind.i64) l), AObj.rw (List.map (Value.int IntKind.i64) (lieAt p l x).fst) (some (1 : Nat))] = [AObj.ro (List.map (Value.int IntKind.i64) l), AObj.rw (List.map (Value.int IntKind.i64) (lieOf p l).fst) (some (1 : Nat))]))
theorem liV_eq : liV = fun (p : Int) (l : List Int) (c : Nat) => vc Try.prog lieRE 1 47 true (lieRI p l c) lieRB [] (argFr 0 [vi p, .slice (some ⟨0,0,none⟩) l.length c]) [ros l] (retK Try.prog Try.f50 (fun v H1 => v = .tuple #[.slice (some ⟨1,0,some 0⟩) l.length 0, vi (lieOf p l).2] ∧ H1 = [ros l, rws (lieOf p l).1])) := by kernel_rfl


theorem slideAt_eq (out : List Int) (p a : Int) : slideAt out p a = if a < p ∧ a ∈ out then slideAt out p (a + 1) else a := by
  unfold slideAt
  by_cases h : a < p
  · rw [show (p - a).toNat = (p - (a + 1)).toNat + 1 by omega]
    rfl
  · rw [show (p - a).toNat = 0 by omega, if_neg (fun hh => h hh.1)]
    rfl
theorem slide_range (out : List Int) (p : Int) : ∀ (f : Nat) (a : Int), a ≤ p → a ≤ slide out p f a ∧ slide out p f a ≤ p
  | 0, a, h => ⟨Int.le_refl _, h⟩
  | f + 1, a, h => by
    unfold slide
    split
    · rename_i hh
      have := slide_range out p f (a + 1) (by omega)
      omega
    · exact ⟨Int.le_refl _, h⟩
theorem lieAt_succ {p : Int} {l : List Int} {i : Nat} (h : i < l.length) : lieAt p l (i + 1) = lieStep p (lieAt p l i) (l.getD i 0) := by
  unfold lieAt lieOf
  rw [List.take_succ_eq_append_getElem h, List.foldl_append, List.getD_eq_getElem?_getD, List.getElem?_eq_getElem h]
  rfl
theorem lieAt_len {p : Int} {l : List Int} : ∀ {i : Nat}, i ≤ l.length → (lieAt p l i).1.length = i
  | 0, _ => rfl
  | i + 1, h => by
    rw [lieAt_succ (by omega)]
    show ((lieAt p l i).1 ++ [_]).length = _
    rw [List.length_append, lieAt_len (by omega)]; rfl
theorem lieAt_slid {p : Int} {l : List Int} (hp : p ≤ 8) (hb : ∀ x ∈ l, 0 ≤ x ∧ x < p) : ∀ {i : Nat}, i ≤ l.length → 0 ≤ (lieAt p l i).2 ∧ (lieAt p l i).2 ≤ 8 * i
  | 0, _ => ⟨Int.le_refl 0, Int.le_refl 0⟩
  | i + 1, h => by
    rw [lieAt_succ (by omega)]
    show 0 ≤ (lieAt p l i).2 + _ ∧ (lieAt p l i).2 + _ ≤ _
    have := lieAt_slid (i := i) hp hb (by omega)
    have hd := hb _ (getD_memR (l := l) (i := i) (by omega))
    have := slide_range (lieAt p l i).1 p (p - l.getD i 0).toNat (l.getD i 0) (by omega)
    unfold slideAt
    omega
theorem lieAt_end {p : Int} {l : List Int} {i : Nat} (h : l.length ≤ i) : lieAt p l i = lieOf p l := by
  unfold lieAt; rw [List.take_of_length_le h]
theorem lieNext_ok {p : Int} {l : List Int} {x : Nat} {a v : Int} (hp : 0 < p ∧ p ≤ 8) (hb : ∀ x ∈ l, 0 ≤ x ∧ x < p) (hlen : l.length ≤ 13) (hx : x < l.length) (h1 : l.getD x 0 ≤ a) (h2 : a ≤ p) (h3 : slideAt (lieAt p l x).1 p (l.getD x 0) = a) (hv : v = if a = p then -1 else a) :
    (1 ≤ 1 ∧ x + 1 ≤ 1099511627776 ∧ (2 * (x + 1) + 256) * 8 ≤ 281474976710656 ∧ (lieAt p l x).fst.length = x) ∧
      ∃ y, (0 < y ∧ y ≤ l.length) ∧ l.length - y < l.length - x ∧ List.map (Value.int IntKind.i64) (lieAt p l x).fst ++ [Value.int IntKind.i64 v] = List.map (Value.int IntKind.i64) (lieAt p l y).fst ∧ x + 1 = y ∧
        IntKind.i64.wrap ((lieAt p l x).snd + IntKind.i64.wrap (a - l.getD x 0)) = (lieAt p l y).snd ∧ IntKind.i64.wrap (↑x + 1) = (y : Int) := by
  have hd := hb _ (getD_memR hx)
  have hs := lieAt_slid hp.2 hb (i := x) (by omega)
  refine ⟨⟨by omega, by omega, by omega, lieAt_len (by omega)⟩, x + 1, ⟨by omega, by omega⟩, by omega, ?_, rfl, ?_, ?_⟩
  · rw [lieAt_succ hx]
    show _ = List.map _ ((lieAt p l x).1 ++ [_])
    rw [List.map_append, h3, hv]; rfl
  · rw [lieAt_succ hx]
    show _ = (lieAt p l x).2 + _
    rw [h3, wrap_in (x := a - l.getD x 0) (by omega) (by omega), wrap_in (by omega) (by omega)]
  · rw [wrap_in (by omega) (by omega)]; rfl
theorem liV_ok (p : Int) (l : List Int) (c : Nat) (hp : 0 < p ∧ p ≤ 8) (hl : 0 < l.length) (hb : ∀ x ∈ l, 0 ≤ x ∧ x < p) (hlen : l.length ≤ 13) : liV p l c := by
  unfold liV
  simp only [ob_iff, map_nmap_int, sc_ro_int, sc_rw_int, getI_map, intAt_map, true_and, and_true, eq_self, Int.toNat_natCast, Nat.zero_add, Nat.mul_one, decide_eq_true_eq, decide_eq_false_iff_not, andP, List.set_cons_zero, List.length_cons, List.length_nil, List.drop_zero, List.take_succ_cons, List.take_zero,
    Value.slice.injEq, Value.tuple.injEq, Option.some.injEq, Addr.mk.injEq, AObj.rw.injEq, List.cons.injEq, reduceCtorEq, List.length_append, List.length_map, false_and, and_false, exists_const, or_false, false_or, true_or, Nat.lt_irrefl, forall_const, true_implies, List.length_set, beq_iff_eq, beq_eq_false_iff_ne, intsOf_map]
  have h0 := hb _ (getD_memR hl)
  have z : lieAt p l 0 = ([], 0) := rfl
  have e0 : slideAt (lieAt p l 0).1 p (l.getD 0 0) = l.getD 0 0 := by rw [slideAt_eq, z]; simp
  have first : ∀ v : Int, v = (if l.getD 0 0 = p then -1 else l.getD 0 0) → (1 ≤ 1 ∧ 1 ≤ 1099511627776 ∧ 2064 ≤ 281474976710656 ∧ 0 < 1) ∧
      ∃ y, (0 < y ∧ y ≤ l.length) ∧ l.length - y < 20 ∧ [Value.int IntKind.i64 v] = List.map (Value.int IntKind.i64) (lieAt p l y).fst ∧ 1 = y ∧
        IntKind.i64.wrap (0 + IntKind.i64.wrap (l.getD 0 0 - l.getD 0 0)) = (lieAt p l y).snd ∧ IntKind.i64.wrap (0 + 1) = (y : Int) := fun v hv => by
    obtain ⟨_, y, h1, h2, h3, h4, h5, h6⟩ := lieNext_ok (a := l.getD 0 0) (v := v) hp hb hlen hl (Int.le_refl _) (by omega) e0 hv
    exact ⟨⟨by omega, by omega, by omega, by omega⟩, y, h1, by omega, h3, by omega, h5, h6⟩
  refine ⟨⟨fun _ => ⟨⟨by omega, by omega⟩, hl, fun _ => ⟨id, ⟨by omega, by omega⟩, hl, fun h => first _ (by rw [if_pos h]), fun h => first _ (by rw [if_neg h])⟩, fun h => absurd h0.2 h⟩, fun h => by omega⟩, fun x ⟨h1, h2⟩ => ⟨fun h3 => ?_, fun h3 => ?_⟩⟩
  · have hx : x < l.length := by omega
    have hd := hb _ (getD_memR hx)
    have hlx : (lieAt p l x).1.length = x := lieAt_len h2
    refine ⟨⟨by omega, by omega⟩, hx, ⟨_, ⟨Int.le_refl _, by omega, rfl⟩, rfl⟩, fun a ⟨ha1, ha2, ha3⟩ => ?_⟩
    have fin : ¬ (a < p ∧ a ∈ (lieAt p l x).1) → slideAt (lieAt p l x).1 p (l.getD x 0) = a := fun hh => by rw [← ha3, slideAt_eq, if_neg hh]
    have tk : List.take x (lieAt p l x).1 = (lieAt p l x).1 := List.take_of_length_le (by omega)
    rw [tk]
    refine ⟨fun hap => ⟨⟨⟨?_, by omega⟩, by omega⟩, fun hm => ?_, fun hm => ?_⟩, fun hap => ?_⟩
    · exact List.take_of_length_le (by simp; omega)
    · refine ⟨a + 1, ⟨by omega, by omega, ?_⟩, by omega, wrap_in (by omega) (by omega)⟩
      rw [← ha3, slideAt_eq _ _ a, if_pos ⟨hap, hm⟩]
    · exact ⟨⟨by omega, by omega⟩, hx, fun h => lieNext_ok hp hb hlen hx ha1 ha2 (fin fun hh => hm hh.2) (by rw [if_pos h]), fun h => lieNext_ok hp hb hlen hx ha1 ha2 (fin fun hh => hm hh.2) (by rw [if_neg h])⟩
    · exact ⟨⟨by omega, by omega⟩, hx, fun h => lieNext_ok hp hb hlen hx ha1 ha2 (fin fun hh => hap hh.1) (by rw [if_pos h]), fun h => lieNext_ok hp hb hlen hx ha1 ha2 (fin fun hh => hap hh.1) (by rw [if_neg h])⟩
  · rw [lieAt_end (by omega)]
    refine ⟨?_, rfl⟩
    rw [show x = l.length by omega]
theorem li_call (p : Int) (l : List Int) (c : Nat) (hp : 0 < p ∧ p ≤ 8) (hl : 0 < l.length) (hb : ∀ x ∈ l, 0 ≤ x ∧ x < p) (hlen : l.length ≤ 13) :
    Call Try.prog 50 [vi p, .slice (some ⟨0,0,none⟩) l.length c] [ros l] fun v H1 => v = .tuple #[.slice (some ⟨1,0,some 0⟩) l.length 0, vi (lieOf p l).2] ∧ H1 = [ros l, rws (lieOf p l).1] :=
  Call.ofVc (VOk.ofCt (CtOk.none.add hasG_ok)) mixed (c := lieRB) (inv := lieRI p l c) Try.func50 (by kernel_rfl) (cast (congrFun (congrFun (congrFun liV_eq p) l) c) (liV_ok p l c hp hl hb hlen))

end Go.Pier.Lg

set_option maxRecDepth 100000
set_option linter.unusedVariables false
set_option linter.unusedSimpArgs false
namespace Go.Pier.Lg
open Go Go.Pier Go.Proofs 
noncomputable def fullRB : Code := Try.f53.body.getD .skip
def lieRS (r : List Arg) : Option (Prop × Back) := match r with
  | [p, .ints _ l] => some ((0 < p.num ∧ p.num ≤ 8) ∧ 0 < l.length ∧ (∀ x ∈ l, 0 ≤ x ∧ x < p.num) ∧ l.length ≤ 13, .both (lieOf p.num l).1 [vi (lieOf p.num l).2])
  | _ => none
noncomputable def fullRT : Ct := (Ct.none.add 45 hasG).add 50 (newG [.int .i64, .ints .i64] lieRS)
def fullTo (p : Int) (l : List Int) : Nat → List Int
  | 0 => []
  | i + 1 => if (i : Int) ∈ (lieOf p l).1 then fullTo p l i ++ [(i : Int)] else fullTo p l i
def fullRI (p : Int) (l : List Int) (c : Nat) : Nat → Option LInv := invOf 0 (.mk [
      ⟨Nat, fun i => (i : Int) ≤ p ∧ fullTo p l i = [], fun i => [(0, vi p), (1, .slice (some ⟨0,0,none⟩) l.length c), (6, .slice (some ⟨1,0,some 0⟩) (lieOf p l).1.length 0), (8, .slice none 0 0), (9, vi i)], fun _ => [ros l, rws (lieOf p l).1], fun i => (p - i).toNat, fun _ _ => none⟩,
      ⟨Nat, fun i => (i : Int) ≤ p, fun i => [(0, vi p), (1, .slice (some ⟨0,0,none⟩) l.length c), (6, .slice (some ⟨1,0,some 0⟩) (lieOf p l).1.length 0), (8, .slice (some ⟨2,0,some 0⟩) (fullTo p l i).length 0), (9, vi i)], fun i => [ros l, rws (lieOf p l).1, rws (fullTo p l i)], fun i => (p - i).toNat, fun _ _ => none⟩]
    (fun _ b => b) (fun i j => match i, j with | 0, 0 => [fun b => b] | 0, _ => [nsub 2 3] | _, _ => [fun b => b, nsub 2 4]))
noncomputable def foV :=
fun (p : Int) (l : List Int) (c : Nat) ↦ Ob ((List.take l.length (List.drop (0 : Nat) (List.map (Value.int IntKind.i64) l)) = List.map (Value.int IntKind.i64) (List.take l.length (List.drop (0 : Nat) (intsOf (List.map (Value.int IntKind.i64) l)))) ∧ (0 : Nat) + l.length ≤ (List.map (Value.int IntKind.i64) l).length ∧ true = true) ∧ ((0 : Int) < (Arg.plain (vi p)).num ∧ (Arg.plain (vi p)).num ≤ (8 : Int)) ∧ (0 : Nat) < (List.take l.length (List.drop (0 : Nat) (intsOf (List.map (Value.int IntKind.i64) l)))).length ∧ (∀ (x : Int), x ∈ List.take l.length (List.drop (0 : Nat) (intsOf (List.map (Value.int IntKind.i64) l))) → (0 : Int) ≤ x ∧ x < (Arg.plain (vi p)).num) ∧ (List.take l.length (List.drop (0 : Nat) (intsOf (List.map (Value.int IntKind.i64) l)))).length ≤ (13 : Nat)) ∧ ((∃ (y : Nat), Ob ((↑y : Int) ≤ p ∧ fullTo p l y = []) ∧ (Ob (AObj.ro (List.map (Value.int IntKind.i64) l) = AObj.ro (List.map (nmap1 fun (b : Nat) ↦ b) (List.map (Value.int IntKind.i64) l)) ∧ AObj.sc (2 : Nat) (AObj.ro (List.map (Value.int IntKind.i64) l)) = true) ∧ Ob (AObj.rw (List.map (Value.int IntKind.i64) (lieOf (Arg.plain (vi p)).num (List.take l.length (List.drop (0 : Nat) (intsOf (List.map (Value.int IntKind.i64) l))))).fst) (some (1 : Nat)) = AObj.rw (List.map (nmap1 fun (b : Nat) ↦ b) (List.map (Value.int IntKind.i64) (lieOf p l).fst)) (some (1 : Nat)) ∧ AObj.sc (2 : Nat) (AObj.rw (List.map (Value.int IntKind.i64) (lieOf p l).fst) (some (1 : Nat))) = true) ∧ True) ∧ Ob (p = p) ∧ Ob (Value.slice (some (ad0 0)) l.length c = Value.slice (some (ad0 0)) l.length c) ∧ Ob (Value.slice (some { block := (1 : Nat), off := (0 : Nat), spot := some (0 : Nat) }) (lieOf (Arg.plain (vi p)).num (List.take l.length (List.drop (0 : Nat) (intsOf (List.map (Value.int IntKind.i64) l))))).fst.length (0 : Nat) = Value.slice (some { block := (1 : Nat), off := (0 : Nat), spot := some (0 : Nat) }) (lieOf p l).fst.length (0 : Nat)) ∧ Ob (Value.slice none (0 : Nat) (0 : Nat) = Value.slice none (0 : Nat) (0 : Nat)) ∧ Ob ((0 : Int) = (↑y : Int)) ∧ True) ∨ ∃ (y : Nat), Ob ((↑y : Int) ≤ p) ∧ (Ob (AObj.ro (List.map (Value.int IntKind.i64) l) = AObj.ro (List.map (nmap1 fun (b : Nat) ↦ b) (List.map (Value.int IntKind.i64) l)) ∧ AObj.sc (3 : Nat) (AObj.ro (List.map (Value.int IntKind.i64) l)) = true) ∧ Ob (AObj.rw (List.map (Value.int IntKind.i64) (lieOf (Arg.plain (vi p)).num (List.take l.length (List.drop (0 : Nat) (intsOf (List.map (Value.int IntKind.i64) l))))).fst) (some (1 : Nat)) = AObj.rw (List.map (nmap1 fun (b : Nat) ↦ b) (List.map (Value.int IntKind.i64) (lieOf p l).fst)) (some (1 : Nat)) ∧ AObj.sc (3 : Nat) (AObj.rw (List.map (Value.int IntKind.i64) (lieOf p l).fst) (some (1 : Nat))) = true) ∧ False) ∧ Ob (p = p) ∧ Ob (Value.slice (some (ad0 0)) l.length c = Value.slice (some (ad0 0)) l.length c) ∧ Ob (Value.slice (some { block := (1 : Nat), off := (0 : Nat), spot := some (0 : Nat) }) (lieOf (Arg.plain (vi p)).num (List.take l.length (List.drop (0 : Nat) (intsOf (List.map (Value.int IntKind.i64) l))))).fst.length (0 : Nat) = Value.slice (some { block := (1 : Nat), off := (0 : Nat), spot := some (0 : Nat) }) (lieOf p l).fst.length (0 : Nat)) ∧ Ob (Value.slice none (0 : Nat) (0 : Nat) = Value.slice (some { block := (2 : Nat), off := (0 : Nat), spot := some (0 : Nat) }) (fullTo p l y).length (0 : Nat)) ∧ Ob ((0 : Int) = (↑y : Int)) ∧ True) ∧ (∀ (x : Nat), Ob ((↑x : Int) ≤ p ∧ fullTo p l x = []) → (decide ((↑x : Int) < p) = true → Ob ((List.take (lieOf p l).fst.length (List.drop (0 : Nat) (List.map (Value.int IntKind.i64) (lieOf p l).fst)) = List.map (Value.int IntKind.i64) (List.take (lieOf p l).fst.length (List.drop (0 : Nat) (intsOf (List.map (Value.int IntKind.i64) (lieOf p l).fst)))) ∧ (0 : Nat) + (lieOf p l).fst.length ≤ (List.map (Value.int IntKind.i64) (lieOf p l).fst).length ∧ true = true) ∧ (List.take (lieOf p l).fst.length (List.drop (0 : Nat) (intsOf (List.map (Value.int IntKind.i64) (lieOf p l).fst)))).length < (1000000 : Nat)) ∧ (decide ((↑x : Int) ∈ List.take (lieOf p l).fst.length (List.drop (0 : Nat) (intsOf (List.map (Value.int IntKind.i64) (lieOf p l).fst)))) = true → Ob (andP (some ((0 : Nat) + (1 : Nat) ≤ (1 : Nat) ∧ true = true)) ((1 : Nat) ≤ (1099511627776 : Nat) ∧ (2064 : Nat) ≤ (281474976710656 : Nat) ∧ (1 : Nat) = (1 : Nat) ∧ (0 : Nat) = (0 : Nat) ∧ (0 : Nat) < (1 : Nat))) ∧ ((∃ (y : Nat), Ob ((↑y : Int) ≤ p ∧ fullTo p l y = []) ∧ Ob ((p - (↑y : Int)).toNat < (p - (↑x : Int)).toNat) ∧ (Ob (AObj.ro (List.map (Value.int IntKind.i64) l) = AObj.ro (List.map (nmap1 fun (b : Nat) ↦ b) (List.map (Value.int IntKind.i64) l)) ∧ AObj.sc (2 : Nat) (AObj.ro (List.map (Value.int IntKind.i64) l)) = true) ∧ Ob (AObj.rw (List.map (Value.int IntKind.i64) (lieOf p l).fst) (some (1 : Nat)) = AObj.rw (List.map (nmap1 fun (b : Nat) ↦ b) (List.map (Value.int IntKind.i64) (lieOf p l).fst)) (some (1 : Nat)) ∧ AObj.sc (2 : Nat) (AObj.rw (List.map (Value.int IntKind.i64) (lieOf p l).fst) (some (1 : Nat))) = true) ∧ True) ∧ Ob (p = p) ∧ Ob (Value.slice (some (ad0 0)) l.length c = Value.slice (some (ad0 0)) l.length c) ∧ Ob (Value.slice (some { block := (1 : Nat), off := (0 : Nat), spot := some (0 : Nat) }) (lieOf p l).fst.length (0 : Nat) = Value.slice (some { block := (1 : Nat), off := (0 : Nat), spot := some (0 : Nat) }) (lieOf p l).fst.length (0 : Nat)) ∧ Ob (Value.slice (some { block := (3 : Nat), off := (0 : Nat), spot := some (0 : Nat) }) (1 : Nat) (0 : Nat) = Value.slice none (0 : Nat) (0 : Nat)) ∧ Ob (IntKind.i64.wrap ((↑x : Int) + (1 : Int)) = (↑y : Int)) ∧ True) ∨ ∃ (y : Nat), Ob ((↑y : Int) ≤ p) ∧ Ob ((p - (↑y : Int)).toNat < (p - (↑x : Int)).toNat) ∧ (Ob (AObj.ro (List.map (Value.int IntKind.i64) l) = AObj.ro (List.map (nmap1 (nsub (2 : Nat) (3 : Nat))) (List.map (Value.int IntKind.i64) l)) ∧ AObj.sc (3 : Nat) (AObj.ro (List.map (Value.int IntKind.i64) l)) = true) ∧ Ob (AObj.rw (List.map (Value.int IntKind.i64) (lieOf p l).fst) (some (1 : Nat)) = AObj.rw (List.map (nmap1 (nsub (2 : Nat) (3 : Nat))) (List.map (Value.int IntKind.i64) (lieOf p l).fst)) (some (1 : Nat)) ∧ AObj.sc (3 : Nat) (AObj.rw (List.map (Value.int IntKind.i64) (lieOf p l).fst) (some (1 : Nat))) = true) ∧ Ob (AObj.rw [vi (↑x : Int)] (some (1 : Nat)) = AObj.rw (List.map (nmap1 (nsub (2 : Nat) (3 : Nat))) (List.map (Value.int IntKind.i64) (fullTo p l y))) (some (1 : Nat)) ∧ AObj.sc (3 : Nat) (AObj.rw (List.map (Value.int IntKind.i64) (fullTo p l y)) (some (1 : Nat))) = true) ∧ True) ∧ Ob (p = p) ∧ Ob (Value.slice (some (ad0 0)) l.length c = Value.slice (some (ad0 0)) l.length c) ∧ Ob (Value.slice (some { block := (1 : Nat), off := (0 : Nat), spot := some (0 : Nat) }) (lieOf p l).fst.length (0 : Nat) = Value.slice (some { block := (1 : Nat), off := (0 : Nat), spot := some (0 : Nat) }) (lieOf p l).fst.length (0 : Nat)) ∧ Ob (Value.slice (some { block := (3 : Nat), off := (0 : Nat), spot := some (0 : Nat) }) (1 : Nat) (0 : Nat) = Value.slice (some { block := (3 : Nat), off := (0 : Nat), spot := some (0 : Nat) }) (fullTo p l y).length (0 : Nat)) ∧ Ob (IntKind.i64.wrap ((↑x : Int) + (1 : Int)) = (↑y : Int)) ∧ True)) ∧ (decide ((↑x : Int) ∈ List.take (lieOf p l).fst.length (List.drop (0 : Nat) (intsOf (List.map (Value.int IntKind.i64) (lieOf p l).fst)))) = false → (∃ (y : Nat), Ob ((↑y : Int) ≤ p ∧ fullTo p l y = []) ∧ Ob ((p - (↑y : Int)).toNat < (p - (↑x : Int)).toNat) ∧ (Ob (AObj.ro (List.map (Value.int IntKind.i64) l) = AObj.ro (List.map (nmap1 fun (b : Nat) ↦ b) (List.map (Value.int IntKind.i64) l)) ∧ AObj.sc (2 : Nat) (AObj.ro (List.map (Value.int IntKind.i64) l)) = true) ∧ Ob (AObj.rw (List.map (Value.int IntKind.i64) (lieOf p l).fst) (some (1 : Nat)) = AObj.rw (List.map (nmap1 fun (b : Nat) ↦ b) (List.map (Value.int IntKind.i64) (lieOf p l).fst)) (some (1 : Nat)) ∧ AObj.sc (2 : Nat) (AObj.rw (List.map (Value.int IntKind.i64) (lieOf p l).fst) (some (1 : Nat))) = true) ∧ True) ∧ Ob (p = p) ∧ Ob (Value.slice (some (ad0 0)) l.length c = Value.slice (some (ad0 0)) l.length c) ∧ Ob (Value.slice (some { block := (1 : Nat), off := (0 : Nat), spot := some (0 : Nat) }) (lieOf p l).fst.length (0 : Nat) = Value.slice (some { block := (1 : Nat), off := (0 : Nat), spot := some (0 : Nat) }) (lieOf p l).fst.length (0 : Nat)) ∧ Ob (Value.slice none (0 : Nat) (0 : Nat) = Value.slice none (0 : Nat) (0 : Nat)) ∧ Ob (IntKind.i64.wrap ((↑x : Int) + (1 : Int)) = (↑y : Int)) ∧ True) ∨ ∃ (y : Nat), Ob ((↑y : Int) ≤ p) ∧ Ob ((p - (↑y : Int)).toNat < (p - (↑x : Int)).toNat) ∧ (Ob (AObj.ro (List.map (Value.int IntKind.i64) l) = AObj.ro (List.map (nmap1 (nsub (2 : Nat) (3 : Nat))) (List.map (Value.int IntKind.i64) l)) ∧ AObj.sc (3 : Nat) (AObj.ro (List.map (Value.int IntKind.i64) l)) = true) ∧ Ob (AObj.rw (List.map (Value.int IntKind.i64) (lieOf p l).fst) (some (1 : Nat)) = AObj.rw (List.map (nmap1 (nsub (2 : Nat) (3 : Nat))) (List.map (Value.int IntKind.i64) (lieOf p l).fst)) (some (1 : Nat)) ∧ AObj.sc (3 : Nat) (AObj.rw (List.map (Value.int IntKind.i64) (lieOf p l).fst) (some (1 : Nat))) = true) ∧ False) ∧ Ob (p = p) ∧ Ob (Value.slice (some (ad0 0)) l.length c = Value.slice (some (ad0 0)) l.length c) ∧ Ob (Value.slice (some { block := (1 : Nat), off := (0 : Nat), spot := some (0 : Nat) }) (lieOf p l).fst.length (0 : Nat) = Value.slice (some { block := (1 : Nat), off := (0 : Nat), spot := some (0 : Nat) }) (lieOf p l).fst.length (0 : Nat)) ∧ Ob (Value.slice none (0 : Nat) (0 : Nat) = Value.slice (some { block := (3 : Nat), off := (0 : Nat), spot := some (0 : Nat) }) (fullTo p l y).length (0 : Nat)) ∧ Ob (IntKind.i64.wrap ((↑x : Int) + (1 : Int)) = (↑y : Int)) ∧ True)) ∧ (decide ((↑x : Int) < p) = false → True ∧ Ob (Value.tuple { toList := [Value.slice none (0 : Nat) (0 : Nat), vi (IntKind.i64.wrap ((↑l.length : Int) - (↑(0 : Nat) : Int)))] } = Value.tuple { toList := [Value.slice none (0 : Nat) (0 : Nat), vi (↑l.length : Int)] } ∧ fullTo p l p.toNat = [] ∨ Value.tuple { toList := [Value.slice none (0 : Nat) (0 : Nat), vi (IntKind.i64.wrap ((↑l.length : Int) - (↑(0 : Nat) : Int)))] } = Value.tuple { toList := [Value.slice (some { block := (2 : Nat), off := (0 : Nat), spot := some (0 : Nat) }) (fullTo p l p.toNat).length (0 : Nat), vi ((↑l.length : Int) - (↑(fullTo p l p.toNat).length : Int))] } ∧ [AObj.ro (List.map (Value.int IntKind.i64) l), AObj.rw (List.map (Value.int IntKind.i64) (lieOf p l).fst) (some (1 : Nat))] = [AObj.ro (List.map (Value.int IntKind.i64) l), AObj.rw (List.map (Value.int IntKind.i64) (lieOf p l).fst) (some (1 : Nat)), AObj.rw (List.map (Value.int IntKind.i64) (fullTo p l p.toNat)) (some (1 : Nat))]))) ∧ ∀ (x : Nat), Ob ((↑x : Int) ≤ p) → (decide ((↑x : Int) < p) = true → Ob ((List.take (lieOf p l).fst.length (List.drop (0 : Nat) (List.map (Value.int IntKind.i64) (lieOf p l).fst)) = List.map (Value.int IntKind.i64) (List.take (lieOf p l).fst.length (List.drop (0 : Nat) (intsOf (List.map (Value.int IntKind.i64) (lieOf p l).fst)))) ∧ (0 : Nat) + (lieOf p l).fst.length ≤ (List.map (Value.int IntKind.i64) (lieOf p l).fst).length ∧ true = true) ∧ (List.take (lieOf p l).fst.length (List.drop (0 : Nat) (intsOf (List.map (Value.int IntKind.i64) (lieOf p l).fst)))).length < (1000000 : Nat)) ∧ (decide ((↑x : Int) ∈ List.take (lieOf p l).fst.length (List.drop (0 : Nat) (intsOf (List.map (Value.int IntKind.i64) (lieOf p l).fst)))) = true → Ob (andP (some ((0 : Nat) + (1 : Nat) ≤ (1 : Nat) ∧ true = true)) ((fullTo p l x).length + (1 : Nat) ≤ (1099511627776 : Nat) ∧ ((2 : Nat) * ((fullTo p l x).length + (1 : Nat)) + (256 : Nat)) * (8 : Nat) ≤ (281474976710656 : Nat) ∧ (1 : Nat) = (1 : Nat) ∧ (List.map (Value.int IntKind.i64) (fullTo p l x)).length = (fullTo p l x).length * (1 : Nat))) ∧ (((∃ (y : Nat), Ob ((↑y : Int) ≤ p ∧ fullTo p l y = []) ∧ Ob ((p - (↑y : Int)).toNat < (p - (↑x : Int)).toNat) ∧ (Ob (AObj.ro (List.map (Value.int IntKind.i64) l) = AObj.ro (List.map (nmap1 fun (b : Nat) ↦ b) (List.map (Value.int IntKind.i64) l)) ∧ AObj.sc (2 : Nat) (AObj.ro (List.map (Value.int IntKind.i64) l)) = true) ∧ Ob (AObj.rw (List.map (Value.int IntKind.i64) (lieOf p l).fst) (some (1 : Nat)) = AObj.rw (List.map (nmap1 fun (b : Nat) ↦ b) (List.map (Value.int IntKind.i64) (lieOf p l).fst)) (some (1 : Nat)) ∧ AObj.sc (2 : Nat) (AObj.rw (List.map (Value.int IntKind.i64) (lieOf p l).fst) (some (1 : Nat))) = true) ∧ True) ∧ Ob (p = p) ∧ Ob (Value.slice (some (ad0 0)) l.length c = Value.slice (some (ad0 0)) l.length c) ∧ Ob (Value.slice (some { block := (1 : Nat), off := (0 : Nat), spot := some (0 : Nat) }) (lieOf p l).fst.length (0 : Nat) = Value.slice (some { block := (1 : Nat), off := (0 : Nat), spot := some (0 : Nat) }) (lieOf p l).fst.length (0 : Nat)) ∧ Ob (Value.slice (some { block := (4 : Nat), off := (0 : Nat), spot := some (0 : Nat) }) ((fullTo p l x).length + (1 : Nat)) (0 : Nat) = Value.slice none (0 : Nat) (0 : Nat)) ∧ Ob (IntKind.i64.wrap ((↑x : Int) + (1 : Int)) = (↑y : Int)) ∧ True) ∨ ∃ (y : Nat), Ob ((↑y : Int) ≤ p ∧ fullTo p l y = []) ∧ Ob ((p - (↑y : Int)).toNat < (p - (↑x : Int)).toNat) ∧ (Ob (AObj.ro (List.map (Value.int IntKind.i64) l) = AObj.ro (List.map (nmap1 (nsub (2 : Nat) (4 : Nat))) (List.map (Value.int IntKind.i64) l)) ∧ AObj.sc (2 : Nat) (AObj.ro (List.map (Value.int IntKind.i64) l)) = true) ∧ Ob (AObj.rw (List.map (Value.int IntKind.i64) (lieOf p l).fst) (some (1 : Nat)) = AObj.rw (List.map (nmap1 (nsub (2 : Nat) (4 : Nat))) (List.map (Value.int IntKind.i64) (lieOf p l).fst)) (some (1 : Nat)) ∧ AObj.sc (2 : Nat) (AObj.rw (List.map (Value.int IntKind.i64) (lieOf p l).fst) (some (1 : Nat))) = true) ∧ True) ∧ Ob (p = p) ∧ Ob (Value.slice (some (ad0 0)) l.length c = Value.slice (some (ad0 0)) l.length c) ∧ Ob (Value.slice (some { block := (1 : Nat), off := (0 : Nat), spot := some (0 : Nat) }) (lieOf p l).fst.length (0 : Nat) = Value.slice (some { block := (1 : Nat), off := (0 : Nat), spot := some (0 : Nat) }) (lieOf p l).fst.length (0 : Nat)) ∧ Ob (Value.slice (some { block := (4 : Nat), off := (0 : Nat), spot := some (0 : Nat) }) ((fullTo p l x).length + (1 : Nat)) (0 : Nat) = Value.slice none (0 : Nat) (0 : Nat)) ∧ Ob (IntKind.i64.wrap ((↑x : Int) + (1 : Int)) = (↑y : Int)) ∧ True) ∨ (∃ (y : Nat), Ob ((↑y : Int) ≤ p) ∧ Ob ((p - (↑y : Int)).toNat < (p - (↑x : Int)).toNat) ∧ (Ob (AObj.ro (List.map (Value.int IntKind.i64) l) = AObj.ro (List.map (nmap1 fun (b : Nat) ↦ b) (List.map (Value.int IntKind.i64) l)) ∧ AObj.sc (3 : Nat) (AObj.ro (List.map (Value.int IntKind.i64) l)) = true) ∧ Ob (AObj.rw (List.map (Value.int IntKind.i64) (lieOf p l).fst) (some (1 : Nat)) = AObj.rw (List.map (nmap1 fun (b : Nat) ↦ b) (List.map (Value.int IntKind.i64) (lieOf p l).fst)) (some (1 : Nat)) ∧ AObj.sc (3 : Nat) (AObj.rw (List.map (Value.int IntKind.i64) (lieOf p l).fst) (some (1 : Nat))) = true) ∧ Ob (AObj.gone = AObj.rw (List.map (nmap1 fun (b : Nat) ↦ b) (List.map (Value.int IntKind.i64) (fullTo p l y))) (some (1 : Nat)) ∧ AObj.sc (3 : Nat) (AObj.rw (List.map (Value.int IntKind.i64) (fullTo p l y)) (some (1 : Nat))) = true) ∧ True) ∧ Ob (p = p) ∧ Ob (Value.slice (some (ad0 0)) l.length c = Value.slice (some (ad0 0)) l.length c) ∧ Ob (Value.slice (some { block := (1 : Nat), off := (0 : Nat), spot := some (0 : Nat) }) (lieOf p l).fst.length (0 : Nat) = Value.slice (some { block := (1 : Nat), off := (0 : Nat), spot := some (0 : Nat) }) (lieOf p l).fst.length (0 : Nat)) ∧ Ob (Value.slice (some { block := (4 : Nat), off := (0 : Nat), spot := some (0 : Nat) }) ((fullTo p l x).length + (1 : Nat)) (0 : Nat) = Value.slice (some { block := (2 : Nat), off := (0 : Nat), spot := some (0 : Nat) }) (fullTo p l y).length (0 : Nat)) ∧ Ob (IntKind.i64.wrap ((↑x : Int) + (1 : Int)) = (↑y : Int)) ∧ True) ∨ ∃ (y : Nat), Ob ((↑y : Int) ≤ p) ∧ Ob ((p - (↑y : Int)).toNat < (p - (↑x : Int)).toNat) ∧ (Ob (AObj.ro (List.map (Value.int IntKind.i64) l) = AObj.ro (List.map (nmap1 (nsub (2 : Nat) (4 : Nat))) (List.map (Value.int IntKind.i64) l)) ∧ AObj.sc (3 : Nat) (AObj.ro (List.map (Value.int IntKind.i64) l)) = true) ∧ Ob (AObj.rw (List.map (Value.int IntKind.i64) (lieOf p l).fst) (some (1 : Nat)) = AObj.rw (List.map (nmap1 (nsub (2 : Nat) (4 : Nat))) (List.map (Value.int IntKind.i64) (lieOf p l).fst)) (some (1 : Nat)) ∧ AObj.sc (3 : Nat) (AObj.rw (List.map (Value.int IntKind.i64) (lieOf p l).fst) (some (1 : Nat))) = true) ∧ Ob (AObj.rw (List.map (Value.int IntKind.i64) (fullTo p l x) ++ [vi (↑x : Int)]) (some (1 : Nat)) = AObj.rw (List.map (nmap1 (nsub (2 : Nat) (4 : Nat))) (List.map (Value.int IntKind.i64) (fullTo p l y))) (some (1 : Nat)) ∧ AObj.sc (3 : Nat) (AObj.rw (List.map (Value.int IntKind.i64) (fullTo p l y)) (some (1 : Nat))) = true) ∧ True) ∧ Ob (p = p) ∧ Ob (Value.slice (some (ad0 0)) l.length c = Value.slice (some (ad0 0)) l.length c) ∧ Ob (Value.slice (some { block := (1 : Nat), off := (0 : Nat), spot := some (0 : Nat) }) (lieOf p l).fst.length (0 : Nat) = Value.slice (some { block := (1 : Nat), off := (0 : Nat), spot := some (0 : Nat) }) (lieOf p l).fst.length (0 : Nat)) ∧ Ob (Value.slice (some { block := (4 : Nat), off := (0 : Nat), spot := some (0 : Nat) }) ((fullTo p l x).length + (1 : Nat)) (0 : Nat) = Value.slice (some { block := (4 : Nat), off := (0 : Nat), spot := some (0 : Nat) }) (fullTo p l y).length (0 : Nat)) ∧ Ob (IntKind.i64.wrap ((↑x : Int) + (1 : Int)) = (↑y : Int)) ∧ True)) ∧ (decide ((↑x : Int) ∈ List.take (lieOf p l).fst.length (List.drop (0 : Nat) (intsOf (List.map (Value.int IntKind.i64) (lieOf p l).fst)))) = false → ((∃ (y : Nat), Ob ((↑y : Int) ≤ p ∧ fullTo p l y = []) ∧ Ob ((p - (↑y : Int)).toNat < (p - (↑x : Int)).toNat) ∧ (Ob (AObj.ro (List.map (Value.int IntKind.i64) l) = AObj.ro (List.map (nmap1 fun (b : Nat) ↦ b) (List.map (Value.int IntKind.i64) l)) ∧ AObj.sc (2 : Nat) (AObj.ro (List.map (Value.int IntKind.i64) l)) = true) ∧ Ob (AObj.rw (List.map (Value.int IntKind.i64) (lieOf p l).fst) (some (1 : Nat)) = AObj.rw (List.map (nmap1 fun (b : Nat) ↦ b) (List.map (Value.int IntKind.i64) (lieOf p l).fst)) (some (1 : Nat)) ∧ AObj.sc (2 : Nat) (AObj.rw (List.map (Value.int IntKind.i64) (lieOf p l).fst) (some (1 : Nat))) = true) ∧ True) ∧ Ob (p = p) ∧ Ob (Value.slice (some (ad0 0)) l.length c = Value.slice (some (ad0 0)) l.length c) ∧ Ob (Value.slice (some { block := (1 : Nat), off := (0 : Nat), spot := some (0 : Nat) }) (lieOf p l).fst.length (0 : Nat) = Value.slice (some { block := (1 : Nat), off := (0 : Nat), spot := some (0 : Nat) }) (lieOf p l).fst.length (0 : Nat)) ∧ Ob (Value.slice (some { block := (2 : Nat), off := (0 : Nat), spot := some (0 : Nat) }) (fullTo p l x).length (0 : Nat) = Value.slice none (0 : Nat) (0 : Nat)) ∧ Ob (IntKind.i64.wrap ((↑x : Int) + (1 : Int)) = (↑y : Int)) ∧ True) ∨ ∃ (y : Nat), Ob ((↑y : Int) ≤ p ∧ fullTo p l y = []) ∧ Ob ((p - (↑y : Int)).toNat < (p - (↑x : Int)).toNat) ∧ (Ob (AObj.ro (List.map (Value.int IntKind.i64) l) = AObj.ro (List.map (nmap1 (nsub (2 : Nat) (4 : Nat))) (List.map (Value.int IntKind.i64) l)) ∧ AObj.sc (2 : Nat) (AObj.ro (List.map (Value.int IntKind.i64) l)) = true) ∧ Ob (AObj.rw (List.map (Value.int IntKind.i64) (lieOf p l).fst) (some (1 : Nat)) = AObj.rw (List.map (nmap1 (nsub (2 : Nat) (4 : Nat))) (List.map (Value.int IntKind.i64) (lieOf p l).fst)) (some (1 : Nat)) ∧ AObj.sc (2 : Nat) (AObj.rw (List.map (Value.int IntKind.i64) (lieOf p l).fst) (some (1 : Nat))) = true) ∧ True) ∧ Ob (p = p) ∧ Ob (Value.slice (some (ad0 0)) l.length c = Value.slice (some (ad0 0)) l.length c) ∧ Ob (Value.slice (some { block := (1 : Nat), off := (0 : Nat), spot := some (0 : Nat) }) (lieOf p l).fst.length (0 : Nat) = Value.slice (some { block := (1 : Nat), off := (0 : Nat), spot := some (0 : Nat) }) (lieOf p l).fst.length (0 : Nat)) ∧ Ob (Value.slice (some { block := (2 : Nat), off := (0 : Nat), spot := some (0 : Nat) }) (fullTo p l x).length (0 : Nat) = Value.slice none (0 : Nat) (0 : Nat)) ∧ Ob (IntKind.i64.wrap ((↑x : Int) + (1 : Int)) = (↑y : Int)) ∧ True) ∨ (∃ (y : Nat), Ob ((↑y : Int) ≤ p) ∧ Ob ((p - (↑y : Int)).toNat < (p - (↑x : Int)).toNat) ∧ (Ob (AObj.ro (List.map (Value.int IntKind.i64) l) = AObj.ro (List.map (nmap1 fun (b : Nat) ↦ b) (List.map (Value.int IntKind.i64) l)) ∧ AObj.sc (3 : Nat) (AObj.ro (List.map (Value.int IntKind.i64) l)) = true) ∧ Ob (AObj.rw (List.map (Value.int IntKind.i64) (lieOf p l).fst) (some (1 : Nat)) = AObj.rw (List.map (nmap1 fun (b : Nat) ↦ b) (List.map (Value.int IntKind.i64) (lieOf p l).fst)) (some (1 : Nat)) ∧ AObj.sc (3 : Nat) (AObj.rw (List.map (Value.int IntKind.i64) (lieOf p l).fst) (some (1 : Nat))) = true) ∧ Ob (AObj.rw (List.map (Value.int IntKind.i64) (fullTo p l x)) (some (1 : Nat)) = AObj.rw (List.map (nmap1 fun (b : Nat) ↦ b) (List.map (Value.int IntKind.i64) (fullTo p l y))) (some (1 : Nat)) ∧ AObj.sc (3 : Nat) (AObj.rw (List.map (Value.int IntKind.i64) (fullTo p l y)) (some (1 : Nat))) = true) ∧ True) ∧ Ob (p = p) ∧ Ob (Value.slice (some (ad0 0)) l.length c = Value.slice (some (ad0 0)) l.length c) ∧ Ob (Value.slice (some { block := (1 : Nat), off := (0 : Nat), spot := some (0 : Nat) }) (lieOf p l).fst.length (0 : Nat) = Value.slice (some { block := (1 : Nat), off := (0 : Nat), spot := some (0 : Nat) }) (lieOf p l).fst.length (0 : Nat)) ∧ Ob (Value.slice (some { block := (2 : Nat), off := (0 : Nat), spot := some (0 : Nat) }) (fullTo p l x).length (0 : Nat) = Value.slice (some { block := (2 : Nat), off := (0 : Nat), spot := some (0 : Nat) }) (fullTo p l y).length (0 : Nat)) ∧ Ob (IntKind.i64.wrap ((↑x : Int) + (1 : Int)) = (↑y : Int)) ∧ True) ∨ ∃ (y : Nat), Ob ((↑y : Int) ≤ p) ∧ Ob ((p - (↑y : Int)).toNat < (p - (↑x : Int)).toNat) ∧ (Ob (AObj.ro (List.map (Value.int IntKind.i64) l) = AObj.ro (List.map (nmap1 (nsub (2 : Nat) (4 : Nat))) (List.map (Value.int IntKind.i64) l)) ∧ AObj.sc (3 : Nat) (AObj.ro (List.map (Value.int IntKind.i64) l)) = true) ∧ Ob (AObj.rw (List.map (Value.int IntKind.i64) (lieOf p l).fst) (some (1 : Nat)) = AObj.rw (List.map (nmap1 (nsub (2 : Nat) (4 : Nat))) (List.map (Value.int IntKind.i64) (lieOf p l).fst)) (some (1 : Nat)) ∧ AObj.sc (3 : Nat) (AObj.rw (List.map (Value.int IntKind.i64) (lieOf p l).fst) (some (1 : Nat))) = true) ∧ False) ∧ Ob (p = p) ∧ Ob (Value.slice (some (ad0 0)) l.length c = Value.slice (some (ad0 0)) l.length c) ∧ Ob (Value.slice (some { block := (1 : Nat), off := (0 : Nat), spot := some (0 : Nat) }) (lieOf p l).fst.length (0 : Nat) = Value.slice (some { block := (1 : Nat), off := (0 : Nat), spot := some (0 : Nat) }) (lieOf p l).fst.length (0 : Nat)) ∧ Ob (Value.slice (some { block := (2 : Nat), off := (0 : Nat), spot := some (0 : Nat) }) (fullTo p l x).length (0 : Nat) = Value.slice (some { block := (4 : Nat), off := (0 : Nat), spot := some (0 : Nat) }) (fullTo p l y).length (0 : Nat)) ∧ Ob (IntKind.i64.wrap ((↑x : Int) + (1 : Int)) = (↑y : Int)) ∧ True)) ∧ (decide ((↑x : Int) < p) = false → True ∧ Ob (Value.tuple { toList := [Value.slice (some { block := (2 : Nat), off := (0 : Nat), spot := some (0 : Nat) }) (fullTo p l x).length (0 : Nat), vi (IntKind.i64.wrap ((↑l.length : Int) - (↑(fullTo p l x).length : Int)))] } = Value.tuple { toList := [Value.slice none (0 : Nat) (0 : Nat), vi (↑l.length : Int)] } ∧ fullTo p l p.toNat = [] ∨ Value.tuple { toList := [Value.slice (some { block := (2 : Nat), off := (0 : Nat), spot := some (0 : Nat) }) (fullTo p l x).length (0 : Nat), vi (IntKind.i64.wrap ((↑l.length : Int) - (↑(fullTo p l x).length : Int)))] } = Value.tuple { toList := [Value.slice (some { block := (2 : Nat), off := (0 : Nat), spot := some (0 : Nat) }) (fullTo p l p.toNat).length (0 : Nat), vi ((↑l.length : Int) - (↑(fullTo p l p.toNat).length : Int))] } ∧ [AObj.ro (List.map (Value.int IntKind.i64) l), AObj.rw (List.map (Value.int IntKind.i64) (lieOf p l).fst) (some (1 : Nat)), AObj.rw (List.map (Value.int IntKind.i64) (fullTo p l x)) (some (1 : Nat))] = [AObj.ro (List.map (Value.int IntKind.i64) l), AObj.rw (List.map (Value.int IntKind.i64) (lieOf p l).fst) (some (1 : Nat)), AObj.rw (List.map (Value.int IntKind.i64) (fullTo p l p.toNat)) (some (1 : Nat))]))
theorem foV_eq : foV = fun (p : Int) (l : List Int) (c : Nat) => vc Try.prog { ct := fullRT } 1 34 true (fullRI p l c) fullRB [] (argFr 0 [vi p, .slice (some ⟨0,0,none⟩) l.length c]) [ros l] (retK Try.prog Try.f53 (fun v H1 => (v = .tuple #[.slice none 0 0, vi l.length] ∧ fullTo p l p.toNat = []) ∨ (v = .tuple #[.slice (some ⟨2,0,some 0⟩) (fullTo p l p.toNat).length 0, vi (l.length - (fullTo p l p.toNat).length)] ∧ H1 = [ros l, rws (lieOf p l).1, rws (fullTo p l p.toNat)]))) := by kernel_rfl


theorem fullTo_len (p : Int) (l : List Int) : ∀ i : Nat, (fullTo p l i).length ≤ i
  | 0 => Nat.le_refl _
  | i + 1 => by
    have := fullTo_len p l i
    unfold fullTo
    split
    · simp; omega
    · omega
theorem foV_ok (p : Int) (l : List Int) (c : Nat) (hp : 0 < p ∧ p ≤ 8) (hl : 0 < l.length) (hb : ∀ x ∈ l, 0 ≤ x ∧ x < p) (hlen : l.length ≤ 13) : foV p l c := by
  unfold foV
  simp only [ob_iff, sl_id, sl_cells, Arg.num, map_nmap_int, sc_ro_int, sc_rw_int, getI_map, intAt_map, true_and, and_true, eq_self, Int.toNat_natCast, Nat.zero_add, Nat.mul_one, decide_eq_true_eq, decide_eq_false_iff_not, andP, List.set_cons_zero, List.length_cons, List.length_nil, List.drop_zero, List.take_succ_cons, List.take_zero,
    Value.slice.injEq, Value.tuple.injEq, Option.some.injEq, Addr.mk.injEq, AObj.rw.injEq, List.cons.injEq, reduceCtorEq, List.length_append, List.length_map, false_and, and_false, exists_const, or_false, false_or, true_or, Nat.lt_irrefl, forall_const, true_implies, List.length_set, beq_iff_eq, beq_eq_false_iff_ne, intsOf_map, List.take_length, take_map_len]
  have more : ∀ {x : Nat}, (x : Int) ∈ (lieOf p l).1 → fullTo p l (x + 1) = fullTo p l x ++ [(x : Int)] := fun h => by rw [fullTo, if_pos h]
  have same : ∀ {x : Nat}, ¬ (x : Int) ∈ (lieOf p l).1 → fullTo p l (x + 1) = fullTo p l x := fun h => by rw [fullTo, if_neg h]
  have hlie : (lieOf p l).1.length = l.length := by rw [← lieAt_end (Nat.le_refl _), lieAt_len (Nat.le_refl _)]
  have hw : ∀ {x : Nat}, (x : Int) < p → IntKind.i64.wrap ((x : Int) + 1) = ((x + 1 : Nat) : Int) := fun h => by rw [wrap_in (by omega) (by omega)]; rfl
  refine ⟨⟨by omega, ⟨by omega, by omega⟩, by omega, hb, by omega⟩, ⟨0, ⟨by omega, rfl⟩, rfl⟩, fun x ⟨h1, h2⟩ => ⟨fun h3 => ⟨⟨by omega, by omega⟩, fun h4 => ⟨⟨by omega, by omega, by omega, by omega⟩, x + 1, by omega, by omega, ?_, ?_, hw h3⟩, fun h4 => ⟨x + 1, ⟨by omega, ?_⟩, by omega, hw h3⟩⟩, fun h3 => ?_⟩,
    fun x h1 => ⟨fun h3 => ⟨⟨by omega, by omega⟩, fun h4 => ⟨⟨by omega, ?_, ?_⟩, x + 1, by omega, by omega, ?_, ?_, hw h3⟩, fun h4 => ⟨x + 1, by omega, by omega, ?_, ?_, hw h3⟩⟩, fun h3 => ?_⟩⟩
  · rw [more h4, h2]; rfl
  · rw [more h4, h2]; rfl
  · rw [same h4, h2]
  · obtain rfl : p.toNat = x := by omega
    refine ⟨?_, h2⟩
    rw [wrap_in (by omega) (by omega)]
    simp
  · have := fullTo_len p l x; omega
  · have := fullTo_len p l x; omega
  · rw [more h4, List.map_append]; rfl
  · rw [more h4, List.length_append]; rfl
  · rw [same h4]
  · rw [same h4]
  · obtain rfl : p.toNat = x := by omega
    right
    have := fullTo_len p l p.toNat
    rw [wrap_in (by omega) (by omega)]
    exact ⟨rfl, rfl⟩
theorem fullRT_ok (hlie : ∀ args H φ v H' l, newG [.int .i64, .ints .i64] lieRS args H = some (φ, v, H', l) → Asks φ → Call Try.prog 50 args H (fun v' H2 => v' = v ∧ H2 = H') ∧ Kept H H' l) : CtOk Try.prog fullRT := (CtOk.none.add hasG_ok).add hlie
theorem lieRG_ok : ∀ args H φ v H' l, newG [.int .i64, .ints .i64] lieRS args H = some (φ, v, H', l) → Asks φ → Call Try.prog 50 args H (fun v' H2 => v' = v ∧ H2 = H') ∧ Kept H H' l :=
  newG_ok fun r ψ b hk hs hψ => match r, hk with
    | [_, _], ⟨⟨p, rfl⟩, ha, _⟩ => by
      rcases ha with rfl | ⟨s, rfl⟩ | ⟨l, rfl⟩ <;> cases hs
      obtain ⟨h1, h2, h3, h4⟩ := hψ
      refine ⟨rfl, fun caps => (li_call p l _ h1 h2 h3 h4).mono fun v H' h => ⟨?_, h.2⟩⟩
      rw [h.1]
      have hlen : (lieOf p l).1.length = l.length := by rw [← lieAt_end (Nat.le_refl _), lieAt_len (Nat.le_refl _)]
      show _ = Value.tuple [newSlice 1 (lieOf p l).1.length, vi (lieOf p l).2].toArray
      rw [hlen]; rfl
theorem fo_call (p : Int) (l : List Int) (c : Nat) (hp : 0 < p ∧ p ≤ 8) (hl : 0 < l.length) (hb : ∀ x ∈ l, 0 ≤ x ∧ x < p) (hlen : l.length ≤ 13) :
    Call Try.prog 53 [vi p, .slice (some ⟨0,0,none⟩) l.length c] [ros l] fun v H1 => (v = .tuple #[.slice none 0 0, vi l.length] ∧ fullTo p l p.toNat = []) ∨ (v = .tuple #[.slice (some ⟨2,0,some 0⟩) (fullTo p l p.toNat).length 0, vi (l.length - (fullTo p l p.toNat).length)] ∧ H1 = [ros l, rws (lieOf p l).1, rws (fullTo p l p.toNat)]) :=
  Call.ofVc (VOk.ofCt (fullRT_ok lieRG_ok)) mixed (c := fullRB) (inv := fullRI p l c) Try.func53 (by kernel_rfl) (cast (congrFun (congrFun (congrFun foV_eq p) l) c) (foV_ok p l c hp hl hb hlen))

end Go.Pier.Lg

set_option maxRecDepth 100000
set_option linter.unusedVariables false
set_option linter.unusedSimpArgs false
namespace Go.Pier.Lg
open Go Go.Pier Go.Proofs 
noncomputable def rplB : Code := Try.f56.body.getD .skip
noncomputable def rcdB : Code := Try.f24.body.getD .skip
def errPlaces (p : Int) : Int := if p < 1 ∨ 8 < p then 6 else 0
def errDrops (p : Int) (l : List Int) : Int := if p < 1 ∨ 8 < p ∨ 12 < l.length then 6 else if ∀ d ∈ l, 0 ≤ d ∧ d < p then 0 else 3
def rplG : List Value → Heap → Option (Option Prop × Value × Heap × List Nat) := fun args H => match args with
  | [.int .i64 p] => some (none, vi (errPlaces p), H, [])
  | _ => none
noncomputable def rcdT : Ct := Ct.none.add 56 rplG
def rcdI (p : Int) (l : List Int) (c : Nat) : Nat → Option LInv := invOf 0 (.one Nat (fun i => (1 ≤ p ∧ p ≤ 8 ∧ l.length ≤ 12) ∧ i ≤ l.length ∧ ∀ j, j < i → 0 ≤ l.getD j 0 ∧ l.getD j 0 < p) (fun i => [(0, vi p), (1, .slice (some ⟨0,0,none⟩) l.length c), (5, vi i)]) (fun _ => [ros l]) (fun i => l.length - i))
def rcdIE (p : Int) (a : Option Addr) (c : Nat) (H : Heap) : Nat → Option LInv := invOf 0 (.one Unit (fun _ => 1 ≤ p ∧ p ≤ 8) (fun _ => [(0, vi p), (1, .slice a 0 c), (5, vi 0)]) (fun _ => H) (fun _ => 0))
noncomputable def rplV :=
fun (p : Int) ↦ (decide (p < (1 : Int)) = false → (decide ((8 : Int) < p) = true → True ∧ Ob (vi (6 : Int) = vi (errPlaces p))) ∧ (decide ((8 : Int) < p) = false → True ∧ Ob (vi (0 : Int) = vi (errPlaces p)))) ∧ (decide (p < (1 : Int)) = true → True ∧ Ob (vi (6 : Int) = vi (errPlaces p)))
theorem rplV_eq : rplV = fun (p : Int) => vc Try.prog {} 0 9 true (fun _ => none) rplB [] (argFr 0 [vi p]) [] (retK Try.prog Try.f56 (fun v _ => v = vi (errPlaces p))) := by kernel_rfl
noncomputable def rcdV :=
fun (p : Int) (l : List Int) (c : Nat) ↦ ((errPlaces p != (0 : Int)) = false → (decide ((12 : Int) < (↑l.length : Int)) = true → True ∧ Ob (vi (6 : Int) = vi (errDrops p l))) ∧ (decide ((12 : Int) < (↑l.length : Int)) = false → (∃ (y : Nat), Ob (((1 : Int) ≤ p ∧ p ≤ (8 : Int) ∧ l.length ≤ (12 : Nat)) ∧ y ≤ l.length ∧ ∀ (j : Nat), j < y → (0 : Int) ≤ l.getD j (0 : Int) ∧ l.getD j (0 : Int) < p) ∧ (Ob (AObj.ro (List.map (Value.int IntKind.i64) l) = AObj.ro (List.map (nmap1 fun (b : Nat) ↦ b) (List.map (Value.int IntKind.i64) l)) ∧ AObj.sc (1 : Nat) (AObj.ro (List.map (Value.int IntKind.i64) l)) = true) ∧ True) ∧ Ob (p = p) ∧ Ob (Value.slice (some (ad0 0)) l.length c = Value.slice (some (ad0 0)) l.length c) ∧ Ob ((0 : Int) = (↑y : Int)) ∧ True) ∧ ∀ (x : Nat), Ob (((1 : Int) ≤ p ∧ p ≤ (8 : Int) ∧ l.length ≤ (12 : Nat)) ∧ x ≤ l.length ∧ ∀ (j : Nat), j < x → (0 : Int) ≤ l.getD j (0 : Int) ∧ l.getD j (0 : Int) < p) → (decide ((↑x : Int) < (↑l.length : Int)) = true → Ob ((0 : Int) ≤ (↑x : Int) ∧ (↑x : Int) < (↑l.length : Int) ∧ true = true) ∧ Ob (IntAt IntKind.i64 (List.map (Value.int IntKind.i64) l) ((0 : Nat) + (↑x : Int).toNat * (1 : Nat))) ∧ (decide (getI (List.map (Value.int IntKind.i64) l) ((0 : Nat) + (↑x : Int).toNat * (1 : Nat)) < (0 : Int)) = false → Ob ((0 : Int) ≤ (↑x : Int) ∧ (↑x : Int) < (↑l.length : Int) ∧ true = true) ∧ Ob (IntAt IntKind.i64 (List.map (Value.int IntKind.i64) l) ((0 : Nat) + (↑x : Int).toNat * (1 : Nat))) ∧ (decide (p ≤ getI (List.map (Value.int IntKind.i64) l) ((0 : Nat) + (↑x : Int).toNat * (1 : Nat))) = true → True ∧ Ob (vi (3 : Int) = vi (errDrops p l))) ∧ (decide (p ≤ getI (List.map (Value.int IntKind.i64) l) ((0 : Nat) + (↑x : Int).toNat * (1 : Nat))) = false → ∃ (y : Nat), Ob (((1 : Int) ≤ p ∧ p ≤ (8 : Int) ∧ l.length ≤ (12 : Nat)) ∧ y ≤ l.length ∧ ∀ (j : Nat), j < y → (0 : Int) ≤ l.getD j (0 : Int) ∧ l.getD j (0 : Int) < p) ∧ Ob (l.length - y < l.length - x) ∧ (Ob (AObj.ro (List.map (Value.int IntKind.i64) l) = AObj.ro (List.map (nmap1 fun (b : Nat) ↦ b) (List.map (Value.int IntKind.i64) l)) ∧ AObj.sc (1 : Nat) (AObj.ro (List.map (Value.int IntKind.i64) l)) = true) ∧ True) ∧ Ob (p = p) ∧ Ob (Value.slice (some (ad0 0)) l.length c = Value.slice (some (ad0 0)) l.length c) ∧ Ob (IntKind.i64.wrap ((↑x : Int) + (1 : Int)) = (↑y : Int)) ∧ True)) ∧ (decide (getI (List.map (Value.int IntKind.i64) l) ((0 : Nat) + (↑x : Int).toNat * (1 : Nat)) < (0 : Int)) = true → True ∧ Ob (vi (3 : Int) = vi (errDrops p l)))) ∧ (decide ((↑x : Int) < (↑l.length : Int)) = false → True ∧ Ob (vi (0 : Int) = vi (errDrops p l))))) ∧ ((errPlaces p != (0 : Int)) = true → True ∧ Ob (vi (6 : Int) = vi (errDrops p l)))
theorem rcdV_eq : rcdV = fun (p : Int) (l : List Int) (c : Nat) => vc Try.prog { ct := rcdT } 1 33 true (rcdI p l c) rcdB [] (argFr 0 [vi p, .slice (some ⟨0,0,none⟩) l.length c]) [ros l] (retK Try.prog Try.f24 (fun v _ => v = vi (errDrops p l))) := by kernel_rfl
noncomputable def rcdN :=
fun (p : Int) ↦ ((errPlaces p != (0 : Int)) = false → (false = true → True ∧ Ob (vi (6 : Int) = vi (errDrops p []))) ∧ (false = false → (∃ (y : Unit), Ob ((1 : Int) ≤ p ∧ p ≤ (8 : Int)) ∧ True ∧ Ob (p = p) ∧ Ob (Value.slice none (0 : Nat) (0 : Nat) = Value.slice none (0 : Nat) (0 : Nat)) ∧ Ob ((0 : Int) = (0 : Int)) ∧ True) ∧ ∀ (x : Unit), Ob ((1 : Int) ≤ p ∧ p ≤ (8 : Int)) → (false = true → False) ∧ (false = false → True ∧ Ob (vi (0 : Int) = vi (errDrops p []))))) ∧ ((errPlaces p != (0 : Int)) = true → True ∧ Ob (vi (6 : Int) = vi (errDrops p [])))
theorem rcdN_eq : rcdN = fun (p : Int) => vc Try.prog { ct := rcdT } 0 33 true (rcdIE p none 0 []) rcdB [] (argFr 0 [vi p, .slice none 0 0]) [] (retK Try.prog Try.f24 (fun v _ => v = vi (errDrops p []))) := by kernel_rfl
noncomputable def rcdH :=
fun (p : Int) (s : Option Nat) (c : Nat) ↦ ((errPlaces p != (0 : Int)) = false → (false = true → True ∧ Ob (vi (6 : Int) = vi (errDrops p []))) ∧ (false = false → (∃ (y : Unit), Ob ((1 : Int) ≤ p ∧ p ≤ (8 : Int)) ∧ True ∧ Ob (p = p) ∧ Ob (Value.slice (some { block := (0 : Nat), off := (0 : Nat), spot := s }) (0 : Nat) c = Value.slice (some { block := (0 : Nat), off := (0 : Nat), spot := s }) (0 : Nat) c) ∧ Ob ((0 : Int) = (0 : Int)) ∧ True) ∧ ∀ (x : Unit), Ob ((1 : Int) ≤ p ∧ p ≤ (8 : Int)) → (false = true → Ob ((0 : Int) ≤ (0 : Int) ∧ (0 : Int) < (↑(0 : Nat) : Int) ∧ std { block := (0 : Nat), off := (0 : Nat), spot := s } c = true) ∧ False) ∧ (false = false → True ∧ Ob (vi (0 : Int) = vi (errDrops p []))))) ∧ ((errPlaces p != (0 : Int)) = true → True ∧ Ob (vi (6 : Int) = vi (errDrops p [])))
theorem rcdH_eq : rcdH = fun (p : Int) (s : Option Nat) (c : Nat) => vc Try.prog { ct := rcdT } 1 33 true (rcdIE p (some ⟨0,0,s⟩) c [.gone]) rcdB [] (argFr 0 [vi p, .slice (some ⟨0,0,s⟩) 0 c]) [.gone] (retK Try.prog Try.f24 (fun v _ => v = vi (errDrops p []))) := by kernel_rfl


theorem rplV_ok (p : Int) : rplV p := by
  unfold rplV errPlaces
  simp only [ob_iff, true_and, decide_eq_true_eq, decide_eq_false_iff_not, Value.int.injEq]
  refine ⟨fun h => ⟨fun h2 => ?_, fun h2 => ?_⟩, fun h => ?_⟩
  · rw [if_pos (.inr h2)]
  · rw [if_neg (by omega)]
  · rw [if_pos (.inl h)]
theorem rpl_call (p : Int) : Call Try.prog 56 [vi p] [] fun v _ => v = vi (errPlaces p) :=
  Call.ofVc (VOk.ofCt CtOk.none) mixed (c := rplB) (inv := fun _ => none) Try.func56 (by kernel_rfl) (cast (congrFun rplV_eq p) (rplV_ok p))
theorem rplG_ok : ∀ args H φ v H' l, rplG args H = some (φ, v, H', l) → Asks φ → Call Try.prog 56 args H (fun v' H2 => v' = v ∧ H2 = H') ∧ Kept H H' l := by
  intro args H φ v H' l h hφ
  unfold rplG at h
  split at h <;> cases h
  exact ⟨Call.ofArgs («as» := [.plain (vi _)]) (fun caps => rpl_call _) rfl ⟨rfl, rfl, trivial⟩, Kept.refl _ _⟩
theorem rall_of {p : Int} {l : List Int} {i : Nat} (hi : l.length ≤ i) (h : ∀ j, j < i → 0 ≤ l.getD j 0 ∧ l.getD j 0 < p) : ∀ d ∈ l, 0 ≤ d ∧ d < p := fun d hd => by
  obtain ⟨j, h1, h2⟩ := List.getElem_of_mem hd
  have := h j (by omega)
  rw [List.getD_eq_getElem?_getD, List.getElem?_eq_getElem h1] at this
  simpa [h2] using this
theorem rcdV_ok (p : Int) (l : List Int) (c : Nat) (hl : l.length ≤ 1000000) : rcdV p l c := by
  unfold rcdV errPlaces
  simp only [ob_iff, map_nmap_int, sc_ro_int, sc_rw_int, getI_map, intAt_map, true_and, and_true, eq_self, Int.toNat_natCast, Nat.zero_add, Nat.mul_one, decide_eq_true_eq, decide_eq_false_iff_not, Value.int.injEq, bne_iff_ne, ne_eq, bne_eq_false_iff_eq]
  have six : (p < 1 ∨ 8 < p ∨ 12 < l.length) → 6 = errDrops p l := fun h => by unfold errDrops; rw [if_pos h]
  have bad : ∀ {x : Nat}, (1 ≤ p ∧ p ≤ 8 ∧ l.length ≤ 12) → x < l.length → ¬ (0 ≤ l.getD x 0 ∧ l.getD x 0 < p) → 3 = errDrops p l := fun h1 h2 h3 => by
    unfold errDrops
    rw [if_neg (by omega), if_neg fun h => h3 (h _ (getD_memR h2))]
  refine ⟨fun h0 => ?_, fun h0 => ?_⟩
  · have hp : 1 ≤ p ∧ p ≤ 8 := by
      by_cases h : p < 1 ∨ 8 < p
      · rw [if_pos h] at h0; cases h0
      · omega
    refine ⟨fun h => six (by omega), fun h => ⟨⟨0, ⟨⟨by omega, by omega, by omega⟩, by omega, fun j hj => by omega⟩, rfl⟩, fun x ⟨h1, h2, h3⟩ => ⟨fun h4 => ⟨⟨by omega, by omega⟩, by omega, fun h5 => ⟨⟨by omega, by omega⟩, by omega, fun h6 => bad (x := x) h1 (by omega) (by omega), fun h6 => ?_⟩, fun h5 => bad (x := x) h1 (by omega) (by omega)⟩, fun h4 => ?_⟩⟩⟩
    · refine ⟨x + 1, ⟨h1, by omega, fun j hj => ?_⟩, by omega, by rw [wrap_in (by omega) (by omega)]; rfl⟩
      by_cases e : j = x
      · subst e; omega
      · exact h3 j (by omega)
    · unfold errDrops
      rw [if_neg (by omega), if_pos (rall_of (by omega) h3)]
  · refine six ?_
    by_cases h : p < 1 ∨ 8 < p
    · omega
    · rw [if_neg h] at h0; exact absurd rfl h0
theorem rcdE_ok (p : Int) (h0 : (if p < 1 ∨ 8 < p then (6 : Int) else 0) = 0) : 1 ≤ p ∧ p ≤ 8 := by
  by_cases h : p < 1 ∨ 8 < p
  · rw [if_pos h] at h0; cases h0
  · omega
theorem rcdE_fin (p : Int) : ((if p < 1 ∨ 8 < p then (6 : Int) else 0) = 0 → 0 = errDrops p []) ∧ (¬(if p < 1 ∨ 8 < p then (6 : Int) else 0) = 0 → 6 = errDrops p []) := by
  refine ⟨fun h => ?_, fun h => ?_⟩
  · have := rcdE_ok p h
    unfold errDrops
    rw [if_neg (by simp; omega), if_pos (by simp)]
  · unfold errDrops
    by_cases h1 : p < 1 ∨ 8 < p
    · rw [if_pos (by omega)]
    · rw [if_neg h1] at h; exact absurd rfl h
theorem rcdN_ok (p : Int) : rcdN p := by
  unfold rcdN errPlaces
  simp only [ob_iff, true_and, and_true, eq_self, exists_const, decide_eq_true_eq, decide_eq_false_iff_not, Value.int.injEq, bne_iff_ne, ne_eq, bne_eq_false_iff_eq]
  exact ⟨fun h => ⟨fun h => (by cases h), fun _ => ⟨rcdE_ok p h, fun _ _ => ⟨fun h => (by cases h), fun _ => (rcdE_fin p).1 h⟩⟩⟩, (rcdE_fin p).2⟩
theorem rcdH_ok (p : Int) (s : Option Nat) (c : Nat) : rcdH p s c := by
  unfold rcdH errPlaces
  simp only [ob_iff, true_and, and_true, eq_self, exists_const, decide_eq_true_eq, decide_eq_false_iff_not, Value.int.injEq, bne_iff_ne, ne_eq, bne_eq_false_iff_eq]
  exact ⟨fun h => ⟨fun h => (by cases h), fun _ => ⟨rcdE_ok p h, fun _ _ => ⟨fun h => (by cases h), fun _ => (rcdE_fin p).1 h⟩⟩⟩, (rcdE_fin p).2⟩
theorem rcdT_ok : CtOk Try.prog rcdT := CtOk.none.add rplG_ok
theorem rcd_call (p : Int) (l : List Int) (c : Nat) (hl : l.length ≤ 1000000) : Call Try.prog 24 [vi p, .slice (some ⟨0,0,none⟩) l.length c] [ros l] fun v _ => v = vi (errDrops p l) :=
  Call.ofVc (VOk.ofCt rcdT_ok) mixed (c := rcdB) (inv := rcdI p l c) Try.func24 (by kernel_rfl) (cast (congrFun (congrFun (congrFun rcdV_eq p) l) c) (rcdV_ok p l c hl))
theorem rcd_nil (p : Int) : Call Try.prog 24 [vi p, .slice none 0 0] [] fun v _ => v = vi (errDrops p []) :=
  Call.ofVc (VOk.ofCt rcdT_ok) mixed (c := rcdB) (inv := rcdIE p none 0 []) Try.func24 (by kernel_rfl) (cast (congrFun rcdN_eq p) (rcdN_ok p))
theorem rcd_hole (p : Int) (s : Option Nat) (c : Nat) : Call Try.prog 24 [vi p, .slice (some ⟨0,0,s⟩) 0 c] [.gone] fun v _ => v = vi (errDrops p []) :=
  Call.ofVc (VOk.ofCt rcdT_ok) mixed (c := rcdB) (inv := rcdIE p (some ⟨0,0,s⟩) c [.gone]) Try.func24 (by kernel_rfl) (cast (congrFun (congrFun (congrFun rcdH_eq p) s) c) (rcdH_ok p s c))
def rcdS (r : List Arg) : Prop × Value := match r with
  | [p, a] => (a.list.length ≤ 1000000, vi (errDrops p.num a.list))
  | _ => (False, undef)
theorem rcdG_ok : ∀ args H φ v H' l, pureG [.int .i64, .ints .i64] rcdS args H = some (φ, v, H', l) → Asks φ → Call Try.prog 24 args H (fun v' H2 => v' = v ∧ H2 = H') ∧ Kept H H' l :=
  pureG_ok fun r hk hs => match r, hk with
    | [_, _], ⟨⟨p, rfl⟩, ha, _⟩ => ⟨rfl, fun caps => by
      rcases ha with rfl | ⟨s, rfl⟩ | ⟨l, rfl⟩
      · exact rcd_nil p
      · exact rcd_hole p s _
      · exact rcd_call p l _ hs⟩

end Go.Pier.Lg

set_option maxRecDepth 100000
set_option linter.unusedVariables false
set_option linter.unusedSimpArgs false
namespace Go.Pier.Lg
open Go Go.Pier Go.Proofs 
noncomputable def iiB : Code := Try.f25.body.getD .skip
def iiRI (l m : List Int) (c d : Nat) : Nat → Option LInv := invOf 0 (.one Nat (fun i => l.length = m.length ∧ i ≤ l.length ∧ ∀ j, j < i → l.getD j 0 = m.getD j 0) (fun i => [(0, .slice (some ⟨0,0,none⟩) l.length c), (1, .slice (some ⟨1,0,none⟩) m.length d), (5, vi i)]) (fun _ => [ros l, ros m]) (fun i => l.length - i))
def iiEI (a b : Value) (p : Prop) (H : Heap) : Nat → Option LInv := invOf 0 (.one Unit (fun _ => p) (fun _ => [(0, a), (1, b), (5, vi 0)]) (fun _ => H) (fun _ => 0))
noncomputable def iiNN :=
fun (x : Unit) ↦ (false = true → True ∧ Ob (Value.bool false = Value.bool true)) ∧ (false = false → (∃ (y : Unit), Ob True ∧ True ∧ Ob (Value.slice none (0 : Nat) (0 : Nat) = Value.slice none (0 : Nat) (0 : Nat)) ∧ Ob (Value.slice none (0 : Nat) (0 : Nat) = Value.slice none (0 : Nat) (0 : Nat)) ∧ Ob ((0 : Int) = (0 : Int)) ∧ True) ∧ ∀ (x : Unit), Ob True → (false = true → False) ∧ (false = false → True ∧ Ob (Value.bool true = Value.bool true)))
theorem iiNN_eq : iiNN = fun (_ : Unit) => vc Try.prog {} 0 26 true (iiEI (.slice none 0 0) (.slice none 0 0) (True) []) iiB [] (argFr 0 [.slice none 0 0, .slice none 0 0]) [] (retK Try.prog Try.f25 (fun v _ => v = .bool true)) := by kernel_rfl
noncomputable def iiNH :=
fun (s1 : Option Nat) (c1 : Nat) ↦ (false = true → True ∧ Ob (Value.bool false = Value.bool true)) ∧ (false = false → (∃ (y : Unit), Ob True ∧ True ∧ Ob (Value.slice none (0 : Nat) (0 : Nat) = Value.slice none (0 : Nat) (0 : Nat)) ∧ Ob (Value.slice (some { block := (0 : Nat), off := (0 : Nat), spot := s1 }) (0 : Nat) c1 = Value.slice (some { block := (0 : Nat), off := (0 : Nat), spot := s1 }) (0 : Nat) c1) ∧ Ob ((0 : Int) = (0 : Int)) ∧ True) ∧ ∀ (x : Unit), Ob True → (false = true → False) ∧ (false = false → True ∧ Ob (Value.bool true = Value.bool true)))
theorem iiNH_eq : iiNH = fun (s1 : Option Nat) (c1 : Nat) => vc Try.prog {} 1 26 true (iiEI (.slice none 0 0) (.slice (some ⟨0,0,s1⟩) 0 c1) (True) [.gone]) iiB [] (argFr 0 [.slice none 0 0, .slice (some ⟨0,0,s1⟩) 0 c1]) [.gone] (retK Try.prog Try.f25 (fun v _ => v = .bool true)) := by kernel_rfl
noncomputable def iiNR :=
fun (l1 : List Int) (c1 : Nat) ↦ (((↑(0 : Nat) : Int) != (↑l1.length : Int)) = true → True ∧ Ob (Value.bool false = Value.bool (decide ([] = l1)))) ∧ (((↑(0 : Nat) : Int) != (↑l1.length : Int)) = false → (∃ (y : Unit), Ob (l1.length = (0 : Nat)) ∧ (Ob (AObj.ro (List.map (Value.int IntKind.i64) l1) = AObj.ro (List.map (nmap1 fun (b : Nat) ↦ b) (List.map (Value.int IntKind.i64) l1)) ∧ AObj.sc (1 : Nat) (AObj.ro (List.map (Value.int IntKind.i64) l1)) = true) ∧ True) ∧ Ob (Value.slice none (0 : Nat) (0 : Nat) = Value.slice none (0 : Nat) (0 : Nat)) ∧ Ob (Value.slice (some (ad0 0)) l1.length c1 = Value.slice (some (ad0 0)) l1.length c1) ∧ Ob ((0 : Int) = (0 : Int)) ∧ True) ∧ ∀ (x : Unit), Ob (l1.length = (0 : Nat)) → (false = true → False) ∧ (false = false → True ∧ Ob (Value.bool true = Value.bool (decide ([] = l1)))))
theorem iiNR_eq : iiNR = fun (l1 : List Int) (c1 : Nat) => vc Try.prog {} 1 26 true (iiEI (.slice none 0 0) (.slice (some ⟨0,0,none⟩) l1.length c1) (l1.length = 0) [ros l1]) iiB [] (argFr 0 [.slice none 0 0, .slice (some ⟨0,0,none⟩) l1.length c1]) [ros l1] (retK Try.prog Try.f25 (fun v _ => v = .bool (decide ([] = l1)))) := by kernel_rfl
noncomputable def iiHN :=
fun (s0 : Option Nat) (c0 : Nat) ↦ (false = true → True ∧ Ob (Value.bool false = Value.bool true)) ∧ (false = false → (∃ (y : Unit), Ob True ∧ True ∧ Ob (Value.slice (some { block := (0 : Nat), off := (0 : Nat), spot := s0 }) (0 : Nat) c0 = Value.slice (some { block := (0 : Nat), off := (0 : Nat), spot := s0 }) (0 : Nat) c0) ∧ Ob (Value.slice none (0 : Nat) (0 : Nat) = Value.slice none (0 : Nat) (0 : Nat)) ∧ Ob ((0 : Int) = (0 : Int)) ∧ True) ∧ ∀ (x : Unit), Ob True → (false = true → Ob ((0 : Int) ≤ (0 : Int) ∧ (0 : Int) < (↑(0 : Nat) : Int) ∧ std { block := (0 : Nat), off := (0 : Nat), spot := s0 } c0 = true) ∧ False) ∧ (false = false → True ∧ Ob (Value.bool true = Value.bool true)))
theorem iiHN_eq : iiHN = fun (s0 : Option Nat) (c0 : Nat) => vc Try.prog {} 1 26 true (iiEI (.slice (some ⟨0,0,s0⟩) 0 c0) (.slice none 0 0) (True) [.gone]) iiB [] (argFr 0 [.slice (some ⟨0,0,s0⟩) 0 c0, .slice none 0 0]) [.gone] (retK Try.prog Try.f25 (fun v _ => v = .bool true)) := by kernel_rfl
noncomputable def iiHH :=
fun (s0 : Option Nat) (c0 : Nat) (s1 : Option Nat) (c1 : Nat) ↦ (false = true → True ∧ Ob (Value.bool false = Value.bool true)) ∧ (false = false → (∃ (y : Unit), Ob True ∧ True ∧ Ob (Value.slice (some { block := (0 : Nat), off := (0 : Nat), spot := s0 }) (0 : Nat) c0 = Value.slice (some { block := (0 : Nat), off := (0 : Nat), spot := s0 }) (0 : Nat) c0) ∧ Ob (Value.slice (some { block := (1 : Nat), off := (0 : Nat), spot := s1 }) (0 : Nat) c1 = Value.slice (some { block := (1 : Nat), off := (0 : Nat), spot := s1 }) (0 : Nat) c1) ∧ Ob ((0 : Int) = (0 : Int)) ∧ True) ∧ ∀ (x : Unit), Ob True → (false = true → Ob ((0 : Int) ≤ (0 : Int) ∧ (0 : Int) < (↑(0 : Nat) : Int) ∧ std { block := (0 : Nat), off := (0 : Nat), spot := s0 } c0 = true) ∧ False) ∧ (false = false → True ∧ Ob (Value.bool true = Value.bool true)))
theorem iiHH_eq : iiHH = fun (s0 : Option Nat) (c0 : Nat) (s1 : Option Nat) (c1 : Nat) => vc Try.prog {} 2 26 true (iiEI (.slice (some ⟨0,0,s0⟩) 0 c0) (.slice (some ⟨1,0,s1⟩) 0 c1) (True) [.gone, .gone]) iiB [] (argFr 0 [.slice (some ⟨0,0,s0⟩) 0 c0, .slice (some ⟨1,0,s1⟩) 0 c1]) [.gone, .gone] (retK Try.prog Try.f25 (fun v _ => v = .bool true)) := by kernel_rfl
noncomputable def iiHR :=
fun (s0 : Option Nat) (c0 : Nat) (l1 : List Int) (c1 : Nat) ↦ (((↑(0 : Nat) : Int) != (↑l1.length : Int)) = true → True ∧ Ob (Value.bool false = Value.bool (decide ([] = l1)))) ∧ (((↑(0 : Nat) : Int) != (↑l1.length : Int)) = false → (∃ (y : Unit), Ob (l1.length = (0 : Nat)) ∧ (Ob (AObj.ro (List.map (Value.int IntKind.i64) l1) = AObj.ro (List.map (nmap1 fun (b : Nat) ↦ b) (List.map (Value.int IntKind.i64) l1)) ∧ AObj.sc (2 : Nat) (AObj.ro (List.map (Value.int IntKind.i64) l1)) = true) ∧ True) ∧ Ob (Value.slice (some { block := (0 : Nat), off := (0 : Nat), spot := s0 }) (0 : Nat) c0 = Value.slice (some { block := (0 : Nat), off := (0 : Nat), spot := s0 }) (0 : Nat) c0) ∧ Ob (Value.slice (some (ad0 1)) l1.length c1 = Value.slice (some (ad0 1)) l1.length c1) ∧ Ob ((0 : Int) = (0 : Int)) ∧ True) ∧ ∀ (x : Unit), Ob (l1.length = (0 : Nat)) → (false = true → Ob ((0 : Int) ≤ (0 : Int) ∧ (0 : Int) < (↑(0 : Nat) : Int) ∧ std { block := (0 : Nat), off := (0 : Nat), spot := s0 } c0 = true) ∧ False) ∧ (false = false → True ∧ Ob (Value.bool true = Value.bool (decide ([] = l1)))))
theorem iiHR_eq : iiHR = fun (s0 : Option Nat) (c0 : Nat) (l1 : List Int) (c1 : Nat) => vc Try.prog {} 2 26 true (iiEI (.slice (some ⟨0,0,s0⟩) 0 c0) (.slice (some ⟨1,0,none⟩) l1.length c1) (l1.length = 0) [.gone, ros l1]) iiB [] (argFr 0 [.slice (some ⟨0,0,s0⟩) 0 c0, .slice (some ⟨1,0,none⟩) l1.length c1]) [.gone, ros l1] (retK Try.prog Try.f25 (fun v _ => v = .bool (decide ([] = l1)))) := by kernel_rfl
noncomputable def iiRN :=
fun (l0 : List Int) (c0 : Nat) ↦ (((↑l0.length : Int) != (↑(0 : Nat) : Int)) = true → True ∧ Ob (Value.bool false = Value.bool (decide (l0 = [])))) ∧ (((↑l0.length : Int) != (↑(0 : Nat) : Int)) = false → (∃ (y : Unit), Ob (l0.length = (0 : Nat)) ∧ (Ob (AObj.ro (List.map (Value.int IntKind.i64) l0) = AObj.ro (List.map (nmap1 fun (b : Nat) ↦ b) (List.map (Value.int IntKind.i64) l0)) ∧ AObj.sc (1 : Nat) (AObj.ro (List.map (Value.int IntKind.i64) l0)) = true) ∧ True) ∧ Ob (Value.slice (some (ad0 0)) l0.length c0 = Value.slice (some (ad0 0)) l0.length c0) ∧ Ob (Value.slice none (0 : Nat) (0 : Nat) = Value.slice none (0 : Nat) (0 : Nat)) ∧ Ob ((0 : Int) = (0 : Int)) ∧ True) ∧ ∀ (x : Unit), Ob (l0.length = (0 : Nat)) → (decide ((0 : Int) < (↑l0.length : Int)) = true → Ob ((0 : Int) ≤ (0 : Int) ∧ (0 : Int) < (↑l0.length : Int) ∧ true = true) ∧ Ob (IntAt IntKind.i64 (List.map (Value.int IntKind.i64) l0) (0 : Nat)) ∧ False) ∧ (decide ((0 : Int) < (↑l0.length : Int)) = false → True ∧ Ob (Value.bool true = Value.bool (decide (l0 = [])))))
theorem iiRN_eq : iiRN = fun (l0 : List Int) (c0 : Nat) => vc Try.prog {} 1 26 true (iiEI (.slice (some ⟨0,0,none⟩) l0.length c0) (.slice none 0 0) (l0.length = 0) [ros l0]) iiB [] (argFr 0 [.slice (some ⟨0,0,none⟩) l0.length c0, .slice none 0 0]) [ros l0] (retK Try.prog Try.f25 (fun v _ => v = .bool (decide (l0 = [])))) := by kernel_rfl
noncomputable def iiRH :=
fun (l0 : List Int) (c0 : Nat) (s1 : Option Nat) (c1 : Nat) ↦ (((↑l0.length : Int) != (↑(0 : Nat) : Int)) = true → True ∧ Ob (Value.bool false = Value.bool (decide (l0 = [])))) ∧ (((↑l0.length : Int) != (↑(0 : Nat) : Int)) = false → (∃ (y : Unit), Ob (l0.length = (0 : Nat)) ∧ (Ob (AObj.ro (List.map (Value.int IntKind.i64) l0) = AObj.ro (List.map (nmap1 fun (b : Nat) ↦ b) (List.map (Value.int IntKind.i64) l0)) ∧ AObj.sc (2 : Nat) (AObj.ro (List.map (Value.int IntKind.i64) l0)) = true) ∧ True) ∧ Ob (Value.slice (some (ad0 0)) l0.length c0 = Value.slice (some (ad0 0)) l0.length c0) ∧ Ob (Value.slice (some { block := (1 : Nat), off := (0 : Nat), spot := s1 }) (0 : Nat) c1 = Value.slice (some { block := (1 : Nat), off := (0 : Nat), spot := s1 }) (0 : Nat) c1) ∧ Ob ((0 : Int) = (0 : Int)) ∧ True) ∧ ∀ (x : Unit), Ob (l0.length = (0 : Nat)) → (decide ((0 : Int) < (↑l0.length : Int)) = true → Ob ((0 : Int) ≤ (0 : Int) ∧ (0 : Int) < (↑l0.length : Int) ∧ true = true) ∧ Ob (IntAt IntKind.i64 (List.map (Value.int IntKind.i64) l0) (0 : Nat)) ∧ Ob ((0 : Int) ≤ (0 : Int) ∧ (0 : Int) < (↑(0 : Nat) : Int) ∧ std { block := (1 : Nat), off := (0 : Nat), spot := s1 } c1 = true) ∧ False) ∧ (decide ((0 : Int) < (↑l0.length : Int)) = false → True ∧ Ob (Value.bool true = Value.bool (decide (l0 = [])))))
theorem iiRH_eq : iiRH = fun (l0 : List Int) (c0 : Nat) (s1 : Option Nat) (c1 : Nat) => vc Try.prog {} 2 26 true (iiEI (.slice (some ⟨0,0,none⟩) l0.length c0) (.slice (some ⟨1,0,s1⟩) 0 c1) (l0.length = 0) [ros l0, .gone]) iiB [] (argFr 0 [.slice (some ⟨0,0,none⟩) l0.length c0, .slice (some ⟨1,0,s1⟩) 0 c1]) [ros l0, .gone] (retK Try.prog Try.f25 (fun v _ => v = .bool (decide (l0 = [])))) := by kernel_rfl
noncomputable def iiRR :=
fun (l0 : List Int) (c0 : Nat) (l1 : List Int) (c1 : Nat) ↦ (((↑l0.length : Int) != (↑l1.length : Int)) = true → True ∧ Ob (Value.bool false = Value.bool (decide (l0 = l1)))) ∧ (((↑l0.length : Int) != (↑l1.length : Int)) = false → (∃ (y : Nat), Ob (l0.length = l1.length ∧ y ≤ l0.length ∧ ∀ (j : Nat), j < y → l0.getD j (0 : Int) = l1.getD j (0 : Int)) ∧ (Ob (AObj.ro (List.map (Value.int IntKind.i64) l0) = AObj.ro (List.map (nmap1 fun (b : Nat) ↦ b) (List.map (Value.int IntKind.i64) l0)) ∧ AObj.sc (2 : Nat) (AObj.ro (List.map (Value.int IntKind.i64) l0)) = true) ∧ Ob (AObj.ro (List.map (Value.int IntKind.i64) l1) = AObj.ro (List.map (nmap1 fun (b : Nat) ↦ b) (List.map (Value.int IntKind.i64) l1)) ∧ AObj.sc (2 : Nat) (AObj.ro (List.map (Value.int IntKind.i64) l1)) = true) ∧ True) ∧ Ob (Value.slice (some (ad0 0)) l0.length c0 = Value.slice (some (ad0 0)) l0.length c0) ∧ Ob (Value.slice (some (ad0 1)) l1.length c1 = Value.slice (some (ad0 1)) l1.length c1) ∧ Ob ((0 : Int) = (↑y : Int)) ∧ True) ∧ ∀ (x : Nat), Ob (l0.length = l1.length ∧ x ≤ l0.length ∧ ∀ (j : Nat), j < x → l0.getD j (0 : Int) = l1.getD j (0 : Int)) → (decide ((↑x : Int) < (↑l0.length : Int)) = true → Ob ((0 : Int) ≤ (↑x : Int) ∧ (↑x : Int) < (↑l0.length : Int) ∧ true = true) ∧ Ob (IntAt IntKind.i64 (List.map (Value.int IntKind.i64) l0) ((0 : Nat) + (↑x : Int).toNat * (1 : Nat))) ∧ Ob ((0 : Int) ≤ (↑x : Int) ∧ (↑x : Int) < (↑l1.length : Int) ∧ true = true) ∧ Ob (IntAt IntKind.i64 (List.map (Value.int IntKind.i64) l1) ((0 : Nat) + (↑x : Int).toNat * (1 : Nat))) ∧ ((getI (List.map (Value.int IntKind.i64) l0) ((0 : Nat) + (↑x : Int).toNat * (1 : Nat)) != getI (List.map (Value.int IntKind.i64) l1) ((0 : Nat) + (↑x : Int).toNat * (1 : Nat))) = true → True ∧ Ob (Value.bool false = Value.bool (decide (l0 = l1)))) ∧ ((getI (List.map (Value.int IntKind.i64) l0) ((0 : Nat) + (↑x : Int).toNat * (1 : Nat)) != getI (List.map (Value.int IntKind.i64) l1) ((0 : Nat) + (↑x : Int).toNat * (1 : Nat))) = false → ∃ (y : Nat), Ob (l0.length = l1.length ∧ y ≤ l0.length ∧ ∀ (j : Nat), j < y → l0.getD j (0 : Int) = l1.getD j (0 : Int)) ∧ Ob (l0.length - y < l0.length - x) ∧ (Ob (AObj.ro (List.map (Value.int IntKind.i64) l0) = AObj.ro (List.map (nmap1 fun (b : Nat) ↦ b) (List.map (Value.int IntKind.i64) l0)) ∧ AObj.sc (2 : Nat) (AObj.ro (List.map (Value.int IntKind.i64) l0)) = true) ∧ Ob (AObj.ro (List.map (Value.int IntKind.i64) l1) = AObj.ro (List.map (nmap1 fun (b : Nat) ↦ b) (List.map (Value.int IntKind.i64) l1)) ∧ AObj.sc (2 : Nat) (AObj.ro (List.map (Value.int IntKind.i64) l1)) = true) ∧ True) ∧ Ob (Value.slice (some (ad0 0)) l0.length c0 = Value.slice (some (ad0 0)) l0.length c0) ∧ Ob (Value.slice (some (ad0 1)) l1.length c1 = Value.slice (some (ad0 1)) l1.length c1) ∧ Ob (IntKind.i64.wrap ((↑x : Int) + (1 : Int)) = (↑y : Int)) ∧ True)) ∧ (decide ((↑x : Int) < (↑l0.length : Int)) = false → True ∧ Ob (Value.bool true = Value.bool (decide (l0 = l1)))))
theorem iiRR_eq : iiRR = fun (l0 : List Int) (c0 : Nat) (l1 : List Int) (c1 : Nat) => vc Try.prog {} 2 26 true (iiRI l0 l1 c0 c1) iiB [] (argFr 0 [.slice (some ⟨0,0,none⟩) l0.length c0, .slice (some ⟨1,0,none⟩) l1.length c1]) [ros l0, ros l1] (retK Try.prog Try.f25 (fun v _ => v = .bool (decide (l0 = l1)))) := by kernel_rfl


theorem lists_eq {l m : List Int} (h : l.length = m.length) (hj : ∀ j, j < l.length → l.getD j 0 = m.getD j 0) : l = m := by
  refine List.ext_getElem h fun i h1 h2 => ?_
  have := hj i h1
  rw [List.getD_eq_getElem?_getD, List.getD_eq_getElem?_getD, List.getElem?_eq_getElem h1, List.getElem?_eq_getElem h2] at this
  exact this
theorem iiNN_ok (u : Unit) : iiNN u := by
  unfold iiNN
  simp only [ob_iff, map_nmap_int, sc_ro_int, sc_rw_int, getI_map, intAt_map, true_and, and_true, eq_self, Int.toNat_natCast, Nat.zero_add, Nat.mul_one, decide_eq_true_eq, decide_eq_false_iff_not, Value.bool.injEq, bne_iff_ne, ne_eq, bne_eq_false_iff_eq, exists_const, forall_const, true_implies]
  exact ⟨fun h => absurd h (by decide), fun h => absurd h (by decide)⟩
theorem iiNH_ok (s1 : Option Nat) (c1 : Nat) : iiNH s1 c1 := by
  unfold iiNH
  simp only [ob_iff, map_nmap_int, sc_ro_int, sc_rw_int, getI_map, intAt_map, true_and, and_true, eq_self, Int.toNat_natCast, Nat.zero_add, Nat.mul_one, decide_eq_true_eq, decide_eq_false_iff_not, Value.bool.injEq, bne_iff_ne, ne_eq, bne_eq_false_iff_eq, exists_const, forall_const, true_implies]
  exact ⟨fun h => absurd h (by decide), fun h => absurd h (by decide)⟩
theorem iiNR_ok (l1 : List Int) (c1 : Nat) : iiNR l1 c1 := by
  unfold iiNR
  simp only [ob_iff, map_nmap_int, sc_ro_int, sc_rw_int, getI_map, intAt_map, true_and, and_true, eq_self, Int.toNat_natCast, Nat.zero_add, Nat.mul_one, decide_eq_true_eq, decide_eq_false_iff_not, Value.bool.injEq, bne_iff_ne, ne_eq, bne_eq_false_iff_eq, exists_const, forall_const, true_implies]
  cases l1 with
  | nil => simp
  | cons a t => simp; try omega
theorem iiHN_ok (s0 : Option Nat) (c0 : Nat) : iiHN s0 c0 := by
  unfold iiHN
  simp only [ob_iff, map_nmap_int, sc_ro_int, sc_rw_int, getI_map, intAt_map, true_and, and_true, eq_self, Int.toNat_natCast, Nat.zero_add, Nat.mul_one, decide_eq_true_eq, decide_eq_false_iff_not, Value.bool.injEq, bne_iff_ne, ne_eq, bne_eq_false_iff_eq, exists_const, forall_const, true_implies]
  exact ⟨fun h => absurd h (by decide), fun h => absurd h (by decide)⟩
theorem iiHH_ok (s0 : Option Nat) (c0 : Nat) (s1 : Option Nat) (c1 : Nat) : iiHH s0 c0 s1 c1 := by
  unfold iiHH
  simp only [ob_iff, map_nmap_int, sc_ro_int, sc_rw_int, getI_map, intAt_map, true_and, and_true, eq_self, Int.toNat_natCast, Nat.zero_add, Nat.mul_one, decide_eq_true_eq, decide_eq_false_iff_not, Value.bool.injEq, bne_iff_ne, ne_eq, bne_eq_false_iff_eq, exists_const, forall_const, true_implies]
  exact ⟨fun h => absurd h (by decide), fun h => absurd h (by decide)⟩
theorem iiHR_ok (s0 : Option Nat) (c0 : Nat) (l1 : List Int) (c1 : Nat) : iiHR s0 c0 l1 c1 := by
  unfold iiHR
  simp only [ob_iff, map_nmap_int, sc_ro_int, sc_rw_int, getI_map, intAt_map, true_and, and_true, eq_self, Int.toNat_natCast, Nat.zero_add, Nat.mul_one, decide_eq_true_eq, decide_eq_false_iff_not, Value.bool.injEq, bne_iff_ne, ne_eq, bne_eq_false_iff_eq, exists_const, forall_const, true_implies]
  cases l1 with
  | nil => simp
  | cons a t => simp; try omega
theorem iiRN_ok (l0 : List Int) (c0 : Nat) : iiRN l0 c0 := by
  unfold iiRN
  simp only [ob_iff, map_nmap_int, sc_ro_int, sc_rw_int, getI_map, intAt_map, true_and, and_true, eq_self, Int.toNat_natCast, Nat.zero_add, Nat.mul_one, decide_eq_true_eq, decide_eq_false_iff_not, Value.bool.injEq, bne_iff_ne, ne_eq, bne_eq_false_iff_eq, exists_const, forall_const, true_implies]
  cases l0 with
  | nil => simp
  | cons a t => simp; try omega
theorem iiRH_ok (l0 : List Int) (c0 : Nat) (s1 : Option Nat) (c1 : Nat) : iiRH l0 c0 s1 c1 := by
  unfold iiRH
  simp only [ob_iff, map_nmap_int, sc_ro_int, sc_rw_int, getI_map, intAt_map, true_and, and_true, eq_self, Int.toNat_natCast, Nat.zero_add, Nat.mul_one, decide_eq_true_eq, decide_eq_false_iff_not, Value.bool.injEq, bne_iff_ne, ne_eq, bne_eq_false_iff_eq, exists_const, forall_const, true_implies]
  cases l0 with
  | nil => simp
  | cons a t => simp; try omega
theorem iiRR_ok (l0 : List Int) (c0 : Nat) (l1 : List Int) (c1 : Nat)  (hl : l0.length ≤ 1000000): iiRR l0 c0 l1 c1 := by
  unfold iiRR
  simp only [ob_iff, map_nmap_int, sc_ro_int, sc_rw_int, getI_map, intAt_map, true_and, and_true, eq_self, Int.toNat_natCast, Nat.zero_add, Nat.mul_one, decide_eq_true_eq, decide_eq_false_iff_not, Value.bool.injEq, bne_iff_ne, ne_eq, bne_eq_false_iff_eq, exists_const, forall_const, true_implies]
  have ne : ∀ {j : Nat}, j < l0.length → ¬ l0.getD j 0 = l1.getD j 0 → false = decide (l0 = l1) := fun {j} h1 h2 => by
    symm; rw [decide_eq_false_iff_not]; intro e; subst e; exact h2 rfl
  refine ⟨fun h => ?_, fun h => ⟨⟨0, ⟨by omega, by omega, fun j hj => by omega⟩, rfl⟩, fun x ⟨h1, h2, h3⟩ => ⟨fun h4 => ?_, fun h4 => ?_⟩⟩⟩
  · symm; rw [decide_eq_false_iff_not]; intro e; subst e; exact h rfl
  · refine ⟨⟨by omega, by omega⟩, by omega, ⟨by omega, by omega⟩, by omega, fun h5 => ne (j := x) (by omega) h5, fun h5 => ⟨x + 1, ⟨h1, by omega, fun j hj => ?_⟩, by omega, by rw [wrap_in (by omega) (by omega)]; rfl⟩⟩
    by_cases e : j = x
    · subst e; exact h5
    · exact h3 j (by omega)
  · symm; rw [decide_eq_true_iff]; exact lists_eq h1 fun j hj => h3 j (by omega)
theorem iiNN_call : Call Try.prog 25 [.slice none 0 0, .slice none 0 0] [] fun v _ => v = .bool true :=
  Call.ofVc (VOk.ofCt CtOk.none) mixed (c := iiB) (inv := iiEI (.slice none 0 0) (.slice none 0 0) (True) []) Try.func25 (by kernel_rfl) (cast (congrFun (iiNN_eq) ()) (iiNN_ok ()))
theorem iiNH_call (s1 : Option Nat) (c1 : Nat) : Call Try.prog 25 [.slice none 0 0, .slice (some ⟨0,0,s1⟩) 0 c1] [.gone] fun v _ => v = .bool true :=
  Call.ofVc (VOk.ofCt CtOk.none) mixed (c := iiB) (inv := iiEI (.slice none 0 0) (.slice (some ⟨0,0,s1⟩) 0 c1) (True) [.gone]) Try.func25 (by kernel_rfl) (cast (congrFun (congrFun (iiNH_eq) s1) c1) (iiNH_ok s1 c1))
theorem iiNR_call (l1 : List Int) (c1 : Nat) : Call Try.prog 25 [.slice none 0 0, .slice (some ⟨0,0,none⟩) l1.length c1] [ros l1] fun v _ => v = .bool (decide ([] = l1)) :=
  Call.ofVc (VOk.ofCt CtOk.none) mixed (c := iiB) (inv := iiEI (.slice none 0 0) (.slice (some ⟨0,0,none⟩) l1.length c1) (l1.length = 0) [ros l1]) Try.func25 (by kernel_rfl) (cast (congrFun (congrFun (iiNR_eq) l1) c1) (iiNR_ok l1 c1))
theorem iiHN_call (s0 : Option Nat) (c0 : Nat) : Call Try.prog 25 [.slice (some ⟨0,0,s0⟩) 0 c0, .slice none 0 0] [.gone] fun v _ => v = .bool true :=
  Call.ofVc (VOk.ofCt CtOk.none) mixed (c := iiB) (inv := iiEI (.slice (some ⟨0,0,s0⟩) 0 c0) (.slice none 0 0) (True) [.gone]) Try.func25 (by kernel_rfl) (cast (congrFun (congrFun (iiHN_eq) s0) c0) (iiHN_ok s0 c0))
theorem iiHH_call (s0 : Option Nat) (c0 : Nat) (s1 : Option Nat) (c1 : Nat) : Call Try.prog 25 [.slice (some ⟨0,0,s0⟩) 0 c0, .slice (some ⟨1,0,s1⟩) 0 c1] [.gone, .gone] fun v _ => v = .bool true :=
  Call.ofVc (VOk.ofCt CtOk.none) mixed (c := iiB) (inv := iiEI (.slice (some ⟨0,0,s0⟩) 0 c0) (.slice (some ⟨1,0,s1⟩) 0 c1) (True) [.gone, .gone]) Try.func25 (by kernel_rfl) (cast (congrFun (congrFun (congrFun (congrFun (iiHH_eq) s0) c0) s1) c1) (iiHH_ok s0 c0 s1 c1))
theorem iiHR_call (s0 : Option Nat) (c0 : Nat) (l1 : List Int) (c1 : Nat) : Call Try.prog 25 [.slice (some ⟨0,0,s0⟩) 0 c0, .slice (some ⟨1,0,none⟩) l1.length c1] [.gone, ros l1] fun v _ => v = .bool (decide ([] = l1)) :=
  Call.ofVc (VOk.ofCt CtOk.none) mixed (c := iiB) (inv := iiEI (.slice (some ⟨0,0,s0⟩) 0 c0) (.slice (some ⟨1,0,none⟩) l1.length c1) (l1.length = 0) [.gone, ros l1]) Try.func25 (by kernel_rfl) (cast (congrFun (congrFun (congrFun (congrFun (iiHR_eq) s0) c0) l1) c1) (iiHR_ok s0 c0 l1 c1))
theorem iiRN_call (l0 : List Int) (c0 : Nat) : Call Try.prog 25 [.slice (some ⟨0,0,none⟩) l0.length c0, .slice none 0 0] [ros l0] fun v _ => v = .bool (decide (l0 = [])) :=
  Call.ofVc (VOk.ofCt CtOk.none) mixed (c := iiB) (inv := iiEI (.slice (some ⟨0,0,none⟩) l0.length c0) (.slice none 0 0) (l0.length = 0) [ros l0]) Try.func25 (by kernel_rfl) (cast (congrFun (congrFun (iiRN_eq) l0) c0) (iiRN_ok l0 c0))
theorem iiRH_call (l0 : List Int) (c0 : Nat) (s1 : Option Nat) (c1 : Nat) : Call Try.prog 25 [.slice (some ⟨0,0,none⟩) l0.length c0, .slice (some ⟨1,0,s1⟩) 0 c1] [ros l0, .gone] fun v _ => v = .bool (decide (l0 = [])) :=
  Call.ofVc (VOk.ofCt CtOk.none) mixed (c := iiB) (inv := iiEI (.slice (some ⟨0,0,none⟩) l0.length c0) (.slice (some ⟨1,0,s1⟩) 0 c1) (l0.length = 0) [ros l0, .gone]) Try.func25 (by kernel_rfl) (cast (congrFun (congrFun (congrFun (congrFun (iiRH_eq) l0) c0) s1) c1) (iiRH_ok l0 c0 s1 c1))
theorem iiRR_call (l0 : List Int) (c0 : Nat) (l1 : List Int) (c1 : Nat)  (hl : l0.length ≤ 1000000): Call Try.prog 25 [.slice (some ⟨0,0,none⟩) l0.length c0, .slice (some ⟨1,0,none⟩) l1.length c1] [ros l0, ros l1] fun v _ => v = .bool (decide (l0 = l1)) :=
  Call.ofVc (VOk.ofCt CtOk.none) mixed (c := iiB) (inv := iiRI l0 l1 c0 c1) Try.func25 (by kernel_rfl) (cast (congrFun (congrFun (congrFun (congrFun (iiRR_eq) l0) c0) l1) c1) (iiRR_ok l0 c0 l1 c1 hl))
def iiS (r : List Arg) : Prop × Value := match r with
  | [a, b] => (a.list.length ≤ 1000000, .bool (decide (a.list = b.list)))
  | _ => (False, undef)
theorem iiG_ok : ∀ args H φ v H' l, pureG [.ints .i64, .ints .i64] iiS args H = some (φ, v, H', l) → Asks φ → Call Try.prog 25 args H (fun v' H2 => v' = v ∧ H2 = H') ∧ Kept H H' l :=
  pureG_ok fun r hk hs => match r, hk with
    | [_, _], ⟨ha, hb, _⟩ => by
      rcases ha with rfl | ⟨s, rfl⟩ | ⟨l, rfl⟩ <;> rcases hb with rfl | ⟨s', rfl⟩ | ⟨l', rfl⟩ <;> refine ⟨rfl, fun caps => ?_⟩
      · exact iiNN_call
      · exact iiNH_call s' _
      · exact iiNR_call l' _
      · exact iiHN_call s _
      · exact iiHH_call s _ s' _
      · exact iiHR_call s _ l' _
      · exact iiRN_call l _
      · exact iiRH_call l _ s' _
      · exact iiRR_call l _ l' _ hs

end Go.Pier.Lg

namespace Go.Pier
open Go

variable {P : Program} {H H' : Heap} {K : Type} [DecidableEq K] {g : K → Prop} {kv : K → Value}

omit [DecidableEq K] in
theorem erase_mapG {α β : Type} (f : α → β) : ∀ (l : List α) (i : Nat), (l.map f).eraseIdx i = (l.eraseIdx i).map f
  | [], _ => rfl
  | _ :: _, 0 => rfl
  | a :: l, i + 1 => by simp only [List.map_cons, List.eraseIdx_cons_succ, erase_mapG f l i]

structure KeyOk (P : Program) (kt : TypeId) (g : K → Prop) (kv : K → Value) : Prop where
  eq : ∀ a b, g a → g b → pureRun P (Op.equal kt (kv a) (kv b)) = some (decide (a = b))
  now : ∃ d, P.underlying kt = some d ∧ ∀ a b, g a → g b → Instr.sameNow d (kv a) (kv b) = none
  chk : ∀ e a, g a → pureRun P (Instr.checkKey e 10000 kt (kv a)) = some ()
  bits : ∀ a, g a → Instr.sameBits 10000 (kv a) (kv a) = true
  sc : ∀ a, g a → sc2 0 (kv a) = true

abbrev Ent (K : Type) := K × Int × Nat
def mkE (kv : K → Value) (x : Ent K) : MapEntry := { key := kv x.1, val := .int .i64 x.2.1, born := x.2.2 }
def ent (kv : K → Value) (L : List (Ent K)) : List MapEntry := L.map (mkE kv)
def unE (uk : Value → K) (e : MapEntry) : Ent K := (uk e.key, intOf e.val, e.born)
def un (uk : Value → K) (es : List MapEntry) : List (Ent K) := es.map (unE uk)
omit [DecidableEq K] in
theorem un_ent {uk : Value → K} {L : List (Ent K)} (h : ∀ x ∈ L, uk (kv x.1) = x.1) : un uk (ent kv L) = L := by
  unfold un ent
  rw [List.map_map]
  have : L.map (unE uk ∘ mkE kv) = L.map id := List.map_congr_left fun x hx => by
    simp only [Function.comp, unE, mkE, h x hx, intOf, id]
  rw [this, List.map_id]

structure WF (g : K → Prop) (L : List (Ent K)) (c : Nat) : Prop where
  good : ∀ x ∈ L, g x.1
  keys : L.Pairwise fun a b => a.1 ≠ b.1
  borns : L.Pairwise fun a b => a.2.2 ≠ b.2.2
  old : ∀ x ∈ L, x.2.2 < c
omit [DecidableEq K] in
theorem WF.sub {L M : List (Ent K)} {c : Nat} (h : WF g L c) (hs : M.Sublist L) : WF g M c :=
  ⟨fun x hx => h.good x (hs.subset hx), h.keys.sublist hs, h.borns.sublist hs, fun x hx => h.old x (hs.subset hx)⟩

def findK (k : K) : List (Ent K) → Nat → Option (Nat × Ent K)
  | [], _ => none
  | x :: r, i => if x.1 = k then some (i, x) else findK k r (i + 1)
def hasK (L : List (Ent K)) (k : K) : Bool := L.any fun x => decide (x.1 = k)
def lookL (L : List (Ent K)) (k : K) : Int := match findK k L 0 with | some (_, x) => x.2.1 | none => 0
def slotL (L : List (Ent K)) (k : K) (c : Nat) : Nat := match findK k L 0 with | some (_, x) => x.2.2 | none => c
def touchL (L : List (Ent K)) (k : K) (c : Nat) : List (Ent K) := match findK k L 0 with | some _ => L | none => L ++ [(k, 0, c)]
def touchC (L : List (Ent K)) (k : K) (c : Nat) : Nat := match findK k L 0 with | some _ => c | none => c + 1
def delL (L : List (Ent K)) (k : K) : List (Ent K) := L.filter fun x => !decide (x.1 = k)
omit [DecidableEq K] in
def storeL (L : List (Ent K)) (n : Nat) (v : Int) : List (Ent K) := L.map fun x => if x.2.2 = n then (x.1, v, x.2.2) else x
def addL (L : List (Ent K)) (k : K) (d : Int) (c : Nat) : List (Ent K) := match findK k L 0 with | some _ => L.map fun x => if x.1 = k then (x.1, x.2.1 + d, x.2.2) else x | none => L ++ [(k, d, c)]

theorem findK_some {k : K} : ∀ {L : List (Ent K)} {j i : Nat} {x : Ent K}, findK k L j = some (i, x) → j ≤ i ∧ L[i - j]? = some x ∧ x.1 = k
  | [], _, _, _, h => by cases h
  | a :: r, j, i, x, h => by
    unfold findK at h
    split at h
    · cases h; simp [*]
    · obtain ⟨h1, h2, h3⟩ := findK_some h
      refine ⟨by omega, ?_, h3⟩
      rw [show i - j = (i - (j + 1)) + 1 by omega]
      simpa using h2
theorem findK_none {k : K} : ∀ {L : List (Ent K)} {j : Nat}, findK k L j = none → ∀ x ∈ L, x.1 ≠ k
  | [], _, _, x, hx => by cases hx
  | a :: r, j, h, x, hx => by
    unfold findK at h
    split at h
    · cases h
    · rcases List.mem_cons.1 hx with rfl | hx
      · assumption
      · exact findK_none h x hx
theorem inj_of {α β : Type} {f : α → β} {L : List α} (h : L.Pairwise fun a b => f a ≠ f b) {x y : α} (hx : x ∈ L) (hy : y ∈ L) (e : f x = f y) : x = y := by
  induction L with
  | nil => cases hx
  | cons a l ih =>
    rw [List.pairwise_cons] at h
    rcases List.mem_cons.1 hx with rfl | h1 <;> rcases List.mem_cons.1 hy with rfl | h2
    · rfl
    · exact absurd e (h.1 _ h2)
    · exact absurd e.symm (h.1 _ h1)
    · exact ih h.2 h1 h2
theorem inj_idx {α β : Type} {f : α → β} : ∀ {L : List α} {i j : Nat} {x y : α}, L.Pairwise (fun a b => f a ≠ f b) → L[i]? = some x → L[j]? = some y → f x = f y → i = j
  | [], _, _, _, _, _, h, _, _ => by simp at h
  | a :: l, 0, 0, _, _, _, _, _, _ => rfl
  | a :: l, 0, j + 1, x, y, h, hx, hy, e => by
    simp only [List.getElem?_cons_zero, Option.some.injEq] at hx
    subst hx
    exact absurd e ((List.pairwise_cons.1 h).1 y (List.mem_of_getElem? (by simpa using hy)))
  | a :: l, i + 1, 0, x, y, h, hx, hy, e => by
    simp only [List.getElem?_cons_zero, Option.some.injEq] at hy
    subst hy
    exact absurd e.symm ((List.pairwise_cons.1 h).1 x (List.mem_of_getElem? (by simpa using hx)))
  | a :: l, i + 1, j + 1, x, y, h, hx, hy, e => by
    have := inj_idx (f := f) (i := i) (j := j) (List.pairwise_cons.1 h).2 (by simpa using hx) (by simpa using hy) e
    rw [this]
theorem findK_mem {k : K} {L : List (Ent K)} {x : Ent K} (hw : L.Pairwise fun a b => a.1 ≠ b.1) (hx : x ∈ L) (hk : x.1 = k) : ∃ i, findK k L 0 = some (i, x) := by
  cases h : findK k L 0 with
  | none => exact absurd hk (findK_none h x hx)
  | some p =>
    obtain ⟨i, y⟩ := p
    obtain ⟨_, h2, h3⟩ := findK_some h
    have hy := List.mem_of_getElem? h2
    have := inj_of (f := fun x : Ent K => x.1) hw hx hy (hk.trans h3.symm)
    exact ⟨i, by rw [this]⟩
theorem ask_ent {kt : TypeId} (hK : KeyOk P kt g kv) {k : K} (hk : g k) : ∀ (L : List (Ent K)) (j : Nat), (∀ x ∈ L, g x.1) → aAsk P kt (kv k) (ent kv L) j = some ((findK k L j).map fun p => (p.1, Value.int .i64 p.2.2.1))
  | [], _, _ => rfl
  | x :: r, j, h => by
    have h1 := hK.eq k x.1 hk (h x List.mem_cons_self)
    show (pureRun P (Op.equal kt (kv k) (kv x.1))).bind _ = _
    rw [h1]
    simp only [Option.bind_some, decide_eq_true_eq]
    unfold findK
    by_cases e : k = x.1
    · rw [if_pos e, if_pos e.symm]; rfl
    · rw [if_neg e, if_neg (Ne.symm e)]
      exact ask_ent hK hk r (j + 1) fun y hy => h y (List.mem_cons_of_mem _ hy)
theorem find_ent {kt : TypeId} (hK : KeyOk P kt g kv) {k : K} (hk : g k) {L : List (Ent K)} (h : ∀ x ∈ L, g x.1) : aFindKey P kt (kv k) (ent kv L) = some ((findK k L 0).map fun p => (p.1, Value.int .i64 p.2.2.1)) := by
  obtain ⟨d, h1, h2⟩ := hK.now
  unfold aFindKey
  rw [h1]
  simp only [Option.bind_some]
  cases L with
  | nil => rfl
  | cons x r =>
    have hn : Instr.findNow d (kv k) (ent kv (x :: r)) 0 = none := by
      show (match Instr.sameNow d (kv k) (kv x.1) with | some true => _ | some false => _ | none => none) = none
      rw [h2 k x.1 hk (h x List.mem_cons_self)]
    rw [hn]
    exact ask_ent hK hk _ 0 h

theorem erase_filter {k : K} : ∀ {M : List (Ent K)} {i j : Nat} {x : Ent K}, M.Pairwise (fun a b => a.1 ≠ b.1) → findK k M j = some (i, x) → M.eraseIdx (i - j) = delL M k
  | [], _, _, _, _, h => by cases h
  | a :: r, i, j, x, hp, h => by
    obtain ⟨hp1, hp2⟩ := List.pairwise_cons.1 hp
    unfold findK at h
    split at h
    · rename_i e
      cases h
      simp only [Nat.sub_self, List.eraseIdx_zero, List.tail_cons]
      unfold delL
      rw [List.filter_cons, if_neg (by simp [e])]
      exact (List.filter_eq_self.2 fun y hy => by
        have := hp1 y hy
        simp; intro e2; exact this (e.trans e2.symm)).symm
    · rename_i e
      obtain ⟨h1, _, _⟩ := findK_some h
      have := erase_filter hp2 h
      rw [show i - j = (i - (j + 1)) + 1 by omega, List.eraseIdx_cons_succ, this]
      unfold delL
      rw [List.filter_cons, if_pos (by simp [e])]
theorem del_none {k : K} {M : List (Ent K)} (h : findK k M 0 = none) : delL M k = M :=
  List.filter_eq_self.2 fun y hy => by simp [findK_none h y hy]
section
variable {kt et t : TypeId} (hK : KeyOk P kt g kv) {m c : Nat} {L : List (Ent K)} (hu : P.underlying t = some (.map kt et)) (hw : WF g L c)
include hK hu hw
theorem look_ok (hz : zeroT P et = some (.int .i64 0)) (hm : H[m]? = some (.map (ent kv L) c)) {k : K} (hk : g k) : aLookup P H t (.map (some m)) (kv k) false = some (.int .i64 (lookL L k)) := by
  unfold aLookup
  rw [hu]
  simp only [aEntries, hm, Option.bind_some]
  rw [if_pos (sc_of_sc2 (hK.sc k hk)), hK.chk _ k hk]
  simp only [Option.bind_some, find_ent hK hk hw.good]
  unfold lookL
  cases findK k L 0 with
  | none => simp [hz]
  | some p => simp
theorem del_ok {tys : Array TypeId} (ht : tys[0]? = some t) (hm : H[m]? = some (.map (ent kv L) c)) {k : K} (hk : g k) : aDelete P H tys (.map (some m)) (kv k) = some (H.set m (.map (ent kv (delL L k)) c)) := by
  unfold aDelete
  rw [ht]
  simp only [hu, hm]
  rw [if_pos (sc_of_sc2 (hK.sc k hk)), hK.chk _ k hk]
  simp only [Option.bind_some, find_ent hK hk hw.good, Option.map_some]
  cases hf : findK k L 0 with
  | none => simp only [Option.map_none]; rw [del_none hf]
  | some p =>
    obtain ⟨i, x⟩ := p
    simp only [Option.map_some]
    have := erase_filter hw.keys hf
    rw [Nat.sub_zero] at this
    unfold ent
    rw [← this, erase_mapG]
theorem entry_ok (hz : zeroT P et = some (.int .i64 0)) (hm : H[m]? = some (.map (ent kv L) c)) {k : K} (hk : g k) :
    aMapEntry P H t (.map (some m)) (kv k) = some (.tuple #[.int .i64 (lookL L k), goInt (slotL L k c)], H.set m (.map (ent kv (touchL L k c)) (touchC L k c))) := by
  unfold aMapEntry
  rw [hu]
  simp only [hm]
  rw [if_pos (hK.sc k hk), hK.chk _ k hk]
  simp only [Option.bind_some, find_ent hK hk hw.good]
  unfold lookL slotL touchL touchC
  cases hf : findK k L 0 with
  | none =>
    simp only [Option.map_none, hz, Option.map_some]
    simp [ent, mkE]
  | some p =>
    obtain ⟨i, x⟩ := p
    obtain ⟨_, h2, h3⟩ := findK_some hf
    rw [Nat.sub_zero] at h2
    simp only [Option.map_some]
    have hx : (ent kv L)[i]? = some (mkE kv x) := by unfold ent; rw [List.getElem?_map, h2]; rfl
    rw [hx]
    simp only
    rw [if_pos (by show Instr.sameBits 10000 (kv x.1) (kv k) = true; rw [h3]; exact hK.bits k hk)]
    have hmod : (ent kv L).modify i (fun e => { e with key := kv k }) = ent kv L := by
      apply List.ext_getElem?
      intro j
      rw [List.getElem?_modify]
      by_cases e : i = j
      · subst e; rw [hx]; simp [mkE, h3]
      · simp [e]
    rw [hmod]
    rfl
end
omit [DecidableEq K] in
theorem store_ok {m c n : Nat} {L : List (Ent K)} {v : Int} (hb : L.Pairwise fun a b => a.2.2 ≠ b.2.2) (hm : H[m]? = some (.map (ent kv L) c)) (hn : ∃ x ∈ L, x.2.2 = n) :
    aEntryStore H (.map (some m)) (goInt n) (.int .i64 v) = some (H.set m (.map (ent kv (storeL L n v)) c)) := by
  unfold aEntryStore goInt
  simp only [hm]
  rw [if_pos (show sc2 H.length (.int .i64 v) = true from rfl)]
  have hf : ∃ i x, (ent kv L).findIdx? (fun e => (e.born : Int) == (n : Int)) = some i ∧ L[i]? = some x ∧ x.2.2 = n := by
    obtain ⟨x, hx, hxn⟩ := hn
    cases h : (ent kv L).findIdx? (fun e => (e.born : Int) == (n : Int)) with
    | none =>
      rw [List.findIdx?_eq_none_iff] at h
      have := h (mkE kv x) (List.mem_map_of_mem hx)
      simp [mkE, hxn] at this
    | some i =>
      rw [List.findIdx?_eq_some_iff_getElem] at h
      obtain ⟨h1, h2, _⟩ := h
      have hlt : i < L.length := by simpa [ent] using h1
      refine ⟨i, L[i], rfl, List.getElem?_eq_getElem hlt, ?_⟩
      simp [ent, mkE] at h2
      omega
  obtain ⟨i, x, h1, h2, h3⟩ := hf
  rw [h1]
  simp only
  congr 2
  congr 1
  apply List.ext_getElem?
  intro j
  unfold ent storeL
  rw [List.getElem?_modify, List.getElem?_map, List.getElem?_map, List.getElem?_map]
  by_cases e : i = j
  · subst e; rw [h2]; simp [mkE, h3]
  · cases hj : L[j]? with
    | none => simp
    | some y =>
      have hne : y.2.2 ≠ n := fun hy => by
        have h4 := inj_idx (f := fun x : Ent K => x.2.2) hb h2 hj (h3.trans hy.symm)
        exact e h4
      simp [e, hne]
theorem store_touch {L : List (Ent K)} {c : Nat} {k : K} {d : Int} (hw : WF g L c) : storeL (touchL L k c) (slotL L k c) (lookL L k + d) = addL L k d c := by
  unfold touchL slotL lookL addL
  cases hf : findK k L 0 with
  | none =>
    simp only
    unfold storeL
    rw [List.map_append]
    have : L.map (fun x : Ent K => if x.2.2 = c then (x.1, 0 + d, x.2.2) else x) = L.map id := List.map_congr_left fun x hx => by
      have := hw.old x hx
      simp only [id]
      rw [if_neg (by omega)]
    rw [this]
    simp
  | some p =>
    obtain ⟨i, x⟩ := p
    obtain ⟨_, h2, h3⟩ := findK_some hf
    simp only
    unfold storeL
    refine List.map_congr_left fun y hy => ?_
    by_cases e : y.1 = k
    · have := inj_of (f := fun x : Ent K => x.1) hw.keys hy (List.mem_of_getElem? h2) (e.trans h3.symm)
      subst this
      simp [e]
    · rw [if_neg e, if_neg]
      intro hb
      have := inj_of (f := fun x : Ent K => x.2.2) hw.borns hy (List.mem_of_getElem? h2) hb
      subst this
      exact e h3
theorem addL_wf {L : List (Ent K)} {c : Nat} {k : K} {d : Int} (hw : WF g L c) (hk : g k) : WF g (addL L k d c) (touchC L k c) := by
  unfold addL touchC
  cases hf : findK k L 0 with
  | none =>
    simp only
    have hn := findK_none hf
    refine ⟨fun x hx => ?_, ?_, ?_, fun x hx => ?_⟩
    · rcases List.mem_append.1 hx with h | h
      · exact hw.good x h
      · rw [List.mem_singleton.1 h]; exact hk
    · rw [List.pairwise_append]
      exact ⟨hw.keys, by simp, fun a ha b hb => by rw [List.mem_singleton.1 hb]; exact hn a ha⟩
    · rw [List.pairwise_append]
      exact ⟨hw.borns, by simp, fun a ha b hb => by rw [List.mem_singleton.1 hb]; have := hw.old a ha; simp only; omega⟩
    · rcases List.mem_append.1 hx with h | h
      · have := hw.old x h; omega
      · rw [List.mem_singleton.1 h]; simp
  | some p =>
    simp only
    refine ⟨fun x hx => ?_, ?_, ?_, fun x hx => ?_⟩
    · obtain ⟨y, hy, rfl⟩ := List.mem_map.1 hx
      split <;> exact hw.good y hy
    · rw [List.pairwise_map]
      refine hw.keys.imp fun {a b} h => ?_
      split <;> split <;> exact h
    · rw [List.pairwise_map]
      refine hw.borns.imp fun {a b} h => ?_
      split <;> split <;> exact h
    · obtain ⟨y, hy, rfl⟩ := List.mem_map.1 hx
      split <;> exact hw.old y hy

theorem look_mem {L : List (Ent K)} (hw : L.Pairwise fun a b => a.1 ≠ b.1) {x : Ent K} (hx : x ∈ L) : lookL L x.1 = x.2.1 := by
  obtain ⟨i, h⟩ := findK_mem hw hx rfl
  unfold lookL; rw [h]
theorem look_none {L : List (Ent K)} {k : K} (h : ∀ x ∈ L, x.1 ≠ k) : lookL L k = 0 := by
  unfold lookL
  cases hf : findK k L 0 with
  | none => rfl
  | some p => obtain ⟨_, h2, h3⟩ := findK_some (i := p.1) (x := p.2) hf; exact absurd h3 (h _ (List.mem_of_getElem? h2))
theorem look_add {L : List (Ent K)} {c : Nat} {k j : K} {d : Int} (hw : WF g L c) (hk : g k) : lookL (addL L k d c) j = lookL L j + if k = j then d else 0 := by
  have hw' := addL_wf (d := d) hw hk
  by_cases hj : ∃ x ∈ addL L k d c, x.1 = j
  · obtain ⟨x, hx, rfl⟩ := hj
    rw [look_mem hw'.keys hx]
    unfold addL at hx
    split at hx
    · rename_i p hp
      obtain ⟨y, hy, rfl⟩ := List.mem_map.1 hx
      by_cases e : y.1 = k
      · rw [if_pos e]
        simp only [if_pos e.symm, look_mem hw.keys hy]
      · simp only [if_neg e, look_mem hw.keys hy, if_neg (Ne.symm e)]; simp
    · rename_i hp
      rcases List.mem_append.1 hx with h | h
      · have := findK_none hp x h
        rw [look_mem hw.keys h, if_neg (Ne.symm this)]; simp
      · rw [List.mem_singleton.1 h]
        simp only [if_pos]
        rw [look_none (findK_none hp)]; simp
  · rw [look_none fun x hx e => hj ⟨x, hx, e⟩]
    unfold addL at hj
    split at hj
    · rename_i p hp
      have h1 : ∀ x ∈ L, x.1 ≠ j := fun x hx e => hj ⟨_, List.mem_map_of_mem hx, by split <;> exact e⟩
      obtain ⟨_, h2, h3⟩ := findK_some (i := p.1) (x := p.2) hp
      rw [look_none h1, if_neg (fun e => h1 _ (List.mem_of_getElem? h2) (h3.trans e))]; simp
    · rw [look_none fun x hx e => hj ⟨x, List.mem_append_left _ hx, e⟩, if_neg (fun e => hj ⟨_, List.mem_append_right _ (List.mem_singleton_self _), e⟩)]; simp
theorem look_del {L : List (Ent K)} {c : Nat} {k j : K} (hw : WF g L c) : lookL (delL L k) j = if k = j then 0 else lookL L j := by
  have hs : (delL L k).Sublist L := List.filter_sublist
  by_cases hj : ∃ x ∈ delL L k, x.1 = j
  · obtain ⟨x, hx, rfl⟩ := hj
    rw [look_mem (hw.keys.sublist hs) hx]
    have h2 := (List.mem_filter.1 hx).2
    simp only [Bool.not_eq_true', decide_eq_false_iff_not] at h2
    rw [if_neg (Ne.symm h2), look_mem hw.keys (hs.subset hx)]
  · rw [look_none fun x hx e => hj ⟨x, hx, e⟩]
    split
    · rfl
    · rename_i e
      symm
      refine look_none fun x hx e2 => hj ⟨x, List.mem_filter.2 ⟨hx, ?_⟩, e2⟩
      simp; intro e3; exact e (e3.symm.trans e2)
end Go.Pier

namespace Go.Pier
open Go

variable {P : Program} {H H' : Heap} {K : Type} [DecidableEq K] {g : K → Prop} {kv : K → Value} {uk : Value → K}

def orcMap (P : Program) (kv : K → Value) (uk : Value → K) (tn : Nat) : Orc := fun env H o => match o.op with
  | .lookup t x i ok => match ok, env x, env i with
    | false, some (.map (some m)), some k => match H[m]? with
      | some (.map es _) => some (aLookup P H t (.map (some m)) k false = some (.int .i64 (lookL (un uk es) (uk k))), some (.int .i64 (lookL (un uk es) (uk k))), H)
      | _ => none
    | _, _, _ => none
  | .mapEntry t x i => match env x, env i with
    | some (.map (some m)), some k => match H[m]? with
      | some (.map es c) => some (aMapEntry P H t (.map (some m)) k = some (.tuple #[.int .i64 (lookL (un uk es) (uk k)), .int .i64 (slotL (un uk es) (uk k) c)], H.set m (.map (ent kv (touchL (un uk es) (uk k) c)) (touchC (un uk es) (uk k) c))),
          some (.tuple #[.int .i64 (lookL (un uk es) (uk k)), .int .i64 (slotL (un uk es) (uk k) c)]), H.set m (.map (ent kv (touchL (un uk es) (uk k) c)) (touchC (un uk es) (uk k) c)))
      | _ => none
    | _, _ => none
  | .entryStore _ x s v => match env x, env s, env v with
    | some (.map (some m)), some (.int .i64 n), some (.int .i64 d) => match H[m]? with
      | some (.map es c) => some (aEntryStore H (.map (some m)) (.int .i64 n) (.int .i64 d) = some (H.set m (.map (ent kv (storeL (un uk es) n.toNat d)) c)), none, H.set m (.map (ent kv (storeL (un uk es) n.toNat d)) c))
      | _ => none
    | _, _, _ => none
  | .entry x => match env x, env (.tmp tn) with
    | some it, some (.tuple vs) => match vs.toList with
      | [_, k, v] => some (aEntry H it = some (.tuple #[k, v]), some (.tuple #[k, v]), H)
      | _ => none
    | _, _ => none
  | .call c => match c.callee with
    | .builtin .delete => match envs env c.args.toList with
      | some [.map (some m), k] => match H[m]? with
        | some (.map es cl) => some (aDelete P H c.argTypes (.map (some m)) k = some (H.set m (.map (ent kv (delL (un uk es) (uk k))) cl)), some (.tuple #[]), H.set m (.map (ent kv (delL (un uk es) (uk k))) cl))
        | _ => none
      | _ => none
    | _ => none
  | _ => none
theorem orcMap_ok {tn : Nat} : OrcOk P (orcMap P kv uk tn) := fun env H o φ v H' h hφ => by
  unfold orcMap at h
  split at h <;> try (cases h; done)
  · rename_i t x i ok hop
    split at h <;> try (cases h; done)
    rename_i m k hx hi
    split at h <;> cases h
    unfold evOp
    rw [hop]
    simp only [hx, hi, show aLookup P H t (.map (some m)) k false = _ from hφ, Option.map_some, outOf]
  · rename_i t x i hop
    split at h <;> try (cases h; done)
    rename_i m k hx hi
    split at h <;> cases h
    unfold evOp
    rw [hop]
    simp only [hx, hi, show aMapEntry P H t (.map (some m)) k = _ from hφ, Option.map_some, outOf]
  · rename_i t x s vv hop
    split at h <;> try (cases h; done)
    rename_i m n d hx hs hv
    split at h <;> cases h
    unfold evOp
    rw [hop]
    simp only [hx, hs, hv, show aEntryStore H (.map (some m)) (.int .i64 n) (.int .i64 d) = _ from hφ, Option.map_some, outOf]
  · rename_i x hop
    split at h <;> try (cases h; done)
    rename_i it vs hx ht
    split at h <;> cases h
    unfold evOp
    rw [hop]
    simp only [hx, Option.bind_some, show aEntry H it = _ from hφ, Option.map_some, outOf]
  · rename_i c hop
    split at h <;> try (cases h; done)
    rename_i hcal
    split at h <;> try (cases h; done)
    rename_i m k hargs
    split at h <;> cases h
    unfold evOp
    rw [hop]
    simp only [evCall, hargs, Option.bind_some, hcal, evBuiltin, show aDelete P H c.argTypes (.map (some m)) k = _ from hφ, Option.map_some, outOf]

def doneS (H : Heap) (L : List (Ent K)) (sl : List Nat) : NShape := ⟨Unit, fun _ => ∀ x ∈ L, x.2.2 ∈ sl, fun _ => .tuple #[.bool false], fun _ => H, some false⟩
def moreS (kv : K → Value) (H : Heap) (a m s : Nat) (L : List (Ent K)) (sl : List Nat) (c : Nat) : NShape :=
  ⟨Ent K, fun x => x ∈ L ∧ x.2.2 ∉ sl, fun x => .tuple #[.bool true, kv x.1, .int .i64 x.2.1], fun x => H.set a (.iter m s (sl ++ [x.2.2]).toArray c), some true⟩
def nxMap (kv : K → Value) (uk : Value → K) : Heap → Value → List NShape := fun H v => match v with
  | .pointer (some a) => match H[a.block]? with
    | some (.iter m s seen c) => match H[m]? with
      | some (.map es _) => [doneS H (un uk es) seen.toList, moreS kv H a.block m s (un uk es) seen.toList c]
      | _ => []
    | _ => []
  | _ => []
omit [DecidableEq K] in
theorem next_ok {a m c : Nat} {sl : List Nat} {L : List (Ent K)} (hw : WF g L c) (hi : H[a]? = some (.iter m c sl.toArray c)) (hm : H[m]? = some (.map (ent kv L) c)) :
    NextOk H (.pointer (some ⟨a, 0, none⟩)) [doneS H L sl, moreS kv H a m c L sl c] := by
  unfold NextOk aNext
  simp only [if_true, hi, hm]
  rw [if_neg]
  · refine ⟨_, rfl, fun p hp => ?_⟩
    obtain ⟨q, hq, rfl⟩ := List.mem_map.1 hp
    unfold candList at hq
    simp only at hq
    rcases List.mem_append.1 hq with h | h
    · split at h
      · rename_i he
        rw [List.mem_singleton.1 h]
        refine ⟨doneS H L sl, List.mem_cons_self, (), fun x hx => ?_, rfl⟩
        rw [List.isEmpty_iff, List.filter_eq_nil_iff] at he
        have h1 := hw.old x hx
        have h2 := he (mkE kv x)
        by_cases hs : x.2.2 ∈ sl
        · exact hs
        · exact absurd (decide_eq_true (p := (mkE kv x).born < c) h1) (h2 (List.mem_filter.2 ⟨List.mem_map_of_mem hx, by simp [mkE, hs]⟩))
      · cases h
    · obtain ⟨e, he, rfl⟩ := List.mem_map.1 h
      have he' : e ∈ (ent kv L).filter fun e => !sl.toArray.contains e.born := by
        rcases List.mem_append.1 he with h1 | h1
        · exact (List.mem_filter.1 h1).1
        · exact (List.mem_filter.1 h1).1
      obtain ⟨h1, h2⟩ := List.mem_filter.1 he'
      obtain ⟨x, hx, rfl⟩ := List.mem_map.1 h1
      refine ⟨moreS kv H a m c L sl c, List.mem_cons_of_mem _ List.mem_cons_self, x, ⟨hx, by simpa [mkE] using h2⟩, ?_⟩
      simp [moreS, mkE]
  · simp only [Bool.and_eq_true, not_and, Bool.not_eq_true]
    intro ⟨_, hne⟩
    cases L with
    | nil => simp [ent] at hne
    | cons x l =>
      have := hw.old x List.mem_cons_self
      simp [ent, mkE]; intro hx; omega
omit [DecidableEq K] in
theorem ent_ok {a m c : Nat} {sl : List Nat} {L : List (Ent K)} {x : Ent K} (hb : L.Pairwise fun a b => a.2.2 ≠ b.2.2) (hx : x ∈ L) (hi : H[a]? = some (.iter m c (sl ++ [x.2.2]).toArray c)) (hm : H[m]? = some (.map (ent kv L) c)) :
    aEntry H (.pointer (some ⟨a, 0, none⟩)) = some (.tuple #[kv x.1, .int .i64 x.2.1]) := by
  unfold aEntry
  have h1 : ((sl ++ [x.2.2]).toArray).back? = some x.2.2 := by simp
  simp only [if_true, hi, hm, h1]
  have hf : (ent kv L).find? (fun e => e.born == x.2.2) = some (mkE kv x) := by
    cases h : (ent kv L).find? (fun e => e.born == x.2.2) with
    | none =>
      have := List.find?_eq_none.1 h (mkE kv x) (List.mem_map_of_mem hx)
      simp [mkE] at this
    | some y =>
      have h2 := List.mem_of_find?_eq_some h
      have h3 := List.find?_some h
      obtain ⟨z, hz, rfl⟩ := List.mem_map.1 h2
      have := inj_of (f := fun x : Ent K => x.2.2) hb hz hx (by simpa [mkE] using h3)
      rw [this]
  rw [hf]; rfl

end Go.Pier

set_option maxRecDepth 100000
set_option linter.unusedVariables false
set_option linter.unusedSimpArgs false
namespace Go.Pier.Lg
open Go Go.Pier Go.Proofs 
def kL (n : Int) (k : Fin 256) : Value := .agg #[vi n, .bool (k.1.testBit 0), .bool (k.1.testBit 1), .bool (k.1.testBit 2), .bool (k.1.testBit 3), .bool (k.1.testBit 4), .bool (k.1.testBit 5), .bool (k.1.testBit 6), .bool (k.1.testBit 7)]
def maskOf (b : Nat → Bool) : Nat := (b 0).toNat + 2 * (b 1).toNat + 4 * (b 2).toNat + 8 * (b 3).toNat + 16 * (b 4).toNat + 32 * (b 5).toNat + 64 * (b 6).toNat + 128 * (b 7).toNat
def aggC' : Value → List Value | .agg cs => cs.toList | _ => []
theorem mask_lt (b : Nat → Bool) : maskOf b < 256 := by
  unfold maskOf
  have h : ∀ c : Bool, c.toNat ≤ 1 := fun c => by cases c <;> decide
  have := h (b 0); have := h (b 1); have := h (b 2); have := h (b 3); have := h (b 4); have := h (b 5); have := h (b 6); have := h (b 7)
  omega
def uL (v : Value) : Fin 256 := ⟨maskOf fun i => getB (aggC' v) (1 + i), mask_lt _⟩
def gL (_ : Fin 256) : Prop := True


theorem undl {t : TypeId} {d : TypeDesc} (h : Try.prog.underlying t = some d) : pureRun Try.prog (Go.underlying t) = some d := by
  show pureRun Try.prog (match Try.prog.underlying t with | some d => (Sem.pure d : Sem TypeDesc) | none => stuck "no such type") = _
  rw [h]; rfl
theorem u60 : Try.prog.underlying 60 = some (.array 8 4) := by kernel_rfl
theorem u4 : Try.prog.underlying 4 = some .bool := by kernel_rfl
theorem u3 : Try.prog.underlying 3 = some (.int .i64) := by kernel_rfl
theorem eqBool (d : Nat) (a b : Bool) : pureRun Try.prog (Op.equalIn (d + 1) 4 (.bool a) (.bool b)) = some (a == b) := by
  unfold Op.equalIn
  rw [pureRun_bind (undl u4)]
  rfl
theorem eqInt (d : Nat) (a b : Int) : pureRun Try.prog (Op.equalIn (d + 1) 3 (vi a) (vi b)) = some (a == b) := by
  unfold Op.equalIn
  rw [pureRun_bind (undl u3)]
  rfl
theorem loop_eq {α : Type} {f : α → Option Bool × Unit → Sem (ForInStep (Option Bool × Unit))} {e : α → Bool} : ∀ (l : List α), (∀ i ∈ l, ∀ s, pureRun Try.prog (f i s) = some (if e i = true then .yield (none, ()) else .done (some false, ()))) →
    pureRun Try.prog (forIn l ((none, ()) : Option Bool × Unit) f) = some (if l.all e = true then (none, ()) else (some false, ()))
  | [], _ => rfl
  | a :: l, h => by
    rw [List.forIn_cons, pureRun_bind (h a List.mem_cons_self _)]
    cases he : e a with
    | true =>
      simp only [if_true, List.all_cons, he, Bool.true_and]
      exact loop_eq l fun i hi s => h i (List.mem_cons_of_mem _ hi) s
    | false => simp [he]; rfl
theorem partAt {x0 x1 x2 x3 x4 x5 x6 x7 : Bool} {i : Nat} (h : i < 8) : pureRun Try.prog (part 4 #[.bool x0, .bool x1, .bool x2, .bool x3, .bool x4, .bool x5, .bool x6, .bool x7] (i * 1)) = some (.bool (getB [.bool x0, .bool x1, .bool x2, .bool x3, .bool x4, .bool x5, .bool x6, .bool x7] i)) := by
  rcases i with _ | _ | _ | _ | _ | _ | _ | _ | i
  · kernel_rfl
  · kernel_rfl
  · kernel_rfl
  · kernel_rfl
  · kernel_rfl
  · kernel_rfl
  · kernel_rfl
  · kernel_rfl
  · omega
theorem eqArr (d : Nat) (x0 x1 x2 x3 x4 x5 x6 x7 y0 y1 y2 y3 y4 y5 y6 y7 : Bool) : pureRun Try.prog (Op.equalIn (d + 2) 60 (.agg #[.bool x0, .bool x1, .bool x2, .bool x3, .bool x4, .bool x5, .bool x6, .bool x7]) (.agg #[.bool y0, .bool y1, .bool y2, .bool y3, .bool y4, .bool y5, .bool y6, .bool y7])) =
    some ((List.range' 0 8).all fun i => getB [.bool x0, .bool x1, .bool x2, .bool x3, .bool x4, .bool x5, .bool x6, .bool x7] i == getB [.bool y0, .bool y1, .bool y2, .bool y3, .bool y4, .bool y5, .bool y6, .bool y7] i) := by
  unfold Op.equalIn
  rw [pureRun_bind (undl u60)]
  simp only []
  rw [pureRun_bind (show pureRun Try.prog (sizeOf 4) = some 1 by kernel_rfl)]
  simp only [Std.Legacy.Range.forIn_eq_forIn_range']
  rw [pureRun_bind (loop_eq (e := fun i => getB [.bool x0, .bool x1, .bool x2, .bool x3, .bool x4, .bool x5, .bool x6, .bool x7] i == getB [.bool y0, .bool y1, .bool y2, .bool y3, .bool y4, .bool y5, .bool y6, .bool y7] i) _ fun i hi s => ?_)]
  · have e8 : List.range' 0 ([:8] : Std.Legacy.Range).size = List.range' 0 8 := rfl
    rw [e8]
    cases (List.range' 0 8).all fun i => getB [.bool x0, .bool x1, .bool x2, .bool x3, .bool x4, .bool x5, .bool x6, .bool x7] i == getB [.bool y0, .bool y1, .bool y2, .bool y3, .bool y4, .bool y5, .bool y6, .bool y7] i <;> rfl
  · have hi8 : i < 8 := by
      have : i ∈ List.range' 0 8 := hi
      simp [List.mem_range'] at this
      omega
    rw [pureRun_bind (partAt hi8), pureRun_bind (partAt hi8), pureRun_bind (eqBool _ _ _)]
    cases getB [.bool x0, .bool x1, .bool x2, .bool x3, .bool x4, .bool x5, .bool x6, .bool x7] i == getB [.bool y0, .bool y1, .bool y2, .bool y3, .bool y4, .bool y5, .bool y6, .bool y7] i <;> rfl
noncomputable def fs62 : Array Field := match Try.prog.underlying 62 with | some (.struct f) => f | _ => #[]
noncomputable def fd0 : Field := fs62.toList.getD 0 default
noncomputable def fd1 : Field := fs62.toList.getD 1 default
theorem u62 : Try.prog.underlying 62 = some (.struct fs62) := by kernel_rfl
theorem l62 : fs62.toList = [fd0, fd1] := by kernel_rfl
theorem eqStruct (d : Nat) (n : Int) (x0 x1 x2 x3 x4 x5 x6 x7 y0 y1 y2 y3 y4 y5 y6 y7 : Bool) : pureRun Try.prog (Op.equalIn (d + 3) 62 (.agg #[vi n, .bool x0, .bool x1, .bool x2, .bool x3, .bool x4, .bool x5, .bool x6, .bool x7]) (.agg #[vi n, .bool y0, .bool y1, .bool y2, .bool y3, .bool y4, .bool y5, .bool y6, .bool y7])) =
    some ((List.range' 0 8).all fun i => getB [.bool x0, .bool x1, .bool x2, .bool x3, .bool x4, .bool x5, .bool x6, .bool x7] i == getB [.bool y0, .bool y1, .bool y2, .bool y3, .bool y4, .bool y5, .bool y6, .bool y7] i) := by
  unfold Op.equalIn
  rw [pureRun_bind (undl u62)]
  simp only []
  rw [pureRun_bind (show pureRun Try.prog program = some Try.prog from rfl)]
  rw [if_neg (show ¬ Program.stoodInHeld Try.prog 62 = true by rw [show Program.stoodInHeld Try.prog 62 = false by kernel_rfl]; exact Bool.false_ne_true)]
  rw [← Array.forIn_toList, l62]
  rw [pureRun_bind (loop_eq (e := fun f : Field => f.offset == 0 || ((List.range' 0 8).all fun i => getB [.bool x0, .bool x1, .bool x2, .bool x3, .bool x4, .bool x5, .bool x6, .bool x7] i == getB [.bool y0, .bool y1, .bool y2, .bool y3, .bool y4, .bool y5, .bool y6, .bool y7] i)) _ fun f hf s => ?_)]
  · have o0 : (fd0.offset == 0) = true := by kernel_rfl
    have o1 : (fd1.offset == 0) = false := by kernel_rfl
    simp only [List.all_cons, List.all_nil, o0, o1, Bool.true_or, Bool.false_or, Bool.true_and, Bool.and_true]
    cases (List.range' 0 8).all fun i => getB [.bool x0, .bool x1, .bool x2, .bool x3, .bool x4, .bool x5, .bool x6, .bool x7] i == getB [.bool y0, .bool y1, .bool y2, .bool y3, .bool y4, .bool y5, .bool y6, .bool y7] i <;> rfl
  · rcases List.mem_cons.1 hf with rfl | hf
    · have o0 : (fd0.offset == 0) = true := by kernel_rfl
      rw [if_pos (show fd0.name ≠ "_" from of_decide_eq_true (by kernel_rfl))]
      rw [pureRun_bind (show pureRun Try.prog (part fd0.type #[vi n, .bool x0, .bool x1, .bool x2, .bool x3, .bool x4, .bool x5, .bool x6, .bool x7] fd0.offset) = some (vi n) by kernel_rfl)]
      rw [pureRun_bind (show pureRun Try.prog (part fd0.type #[vi n, .bool y0, .bool y1, .bool y2, .bool y3, .bool y4, .bool y5, .bool y6, .bool y7] fd0.offset) = some (vi n) by kernel_rfl)]
      rw [show fd0.type = 3 by kernel_rfl, pureRun_bind (eqInt _ _ _), o0]
      simp only [beq_self_eq_true, Bool.true_or]
      rfl
    · rw [List.mem_singleton.1 hf]
      have o1 : (fd1.offset == 0) = false := by kernel_rfl
      rw [if_pos (show fd1.name ≠ "_" from of_decide_eq_true (by kernel_rfl))]
      rw [pureRun_bind (show pureRun Try.prog (part fd1.type #[vi n, .bool x0, .bool x1, .bool x2, .bool x3, .bool x4, .bool x5, .bool x6, .bool x7] fd1.offset) = some (.agg #[.bool x0, .bool x1, .bool x2, .bool x3, .bool x4, .bool x5, .bool x6, .bool x7]) by kernel_rfl)]
      rw [pureRun_bind (show pureRun Try.prog (part fd1.type #[vi n, .bool y0, .bool y1, .bool y2, .bool y3, .bool y4, .bool y5, .bool y6, .bool y7] fd1.offset) = some (.agg #[.bool y0, .bool y1, .bool y2, .bool y3, .bool y4, .bool y5, .bool y6, .bool y7]) by kernel_rfl)]
      rw [show fd1.type = 60 by kernel_rfl, pureRun_bind (eqArr _ _ _ _ _ _ _ _ _ _ _ _ _ _ _ _ _), o1]
      simp only [Bool.false_or]
      cases (List.range' 0 8).all fun i => getB [.bool x0, .bool x1, .bool x2, .bool x3, .bool x4, .bool x5, .bool x6, .bool x7] i == getB [.bool y0, .bool y1, .bool y2, .bool y3, .bool y4, .bool y5, .bool y6, .bool y7] i <;> rfl
theorem bits8 : ∀ b0 b1 b2 b3 b4 b5 b6 b7 : Bool, ∀ m, m = b0.toNat + 2 * b1.toNat + 4 * b2.toNat + 8 * b3.toNat + 16 * b4.toNat + 32 * b5.toNat + 64 * b6.toNat + 128 * b7.toNat →
    m.testBit 0 = b0 ∧ m.testBit 1 = b1 ∧ m.testBit 2 = b2 ∧ m.testBit 3 = b3 ∧ m.testBit 4 = b4 ∧ m.testBit 5 = b5 ∧ m.testBit 6 = b6 ∧ m.testBit 7 = b7 := by
  have : ∀ b0 b1 b2 b3 b4 b5 b6 b7 : Bool, (fun m : Nat => m.testBit 0 = b0 ∧ m.testBit 1 = b1 ∧ m.testBit 2 = b2 ∧ m.testBit 3 = b3 ∧ m.testBit 4 = b4 ∧ m.testBit 5 = b5 ∧ m.testBit 6 = b6 ∧ m.testBit 7 = b7)
      (b0.toNat + 2 * b1.toNat + 4 * b2.toNat + 8 * b3.toNat + 16 * b4.toNat + 32 * b5.toNat + 64 * b6.toNat + 128 * b7.toNat) := by decide +kernel
  intro b0 b1 b2 b3 b4 b5 b6 b7 m hm
  subst hm
  exact this b0 b1 b2 b3 b4 b5 b6 b7
theorem mask_bit (b : Nat → Bool) {i : Nat} (hi : i < 8) : (maskOf b).testBit i = b i := by
  obtain ⟨h0, h1, h2, h3, h4, h5, h6, h7⟩ := bits8 (b 0) (b 1) (b 2) (b 3) (b 4) (b 5) (b 6) (b 7) (maskOf b) rfl
  rcases i with _ | _ | _ | _ | _ | _ | _ | _ | i <;> first | assumption | omega
theorem mask_own : ∀ k : Nat, k < 256 → maskOf (fun i => k.testBit i) = k := by decide +kernel
theorem bits_inj {a b : Nat} (ha : a < 256) (hb : b < 256) (h : ∀ i, i < 8 → a.testBit i = b.testBit i) : a = b := by
  rw [← mask_own a ha, ← mask_own b hb]
  unfold maskOf
  simp only [h 0 (by omega), h 1 (by omega), h 2 (by omega), h 3 (by omega), h 4 (by omega), h 5 (by omega), h 6 (by omega), h 7 (by omega)]
theorem uL_kL {n : Int} {k : Fin 256} : uL (kL n k) = k := Fin.ext (mask_own k.1 k.2)
theorem key_eq (n : Int) (a b : Fin 256) : pureRun Try.prog (Op.equal 62 (kL n a) (kL n b)) = some (decide (a = b)) := by
  have := eqStruct 9997 n (a.1.testBit 0) (a.1.testBit 1) (a.1.testBit 2) (a.1.testBit 3) (a.1.testBit 4) (a.1.testBit 5) (a.1.testBit 6) (a.1.testBit 7) (b.1.testBit 0) (b.1.testBit 1) (b.1.testBit 2) (b.1.testBit 3) (b.1.testBit 4) (b.1.testBit 5) (b.1.testBit 6) (b.1.testBit 7)
  show pureRun Try.prog (Op.equalIn (9997 + 3) 62 _ _) = _
  unfold kL
  rw [this]
  congr 1
  rw [Bool.eq_iff_iff, List.all_eq_true, decide_eq_true_eq]
  constructor
  · intro h
    refine Fin.ext (bits_inj a.2 b.2 fun i hi => ?_)
    have := h i (by simp [List.mem_range']; omega)
    rcases i with _ | _ | _ | _ | _ | _ | _ | _ | i <;> first | (simpa [getB] using this) | omega
  · rintro rfl i _
    simp
theorem keyOk (n : Int) : KeyOk Try.prog 62 gL (kL n) where
  eq := fun a b _ _ => key_eq n a b
  now := ⟨_, u62, fun _ _ _ _ => rfl⟩
  chk := fun e a _ => by cases e <;> kernel_rfl
  bits := fun a _ => by simp [kL, Instr.sameBits]
  sc := fun a _ => by simp [kL, sc2, sc1, sc0]
theorem un_kL {n : Int} {L : List (Ent (Fin 256))} : un uL (ent (kL n) L) = L := un_ent fun _ _ => uL_kL
theorem map_ent {n : Int} {L : List (Ent (Fin 256))} {σ : Nat → Nat} : List.map (fun (e : MapEntry) => { key := e.key, val := nmap2 σ e.val, born := e.born }) (ent (kL n) L) = ent (kL n) L := by
  unfold ent
  rw [List.map_map]
  exact List.map_congr_left fun _ _ => rfl
theorem sc_ent {n : Int} {L : List (Ent (Fin 256))} {m c : Nat} : AObj.sc m (.map (ent (kL n) L) c) = true := by
  refine List.all_eq_true.2 fun e he => ?_
  obtain ⟨x, _, rfl⟩ := List.mem_map.1 he
  simp [mkE, kL, sc2, sc1, sc0]
theorem kL_mask {n : Int} {tk : Nat → Bool} : Value.agg { toList := lgC n tk } = kL n (uL (.agg { toList := lgC n tk })) := by
  have hb : ∀ i, i < 8 → (uL (.agg { toList := lgC n tk })).1.testBit i = tk i := fun i hi => by
    show (maskOf fun i => getB (lgC n tk) (1 + i)).testBit i = tk i
    rw [mask_bit _ hi, lg_getB hi]
  unfold kL
  rw [hb 0 (by omega), hb 1 (by omega), hb 2 (by omega), hb 3 (by omega), hb 4 (by omega), hb 5 (by omega), hb 6 (by omega), hb 7 (by omega)]
  rfl
theorem kL_uL {n : Int} {tk : Nat → Bool} : uL (.agg { toList := lgC n tk }) = ⟨maskOf tk, mask_lt _⟩ := rfl
theorem fT_bits {v : Value} {k : Fin 256} {x : Option Addr} {m c : Nat} {s f : Int} : fT (v :: T8 k.1.testBit [.slice x m c, vi s, vi f]) = k.1.testBit := by
  funext i
  rcases i with _ | _ | _ | _ | _ | _ | _ | _ | _ | _ | _ | i
  all_goals first | rfl | skip
  all_goals symm
  · exact Nat.testBit_lt_two_pow (Nat.lt_of_lt_of_le k.2 (by decide))
  · exact Nat.testBit_lt_two_pow (Nat.lt_of_lt_of_le k.2 (by decide))
  · exact Nat.testBit_lt_two_pow (Nat.lt_of_lt_of_le k.2 (by decide))
  · show k.1.testBit (i + 11) = getB _ (1 + (i + 11))
    rw [Nat.testBit_lt_two_pow (Nat.lt_of_lt_of_le k.2 (by rw [show (256 : Nat) = 2 ^ 8 from rfl]; exact Nat.pow_le_pow_right (by decide) (by omega)))]
    unfold getB
    rw [List.getElem?_eq_none (by simp [T8]; omega)]

end Go.Pier.Lg

