import Derived.Test.YtinkmgacaoohnaaPierMR2
import Derived.KernelRfl
set_option linter.unusedSimpArgs false
set_option linter.unusedVariables false
set_option maxRecDepth 100000
set_option linter.unusedVariables false
set_option linter.unusedSimpArgs false
namespace Go.Pier.Lg
open Go Go.Pier Go.Proofs
theorem updB_ne {tk : Nat → Bool} {a i : Nat} (h : i ≠ a) : updB tk a i = tk i := by
  rw [Bool.eq_iff_iff, updB_at]
  exact ⟨fun k => k.resolve_left h, .inr⟩
theorem updB_self {tk : Nat → Bool} {a : Nat} : updB tk a a = true := updB_at.2 (.inl rfl)
end Go.Pier.Lg
set_option maxRecDepth 100000
set_option linter.unusedVariables false
set_option linter.unusedSimpArgs false
namespace Go.Pier.Lg
open Go Go.Pier Go.Proofs
end Go.Pier.Lg
set_option maxRecDepth 100000
set_option linter.unusedVariables false
set_option linter.unusedSimpArgs false
namespace Go.Pier.Lg
open Go Go.Pier Go.Proofs
noncomputable def hasB : Code := Try.f45.body.getD .skip
def hasI (l : List Int) (n : Int) (c : Nat) : Nat → Option LInv := invOf 0 (LInv.one Nat (fun i => i ≤ l.length ∧ ∀ j, j < i → l.getD j 0 ≠ n) (fun i => [(0, .slice (some ⟨0,0,none⟩) l.length c), (1, vi n), (4, .bool false), (5, vi i)]) (fun _ => [.ro (l.map (.int .i64))]) (fun i => l.length - i))
def hasNI (n : Int) : Nat → Option LInv := invOf 0 (LInv.one Unit (fun _ => True) (fun _ => [(0, .slice none 0 0), (1, vi n), (4, .bool false), (5, vi 0)]) (fun _ => []) (fun _ => 0))
noncomputable def hasV :=
fun (l : List Int) (n : Int) (c : Nat) ↦ (∃ (y : Nat), Ob (y ≤ l.length ∧ ∀ (j : Nat), j < y → l.getD j (0 : Int) ≠ n) ∧ (Ob (AObj.ro (List.map (Value.int IntKind.i64) l) = AObj.ro (List.map (nmap1 fun (b : Nat) ↦ b) (List.map (Value.int IntKind.i64) l)) ∧ AObj.sc (1 : Nat) (AObj.ro (List.map (Value.int IntKind.i64) l)) = true) ∧ True) ∧ Ob (Value.slice (some (ad0 0)) l.length c = Value.slice (some (ad0 0)) l.length c) ∧ Ob (n = n) ∧ Ob (false = false) ∧ Ob ((0 : Int) = (↑y : Int)) ∧ True) ∧ ∀ (x : Nat), Ob (x ≤ l.length ∧ ∀ (j : Nat), j < x → l.getD j (0 : Int) ≠ n) → (decide ((↑x : Int) < (↑l.length : Int)) = true → Ob ((0 : Int) ≤ (↑x : Int) ∧ (↑x : Int) < (↑l.length : Int) ∧ true = true) ∧ Ob (IntAt IntKind.i64 (List.map (Value.int IntKind.i64) l) ((0 : Nat) + (↑x : Int).toNat * (1 : Nat))) ∧ ((getI (List.map (Value.int IntKind.i64) l) ((0 : Nat) + (↑x : Int).toNat * (1 : Nat)) == n) = true → True ∧ Ob (Value.bool true = Value.bool (decide (n ∈ l)) ∧ [AObj.ro (List.map (Value.int IntKind.i64) l)] = [AObj.ro (List.map (Value.int IntKind.i64) l)])) ∧ ((getI (List.map (Value.int IntKind.i64) l) ((0 : Nat) + (↑x : Int).toNat * (1 : Nat)) == n) = false → ∃ (y : Nat), Ob (y ≤ l.length ∧ ∀ (j : Nat), j < y → l.getD j (0 : Int) ≠ n) ∧ Ob (l.length - y < l.length - x) ∧ (Ob (AObj.ro (List.map (Value.int IntKind.i64) l) = AObj.ro (List.map (nmap1 fun (b : Nat) ↦ b) (List.map (Value.int IntKind.i64) l)) ∧ AObj.sc (1 : Nat) (AObj.ro (List.map (Value.int IntKind.i64) l)) = true) ∧ True) ∧ Ob (Value.slice (some (ad0 0)) l.length c = Value.slice (some (ad0 0)) l.length c) ∧ Ob (n = n) ∧ Ob (false = false) ∧ Ob (IntKind.i64.wrap ((↑x : Int) + (1 : Int)) = (↑y : Int)) ∧ True)) ∧ (decide ((↑x : Int) < (↑l.length : Int)) = false → True ∧ Ob (Value.bool false = Value.bool (decide (n ∈ l)) ∧ [AObj.ro (List.map (Value.int IntKind.i64) l)] = [AObj.ro (List.map (Value.int IntKind.i64) l)]))
theorem hasV_eq : hasV = fun (l : List Int) (n : Int) (c : Nat) => vc Try.prog {} 1 18 true (hasI l n c) hasB [] (argFr 0 [.slice (some ⟨0,0,none⟩) l.length c, vi n]) [.ro (l.map (.int .i64))] (retK Try.prog Try.f45 (fun v H1 => v = .bool (decide (n ∈ l)) ∧ H1 = [.ro (l.map (.int .i64))])) := by kernel_rfl
noncomputable def hasN :=
fun (n : Int) ↦ (∃ (y : Unit), Ob True ∧ True ∧ Ob (Value.slice none (0 : Nat) (0 : Nat) = Value.slice none (0 : Nat) (0 : Nat)) ∧ Ob (n = n) ∧ Ob (false = false) ∧ Ob ((0 : Int) = (0 : Int)) ∧ True) ∧ ∀ (x : Unit), Ob True → (false = true → False) ∧ (false = false → True ∧ Ob (Value.bool false = Value.bool false))
theorem hasN_eq : hasN = fun (n : Int) => vc Try.prog {} 0 18 true (hasNI n) hasB [] (argFr 0 [.slice none 0 0, vi n]) [] (retK Try.prog Try.f45 (fun v _ => v = .bool false)) := by kernel_rfl
theorem getD_memR {l : List Int} {i : Nat} (h : i < l.length) : l.getD i 0 ∈ l := by
  rw [List.getD_eq_getElem?_getD, List.getElem?_eq_getElem h]; exact List.getElem_mem h
theorem hasV_ok (l : List Int) (n : Int) (c : Nat) (hl : l.length < 1000000) : hasV l n c := by
  unfold hasV
  simp only [ob_iff, map_nmap_int, sc_ro_int, getI_map, intAt_map, true_and, and_true, eq_self, Int.toNat_natCast, Nat.zero_add, Nat.mul_one, beq_iff_eq, beq_eq_false_iff_ne, decide_eq_true_eq, decide_eq_false_iff_not, Value.bool.injEq]
  refine ⟨⟨0, ⟨by omega, fun j hj => by omega⟩, rfl⟩, fun x ⟨hx, hn⟩ => ⟨fun hlt => ⟨by omega, by omega, fun he => ?_, fun he => ⟨x + 1, ⟨by omega, fun j hj => ?_⟩, by omega, ?_⟩⟩, fun hge => ?_⟩⟩
  · have := getD_memR (l := l) (i := x) (by omega)
    rw [he] at this
    simp [this]
  · by_cases h : j = x
    · subst h; exact he
    · exact hn j (by omega)
  · rw [wrap_in (by omega) (by omega)]; rfl
  · symm
    rw [decide_eq_false_iff_not]
    intro hm
    obtain ⟨j, h1, h2⟩ := List.getElem_of_mem hm
    refine hn j (by omega) ?_
    rw [List.getD_eq_getElem?_getD, List.getElem?_eq_getElem h1]; exact h2
theorem has_call (l : List Int) (n : Int) (c : Nat) (hl : l.length < 1000000) : Call Try.prog 45 [.slice (some ⟨0,0,none⟩) l.length c, vi n] [.ro (l.map (.int .i64))] fun v H1 => v = .bool (decide (n ∈ l)) ∧ H1 = [.ro (l.map (.int .i64))] :=
  Call.ofVc (VOk.ofCt CtOk.none) mixed (c := hasB) (inv := hasI l n c) Try.func45 (by kernel_rfl) (cast (congrFun (congrFun (congrFun hasV_eq l) n) c) (hasV_ok l n c hl))
theorem hasN_ok (n : Int) : hasN n := by
  unfold hasN
  simp only [ob_iff, true_and, and_true, exists_const, Bool.false_eq_true, false_implies, forall_const]
theorem has_nil (n : Int) : Call Try.prog 45 [.slice none 0 0, vi n] [] fun v _ => v = .bool false :=
  Call.ofVc (VOk.ofCt CtOk.none) mixed (c := hasB) (inv := hasNI n) Try.func45 (by kernel_rfl) (cast (congrFun hasN_eq n) (hasN_ok n))
def hasG : List Value → Heap → Option (Option Prop × Value × Heap × List Nat) := fun args H => match args with
  | [.slice none 0 0, .int .i64 n] => some (none, .bool false, H, [])
  | [s, .int .i64 n] => match sliceInts .i64 H s with
    | some (φ, l) => some (some (φ ∧ l.length < 1000000), .bool (decide (n ∈ l)), H, [])
    | none => none
  | _ => none
theorem hasG_ok : ∀ args H φ v H' l, hasG args H = some (φ, v, H', l) → Asks φ → Call Try.prog 45 args H (fun v' H2 => v' = v ∧ H2 = H') ∧ Kept H H' l := by
  intro args H φ v H' l h hφ
  unfold hasG at h
  split at h
  · cases h
    refine ⟨?_, Kept.refl _ _⟩
    exact Call.ofArgs («as» := [.plain (.slice none 0 0), .plain (vi _)]) (fun caps => has_nil _) rfl ⟨rfl, rfl, rfl, rfl, trivial⟩
  · split at h <;> simp only [Option.some.injEq, Prod.mk.injEq, reduceCtorEq] at h
    rename_i s n _ _ ψ m hs
    obtain ⟨rfl, rfl, rfl, rfl⟩ := h
    refine ⟨?_, Kept.refl _ _⟩
    exact Call.ofArgs («as» := [.ints .i64 m, .plain (vi n)]) (fun caps => (has_call m n _ hφ.2).mono fun v H h => h.1) rfl ⟨⟨ψ, hs, hφ.1⟩, rfl, rfl, trivial⟩
  · cases h
end Go.Pier.Lg
set_option maxRecDepth 100000
set_option linter.unusedVariables false
set_option linter.unusedSimpArgs false
namespace Go.Pier.Lg
open Go Go.Pier Go.Proofs
end Go.Pier.Lg
set_option maxRecDepth 100000
set_option linter.unusedVariables false
set_option linter.unusedSimpArgs false
namespace Go.Pier.Lg
open Go Go.Pier Go.Proofs
noncomputable def dropR_c0 : Code := ((Code.region (5 : Nat) { toList := [{ dst := some (8 : Nat), op := Op.assign (Operand.tmp (23 : Nat)), type := (3 : Nat), pos := "pusher.go:34", after := { toList := [] }, guard := none }] } false).seq (Code.region (6 : Nat) { toList := [{ dst := some (9 : Nat), op := Op.assign (Operand.tmp (24 : Nat)), type := (3 : Nat), pos := "pusher.go:34", after := { toList := [] }, guard := none }] } false))
noncomputable def dropR_c1 : Code := (Code.block (3 : Nat) ((Code.region (7 : Nat) { toList := [{ dst := some (25 : Nat), op := Op.load (56 : Nat) (Operand.tmp (3 : Nat)), type := (56 : Nat), pos := "pusher.go:35", after := { toList := [] }, guard := none }, { dst := some (26 : Nat), op := Op.move (Operand.tmp (8 : Nat)), type := (3 : Nat), pos := "pusher.go:35", after := { toList := [] }, guard := none }, { dst := some (27 : Nat), op := Op.move (Operand.tmp (9 : Nat)), type := (3 : Nat), pos := "pusher.go:35", after := { toList := [] }, guard := none }, { dst := some (28 : Nat), op := Op.call { callee := Callee.value (Operand.func (82 : Nat)), args := { toList := [Operand.tmp (25 : Nat), Operand.tmp (26 : Nat), Operand.tmp (27 : Nat)] }, argTypes := { toList := [(56 : Nat), (3 : Nat), (3 : Nat)] } }, type := (0 : Nat), pos := "pusher.go:35", after := { toList := [{ on := (0 : Nat), ground := Ground.data }, { on := (1 : Nat), ground := Ground.data }, { on := (2 : Nat), ground := Ground.data }] }, guard := none }] } false).seq (Code.exit (1 : Nat))))
noncomputable def dropR_c2 : Code := (Code.exit (1 : Nat))
noncomputable def dR_s0 (n : Nat) (tk tk2 : Nat → Bool) (l : List Int) (c : Nat) (xq : Nat) := (vi (↑n : Int) :: T8 ((stI true n tk l xq).tk) [Value.slice (some { block := (3 : Nat), off := (0 : Nat), spot := some (0 : Nat) }) xq (0 : Nat), vi (stI true n tk l xq).slid, vi (stI true n tk l xq).fell])
noncomputable def dR_s1 (n : Nat) (tk tk2 : Nat → Bool) (l : List Int) (c : Nat) (xq : Nat) : Array Value := { toList := [junk, Value.func (Fn.func (75 : FuncId)) { toList := [Value.agg { toList := (lgC (↑n : Int) tk2) }] } { toList := [] }, junk, ptr0 2, junk, junk, junk, vi (getI (List.map (Value.int IntKind.i64) l) ((0 : Nat) + (↑xq : Int).toNat * (1 : Nat))), junk, junk, Value.slice (some (ad0 1)) l.length c, vi (↑l.length : Int), vi (↑xq : Int), Value.bool true, Value.pointer (some { block := (1 : Nat), off := (0 : Nat) + (↑xq : Int).toNat * (1 : Nat), spot := none }), vi (getI (List.map (Value.int IntKind.i64) l) ((0 : Nat) + (↑xq : Int).toNat * (1 : Nat))), ptr0 0, ptr0 0, ptr0 0, Value.agg { toList := (lgC (↑n : Int) ((stI true n tk l xq).tk)) }, vi (getI (List.map (Value.int IntKind.i64) l) ((0 : Nat) + (↑xq : Int).toNat * (1 : Nat))), Value.func (Fn.func (75 : FuncId)) { toList := [Value.agg { toList := (lgC (↑n : Int) tk2) }] } { toList := [] }, Value.func (Fn.func (84 : Nat)) { toList := [] } { toList := [ptr0 5, ptr0 4, ptr0 6] }, junk, junk, junk, junk, junk, junk, junk, junk, junk, junk, junk, junk, junk, junk, junk, junk] }
noncomputable def dR_s2 (n : Nat) (tk tk2 : Nat → Bool) (l : List Int) (c : Nat) : Array Value := { toList := [junk, Value.func (Fn.func (75 : FuncId)) { toList := [Value.agg { toList := (lgC (↑n : Int) tk2) }] } { toList := [] }, junk, ptr0 2, junk, junk, junk, vi (getI (List.map (Value.int IntKind.i64) l) (0 : Nat)), junk, junk, Value.slice (some (ad0 1)) l.length c, vi (↑l.length : Int), vi (0 : Int), Value.bool true, ptr0 1, vi (getI (List.map (Value.int IntKind.i64) l) (0 : Nat)), ptr0 0, ptr0 0, ptr0 0, Value.agg { toList := (lgC (↑n : Int) tk) }, vi (getI (List.map (Value.int IntKind.i64) l) (0 : Nat)), Value.func (Fn.func (75 : FuncId)) { toList := [Value.agg { toList := (lgC (↑n : Int) tk2) }] } { toList := [] }, Value.func (Fn.func (84 : Nat)) { toList := [] } { toList := [ptr0 4, ptr0 3, ptr0 5] }, junk, junk, junk, junk, junk, junk, junk, junk, junk, junk, junk, junk, junk, junk, junk, junk] }
noncomputable def dR_s3 (n : Nat) (tk tk2 : Nat → Bool) (l : List Int) (c : Nat) (xq : Nat) := (getI (List.map (Value.int IntKind.i64) l) ((0 : Nat) + (↑xq : Int).toNat * (1 : Nat)))
noncomputable def dR_s4 (n : Nat) (tk tk2 : Nat → Bool) (l : List Int) (c : Nat) := (vi (↑n : Int) :: T8 tk [Value.slice none (0 : Nat) (0 : Nat), vi (0 : Int), vi (0 : Int)])
noncomputable def dR_s5 (n : Nat) (tk tk2 : Nat → Bool) (l : List Int) (c : Nat) (x_1 : Nat) := (↑(posM true (↑n : Int).toNat (getI (List.map (Value.int IntKind.i64) l) (0 : Nat)).toNat x_1) : Int)
noncomputable def dR_s6 (n : Nat) (tk tk2 : Nat → Bool) (l : List Int) (c : Nat) (x_1 : Nat) (xq : Nat) : List Value := [vi (↑n : Int), Value.bool (bif Nat.beq (1 : Nat) ((1 : Nat) + (↑(posM true (↑n : Int).toNat (dR_s3 n tk tk2 l c xq).toNat x_1) : Int).toNat * (1 : Nat)) then true else (stI true n tk l xq).tk (0 : Nat)), Value.bool (bif Nat.beq (2 : Nat) ((1 : Nat) + (↑(posM true (↑n : Int).toNat (dR_s3 n tk tk2 l c xq).toNat x_1) : Int).toNat * (1 : Nat)) then true else (stI true n tk l xq).tk (1 : Nat)), Value.bool (bif Nat.beq (3 : Nat) ((1 : Nat) + (↑(posM true (↑n : Int).toNat (dR_s3 n tk tk2 l c xq).toNat x_1) : Int).toNat * (1 : Nat)) then true else (stI true n tk l xq).tk (2 : Nat)), Value.bool (bif Nat.beq (4 : Nat) ((1 : Nat) + (↑(posM true (↑n : Int).toNat (dR_s3 n tk tk2 l c xq).toNat x_1) : Int).toNat * (1 : Nat)) then true else (stI true n tk l xq).tk (3 : Nat)), Value.bool (bif Nat.beq (5 : Nat) ((1 : Nat) + (↑(posM true (↑n : Int).toNat (dR_s3 n tk tk2 l c xq).toNat x_1) : Int).toNat * (1 : Nat)) then true else (stI true n tk l xq).tk (4 : Nat)), Value.bool (bif Nat.beq (6 : Nat) ((1 : Nat) + (↑(posM true (↑n : Int).toNat (dR_s3 n tk tk2 l c xq).toNat x_1) : Int).toNat * (1 : Nat)) then true else (stI true n tk l xq).tk (5 : Nat)), Value.bool (bif Nat.beq (7 : Nat) ((1 : Nat) + (↑(posM true (↑n : Int).toNat (dR_s3 n tk tk2 l c xq).toNat x_1) : Int).toNat * (1 : Nat)) then true else (stI true n tk l xq).tk (6 : Nat)), Value.bool (bif Nat.beq (8 : Nat) ((1 : Nat) + (↑(posM true (↑n : Int).toNat (dR_s3 n tk tk2 l c xq).toNat x_1) : Int).toNat * (1 : Nat)) then true else (stI true n tk l xq).tk (7 : Nat)), Value.slice (some { block := (9 : Nat), off := (0 : Nat), spot := some (0 : Nat) }) (xq + (1 : Nat)) (0 : Nat), vi (IntKind.i64.wrap ((stI true n tk l xq).slid + (↑x_1 : Int))), vi (stI true n tk l xq).fell]
noncomputable def dR_s7 (n : Nat) (tk tk2 : Nat → Bool) (l : List Int) (c : Nat) (x_1 : Nat) : List Value := [vi (↑n : Int), Value.bool (bif Nat.beq (1 : Nat) ((1 : Nat) + (dR_s5 n tk tk2 l c x_1).toNat * (1 : Nat)) then true else tk (0 : Nat)), Value.bool (bif Nat.beq (2 : Nat) ((1 : Nat) + (dR_s5 n tk tk2 l c x_1).toNat * (1 : Nat)) then true else tk (1 : Nat)), Value.bool (bif Nat.beq (3 : Nat) ((1 : Nat) + (dR_s5 n tk tk2 l c x_1).toNat * (1 : Nat)) then true else tk (2 : Nat)), Value.bool (bif Nat.beq (4 : Nat) ((1 : Nat) + (dR_s5 n tk tk2 l c x_1).toNat * (1 : Nat)) then true else tk (3 : Nat)), Value.bool (bif Nat.beq (5 : Nat) ((1 : Nat) + (dR_s5 n tk tk2 l c x_1).toNat * (1 : Nat)) then true else tk (4 : Nat)), Value.bool (bif Nat.beq (6 : Nat) ((1 : Nat) + (dR_s5 n tk tk2 l c x_1).toNat * (1 : Nat)) then true else tk (5 : Nat)), Value.bool (bif Nat.beq (7 : Nat) ((1 : Nat) + (dR_s5 n tk tk2 l c x_1).toNat * (1 : Nat)) then true else tk (6 : Nat)), Value.bool (bif Nat.beq (8 : Nat) ((1 : Nat) + (dR_s5 n tk tk2 l c x_1).toNat * (1 : Nat)) then true else tk (7 : Nat)), Value.slice (some { block := (8 : Nat), off := (0 : Nat), spot := some (0 : Nat) }) (1 : Nat) (0 : Nat), vi (IntKind.i64.wrap ((0 : Int) + (↑x_1 : Int))), vi (0 : Int)]
noncomputable def dR_s8 (n : Nat) (tk tk2 : Nat → Bool) (l : List Int) (c : Nat) : List Value := [Value.func (Fn.func (75 : FuncId)) { toList := [Value.agg { toList := (lgC (↑n : Int) tk2) }] } { toList := [] }]
noncomputable def dR_s9 (n : Nat) (tk tk2 : Nat → Bool) (l : List Int) (c : Nat) := (List.map (Value.int IntKind.i64) l)
noncomputable def dR_s10 (n : Nat) (tk tk2 : Nat → Bool) (l : List Int) (c : Nat) (x_1 : Nat) (xq : Nat) := (↑(posM true (↑n : Int).toNat (dR_s3 n tk tk2 l c xq).toNat x_1) : Int)
noncomputable def dR_s11 (n : Nat) (tk tk2 : Nat → Bool) (l : List Int) (c : Nat) : Array Value := { toList := [Value.agg { toList := (lgC (↑n : Int) tk2) }] }
noncomputable def dR_s12 (n : Nat) (tk tk2 : Nat → Bool) (l : List Int) (c : Nat) (xq : Nat) := (List.map (Value.int IntKind.i64) (stI true n tk l xq).lies)
noncomputable def dR_s13 (n : Nat) (tk tk2 : Nat → Bool) (l : List Int) (c : Nat) (xq : Nat) := (vi (fN (dR_s0 n tk tk2 l c xq)) :: T8 (fT (dR_s0 n tk tk2 l c xq)) [Value.slice (some { block := (8 : Nat) + (1 : Nat), off := (0 : Nat), spot := some (0 : Nat) }) (xq + (1 : Nat)) (0 : Nat), vi (fS (dR_s0 n tk tk2 l c xq) + IntKind.i64.wrap ((↑n : Int) - getI (dR_s9 n tk tk2 l c) ((0 : Nat) + (↑xq : Int).toNat * (1 : Nat)))), vi (fF (dR_s0 n tk tk2 l c xq) + (1 : Int))])
noncomputable def dR_s14 (n : Nat) (tk tk2 : Nat → Bool) (l : List Int) (c : Nat) := (vi (fN (dR_s4 n tk tk2 l c)) :: T8 (fT (dR_s4 n tk tk2 l c)) [Value.slice (some { block := (7 : Nat) + (1 : Nat), off := (0 : Nat), spot := some (0 : Nat) }) (1 : Nat) (0 : Nat), vi (fS (dR_s4 n tk tk2 l c) + IntKind.i64.wrap ((↑n : Int) - getI (dR_s9 n tk tk2 l c) (0 : Nat))), vi (fF (dR_s4 n tk tk2 l c) + (1 : Int))])
noncomputable def dR_s15 (n : Nat) (tk tk2 : Nat → Bool) (l : List Int) (c : Nat) := (getI (dR_s9 n tk tk2 l c) (0 : Nat))
noncomputable def dR_s16 (n : Nat) (tk tk2 : Nat → Bool) (l : List Int) (c : Nat) (xq : Nat) := (lgC (↑n : Int) ((stI true n tk l xq).tk))
noncomputable def dR_s17 (n : Nat) (tk tk2 : Nat → Bool) (l : List Int) (c : Nat) (xq : Nat) := (vi (fN (dR_s0 n tk tk2 l c xq)) :: T8 (fT (dR_s0 n tk tk2 l c xq)) [Value.slice (some { block := (3 : Nat), off := (0 : Nat), spot := some (0 : Nat) }) xq (0 : Nat), vi (fS (dR_s0 n tk tk2 l c xq)), vi (fF (dR_s0 n tk tk2 l c xq))])
noncomputable def dR_s18 (n : Nat) (tk tk2 : Nat → Bool) (l : List Int) (c : Nat) := (vi (↑n : Int) :: T8 ((runP true n tk l).tk) [Value.slice (some { block := (3 : Nat), off := (0 : Nat), spot := some (0 : Nat) }) l.length (0 : Nat), vi (runP true n tk l).slid, vi (runP true n tk l).fell])
noncomputable def dR_s19 (n : Nat) (tk tk2 : Nat → Bool) (l : List Int) (c : Nat) := (vi (fN (dR_s4 n tk tk2 l c)) :: T8 (fT (dR_s4 n tk tk2 l c)) [Value.slice none (0 : Nat) (0 : Nat), vi (fS (dR_s4 n tk tk2 l c)), vi (fF (dR_s4 n tk tk2 l c))])
noncomputable def dR_s20 (n : Nat) (tk tk2 : Nat → Bool) (l : List Int) (c : Nat) (i : Nat) (xq : Nat) := (posM true (↑n : Int).toNat (dR_s3 n tk tk2 l c xq).toNat i)
noncomputable def dR_s21 (n : Nat) (tk tk2 : Nat → Bool) (l : List Int) (c : Nat) (i : Nat) := (posM true (↑n : Int).toNat (dR_s15 n tk tk2 l c).toNat i)
noncomputable def dR_s22 (n : Nat) (tk tk2 : Nat → Bool) (l : List Int) (c : Nat) (x_1 : Nat) (xq : Nat) := ((0 : Nat) + (1 : Nat) + (dR_s10 n tk tk2 l c x_1 xq).toNat * (1 : Nat))
noncomputable def dR_s23 (n : Nat) (tk tk2 : Nat → Bool) (l : List Int) (c : Nat) (x_1 : Nat) := ((0 : Nat) + (1 : Nat) + (dR_s5 n tk tk2 l c x_1).toNat * (1 : Nat))
noncomputable def dR_s24 (n : Nat) (tk tk2 : Nat → Bool) (l : List Int) (c : Nat) := (List.map (nmap1 (nsub (3 : Nat) (8 : Nat))) (dR_s9 n tk tk2 l c))
noncomputable def dR_s25 (n : Nat) (tk tk2 : Nat → Bool) (l : List Int) (c : Nat) := (List.map (nmap1 (nsub (3 : Nat) (9 : Nat))) (dR_s9 n tk tk2 l c))
noncomputable def dR_s26 (n : Nat) (tk tk2 : Nat → Bool) (l : List Int) (c : Nat) (xq : Nat) := (IntKind.i64.wrap ((↑n : Int) - getI (dR_s9 n tk tk2 l c) ((0 : Nat) + (↑xq : Int).toNat * (1 : Nat))))
noncomputable def dR :=
fun (n : Nat) (tk tk2 : Nat → Bool) (l : List Int) (c : Nat) ↦ ((∃ (y : Unit), Ob True ∧ (Ob (AObj.rw (dR_s4 n tk tk2 l c) none = AObj.rw (dR_s4 n tk tk2 l c) none ∧ true = true) ∧ Ob (AObj.ro (dR_s9 n tk tk2 l c) = AObj.ro (List.map (nmap1 fun (b : Nat) ↦ b) (dR_s9 n tk tk2 l c)) ∧ AObj.sc (3 : Nat) (AObj.ro (dR_s9 n tk tk2 l c)) = true) ∧ Ob (AObj.rw [ptr0 0] none = AObj.rw [ptr0 0] none ∧ true = true) ∧ True) ∧ Ob (Value.func (Fn.func (75 : FuncId)) (dR_s11 n tk tk2 l c) { toList := [] } = Value.func (Fn.func (75 : FuncId)) (dR_s11 n tk tk2 l c) { toList := [] }) ∧ Ob (ptr0 2 = ptr0 2) ∧ Ob (Value.slice (some (ad0 1)) l.length c = Value.slice (some (ad0 1)) l.length c) ∧ Ob ((↑l.length : Int) = (↑l.length : Int)) ∧ Ob ((0 : Int) = (0 : Int)) ∧ True) ∨ ∃ (yq : Nat), Ob ((0 : Nat) < yq ∧ yq ≤ l.length) ∧ (Ob (AObj.rw (dR_s4 n tk tk2 l c) none = AObj.rw (vi (↑n : Int) :: T8 ((stI true n tk l yq).tk) [Value.slice (some { block := (3 : Nat), off := (0 : Nat), spot := some (0 : Nat) }) yq (0 : Nat), vi (stI true n tk l yq).slid, vi (stI true n tk l yq).fell]) none ∧ true = true) ∧ Ob (AObj.ro (dR_s9 n tk tk2 l c) = AObj.ro (List.map (nmap1 fun (b : Nat) ↦ b) (dR_s9 n tk tk2 l c)) ∧ AObj.sc (4 : Nat) (AObj.ro (dR_s9 n tk tk2 l c)) = true) ∧ Ob (AObj.rw [ptr0 0] none = AObj.rw [ptr0 0] none ∧ true = true) ∧ False) ∧ Ob (Value.func (Fn.func (75 : FuncId)) (dR_s11 n tk tk2 l c) { toList := [] } = Value.func (Fn.func (75 : FuncId)) (dR_s11 n tk tk2 l c) { toList := [] }) ∧ Ob (ptr0 2 = ptr0 2) ∧ Ob (Value.slice (some (ad0 1)) l.length c = Value.slice (some (ad0 1)) l.length c) ∧ Ob ((↑l.length : Int) = (↑l.length : Int)) ∧ Ob ((0 : Int) = (↑yq : Int)) ∧ True) ∧ (∀ (x : Unit), Ob True → (decide ((0 : Int) < (↑l.length : Int)) = true → Ob ((0 : Int) ≤ (0 : Int) ∧ (0 : Int) < (↑l.length : Int) ∧ true = true) ∧ Ob (IntAt IntKind.i64 (dR_s9 n tk tk2 l c) (0 : Nat)) ∧ Ob (some (vi (dR_s15 n tk tk2 l c)) = some (vi (dR_s15 n tk tk2 l c))) ∧ (∃ (yqq : Nat), Ob (yqq ≤ cntM true (↑n : Int).toNat (dR_s15 n tk tk2 l c).toNat ∧ ∀ (i : Nat), i < yqq → fT (lgC (↑n : Int) tk) (dR_s21 n tk tk2 l c i) = true) ∧ (Ob (AObj.rw (dR_s4 n tk tk2 l c) none = AObj.rw (dR_s4 n tk tk2 l c) none ∧ true = true) ∧ Ob (AObj.ro (dR_s9 n tk tk2 l c) = AObj.ro (List.map (nmap1 fun (b : Nat) ↦ b) (dR_s9 n tk tk2 l c)) ∧ AObj.sc (7 : Nat) (AObj.ro (dR_s9 n tk tk2 l c)) = true) ∧ Ob (AObj.rw [ptr0 0] none = AObj.rw [ptr0 0] none ∧ true = true) ∧ Ob (AObj.rw (lgC (↑n : Int) tk) none = AObj.rw (lgC (↑n : Int) tk) none ∧ true = true) ∧ Ob (AObj.rw [vi (dR_s15 n tk tk2 l c)] none = AObj.rw [vi (dR_s15 n tk tk2 l c)] none ∧ true = true) ∧ Ob (AObj.rw (dR_s8 n tk tk2 l c) none = AObj.rw (dR_s8 n tk tk2 l c) none ∧ true = true) ∧ Ob (AObj.loop LoopState.ready none (dR_s2 n tk tk2 l c) { toList := [(23 : Nat), (24 : Nat)] } dropR_c0 dropR_c1 = AObj.loop LoopState.ready none (dR_s2 n tk tk2 l c) { toList := [(23 : Nat), (24 : Nat)] } dropR_c0 dropR_c1 ∧ true = true) ∧ True) ∧ Ob (Value.func (Fn.yield (6 : Nat)) { toList := [] } { toList := [] } = Value.func (Fn.yield (6 : Nat)) { toList := [] } { toList := [] }) ∧ Ob (ptr0 4 = ptr0 4) ∧ Ob (ptr0 3 = ptr0 3) ∧ Ob (ptr0 5 = ptr0 5) ∧ Ob (getI (dR_s9 n tk tk2 l c) (0 : Nat) = (↑(posM true (↑n : Int).toNat (dR_s15 n tk tk2 l c).toNat yqq) : Int)) ∧ Ob ((0 : Int) = (↑yqq : Int)) ∧ True) ∧ ∀ (x_1 : Nat), Ob (x_1 ≤ cntM true (↑n : Int).toNat (dR_s15 n tk tk2 l c).toNat ∧ ∀ (i : Nat), i < x_1 → fT (lgC (↑n : Int) tk) (dR_s21 n tk tk2 l c i) = true) → Ob (some (vi (↑n : Int)) = some (vi (↑n : Int))) ∧ (decide ((↑x_1 : Int) < (↑n : Int)) = true → Ob (some (vi (↑n : Int)) = some (vi (↑n : Int))) ∧ (decide ((dR_s5 n tk tk2 l c x_1) < (↑n : Int)) = true → Ob ((0 : Int) ≤ (dR_s5 n tk tk2 l c x_1) ∧ (dR_s5 n tk tk2 l c x_1) < (↑(8 : Nat) : Int)) ∧ Ob (BoolAt (lgC (↑n : Int) tk) (dR_s23 n tk tk2 l c x_1)) ∧ ((!getB (lgC (↑n : Int) tk) (dR_s23 n tk tk2 l c x_1)) = true → Ob ((0 : Int) ≤ (dR_s5 n tk tk2 l c x_1) ∧ (dR_s5 n tk tk2 l c x_1) < (↑(8 : Nat) : Int)) ∧ Ob (BoolAt (dR_s4 n tk tk2 l c) ((1 : Nat) + (dR_s5 n tk tk2 l c x_1).toNat * (1 : Nat)) ∧ some (1 : Nat) = some (1 : Nat)) ∧ Ob (andP (some ((0 : Nat) + (1 : Nat) ≤ (1 : Nat) ∧ true = true)) ((1 : Nat) ≤ (1099511627776 : Nat) ∧ (2064 : Nat) ≤ (281474976710656 : Nat) ∧ (1 : Nat) = (1 : Nat) ∧ (0 : Nat) = (0 : Nat) ∧ (0 : Nat) < (1 : Nat))) ∧ Ob ((10 : Nat) ≤ (12 : Nat)) ∧ Ob (some (vi (0 : Int)) = some (vi (0 : Int))) ∧ Ob ((11 : Nat) ≤ (12 : Nat)) ∧ (true = true → False ∨ ∃ (yqqq : Nat), Ob ((0 : Nat) < yqqq ∧ yqqq ≤ l.length) ∧ Ob (l.length - yqqq < (1000001 : Nat)) ∧ (Ob (AObj.rw (dR_s7 n tk tk2 l c x_1) none = AObj.rw (vi (↑n : Int) :: T8 ((stI true n tk l yqqq).tk) [Value.slice (some { block := (8 : Nat), off := (0 : Nat), spot := some (0 : Nat) }) yqqq (0 : Nat), vi (stI true n tk l yqqq).slid, vi (stI true n tk l yqqq).fell]) none ∧ true = true) ∧ Ob (AObj.ro (dR_s9 n tk tk2 l c) = AObj.ro (dR_s24 n tk tk2 l c) ∧ AObj.sc (4 : Nat) (AObj.ro (dR_s9 n tk tk2 l c)) = true) ∧ Ob (AObj.rw [ptr0 0] none = AObj.rw [ptr0 0] none ∧ true = true) ∧ Ob (AObj.rw [vi (dR_s5 n tk tk2 l c x_1)] (some (1 : Nat)) = AObj.rw (List.map (nmap1 (nsub (3 : Nat) (8 : Nat))) (List.map (Value.int IntKind.i64) (stI true n tk l yqqq).lies)) (some (1 : Nat)) ∧ AObj.sc (4 : Nat) (AObj.rw (List.map (Value.int IntKind.i64) (stI true n tk l yqqq).lies) (some (1 : Nat))) = true) ∧ True) ∧ Ob (Value.func (Fn.func (75 : FuncId)) (dR_s11 n tk tk2 l c) { toList := [] } = Value.func (Fn.func (75 : FuncId)) (dR_s11 n tk tk2 l c) { toList := [] }) ∧ Ob (ptr0 2 = ptr0 2) ∧ Ob (Value.slice (some (ad0 1)) l.length c = Value.slice (some (ad0 1)) l.length c) ∧ Ob ((↑l.length : Int) = (↑l.length : Int)) ∧ Ob (IntKind.i64.wrap ((0 : Int) + (1 : Int)) = (↑yqqq : Int)) ∧ True) ∧ (true = false → Ob (some (vi (↑n : Int)) = some (vi (↑n : Int))) ∧ Ob ((↑n : Int) ≠ (0 : Int)) ∧ ∃ (yqqqq : Nat), Ob (yqqqq ≤ cntM true (↑n : Int).toNat (dR_s15 n tk tk2 l c).toNat ∧ ∀ (i : Nat), i < yqqqq → fT (lgC (↑n : Int) tk) (dR_s21 n tk tk2 l c i) = true) ∧ Ob (cntM true (↑n : Int).toNat (dR_s15 n tk tk2 l c).toNat + (1 : Nat) - yqqqq < cntM true (↑n : Int).toNat (dR_s15 n tk tk2 l c).toNat + (1 : Nat) - x_1) ∧ (Ob (AObj.rw (dR_s7 n tk tk2 l c x_1) none = AObj.rw (dR_s4 n tk tk2 l c) none ∧ true = true) ∧ Ob (AObj.ro (dR_s9 n tk tk2 l c) = AObj.ro (List.map (nmap1 fun (b : Nat) ↦ b) (dR_s9 n tk tk2 l c)) ∧ AObj.sc (7 : Nat) (AObj.ro (dR_s9 n tk tk2 l c)) = true) ∧ Ob (AObj.rw [ptr0 0] none = AObj.rw [ptr0 0] none ∧ true = true) ∧ Ob (AObj.rw (lgC (↑n : Int) tk) none = AObj.rw (lgC (↑n : Int) tk) none ∧ true = true) ∧ Ob (AObj.rw [vi (dR_s15 n tk tk2 l c)] none = AObj.rw [vi (dR_s15 n tk tk2 l c)] none ∧ true = true) ∧ Ob (AObj.rw (dR_s8 n tk tk2 l c) none = AObj.rw (dR_s8 n tk tk2 l c) none ∧ true = true) ∧ Ob (AObj.loop LoopState.done (some dropR_c2) (dR_s2 n tk tk2 l c) { toList := [(23 : Nat), (24 : Nat)] } dropR_c0 dropR_c1 = AObj.loop LoopState.ready none (dR_s2 n tk tk2 l c) { toList := [(23 : Nat), (24 : Nat)] } dropR_c0 dropR_c1 ∧ true = true) ∧ True) ∧ Ob (Value.func (Fn.yield (6 : Nat)) { toList := [] } { toList := [] } = Value.func (Fn.yield (6 : Nat)) { toList := [] } { toList := [] }) ∧ Ob (ptr0 4 = ptr0 4) ∧ Ob (ptr0 3 = ptr0 3) ∧ Ob (ptr0 5 = ptr0 5) ∧ Ob ((IntKind.i64.wrap ((dR_s5 n tk tk2 l c x_1) + (1 : Int))).tmod (↑n : Int) = (↑(posM true (↑n : Int).toNat (dR_s15 n tk tk2 l c).toNat yqqqq) : Int)) ∧ Ob (IntKind.i64.wrap ((↑x_1 : Int) + (1 : Int)) = (↑yqqqq : Int)) ∧ True)) ∧ ((!getB (lgC (↑n : Int) tk) (dR_s23 n tk tk2 l c x_1)) = false → Ob (some (vi (↑n : Int)) = some (vi (↑n : Int))) ∧ Ob ((↑n : Int) ≠ (0 : Int)) ∧ ∃ (yqqqqq : Nat), Ob (yqqqqq ≤ cntM true (↑n : Int).toNat (dR_s15 n tk tk2 l c).toNat ∧ ∀ (i : Nat), i < yqqqqq → fT (lgC (↑n : Int) tk) (dR_s21 n tk tk2 l c i) = true) ∧ Ob (cntM true (↑n : Int).toNat (dR_s15 n tk tk2 l c).toNat + (1 : Nat) - yqqqqq < cntM true (↑n : Int).toNat (dR_s15 n tk tk2 l c).toNat + (1 : Nat) - x_1) ∧ (Ob (AObj.rw (dR_s4 n tk tk2 l c) none = AObj.rw (dR_s4 n tk tk2 l c) none ∧ true = true) ∧ Ob (AObj.ro (dR_s9 n tk tk2 l c) = AObj.ro (List.map (nmap1 fun (b : Nat) ↦ b) (dR_s9 n tk tk2 l c)) ∧ AObj.sc (7 : Nat) (AObj.ro (dR_s9 n tk tk2 l c)) = true) ∧ Ob (AObj.rw [ptr0 0] none = AObj.rw [ptr0 0] none ∧ true = true) ∧ Ob (AObj.rw (lgC (↑n : Int) tk) none = AObj.rw (lgC (↑n : Int) tk) none ∧ true = true) ∧ Ob (AObj.rw [vi (dR_s15 n tk tk2 l c)] none = AObj.rw [vi (dR_s15 n tk tk2 l c)] none ∧ true = true) ∧ Ob (AObj.rw (dR_s8 n tk tk2 l c) none = AObj.rw (dR_s8 n tk tk2 l c) none ∧ true = true) ∧ Ob (AObj.loop LoopState.ready none (dR_s2 n tk tk2 l c) { toList := [(23 : Nat), (24 : Nat)] } dropR_c0 dropR_c1 = AObj.loop LoopState.ready none (dR_s2 n tk tk2 l c) { toList := [(23 : Nat), (24 : Nat)] } dropR_c0 dropR_c1 ∧ true = true) ∧ True) ∧ Ob (Value.func (Fn.yield (6 : Nat)) { toList := [] } { toList := [] } = Value.func (Fn.yield (6 : Nat)) { toList := [] } { toList := [] }) ∧ Ob (ptr0 4 = ptr0 4) ∧ Ob (ptr0 3 = ptr0 3) ∧ Ob (ptr0 5 = ptr0 5) ∧ Ob ((IntKind.i64.wrap ((dR_s5 n tk tk2 l c x_1) + (1 : Int))).tmod (↑n : Int) = (↑(posM true (↑n : Int).toNat (dR_s15 n tk tk2 l c).toNat yqqqqq) : Int)) ∧ Ob (IntKind.i64.wrap ((↑x_1 : Int) + (1 : Int)) = (↑yqqqqq : Int)) ∧ True)) ∧ (decide ((dR_s5 n tk tk2 l c x_1) < (↑n : Int)) = false → Ob (some (vi (↑n : Int)) = some (vi (↑n : Int))) ∧ Ob ((dR_s4 n tk tk2 l c) = (dR_s19 n tk tk2 l c) ∧ smallI (fS (dR_s4 n tk tk2 l c)) ∧ ((0 : Int) ≤ fF (dR_s4 n tk tk2 l c) ∧ fF (dR_s4 n tk tk2 l c) ≤ (1000000 : Int)) ∧ smallI (IntKind.i64.wrap ((↑n : Int) - getI (dR_s9 n tk tk2 l c) (0 : Nat)))) ∧ (False ∨ ∃ (yqqqqqq : Nat), Ob ((0 : Nat) < yqqqqqq ∧ yqqqqqq ≤ l.length) ∧ Ob (l.length - yqqqqqq < (1000001 : Nat)) ∧ (Ob (AObj.rw (dR_s14 n tk tk2 l c) none = AObj.rw (vi (↑n : Int) :: T8 ((stI true n tk l yqqqqqq).tk) [Value.slice (some { block := (8 : Nat), off := (0 : Nat), spot := some (0 : Nat) }) yqqqqqq (0 : Nat), vi (stI true n tk l yqqqqqq).slid, vi (stI true n tk l yqqqqqq).fell]) none ∧ true = true) ∧ Ob (AObj.ro (dR_s9 n tk tk2 l c) = AObj.ro (dR_s24 n tk tk2 l c) ∧ AObj.sc (4 : Nat) (AObj.ro (dR_s9 n tk tk2 l c)) = true) ∧ Ob (AObj.rw [ptr0 0] none = AObj.rw [ptr0 0] none ∧ true = true) ∧ Ob (AObj.rw [vi (-1 : Int)] (some (1 : Nat)) = AObj.rw (List.map (nmap1 (nsub (3 : Nat) (8 : Nat))) (List.map (Value.int IntKind.i64) (stI true n tk l yqqqqqq).lies)) (some (1 : Nat)) ∧ AObj.sc (4 : Nat) (AObj.rw (List.map (Value.int IntKind.i64) (stI true n tk l yqqqqqq).lies) (some (1 : Nat))) = true) ∧ True) ∧ Ob (Value.func (Fn.func (75 : FuncId)) (dR_s11 n tk tk2 l c) { toList := [] } = Value.func (Fn.func (75 : FuncId)) (dR_s11 n tk tk2 l c) { toList := [] }) ∧ Ob (ptr0 2 = ptr0 2) ∧ Ob (Value.slice (some (ad0 1)) l.length c = Value.slice (some (ad0 1)) l.length c) ∧ Ob ((↑l.length : Int) = (↑l.length : Int)) ∧ Ob (IntKind.i64.wrap ((0 : Int) + (1 : Int)) = (↑yqqqqqq : Int)) ∧ True))) ∧ (decide ((↑x_1 : Int) < (↑n : Int)) = false → Ob (some (vi (↑n : Int)) = some (vi (↑n : Int))) ∧ Ob ((dR_s4 n tk tk2 l c) = (dR_s19 n tk tk2 l c) ∧ smallI (fS (dR_s4 n tk tk2 l c)) ∧ ((0 : Int) ≤ fF (dR_s4 n tk tk2 l c) ∧ fF (dR_s4 n tk tk2 l c) ≤ (1000000 : Int)) ∧ smallI (IntKind.i64.wrap ((↑n : Int) - getI (dR_s9 n tk tk2 l c) (0 : Nat)))) ∧ (False ∨ ∃ (yqqqqqqq : Nat), Ob ((0 : Nat) < yqqqqqqq ∧ yqqqqqqq ≤ l.length) ∧ Ob (l.length - yqqqqqqq < (1000001 : Nat)) ∧ (Ob (AObj.rw (dR_s14 n tk tk2 l c) none = AObj.rw (vi (↑n : Int) :: T8 ((stI true n tk l yqqqqqqq).tk) [Value.slice (some { block := (8 : Nat), off := (0 : Nat), spot := some (0 : Nat) }) yqqqqqqq (0 : Nat), vi (stI true n tk l yqqqqqqq).slid, vi (stI true n tk l yqqqqqqq).fell]) none ∧ true = true) ∧ Ob (AObj.ro (dR_s9 n tk tk2 l c) = AObj.ro (dR_s24 n tk tk2 l c) ∧ AObj.sc (4 : Nat) (AObj.ro (dR_s9 n tk tk2 l c)) = true) ∧ Ob (AObj.rw [ptr0 0] none = AObj.rw [ptr0 0] none ∧ true = true) ∧ Ob (AObj.rw [vi (-1 : Int)] (some (1 : Nat)) = AObj.rw (List.map (nmap1 (nsub (3 : Nat) (8 : Nat))) (List.map (Value.int IntKind.i64) (stI true n tk l yqqqqqqq).lies)) (some (1 : Nat)) ∧ AObj.sc (4 : Nat) (AObj.rw (List.map (Value.int IntKind.i64) (stI true n tk l yqqqqqqq).lies) (some (1 : Nat))) = true) ∧ True) ∧ Ob (Value.func (Fn.func (75 : FuncId)) (dR_s11 n tk tk2 l c) { toList := [] } = Value.func (Fn.func (75 : FuncId)) (dR_s11 n tk tk2 l c) { toList := [] }) ∧ Ob (ptr0 2 = ptr0 2) ∧ Ob (Value.slice (some (ad0 1)) l.length c = Value.slice (some (ad0 1)) l.length c) ∧ Ob ((↑l.length : Int) = (↑l.length : Int)) ∧ Ob (IntKind.i64.wrap ((0 : Int) + (1 : Int)) = (↑yqqqqqqq : Int)) ∧ True))) ∧ (decide ((0 : Int) < (↑l.length : Int)) = false → (Ob (AObj.rw (dR_s4 n tk tk2 l c) none = AObj.rw (dR_s18 n tk tk2 l c) none ∧ true = true) ∧ Ob (AObj.ro (dR_s9 n tk tk2 l c) = AObj.ro (List.map (nmap1 (nsub (2 : Nat) (3 : Nat))) (dR_s9 n tk tk2 l c)) ∧ AObj.sc (3 : Nat) (AObj.ro (dR_s9 n tk tk2 l c)) = true) ∧ False) ∧ Ob (Value.tuple { toList := [] } = Value.tuple { toList := [] }) ∧ True)) ∧ ∀ (xq : Nat), Ob ((0 : Nat) < xq ∧ xq ≤ l.length) → (decide ((↑xq : Int) < (↑l.length : Int)) = true → Ob ((0 : Int) ≤ (↑xq : Int) ∧ (↑xq : Int) < (↑l.length : Int) ∧ true = true) ∧ Ob (IntAt IntKind.i64 (dR_s9 n tk tk2 l c) ((0 : Nat) + (↑xq : Int).toNat * (1 : Nat))) ∧ Ob (some (vi (dR_s3 n tk tk2 l c xq)) = some (vi (dR_s3 n tk tk2 l c xq))) ∧ (∃ (yqqqqqqqq : Nat), Ob (yqqqqqqqq ≤ cntM true (↑n : Int).toNat (dR_s3 n tk tk2 l c xq).toNat ∧ ∀ (i : Nat), i < yqqqqqqqq → fT (dR_s16 n tk tk2 l c xq) (dR_s20 n tk tk2 l c i xq) = true) ∧ (Ob (AObj.rw (dR_s0 n tk tk2 l c xq) none = AObj.rw (dR_s0 n tk tk2 l c xq) none ∧ true = true) ∧ Ob (AObj.ro (dR_s9 n tk tk2 l c) = AObj.ro (List.map (nmap1 fun (b : Nat) ↦ b) (dR_s9 n tk tk2 l c)) ∧ AObj.sc (8 : Nat) (AObj.ro (dR_s9 n tk tk2 l c)) = true) ∧ Ob (AObj.rw [ptr0 0] none = AObj.rw [ptr0 0] none ∧ true = true) ∧ Ob (AObj.rw (dR_s12 n tk tk2 l c xq) (some (1 : Nat)) = AObj.rw (List.map (nmap1 fun (b : Nat) ↦ b) (dR_s12 n tk tk2 l c xq)) (some (1 : Nat)) ∧ AObj.sc (8 : Nat) (AObj.rw (dR_s12 n tk tk2 l c xq) (some (1 : Nat))) = true) ∧ Ob (AObj.rw (dR_s16 n tk tk2 l c xq) none = AObj.rw (dR_s16 n tk tk2 l c xq) none ∧ true = true) ∧ Ob (AObj.rw [vi (dR_s3 n tk tk2 l c xq)] none = AObj.rw [vi (dR_s3 n tk tk2 l c xq)] none ∧ true = true) ∧ Ob (AObj.rw (dR_s8 n tk tk2 l c) none = AObj.rw (dR_s8 n tk tk2 l c) none ∧ true = true) ∧ Ob (AObj.loop LoopState.ready none (dR_s1 n tk tk2 l c xq) { toList := [(23 : Nat), (24 : Nat)] } dropR_c0 dropR_c1 = AObj.loop LoopState.ready none (dR_s1 n tk tk2 l c xq) { toList := [(23 : Nat), (24 : Nat)] } dropR_c0 dropR_c1 ∧ true = true) ∧ True) ∧ Ob (Value.func (Fn.yield (7 : Nat)) { toList := [] } { toList := [] } = Value.func (Fn.yield (7 : Nat)) { toList := [] } { toList := [] }) ∧ Ob (ptr0 5 = ptr0 5) ∧ Ob (ptr0 4 = ptr0 4) ∧ Ob (ptr0 6 = ptr0 6) ∧ Ob (getI (dR_s9 n tk tk2 l c) ((0 : Nat) + (↑xq : Int).toNat * (1 : Nat)) = (↑(posM true (↑n : Int).toNat (dR_s3 n tk tk2 l c xq).toNat yqqqqqqqq) : Int)) ∧ Ob ((0 : Int) = (↑yqqqqqqqq : Int)) ∧ True) ∧ ∀ (x_1 : Nat), Ob (x_1 ≤ cntM true (↑n : Int).toNat (dR_s3 n tk tk2 l c xq).toNat ∧ ∀ (i : Nat), i < x_1 → fT (dR_s16 n tk tk2 l c xq) (dR_s20 n tk tk2 l c i xq) = true) → Ob (some (vi (↑n : Int)) = some (vi (↑n : Int))) ∧ (decide ((↑x_1 : Int) < (↑n : Int)) = true → Ob (some (vi (↑n : Int)) = some (vi (↑n : Int))) ∧ (decide ((dR_s10 n tk tk2 l c x_1 xq) < (↑n : Int)) = true → Ob ((0 : Int) ≤ (dR_s10 n tk tk2 l c x_1 xq) ∧ (dR_s10 n tk tk2 l c x_1 xq) < (↑(8 : Nat) : Int)) ∧ Ob (BoolAt (dR_s16 n tk tk2 l c xq) (dR_s22 n tk tk2 l c x_1 xq)) ∧ ((!getB (dR_s16 n tk tk2 l c xq) (dR_s22 n tk tk2 l c x_1 xq)) = true → Ob ((0 : Int) ≤ (dR_s10 n tk tk2 l c x_1 xq) ∧ (dR_s10 n tk tk2 l c x_1 xq) < (↑(8 : Nat) : Int)) ∧ Ob (BoolAt (dR_s0 n tk tk2 l c xq) ((1 : Nat) + (dR_s10 n tk tk2 l c x_1 xq).toNat * (1 : Nat)) ∧ some (1 : Nat) = some (1 : Nat)) ∧ Ob (andP (some ((0 : Nat) + (1 : Nat) ≤ (1 : Nat) ∧ true = true)) (xq + (1 : Nat) ≤ (1099511627776 : Nat) ∧ ((2 : Nat) * (xq + (1 : Nat)) + (256 : Nat)) * (8 : Nat) ≤ (281474976710656 : Nat) ∧ (1 : Nat) = (1 : Nat) ∧ (dR_s12 n tk tk2 l c xq).length = xq * (1 : Nat))) ∧ Ob ((10 : Nat) ≤ (12 : Nat)) ∧ Ob (some (vi (stI true n tk l xq).slid) = some (vi (stI true n tk l xq).slid)) ∧ Ob ((11 : Nat) ≤ (12 : Nat)) ∧ (true = true → False ∨ ∃ (yqqqqqqqqq : Nat), Ob ((0 : Nat) < yqqqqqqqqq ∧ yqqqqqqqqq ≤ l.length) ∧ Ob (l.length - yqqqqqqqqq < l.length - xq) ∧ (Ob (AObj.rw (dR_s6 n tk tk2 l c x_1 xq) none = AObj.rw (vi (↑n : Int) :: T8 ((stI true n tk l yqqqqqqqqq).tk) [Value.slice (some { block := (9 : Nat), off := (0 : Nat), spot := some (0 : Nat) }) yqqqqqqqqq (0 : Nat), vi (stI true n tk l yqqqqqqqqq).slid, vi (stI true n tk l yqqqqqqqqq).fell]) none ∧ true = true) ∧ Ob (AObj.ro (dR_s9 n tk tk2 l c) = AObj.ro (dR_s25 n tk tk2 l c) ∧ AObj.sc (4 : Nat) (AObj.ro (dR_s9 n tk tk2 l c)) = true) ∧ Ob (AObj.rw [ptr0 0] none = AObj.rw [ptr0 0] none ∧ true = true) ∧ Ob (AObj.rw (List.map (Value.int IntKind.i64) (stI true n tk l xq).lies ++ [vi (dR_s10 n tk tk2 l c x_1 xq)]) (some (1 : Nat)) = AObj.rw (List.map (nmap1 (nsub (3 : Nat) (9 : Nat))) (List.map (Value.int IntKind.i64) (stI true n tk l yqqqqqqqqq).lies)) (some (1 : Nat)) ∧ AObj.sc (4 : Nat) (AObj.rw (List.map (Value.int IntKind.i64) (stI true n tk l yqqqqqqqqq).lies) (some (1 : Nat))) = true) ∧ True) ∧ Ob (Value.func (Fn.func (75 : FuncId)) (dR_s11 n tk tk2 l c) { toList := [] } = Value.func (Fn.func (75 : FuncId)) (dR_s11 n tk tk2 l c) { toList := [] }) ∧ Ob (ptr0 2 = ptr0 2) ∧ Ob (Value.slice (some (ad0 1)) l.length c = Value.slice (some (ad0 1)) l.length c) ∧ Ob ((↑l.length : Int) = (↑l.length : Int)) ∧ Ob (IntKind.i64.wrap ((↑xq : Int) + (1 : Int)) = (↑yqqqqqqqqq : Int)) ∧ True) ∧ (true = false → Ob (some (vi (↑n : Int)) = some (vi (↑n : Int))) ∧ Ob ((↑n : Int) ≠ (0 : Int)) ∧ ∃ (yqqqqqqqqqq : Nat), Ob (yqqqqqqqqqq ≤ cntM true (↑n : Int).toNat (dR_s3 n tk tk2 l c xq).toNat ∧ ∀ (i : Nat), i < yqqqqqqqqqq → fT (dR_s16 n tk tk2 l c xq) (dR_s20 n tk tk2 l c i xq) = true) ∧ Ob (cntM true (↑n : Int).toNat (dR_s3 n tk tk2 l c xq).toNat + (1 : Nat) - yqqqqqqqqqq < cntM true (↑n : Int).toNat (dR_s3 n tk tk2 l c xq).toNat + (1 : Nat) - x_1) ∧ (Ob (AObj.rw (dR_s6 n tk tk2 l c x_1 xq) none = AObj.rw (dR_s0 n tk tk2 l c xq) none ∧ true = true) ∧ Ob (AObj.ro (dR_s9 n tk tk2 l c) = AObj.ro (List.map (nmap1 fun (b : Nat) ↦ b) (dR_s9 n tk tk2 l c)) ∧ AObj.sc (8 : Nat) (AObj.ro (dR_s9 n tk tk2 l c)) = true) ∧ Ob (AObj.rw [ptr0 0] none = AObj.rw [ptr0 0] none ∧ true = true) ∧ Ob (AObj.gone = AObj.rw (List.map (nmap1 fun (b : Nat) ↦ b) (dR_s12 n tk tk2 l c xq)) (some (1 : Nat)) ∧ AObj.sc (8 : Nat) (AObj.rw (dR_s12 n tk tk2 l c xq) (some (1 : Nat))) = true) ∧ Ob (AObj.rw (dR_s16 n tk tk2 l c xq) none = AObj.rw (dR_s16 n tk tk2 l c xq) none ∧ true = true) ∧ Ob (AObj.rw [vi (dR_s3 n tk tk2 l c xq)] none = AObj.rw [vi (dR_s3 n tk tk2 l c xq)] none ∧ true = true) ∧ Ob (AObj.rw (dR_s8 n tk tk2 l c) none = AObj.rw (dR_s8 n tk tk2 l c) none ∧ true = true) ∧ Ob (AObj.loop LoopState.done (some dropR_c2) (dR_s1 n tk tk2 l c xq) { toList := [(23 : Nat), (24 : Nat)] } dropR_c0 dropR_c1 = AObj.loop LoopState.ready none (dR_s1 n tk tk2 l c xq) { toList := [(23 : Nat), (24 : Nat)] } dropR_c0 dropR_c1 ∧ true = true) ∧ True) ∧ Ob (Value.func (Fn.yield (7 : Nat)) { toList := [] } { toList := [] } = Value.func (Fn.yield (7 : Nat)) { toList := [] } { toList := [] }) ∧ Ob (ptr0 5 = ptr0 5) ∧ Ob (ptr0 4 = ptr0 4) ∧ Ob (ptr0 6 = ptr0 6) ∧ Ob ((IntKind.i64.wrap ((dR_s10 n tk tk2 l c x_1 xq) + (1 : Int))).tmod (↑n : Int) = (↑(posM true (↑n : Int).toNat (dR_s3 n tk tk2 l c xq).toNat yqqqqqqqqqq) : Int)) ∧ Ob (IntKind.i64.wrap ((↑x_1 : Int) + (1 : Int)) = (↑yqqqqqqqqqq : Int)) ∧ True)) ∧ ((!getB (dR_s16 n tk tk2 l c xq) (dR_s22 n tk tk2 l c x_1 xq)) = false → Ob (some (vi (↑n : Int)) = some (vi (↑n : Int))) ∧ Ob ((↑n : Int) ≠ (0 : Int)) ∧ ∃ (yqqqqqqqqqqq : Nat), Ob (yqqqqqqqqqqq ≤ cntM true (↑n : Int).toNat (dR_s3 n tk tk2 l c xq).toNat ∧ ∀ (i : Nat), i < yqqqqqqqqqqq → fT (dR_s16 n tk tk2 l c xq) (dR_s20 n tk tk2 l c i xq) = true) ∧ Ob (cntM true (↑n : Int).toNat (dR_s3 n tk tk2 l c xq).toNat + (1 : Nat) - yqqqqqqqqqqq < cntM true (↑n : Int).toNat (dR_s3 n tk tk2 l c xq).toNat + (1 : Nat) - x_1) ∧ (Ob (AObj.rw (dR_s0 n tk tk2 l c xq) none = AObj.rw (dR_s0 n tk tk2 l c xq) none ∧ true = true) ∧ Ob (AObj.ro (dR_s9 n tk tk2 l c) = AObj.ro (List.map (nmap1 fun (b : Nat) ↦ b) (dR_s9 n tk tk2 l c)) ∧ AObj.sc (8 : Nat) (AObj.ro (dR_s9 n tk tk2 l c)) = true) ∧ Ob (AObj.rw [ptr0 0] none = AObj.rw [ptr0 0] none ∧ true = true) ∧ Ob (AObj.rw (dR_s12 n tk tk2 l c xq) (some (1 : Nat)) = AObj.rw (List.map (nmap1 fun (b : Nat) ↦ b) (dR_s12 n tk tk2 l c xq)) (some (1 : Nat)) ∧ AObj.sc (8 : Nat) (AObj.rw (dR_s12 n tk tk2 l c xq) (some (1 : Nat))) = true) ∧ Ob (AObj.rw (dR_s16 n tk tk2 l c xq) none = AObj.rw (dR_s16 n tk tk2 l c xq) none ∧ true = true) ∧ Ob (AObj.rw [vi (dR_s3 n tk tk2 l c xq)] none = AObj.rw [vi (dR_s3 n tk tk2 l c xq)] none ∧ true = true) ∧ Ob (AObj.rw (dR_s8 n tk tk2 l c) none = AObj.rw (dR_s8 n tk tk2 l c) none ∧ true = true) ∧ Ob (AObj.loop LoopState.ready none (dR_s1 n tk tk2 l c xq) { toList := [(23 : Nat), (24 : Nat)] } dropR_c0 dropR_c1 = AObj.loop LoopState.ready none (dR_s1 n tk tk2 l c xq) { toList := [(23 : Nat), (24 : Nat)] } dropR_c0 dropR_c1 ∧ true = true) ∧ True) ∧ Ob (Value.func (Fn.yield (7 : Nat)) { toList := [] } { toList := [] } = Value.func (Fn.yield (7 : Nat)) { toList := [] } { toList := [] }) ∧ Ob (ptr0 5 = ptr0 5) ∧ Ob (ptr0 4 = ptr0 4) ∧ Ob (ptr0 6 = ptr0 6) ∧ Ob ((IntKind.i64.wrap ((dR_s10 n tk tk2 l c x_1 xq) + (1 : Int))).tmod (↑n : Int) = (↑(posM true (↑n : Int).toNat (dR_s3 n tk tk2 l c xq).toNat yqqqqqqqqqqq) : Int)) ∧ Ob (IntKind.i64.wrap ((↑x_1 : Int) + (1 : Int)) = (↑yqqqqqqqqqqq : Int)) ∧ True)) ∧ (decide ((dR_s10 n tk tk2 l c x_1 xq) < (↑n : Int)) = false → Ob (some (vi (↑n : Int)) = some (vi (↑n : Int))) ∧ Ob ((dR_s0 n tk tk2 l c xq) = (dR_s17 n tk tk2 l c xq) ∧ List.map (Value.int IntKind.i64) (stI true n tk l xq).lies = List.map (Value.int IntKind.i64) (intsOf (dR_s12 n tk tk2 l c xq)) ∧ xq = (intsOf (dR_s12 n tk tk2 l c xq)).length ∧ xq ≤ (1000000 : Nat) ∧ (0 : Nat) ≠ (3 : Nat) ∧ smallI (fS (dR_s0 n tk tk2 l c xq)) ∧ ((0 : Int) ≤ fF (dR_s0 n tk tk2 l c xq) ∧ fF (dR_s0 n tk tk2 l c xq) ≤ (1000000 : Int)) ∧ smallI (dR_s26 n tk tk2 l c xq)) ∧ (False ∨ ∃ (yqqqqqqqqqqqq : Nat), Ob ((0 : Nat) < yqqqqqqqqqqqq ∧ yqqqqqqqqqqqq ≤ l.length) ∧ Ob (l.length - yqqqqqqqqqqqq < l.length - xq) ∧ (Ob (AObj.rw (dR_s13 n tk tk2 l c xq) none = AObj.rw (vi (↑n : Int) :: T8 ((stI true n tk l yqqqqqqqqqqqq).tk) [Value.slice (some { block := (9 : Nat), off := (0 : Nat), spot := some (0 : Nat) }) yqqqqqqqqqqqq (0 : Nat), vi (stI true n tk l yqqqqqqqqqqqq).slid, vi (stI true n tk l yqqqqqqqqqqqq).fell]) none ∧ true = true) ∧ Ob (AObj.ro (dR_s9 n tk tk2 l c) = AObj.ro (dR_s25 n tk tk2 l c) ∧ AObj.sc (4 : Nat) (AObj.ro (dR_s9 n tk tk2 l c)) = true) ∧ Ob (AObj.rw [ptr0 0] none = AObj.rw [ptr0 0] none ∧ true = true) ∧ Ob (AObj.rw (List.map (Value.int IntKind.i64) (intsOf (dR_s12 n tk tk2 l c xq) ++ [(-1 : Int)])) (some (1 : Nat)) = AObj.rw (List.map (nmap1 (nsub (3 : Nat) (9 : Nat))) (List.map (Value.int IntKind.i64) (stI true n tk l yqqqqqqqqqqqq).lies)) (some (1 : Nat)) ∧ AObj.sc (4 : Nat) (AObj.rw (List.map (Value.int IntKind.i64) (stI true n tk l yqqqqqqqqqqqq).lies) (some (1 : Nat))) = true) ∧ True) ∧ Ob (Value.func (Fn.func (75 : FuncId)) (dR_s11 n tk tk2 l c) { toList := [] } = Value.func (Fn.func (75 : FuncId)) (dR_s11 n tk tk2 l c) { toList := [] }) ∧ Ob (ptr0 2 = ptr0 2) ∧ Ob (Value.slice (some (ad0 1)) l.length c = Value.slice (some (ad0 1)) l.length c) ∧ Ob ((↑l.length : Int) = (↑l.length : Int)) ∧ Ob (IntKind.i64.wrap ((↑xq : Int) + (1 : Int)) = (↑yqqqqqqqqqqqq : Int)) ∧ True))) ∧ (decide ((↑x_1 : Int) < (↑n : Int)) = false → Ob (some (vi (↑n : Int)) = some (vi (↑n : Int))) ∧ Ob ((dR_s0 n tk tk2 l c xq) = (dR_s17 n tk tk2 l c xq) ∧ List.map (Value.int IntKind.i64) (stI true n tk l xq).lies = List.map (Value.int IntKind.i64) (intsOf (dR_s12 n tk tk2 l c xq)) ∧ xq = (intsOf (dR_s12 n tk tk2 l c xq)).length ∧ xq ≤ (1000000 : Nat) ∧ (0 : Nat) ≠ (3 : Nat) ∧ smallI (fS (dR_s0 n tk tk2 l c xq)) ∧ ((0 : Int) ≤ fF (dR_s0 n tk tk2 l c xq) ∧ fF (dR_s0 n tk tk2 l c xq) ≤ (1000000 : Int)) ∧ smallI (dR_s26 n tk tk2 l c xq)) ∧ (False ∨ ∃ (yqqqqqqqqqqqqq : Nat), Ob ((0 : Nat) < yqqqqqqqqqqqqq ∧ yqqqqqqqqqqqqq ≤ l.length) ∧ Ob (l.length - yqqqqqqqqqqqqq < l.length - xq) ∧ (Ob (AObj.rw (dR_s13 n tk tk2 l c xq) none = AObj.rw (vi (↑n : Int) :: T8 ((stI true n tk l yqqqqqqqqqqqqq).tk) [Value.slice (some { block := (9 : Nat), off := (0 : Nat), spot := some (0 : Nat) }) yqqqqqqqqqqqqq (0 : Nat), vi (stI true n tk l yqqqqqqqqqqqqq).slid, vi (stI true n tk l yqqqqqqqqqqqqq).fell]) none ∧ true = true) ∧ Ob (AObj.ro (dR_s9 n tk tk2 l c) = AObj.ro (dR_s25 n tk tk2 l c) ∧ AObj.sc (4 : Nat) (AObj.ro (dR_s9 n tk tk2 l c)) = true) ∧ Ob (AObj.rw [ptr0 0] none = AObj.rw [ptr0 0] none ∧ true = true) ∧ Ob (AObj.rw (List.map (Value.int IntKind.i64) (intsOf (dR_s12 n tk tk2 l c xq) ++ [(-1 : Int)])) (some (1 : Nat)) = AObj.rw (List.map (nmap1 (nsub (3 : Nat) (9 : Nat))) (List.map (Value.int IntKind.i64) (stI true n tk l yqqqqqqqqqqqqq).lies)) (some (1 : Nat)) ∧ AObj.sc (4 : Nat) (AObj.rw (List.map (Value.int IntKind.i64) (stI true n tk l yqqqqqqqqqqqqq).lies) (some (1 : Nat))) = true) ∧ True) ∧ Ob (Value.func (Fn.func (75 : FuncId)) (dR_s11 n tk tk2 l c) { toList := [] } = Value.func (Fn.func (75 : FuncId)) (dR_s11 n tk tk2 l c) { toList := [] }) ∧ Ob (ptr0 2 = ptr0 2) ∧ Ob (Value.slice (some (ad0 1)) l.length c = Value.slice (some (ad0 1)) l.length c) ∧ Ob ((↑l.length : Int) = (↑l.length : Int)) ∧ Ob (IntKind.i64.wrap ((↑xq : Int) + (1 : Int)) = (↑yqqqqqqqqqqqqq : Int)) ∧ True))) ∧ (decide ((↑xq : Int) < (↑l.length : Int)) = false → (Ob (AObj.rw (dR_s0 n tk tk2 l c xq) none = AObj.rw (dR_s18 n tk tk2 l c) none ∧ true = true) ∧ Ob (AObj.ro (dR_s9 n tk tk2 l c) = AObj.ro (List.map (nmap1 (nsub (2 : Nat) (3 : Nat))) (dR_s9 n tk tk2 l c)) ∧ AObj.sc (3 : Nat) (AObj.ro (dR_s9 n tk tk2 l c)) = true) ∧ Ob (AObj.rw (dR_s12 n tk tk2 l c xq) (some (1 : Nat)) = AObj.rw (List.map (nmap1 (nsub (2 : Nat) (3 : Nat))) (List.map (Value.int IntKind.i64) (runP true n tk l).lies)) (some (1 : Nat)) ∧ AObj.sc (3 : Nat) (AObj.rw (List.map (Value.int IntKind.i64) (runP true n tk l).lies) (some (1 : Nat))) = true) ∧ True) ∧ Ob (Value.tuple { toList := [] } = Value.tuple { toList := [] }) ∧ True)
theorem dR_eq : dR = fun (n : Nat) (tk tk2 : Nat → Bool) (l : List Int) (c : Nat) => vc Try.prog (E3 true) 2 39 true (invD true n tk tk2 l c) dpB [] (argFr 0 [ptr0 0, nextV true n tk2, .slice (some ⟨1,0,none⟩) l.length c]) [pu n tk nilS 0 0, ros l] (retR Try.prog Try.f74 2 (nsub 2 3) unitV [pu n (runP true n tk l).tk (newS 2 l.length) (runP true n tk l).slid (runP true n tk l).fell, ros l, rws (runP true n tk l).lies]) := by kernel_rfl
noncomputable def dRN_s0 (n : Nat) (tk tk2 : Nat → Bool) := (vi (↑n : Int) :: T8 tk [Value.slice none (0 : Nat) (0 : Nat), vi (0 : Int), vi (0 : Int)])
noncomputable def dRN :=
fun (n : Nat) (tk tk2 : Nat → Bool) ↦ (∃ (y : Unit), Ob True ∧ (Ob (AObj.rw (dRN_s0 n tk tk2) none = AObj.rw (dRN_s0 n tk tk2) none ∧ true = true) ∧ Ob (AObj.rw [ptr0 0] none = AObj.rw [ptr0 0] none ∧ true = true) ∧ True) ∧ Ob (Value.func (Fn.func (75 : FuncId)) { toList := [Value.agg { toList := (lgC (↑n : Int) tk2) }] } { toList := [] } = Value.func (Fn.func (75 : FuncId)) { toList := [Value.agg { toList := (lgC (↑n : Int) tk2) }] } { toList := [] }) ∧ Ob (ptr0 1 = ptr0 1) ∧ Ob (Value.slice none (0 : Nat) (0 : Nat) = Value.slice none (0 : Nat) (0 : Nat)) ∧ Ob ((↑(0 : Nat) : Int) = (0 : Int)) ∧ Ob ((0 : Int) = (0 : Int)) ∧ True) ∧ ∀ (x : Unit), Ob True → (false = true → False) ∧ (false = false → (Ob (AObj.rw (dRN_s0 n tk tk2) none = AObj.rw (dRN_s0 n tk tk2) none ∧ true = true) ∧ True) ∧ Ob (Value.tuple { toList := [] } = Value.tuple { toList := [] }) ∧ True)
theorem dRN_eq : dRN = fun (n : Nat) (tk tk2 : Nat → Bool) => vc Try.prog (E3 true) 1 39 true (invE true n tk tk2 none 0 [pu n tk nilS 0 0] 1) dpB [] (argFr 0 [ptr0 0, nextV true n tk2, nilS]) [pu n tk nilS 0 0] (retR Try.prog Try.f74 1 (fun b => b) unitV [pu n tk nilS 0 0]) := by kernel_rfl
noncomputable def dRH_s0 (n : Nat) (tk tk2 : Nat → Bool) (s : Option Nat) (c : Nat) := (vi (↑n : Int) :: T8 tk [Value.slice none (0 : Nat) (0 : Nat), vi (0 : Int), vi (0 : Int)])
noncomputable def dRH :=
fun (n : Nat) (tk tk2 : Nat → Bool) (s : Option Nat) (c : Nat) ↦ (∃ (y : Unit), Ob True ∧ (Ob (AObj.rw (dRH_s0 n tk tk2 s c) none = AObj.rw (dRH_s0 n tk tk2 s c) none ∧ true = true) ∧ Ob (AObj.rw [ptr0 0] none = AObj.rw [ptr0 0] none ∧ true = true) ∧ True) ∧ Ob (Value.func (Fn.func (75 : FuncId)) { toList := [Value.agg { toList := (lgC (↑n : Int) tk2) }] } { toList := [] } = Value.func (Fn.func (75 : FuncId)) { toList := [Value.agg { toList := (lgC (↑n : Int) tk2) }] } { toList := [] }) ∧ Ob (ptr0 2 = ptr0 2) ∧ Ob (Value.slice (some { block := (1 : Nat), off := (0 : Nat), spot := s }) (0 : Nat) c = Value.slice (some { block := (1 : Nat), off := (0 : Nat), spot := s }) (0 : Nat) c) ∧ Ob ((↑(0 : Nat) : Int) = (0 : Int)) ∧ Ob ((0 : Int) = (0 : Int)) ∧ True) ∧ ∀ (x : Unit), Ob True → (false = true → Ob ((0 : Int) ≤ (0 : Int) ∧ (0 : Int) < (↑(0 : Nat) : Int) ∧ std { block := (1 : Nat), off := (0 : Nat), spot := s } c = true) ∧ False) ∧ (false = false → (Ob (AObj.rw (dRH_s0 n tk tk2 s c) none = AObj.rw (dRH_s0 n tk tk2 s c) none ∧ true = true) ∧ True) ∧ Ob (Value.tuple { toList := [] } = Value.tuple { toList := [] }) ∧ True)
theorem dRH_eq : dRH = fun (n : Nat) (tk tk2 : Nat → Bool) (s : Option Nat) (c : Nat) => vc Try.prog (E3 true) 2 39 true (invE true n tk tk2 (some ⟨1,0,s⟩) c [pu n tk nilS 0 0, .gone] 2) dpB [] (argFr 0 [ptr0 0, nextV true n tk2, .slice (some ⟨1,0,s⟩) 0 c]) [pu n tk nilS 0 0, .gone] (retR Try.prog Try.f74 2 (fun b => b) unitV [pu n tk nilS 0 0, .gone]) := by kernel_rfl
theorem mod_next {a j n : Nat} : (((a + j) % n : Nat) + 1 : Int).tmod n = ((a + (j + 1)) % n : Nat) := by
  rw [show ((((a + j) % n : Nat) : Int) + 1) = ((((a + j) % n) + 1 : Nat) : Int) by push_cast; rfl, ← Int.ofNat_tmod, Nat.mod_add_mod, Nat.add_assoc]
theorem dR_ok (n : Nat) (tk tk2 : Nat → Bool) (l : List Int) (c : Nat) (hn : n ≤ 8) (hl : ∀ x ∈ l, 0 ≤ x ∧ x < (n : Int)) (hl0 : 0 < l.length) (hlen : l.length ≤ 12) : dR n tk tk2 l c := by
  unfold dR dR_s26 dR_s25 dR_s24 dR_s23 dR_s22 dR_s21 dR_s20 dR_s19 dR_s18 dR_s17 dR_s16 dR_s15 dR_s14 dR_s13 dR_s12 dR_s11 dR_s10 dR_s9 dR_s8 dR_s7 dR_s6 dR_s5 dR_s4 dR_s3 dR_s2 dR_s1 dR_s0
  simp only [SS, reduceCtorEq, Arg.list, Arg.num, Arg.flag, intOf, andP, Nat.reduceLeDiff, Nat.reduceAdd, Nat.reduceMul, Nat.reduceLT, nb1, nb2, nb3, nb4, nb5, nb6, nb7, nb8, fN_T8, fS_T8, fF_T8, T8_fT]
  have dd : ∀ x, x < l.length → ∃ a : Nat, l.getD x 0 = a ∧ a < n := fun x hx => by
    have := hl _ (ints_mem (l := l) (i := x) hx)
    exact ⟨(l.getD x 0).toNat, by omega, by omega⟩
  refine ⟨⟨fun h0 => ?_, fun h => absurd (Int.ofNat_lt.2 hl0) h⟩, fun x ⟨hx1, hx2⟩ => ⟨fun hlt => ?_, fun hge => ?_⟩⟩
  · obtain ⟨a, ha, han⟩ := dd 0 hl0
    have e1 := stI_succ (ar := true) (n := n) (tk := tk) hl0
    rw [stI_zero, ha] at e1
    have h8 : (n : Int) ≤ 8 := by omega
    have hmod : ∀ i, (a + i) % n < n := fun i => Nat.mod_lt _ (by omega)
    rw [ha]
    simp only [Int.toNat_natCast, cntM, posM, Nat.zero_add] at e1 ⊢
    have lost : (∀ i, i < n → tk ((a + i) % n) = true) → (smallI 0 ∧ (0 ≤ (0 : Int) ∧ (0 : Int) ≤ 1000000) ∧ smallI (IntKind.i64.wrap (↑n - ↑a))) ∧
        ∃ y, (0 < y ∧ y ≤ l.length) ∧ l.length - y < 1000001 ∧ (T8 tk [Value.slice (some { block := 8, off := 0, spot := some 0 }) 1 0, vi (0 + IntKind.i64.wrap (↑n - ↑a)), vi (0 + 1)] =
          T8 (stI true n tk l y).tk [Value.slice (some { block := 8, off := 0, spot := some 0 }) y 0, vi (stI true n tk l y).slid, vi (stI true n tk l y).fell] ∧ [vi (-1)] = List.map (Value.int IntKind.i64) (stI true n tk l y).lies) ∧ IntKind.i64.wrap (0 + 1) = ↑y := fun h => by
      rw [wrap_in (x := (n : Int) - a) (by omega) (by omega)]
      refine ⟨⟨⟨by omega, by omega⟩, ⟨by omega, by omega⟩, by omega, by omega⟩, 1, ⟨by omega, by omega⟩, by omega, ?_, rfl⟩
      have e2 : stI true n tk l 1 = ⟨tk, [] ++ [-1], 0 + ((n : Int) - a), 0 + 1⟩ := by rw [e1]; exact step_lost (ar := true) (by simpa [cntM, posM] using h)
      rw [e2]
      exact ⟨rfl, rfl⟩
    refine ⟨by omega, by omega, ⟨0, ⟨by omega, fun i hi => by omega⟩, by rw [Nat.add_zero, Nat.mod_eq_of_lt han], rfl⟩, fun j ⟨hj1, hj2⟩ => ?_⟩
    have hmj := hmod j
    have hj3 : ∀ i, i < j → tk ((a + i) % n) = true := fun i hi => by have := hmod i; rw [← fT_lg (n := (n : Int)) (tk := tk) (a := (a + i) % n) (by omega)]; exact hj2 i hi
    refine ⟨fun h1 => ⟨fun h2 => ⟨by omega, lg_boolAt (by omega), fun h3 => ?_, fun h3 => ?_⟩, fun h2 => lost fun i hi => hj3 i (by omega)⟩, fun h1 => lost fun i hi => hj3 i (by omega)⟩
    · rw [lg_getB (by omega)] at h3
      refine ⟨by omega, T8_boolAt (by omega), 1, ⟨by omega, by omega⟩, by omega, ?_, rfl⟩
      have e2 : stI true n tk l 1 = ⟨updB tk ((a + j) % n), [] ++ [(((a + j) % n : Nat) : Int)], 0 + (j : Int), 0⟩ := by
        rw [e1]; exact step_found (ar := true) (by simp only [cntM, Int.toNat_natCast]; omega) (by simpa [posM] using hj3) (by simpa [posM] using h3)
      rw [e2, wrap_in (x := 0 + (j : Int)) (by omega) (by omega)]
      exact ⟨rfl, rfl⟩
    · rw [lg_getB (by omega)] at h3
      refine ⟨by omega, j + 1, ⟨by omega, fun i hi => ?_⟩, by omega, ?_, ?_⟩
      · have := hmod i
        rw [fT_lg (by omega)]
        by_cases e : i = j
        · subst e; exact h3
        · exact hj3 i (by omega)
      · rw [wrap_in (by omega) (by omega)]; exact mod_next
      · rw [wrap_in (by omega) (by omega)]; push_cast; omega
  · have hx : x < l.length := by omega
    obtain ⟨a, ha, han⟩ := dd x hx
    have e1 := stI_succ (ar := true) (n := n) (tk := tk) hx
    obtain ⟨b1, b2, b3, b4, b5⟩ := stI_bd (ar := true) (n := n) (tk := tk) hl hx2
    have b6 : (n : Int) * x ≤ 96 := Int.le_trans (Int.mul_le_mul (c := 8) (d := 12) (by omega) (by omega) (by omega) (by omega)) (by omega)
    generalize stI true n tk l x = st at *
    rw [ha] at e1 ⊢
    have h8 : (n : Int) ≤ 8 := by omega
    have hmod : ∀ i, (a + i) % n < n := fun i => Nat.mod_lt _ (by omega)
    simp only [Int.toNat_natCast, cntM, posM] at e1 ⊢
    have lost : (∀ i, i < n → st.tk ((a + i) % n) = true) → (x = st.lies.length ∧ x ≤ 1000000 ∧ smallI st.slid ∧ (0 ≤ st.fell ∧ st.fell ≤ 1000000) ∧ smallI (IntKind.i64.wrap (↑n - ↑a))) ∧
        ∃ y, (0 < y ∧ y ≤ l.length) ∧ l.length - y < l.length - x ∧ (T8 st.tk [Value.slice (some { block := 9, off := 0, spot := some 0 }) (x + 1) 0, vi (st.slid + IntKind.i64.wrap (↑n - ↑a)), vi (st.fell + 1)] =
          T8 (stI true n tk l y).tk [Value.slice (some { block := 9, off := 0, spot := some 0 }) y 0, vi (stI true n tk l y).slid, vi (stI true n tk l y).fell] ∧
          List.map (Value.int IntKind.i64) (st.lies ++ [-1]) = List.map (Value.int IntKind.i64) (stI true n tk l y).lies) ∧ IntKind.i64.wrap (↑x + 1) = ↑y := fun h => by
      rw [wrap_in (x := (n : Int) - a) (by omega) (by omega)]
      refine ⟨⟨b1.symm, by omega, ⟨by omega, by omega⟩, ⟨by omega, by omega⟩, by omega, by omega⟩, x + 1, ⟨by omega, by omega⟩, by omega, ?_, ?_⟩
      · have e2 : stI true n tk l (x + 1) = ⟨st.tk, st.lies ++ [-1], st.slid + ((n : Int) - a), st.fell + 1⟩ := by rw [e1]; exact step_lost (ar := true) (by simpa [cntM, posM] using h)
        rw [e2]
        exact ⟨rfl, rfl⟩
      · rw [wrap_in (by omega) (by omega)]; push_cast; rfl
    refine ⟨by omega, hx, ⟨0, ⟨by omega, fun i hi => by omega⟩, by rw [Nat.add_zero, Nat.mod_eq_of_lt han], rfl⟩, fun j ⟨hj1, hj2⟩ => ?_⟩
    have hmj := hmod j
    have hj3 : ∀ i, i < j → st.tk ((a + i) % n) = true := fun i hi => by have := hmod i; rw [← fT_lg (n := (n : Int)) (tk := st.tk) (a := (a + i) % n) (by omega)]; exact hj2 i hi
    refine ⟨fun h1 => ⟨fun h2 => ⟨by omega, lg_boolAt (by omega), fun h3 => ?_, fun h3 => ?_⟩, fun h2 => lost fun i hi => hj3 i (by omega)⟩, fun h1 => lost fun i hi => hj3 i (by omega)⟩
    · rw [lg_getB (by omega)] at h3
      refine ⟨by omega, T8_boolAt (by omega), ⟨by omega, by omega, b1⟩, x + 1, ⟨by omega, by omega⟩, by omega, ?_, ?_⟩
      · have e2 : stI true n tk l (x + 1) = ⟨updB st.tk ((a + j) % n), st.lies ++ [(((a + j) % n : Nat) : Int)], st.slid + (j : Int), st.fell⟩ := by
          rw [e1]; exact step_found (ar := true) (by simp only [cntM, Int.toNat_natCast]; omega) (by simpa [posM] using hj3) (by simpa [posM] using h3)
        rw [e2, wrap_in (x := st.slid + (j : Int)) (by omega) (by omega)]
        exact ⟨rfl, rfl⟩
      · rw [wrap_in (by omega) (by omega)]; push_cast; rfl
    · rw [lg_getB (by omega)] at h3
      refine ⟨by omega, j + 1, ⟨by omega, fun i hi => ?_⟩, by omega, ?_, ?_⟩
      · have := hmod i
        rw [fT_lg (by omega)]
        by_cases e : i = j
        · subst e; exact h3
        · exact hj3 i (by omega)
      · rw [wrap_in (by omega) (by omega)]; exact mod_next
      · rw [wrap_in (by omega) (by omega)]; push_cast; omega
  · obtain rfl : x = l.length := by omega
    rw [stI_end (Nat.le_refl _)]
    exact ⟨rfl, rfl⟩
theorem dRN_ok (n : Nat) (tk tk2 : Nat → Bool) : dRN n tk tk2 := by
  unfold dRN dRN_s0
  simp only [SS, reduceCtorEq, Arg.list, Arg.num, Arg.flag, intOf, andP, Nat.reduceLeDiff, Nat.reduceAdd, Nat.reduceMul, Nat.reduceLT]
  trivial
theorem dRH_ok (n : Nat) (tk tk2 : Nat → Bool) (s : Option Nat) (c : Nat) : dRH n tk tk2 s c := by
  unfold dRH dRH_s0
  simp only [SS, reduceCtorEq, Arg.list, Arg.num, Arg.flag, intOf, andP, Nat.reduceLeDiff, Nat.reduceAdd, Nat.reduceMul, Nat.reduceLT]
  trivial
theorem dR_call (n : Nat) (tk tk2 : Nat → Bool) (l : List Int) (c : Nat) (hn : n ≤ 8) (hl : ∀ x ∈ l, 0 ≤ x ∧ x < (n : Int)) (hl0 : 0 < l.length) (hlen : l.length ≤ 12) :
    Call Try.prog 74 [ptr0 0, nextV true n tk2, .slice (some ⟨1,0,none⟩) l.length c] [pu n tk nilS 0 0, ros l] fun v H' => v = unitV ∧ H' = [pu n (runP true n tk l).tk (newS 2 l.length) (runP true n tk l).slid (runP true n tk l).fell, ros l, rws (runP true n tk l).lies] :=
  Call.ofVcR (E3_ok true) mixed (c := dpB) (inv := invD true n tk tk2 l c) Try.func74 (by kernel_rfl) (cast (congrFun (congrFun (congrFun (congrFun (congrFun dR_eq n) tk) tk2) l) c) (dR_ok n tk tk2 l c hn hl hl0 hlen))
theorem dRN_call (n : Nat) (tk tk2 : Nat → Bool) : Call Try.prog 74 [ptr0 0, nextV true n tk2, nilS] [pu n tk nilS 0 0] fun v H' => v = unitV ∧ H' = [pu n tk nilS 0 0] :=
  Call.ofVcR (E3_ok true) mixed (c := dpB) Try.func74 (by kernel_rfl) (cast (congrFun (congrFun (congrFun dRN_eq n) tk) tk2) (dRN_ok n tk tk2))
theorem dRH_call (n : Nat) (tk tk2 : Nat → Bool) (s : Option Nat) (c : Nat) : Call Try.prog 74 [ptr0 0, nextV true n tk2, .slice (some ⟨1,0,s⟩) 0 c] [pu n tk nilS 0 0, .gone] fun v H' => v = unitV ∧ H' = [pu n tk nilS 0 0, .gone] :=
  Call.ofVcR (E3_ok true) mixed (c := dpB) Try.func74 (by kernel_rfl) (cast (congrFun (congrFun (congrFun (congrFun (congrFun dRH_eq n) tk) tk2) s) c) (dRH_ok n tk tk2 s c))
theorem dropR_ok : ∀ args H φ v H' l, dropG true args H = some (φ, v, H', l) → Asks φ → Call Try.prog 74 args H (fun v' H2 => v' = v ∧ H2 = H') ∧ Kept H H' l :=
  dropG_ok dR_call dRN_call dRH_call
end Go.Pier.Lg
namespace Go.Pier
open Go
variable {P : Program} {H : Heap} {f : FuncId}
def Arg.two : Arg → Arg2
  | .plain v => .val v
  | .ints k l => .ints k l
  | .hole s => .hole s
theorem canonA_two (caps : Nat → Nat) : ∀ (i : Nat) (r : List Arg), canonA2 caps i (r.map Arg.two) = canonA caps i r
  | _, [] => rfl
  | i, .plain v :: r => by rw [List.map_cons, Arg.two, canonA2, canonA, canonA_two caps i r]
  | i, .ints k l :: r => by rw [List.map_cons, Arg.two, canonA2, canonA, canonA_two caps (i + 1) r]
  | i, .hole s :: r => by rw [List.map_cons, Arg.two, canonA2, canonA, canonA_two caps (i + 1) r]
theorem canonH_two : ∀ (r : List Arg), canonH2 (r.map Arg.two) = canonH r
  | [] => rfl
  | .plain v :: r => by rw [List.map_cons, Arg.two, canonH2, canonH, canonH_two r]
  | .ints k l :: r => by rw [List.map_cons, Arg.two, canonH2, canonH, canonH_two r]
  | .hole s :: r => by rw [List.map_cons, Arg.two, canonH2, canonH, canonH_two r]
theorem nmap0_closed {σ : Nat → Nat} {v : Value} (h : sc0 0 v = true) : nmap0 σ v = v := by
  unfold sc0 at h
  split at h <;> simp_all [nmap0]
theorem nmapA_closed {σ : Nat → Nat} {v : Value} (h : scA 0 v = true) : nmapA σ v = v := by
  simp only [scA, Bool.or_eq_true] at h
  rcases h with h | h
  · have : nmapA σ v = nmap0 σ v := by cases v <;> first | rfl | (simp [sc0] at h)
    rw [this, nmap0_closed h]
  · cases v <;> simp only [aggAll, Bool.false_eq_true] at h
    simp only [nmapA]
    rw [map_id_all (fun _ => nmap0_closed) _ h]
theorem nmap1_closed {σ : Nat → Nat} {v : Value} (h : sc1 0 v = true) : nmap1 σ v = v := by
  unfold sc1 at h
  split at h
  · simp only [Bool.and_eq_true] at h
    simp only [nmap1, nmapFn]
    rw [map_id_all (fun _ => nmapA_closed) _ h.1, map_id_all (fun _ => nmap0_closed) _ h.2]
  · simp at h
  · have : nmap1 σ v = nmap0 σ v := by cases v <;> first | rfl | (simp [sc0] at h)
    rw [this, nmap0_closed h]
theorem nmap2_closed {σ : Nat → Nat} {v : Value} (h : sc2 0 v = true) : nmap2 σ v = v := by
  unfold sc2 at h
  split at h
  · simp only [nmap2]; rw [map_id_all (fun _ => nmap1_closed) _ h]
  · have : nmap2 σ v = nmap1 σ v := by cases v <;> first | rfl | (simp [sc1, sc0] at h) | (rename_i h1 _; exact absurd rfl (h1 _))
    rw [this, nmap1_closed h]
theorem nmap_closed {σ : Nat → Nat} {v : Value} (h : sc 0 v = true) : nmap σ v = v := by
  unfold sc at h
  split at h
  · simp only [nmap]; rw [map_id_all (fun _ => nmap2_closed) _ h]
  · have : nmap σ v = nmap2 σ v := by cases v <;> first | rfl | (simp [sc2, sc1, sc0] at h) | (rename_i h1; exact absurd rfl (h1 _))
    rw [this, nmap2_closed h]
theorem nm0_closed {p : Nat → Bool} {v : Value} (h : sc0 0 v = true) : nm0 p v = true := by
  unfold sc0 at h
  split at h <;> simp_all [nm0]
theorem nmA_closed {p : Nat → Bool} {v : Value} (h : scA 0 v = true) : nmA p v = true := by
  simp only [scA, Bool.or_eq_true] at h
  rcases h with h | h
  · have : nmA p v = nm0 p v := by cases v <;> first | rfl | (simp [sc0] at h)
    rw [this, nm0_closed h]
  · cases v <;> simp only [aggAll, Bool.false_eq_true] at h
    simp only [nmA]
    exact all_mono (fun _ => nm0_closed) _ h
theorem nm1_closed {p : Nat → Bool} {v : Value} (h : sc1 0 v = true) : nm1 p v = true := by
  unfold sc1 at h
  split at h
  · simp only [Bool.and_eq_true] at h
    simp only [nm1, Bool.and_eq_true]
    exact ⟨rfl, all_mono (fun u hu => nmA_closed hu) _ h.1, all_mono (fun _ => nm0_closed) _ h.2⟩
  · simp at h
  · have : nm1 p v = nm0 p v := by cases v <;> first | rfl | (simp [sc0] at h)
    rw [this, nm0_closed h]
theorem nm2_closed {p : Nat → Bool} {v : Value} (h : sc2 0 v = true) : nm2 p v = true := by
  unfold sc2 at h
  split at h
  · simp only [nm2]; exact all_mono (fun _ => nm1_closed) _ h
  · have : nm2 p v = nm1 p v := by cases v <;> first | rfl | (simp [sc1, sc0] at h) | (rename_i h1 _; exact absurd rfl (h1 _))
    rw [this, nm1_closed h]
theorem nm_closed {p : Nat → Bool} {v : Value} (h : sc 0 v = true) : nm p v = true := by
  unfold sc at h
  split at h
  · simp only [nm]; exact all_mono (fun _ => nm2_closed) _ h
  · have : nm p v = nm2 p v := by cases v <;> first | rfl | (simp [sc2, sc1, sc0] at h) | (rename_i h1; exact absurd rfl (h1 _))
    rw [this, nm2_closed h]
theorem read_two {B : List Nat} (hB : B = []) {σ : Nat → Nat} : ∀ {r : List Arg} {vs : List Value}, ReadA H r vs → ReadA2 H σ B 0 (r.map Arg.two) vs
  | [], [], _ => trivial
  | .plain u :: r, v :: vs, h => ⟨by rw [h.1, nmap_closed h.2.1], by rw [h.1]; exact h.2.1, read_two hB h.2.2⟩
  | .ints k l :: r, v :: vs, h => ⟨h.1, fun b _ hm => (by rw [hB] at hm; cases hm), read_two hB h.2⟩
  | .hole s :: r, v :: vs, h => ⟨h.1, read_two hB h.2⟩
structure Fresh where
  ask : Prop
  val : Nat → Value
  new : Nat → Heap
structure Fresh.Good (s : Fresh) : Prop where
  val : ∀ e n, nmap (fun c => n + (c - e)) (s.val e) = s.val n
  new : ∀ e n, (s.new e).map (omap fun c => n + (c - e)) = s.new n
  ro : ∀ n, ∀ o ∈ s.new n, o.isRo = false
  nmv : ∀ n, nm (fun d => decide (n ≤ d)) (s.val n) = true
  nmn : ∀ n, ∀ o ∈ s.new n, o.nm (fun d => decide (n ≤ d)) = true
  scv : ∀ n, sc (n + (s.new n).length) (s.val n) = true
  scn : ∀ n, ∀ o ∈ s.new n, o.sc (n + (s.new n).length) = true
def freshG (ps : List PK) (spec : List Arg → Option Fresh) : List Value → Heap → Option (Option Prop × Value × Heap × List Nat) := fun args H => match toArgs H ps args with
  | some (φ, r) => match spec r with
    | some s => some (andO φ (some s.ask), s.val H.length, H ++ s.new H.length, [])
    | none => none
  | none => none
theorem nm_weak {e : Nat} : (fun d => decide (d < 0) || decide (e ≤ d)) = fun d => decide (e ≤ d) := by
  funext d; simp
theorem nameL_nil {e n : Nat} : nameL [] e n = fun c => n + (c - e) := by
  funext c; unfold nameL; simp
theorem Fresh.call {s : Fresh} (g : s.Good) {r : List Arg} {args : List Value} (h4 : ∀ caps, Call P f (canonA caps 0 r) (canonH r) fun v H' => v = s.val (canonH r).length ∧ H' = canonH r ++ s.new (canonH r).length) (hR : ReadA H r args) :
    Call P f args H (fun v' H2 => v' = s.val H.length ∧ H2 = H ++ s.new H.length) ∧ Kept H (H ++ s.new H.length) [] := by
  refine ⟨?_, Kept.append _ _ _⟩
  have h5 : ∀ caps, Call P f (canonA2 caps 0 (r.map Arg.two)) ([] ++ canonH2 (r.map Arg.two)) fun v' F' => v' = s.val (canonH r).length ∧ F' = [] ++ canonH2 (r.map Arg.two) ++ s.new (canonH r).length := fun caps => by
    rw [canonA_two, canonH_two, List.nil_append]; exact h4 caps
  have := Call.frameL (P := P) (f := f) (H := H) (Et := []) (Ft := []) (N := s.new (canonH r).length) (L := []) (ags := r.map Arg.two) (vs := args) (v := s.val (canonH r).length) rfl rfl (by simp) (fun _ h => by cases h) (fun c o h => by simp at h) (fun _ h => by cases h)
    (read_two rfl hR) h5
    (by rw [List.nil_append, List.nil_append, canonH_two]; simp only [List.length_nil, nm_weak]; exact g.nmn _)
    (g.ro _)
    (by rw [List.nil_append, canonH_two]; simp only [List.length_nil, nm_weak]; exact g.nmv _)
    (by
      rw [List.nil_append, List.nil_append, canonH_two, nameL_nil]
      intro o ho
      have hm := List.mem_map_of_mem (f := omap fun c => H.length + (c - (canonH r).length)) ho
      rw [g.new] at hm
      have := g.scn H.length _ hm
      rw [show (s.new (canonH r).length).length = (s.new H.length).length by rw [← g.new (canonH r).length H.length, List.length_map]]
      exact this)
    (by
      rw [List.nil_append, canonH_two, nameL_nil, g.val]
      have := g.scv H.length
      rw [show (s.new (canonH r).length).length = (s.new H.length).length by rw [← g.new (canonH r).length H.length, List.length_map]]
      exact this)
  rw [List.nil_append, canonH_two, nameL_nil, g.val, g.new] at this
  exact this.1
theorem freshG_ok {ps : List PK} {spec : List Arg → Option Fresh} (h : ∀ r s, kinds ps r → spec r = some s → s.ask → s.Good ∧ ∀ caps, Call P f (canonA caps 0 r) (canonH r) fun v H' => v = s.val (canonH r).length ∧ H' = canonH r ++ s.new (canonH r).length) :
    ∀ args H φ v H' l, freshG ps spec args H = some (φ, v, H', l) → Asks φ → Call P f args H (fun v' H2 => v' = v ∧ H2 = H') ∧ Kept H H' l := by
  intro args H φ v H' l hg hφ
  unfold freshG at hg
  split at hg <;> try (cases hg; done)
  rename_i φ1 r hr
  split at hg <;> cases hg
  rename_i s hb
  obtain ⟨h1, h2⟩ := andO_iff.1 hφ
  obtain ⟨g, h4⟩ := h r s (toArgs_kinds hr) hb h2
  exact Fresh.call g h4 (toArgs_ok hr h1)
theorem fresh_plain {p : Prop} {v : Value} (h : sc 0 v = true) : Fresh.Good ⟨p, fun _ => v, fun _ => []⟩ where
  val _ _ := nmap_closed h
  new _ _ := rfl
  ro _ _ h := by cases h
  nmv n := by
    exact nm_closed h
  nmn _ _ h := by cases h
  scv n := sc_mono (Nat.zero_le _) h
  scn _ _ h := by cases h
end Go.Pier
set_option maxRecDepth 100000
set_option linter.unusedVariables false
set_option linter.unusedSimpArgs false
namespace Go.Pier.Lg
open Go Go.Pier Go.Proofs
noncomputable def apR : VEnv := { ct := (Ct.none.add 23 (pureG [.int .i64, .ints .i64] cdS)).add 74 (dropG true), cc := ccIn Try.prog {} [⟨62, Try.f62, fun _ _ _ => none⟩] }
noncomputable def aroB : Code := Try.f40.body.getD .skip
def runR (n : Nat) (l : List Int) : PS := runP true n emp l
noncomputable def aroV_s0 (n : Nat) (l : List Int) (c : Nat) := (runP true (fN (vi (↑n : Int) :: T8 emp [Value.slice none (0 : Nat) (0 : Nat), vi (0 : Int), vi (0 : Int)])).toNat (fT (vi (↑n : Int) :: T8 emp [Value.slice none (0 : Nat) (0 : Nat), vi (0 : Int), vi (0 : Int)])) (List.take l.length (List.drop (0 : Nat) (intsOf (List.map (Value.int IntKind.i64) l)))))
noncomputable def aroV_s1 (n : Nat) (l : List Int) (c : Nat) := (List.take l.length (List.drop (0 : Nat) (intsOf (List.map (Value.int IntKind.i64) l))))
noncomputable def aroV_s2 (n : Nat) (l : List Int) (c : Nat) := (vi (fN (vi (↑n : Int) :: T8 emp [Value.slice none (0 : Nat) (0 : Nat), vi (0 : Int), vi (0 : Int)])) :: T8 ((aroV_s0 n l c).tk) [Value.slice (some { block := (2 : Nat), off := (0 : Nat), spot := some (0 : Nat) }) (aroV_s1 n l c).length (0 : Nat), vi (aroV_s0 n l c).slid, vi (aroV_s0 n l c).fell])
noncomputable def aroV_s3 (n : Nat) (l : List Int) (c : Nat) : Array Value := { toList := [Value.slice (some { block := (2 : Nat), off := (0 : Nat), spot := some (0 : Nat) }) l.length (0 : Nat), vi (runR n l).slid, vi (0 : Int)] }
noncomputable def aroV_s4 (n : Nat) (l : List Int) (c : Nat) := (List.map (Value.int IntKind.i64) l)
noncomputable def aroV_s5 (n : Nat) (l : List Int) (c : Nat) := (List.map (nmap1 (nsub (1 : Nat) (2 : Nat))) (aroV_s4 n l c))
noncomputable def aroV_s6 (n : Nat) (l : List Int) (c : Nat) := (errD (Arg.plain (vi (↑n : Int))).num (Arg.ints IntKind.i64 (aroV_s1 n l c)).list != (0 : Int))
noncomputable def aroV :=
fun (n : Nat) (l : List Int) (c : Nat) ↦ Ob ((List.take l.length (List.drop (0 : Nat) (aroV_s4 n l c)) = List.map (Value.int IntKind.i64) (aroV_s1 n l c) ∧ (0 : Nat) + l.length ≤ (aroV_s4 n l c).length ∧ true = true) ∧ (Arg.ints IntKind.i64 (aroV_s1 n l c)).list.length ≤ (1000000 : Nat)) ∧ ((aroV_s6 n l c) = true → (Ob (AObj.ro (aroV_s4 n l c) = AObj.ro (aroV_s5 n l c) ∧ AObj.sc (2 : Nat) (AObj.ro (aroV_s4 n l c)) = true) ∧ False) ∧ Ob (Value.tuple { toList := [Value.slice none (0 : Nat) (0 : Nat), vi (0 : Int), vi (errD (Arg.plain (vi (↑n : Int))).num (Arg.ints IntKind.i64 (aroV_s1 n l c)).list)] } = Value.tuple (aroV_s3 n l c)) ∧ True) ∧ ((aroV_s6 n l c) = false → (decide ((↑n : Int) < (↑l.length : Int)) = true → (Ob (AObj.ro (aroV_s4 n l c) = AObj.ro (aroV_s5 n l c) ∧ AObj.sc (2 : Nat) (AObj.ro (aroV_s4 n l c)) = true) ∧ False) ∧ Ob (Value.tuple { toList := [Value.slice none (0 : Nat) (0 : Nat), vi (0 : Int), vi (10 : Int)] } = Value.tuple (aroV_s3 n l c)) ∧ True) ∧ (decide ((↑n : Int) < (↑l.length : Int)) = false → Ob ((List.take l.length (List.drop (0 : Nat) (aroV_s4 n l c)) = List.map (Value.int IntKind.i64) (aroV_s1 n l c) ∧ (0 : Nat) + l.length ≤ (aroV_s4 n l c).length ∧ true = true) ∧ dropPre true (vi (↑n : Int) :: T8 emp [Value.slice none (0 : Nat) (0 : Nat), vi (0 : Int), vi (0 : Int)]) (Value.func (Fn.func (75 : Nat)) { toList := [Value.agg { toList := (lgC (↑n : Int) emp) }] } { toList := [] }) (aroV_s1 n l c) ∧ (0 : Nat) < (aroV_s1 n l c).length ∧ some (0 : Nat) ≠ some (1 : Nat)) ∧ Ob (IntAt IntKind.i64 (aroV_s2 n l c) ((0 : Nat) + (10 : Nat))) ∧ (Ob (AObj.ro (aroV_s4 n l c) = AObj.ro (aroV_s5 n l c) ∧ AObj.sc (2 : Nat) (AObj.ro (aroV_s4 n l c)) = true) ∧ Ob (AObj.rw (List.map (Value.int IntKind.i64) (aroV_s0 n l c).lies) (some (1 : Nat)) = AObj.rw (List.map (nmap1 (nsub (1 : Nat) (2 : Nat))) (List.map (Value.int IntKind.i64) (runR n l).lies)) (some (1 : Nat)) ∧ AObj.sc (2 : Nat) (AObj.rw (List.map (Value.int IntKind.i64) (runR n l).lies) (some (1 : Nat))) = true) ∧ True) ∧ Ob (Value.tuple { toList := [Value.slice (some { block := (2 : Nat), off := (0 : Nat), spot := some (0 : Nat) }) (aroV_s1 n l c).length (0 : Nat), vi (getI (aroV_s2 n l c) ((0 : Nat) + (10 : Nat))), vi (0 : Int)] } = Value.tuple (aroV_s3 n l c)) ∧ True))
theorem aroV_eq : aroV = fun (n : Nat) (l : List Int) (c : Nat) => vc Try.prog apR 1 37 true (fun _ => none) aroB [] (argFr 0 [vi n, .slice (some ⟨0,0,none⟩) l.length c]) [ros l] (retR Try.prog Try.f40 1 (nsub 1 2) (.tuple #[newS 1 l.length, vi (runR n l).slid, vi 0]) [ros l, rws (runR n l).lies]) := by kernel_rfl
noncomputable def aroN_s0 (n : Nat) : List Value := [Value.slice none (0 : Nat) (0 : Nat), vi (0 : Int), vi (0 : Int)]
noncomputable def aroN :=
fun (n : Nat) ↦ Ob ((0 : Nat) ≤ (1000000 : Nat)) ∧ ((errD (Arg.plain (vi (↑n : Int))).num [] != (0 : Int)) = true → True ∧ Ob (Value.tuple { toList := [Value.slice none (0 : Nat) (0 : Nat), vi (0 : Int), vi (errD (Arg.plain (vi (↑n : Int))).num [])] } = Value.tuple { toList := (aroN_s0 n) }) ∧ True) ∧ ((errD (Arg.plain (vi (↑n : Int))).num [] != (0 : Int)) = false → (decide ((↑n : Int) < (↑(0 : Nat) : Int)) = true → True ∧ Ob (Value.tuple { toList := [Value.slice none (0 : Nat) (0 : Nat), vi (0 : Int), vi (10 : Int)] } = Value.tuple { toList := (aroN_s0 n) }) ∧ True) ∧ (decide ((↑n : Int) < (↑(0 : Nat) : Int)) = false → Ob (dropPre true (vi (↑n : Int) :: T8 emp (aroN_s0 n)) (Value.func (Fn.func (75 : Nat)) { toList := [Value.agg { toList := (lgC (↑n : Int) emp) }] } { toList := [] }) []) ∧ Ob (some (vi (0 : Int)) = some (vi (0 : Int))) ∧ True ∧ Ob (Value.tuple { toList := (aroN_s0 n) } = Value.tuple { toList := (aroN_s0 n) }) ∧ True))
theorem aroN_eq : aroN = fun (n : Nat) => vc Try.prog apR 0 37 true (fun _ => none) aroB [] (argFr 0 [vi n, nilS]) [] (retR Try.prog Try.f40 0 (fun b => b) (.tuple #[nilS, vi 0, vi 0]) []) := by kernel_rfl
noncomputable def aroH_s0 (n : Nat) (s : Option Nat) (c : Nat) : List Value := [Value.slice none (0 : Nat) (0 : Nat), vi (0 : Int), vi (0 : Int)]
noncomputable def aroH :=
fun (n : Nat) (s : Option Nat) (c : Nat) ↦ Ob ((0 : Nat) ≤ (1000000 : Nat)) ∧ ((errD (Arg.plain (vi (↑n : Int))).num [] != (0 : Int)) = true → True ∧ Ob (Value.tuple { toList := [Value.slice none (0 : Nat) (0 : Nat), vi (0 : Int), vi (errD (Arg.plain (vi (↑n : Int))).num [])] } = Value.tuple { toList := (aroH_s0 n s c) }) ∧ True) ∧ ((errD (Arg.plain (vi (↑n : Int))).num [] != (0 : Int)) = false → (decide ((↑n : Int) < (↑(0 : Nat) : Int)) = true → True ∧ Ob (Value.tuple { toList := [Value.slice none (0 : Nat) (0 : Nat), vi (0 : Int), vi (10 : Int)] } = Value.tuple { toList := (aroH_s0 n s c) }) ∧ True) ∧ (decide ((↑n : Int) < (↑(0 : Nat) : Int)) = false → Ob (dropPre true (vi (↑n : Int) :: T8 emp (aroH_s0 n s c)) (Value.func (Fn.func (75 : Nat)) { toList := [Value.agg { toList := (lgC (↑n : Int) emp) }] } { toList := [] }) []) ∧ Ob (some (vi (0 : Int)) = some (vi (0 : Int))) ∧ True ∧ Ob (Value.tuple { toList := (aroH_s0 n s c) } = Value.tuple { toList := (aroH_s0 n s c) }) ∧ True))
theorem aroH_eq : aroH = fun (n : Nat) (s : Option Nat) (c : Nat) => vc Try.prog apR 1 37 true (fun _ => none) aroB [] (argFr 0 [vi n, .slice (some ⟨0,0,s⟩) 0 c]) [.gone] (retR Try.prog Try.f40 1 (fun b => b) (.tuple #[nilS, vi 0, vi 0]) [.gone]) := by kernel_rfl
theorem T8_10 {t : Nat → Bool} {n x y : Int} {a : Value} : getI (vi n :: T8 t [a, vi x, vi y]) 10 = x := rfl
theorem T8_11 {t : Nat → Bool} {n x y : Int} {a : Value} : getI (vi n :: T8 t [a, vi x, vi y]) 11 = y := rfl
theorem T8_i10 {t : Nat → Bool} {n x y : Int} {a : Value} : IntAt .i64 (vi n :: T8 t [a, vi x, vi y]) 10 := rfl
theorem T8_i11 {t : Nat → Bool} {n x y : Int} {a : Value} : IntAt .i64 (vi n :: T8 t [a, vi x, vi y]) 11 := rfl
theorem lies_len {ar : Bool} {n : Nat} {l : List Int} (hl : ∀ x ∈ l, 0 ≤ x ∧ x < (n : Int)) : (runP ar n emp l).lies.length = l.length := by
  have := (stI_bd (ar := ar) (tk := emp) hl (Nat.le_refl l.length)).1
  rwa [stI_end (Nat.le_refl _)] at this
theorem pre_mkR {n : Nat} {l : List Int} (h : errD n l = 0) : dropPre true (vi n :: T8 emp [Value.slice none 0 0, vi 0, vi 0]) (Value.func (Fn.func 75) { toList := [Value.agg { toList := lgC n emp }] } { toList := [] }) l := by
  obtain ⟨h1, h2, h3⟩ := pre_ok h
  exact ⟨rfl, rfl, by rw [fN_T8]; omega, by rw [fN_T8]; omega, by rw [fN_T8]; exact h2, h3⟩
theorem aroV_ok (n : Nat) (l : List Int) (c : Nat) (he : errD n l = 0) (h0 : 0 < l.length) (hf : l.length ≤ n) : aroV n l c := by
  obtain ⟨hn, hb, hl⟩ := pre_ok he
  unfold aroV aroV_s6 aroV_s5 aroV_s4 aroV_s3 aroV_s2 aroV_s1 aroV_s0
  simp only [SS, reduceCtorEq, Arg.list, Arg.num, Arg.flag, intOf, andP, Nat.reduceLeDiff, Nat.reduceAdd, Nat.reduceMul, Nat.reduceLT, he, T8_10, T8_11, T8_i10, T8_i11, fN_T8, fT_emp]
  exact ⟨by omega, fun h => by omega, fun _ => ⟨⟨pre_mkR he, h0⟩, rfl, rfl⟩⟩
theorem aroN_ok (n : Nat) (he : errD n [] = 0) : aroN n := by
  unfold aroN aroN_s0
  simp only [SS, reduceCtorEq, Arg.list, Arg.num, Arg.flag, intOf, andP, Nat.reduceLeDiff, Nat.reduceAdd, Nat.reduceMul, Nat.reduceLT, he, nilS]
  exact ⟨fun h => by omega, fun _ => pre_mkR he⟩
theorem aroH_ok (n : Nat) (s : Option Nat) (c : Nat) (he : errD n [] = 0) : aroH n s c := by
  unfold aroH aroH_s0
  simp only [SS, reduceCtorEq, Arg.list, Arg.num, Arg.flag, intOf, andP, Nat.reduceLeDiff, Nat.reduceAdd, Nat.reduceMul, Nat.reduceLT, he, nilS]
  exact ⟨fun h => by omega, fun _ => pre_mkR he⟩
theorem good_list {p : Prop} {s : Option Nat} {k c : Nat} {u v : Int} {l : List Int} {r : Option Nat} : Fresh.Good ⟨p, fun b => .tuple #[.slice (some ⟨b, 0, s⟩) k c, vi u, vi v], fun _ => [.rw (l.map (.int .i64)) r]⟩ where
  val e n := by simp [nmap, nmap2, nmap1, nmap0, am]
  new e n := omap_one
  ro n := mem_one rfl
  nmv n := by simp [nm, nm2, nm1, nm0]
  nmn n := mem_one nm_ints
  scv n := by simp [sc, sc2, sc1, sc0]
  scn n := mem_one sc_ints
def rndS (r : List Arg) : Option Fresh := match r with
  | [p, .ints _ l] => some ⟨errD p.num l = 0 ∧ 0 < l.length ∧ (l.length : Int) ≤ p.num, fun b => .tuple #[newS b l.length, vi (runR p.num.toNat l).slid, vi 0], fun _ => [rws (runR p.num.toNat l).lies]⟩
  | [p, _] => some ⟨errD p.num [] = 0, fun _ => .tuple #[nilS, vi 0, vi 0], fun _ => []⟩
  | _ => none
theorem apR_ok : VOk Try.prog apR := ⟨(CtOk.none.add cdG_ok).add dropR_ok, ccIn_ok E0_ok mixed (inl_one Try.func62), E0_ok.yc, E0_ok.orc⟩
theorem sc0_lie0 : sc 0 (.tuple #[nilS, vi 0, vi 0]) = true := by simp [nilS, sc, sc2, sc1, sc0]
abbrev psA : List PK := [.int .i64, .ints .i64]
theorem rndG_ok : ∀ args H φ v H' l, freshG psA rndS args H = some (φ, v, H', l) → Asks φ → Call Try.prog 40 args H (fun v' H2 => v' = v ∧ H2 = H') ∧ Kept H H' l :=
  freshG_ok fun r s hk hs hψ => match r, hk with
    | [_, _], ⟨⟨p, rfl⟩, ha, _⟩ => by
      rcases ha with rfl | ⟨s, rfl⟩ | ⟨l, rfl⟩ <;> cases hs
      · obtain ⟨n, rfl⟩ : ∃ n : Nat, p = n := errD_pos hψ
        exact ⟨fresh_plain sc0_lie0, fun caps => Call.ofVcR apR_ok mixed (c := aroB) Try.func40 (by kernel_rfl) (cast (congrFun aroN_eq n) (aroN_ok n hψ))⟩
      · obtain ⟨n, rfl⟩ : ∃ n : Nat, p = n := errD_pos hψ
        exact ⟨fresh_plain sc0_lie0, fun caps => Call.ofVcR apR_ok mixed (c := aroB) Try.func40 (by kernel_rfl) (cast (congrFun (congrFun (congrFun aroH_eq n) s) _) (aroH_ok n s _ hψ))⟩
      · obtain ⟨n, rfl⟩ : ∃ n : Nat, p = n := errD_pos hψ.1
        exact ⟨good_list, fun caps => Call.ofVcR apR_ok mixed (c := aroB) Try.func40 (by kernel_rfl) (cast (congrFun (congrFun (congrFun aroV_eq n) l) _) (aroV_ok n l _ hψ.1 hψ.2.1 (by have h3 : (l.length : Int) ≤ (n : Int) := hψ.2.2; omega)))⟩
end Go.Pier.Lg
set_option maxRecDepth 100000
set_option linter.unusedVariables false
set_option linter.unusedSimpArgs false
namespace Go.Pier.Lg
open Go Go.Pier Go.Proofs
end Go.Pier.Lg
set_option maxRecDepth 100000
set_option linter.unusedVariables false
set_option linter.unusedSimpArgs false
namespace Go.Pier.Lg
open Go Go.Pier Go.Proofs
end Go.Pier.Lg
set_option maxRecDepth 100000
set_option linter.unusedVariables false
set_option linter.unusedSimpArgs false
namespace Go.Pier.Lg
open Go Go.Pier Go.Proofs
end Go.Pier.Lg
