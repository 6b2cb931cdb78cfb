import Derived.Test.YtinkmgacaoohnaaPierMN4
import Derived.KernelRfl
import Derived.Test.YtinkmgacaoohnaaPierMN3
import Derived.Test.YtinkmgacaoohnaaPierLgS
set_option linter.unusedSimpArgs false
set_option linter.unusedVariables false
set_option maxRecDepth 100000
set_option linter.unusedVariables false
set_option linter.unusedSimpArgs false
namespace Go.Pier.Lg
open Go Go.Pier Go.Proofs
end Go.Pier.Lg
set_option maxRecDepth 100000
set_option linter.unusedVariables false
set_option linter.unusedSimpArgs false
namespace Go.Pier.Lg
open Go Go.Pier Go.Proofs
noncomputable def iiB : Code := Try.f25.body.getD .skip
def iiRI (l m : List Int) (c d : Nat) : Nat → Option LInv := invOf 0 (.one Nat (fun i => l.length = m.length ∧ i ≤ l.length ∧ ∀ j, j < i → l.getD j 0 = m.getD j 0) (fun i => [(0, .slice (some ⟨0,0,none⟩) l.length c), (1, .slice (some ⟨1,0,none⟩) m.length d), (5, vi i)]) (fun _ => [ros l, ros m]) (fun i => l.length - i))
def iiEI (a b : Value) (p : Prop) (H : Heap) : Nat → Option LInv := invOf 0 (.one Unit (fun _ => p) (fun _ => [(0, a), (1, b), (5, vi 0)]) (fun _ => H) (fun _ => 0))
noncomputable def iiNN :=
fun (x : Unit) ↦ (false = true → True ∧ Ob (Value.bool false = Value.bool true)) ∧ (false = false → (∃ (y : Unit), Ob True ∧ True ∧ Ob (Value.slice none (0 : Nat) (0 : Nat) = Value.slice none (0 : Nat) (0 : Nat)) ∧ Ob (Value.slice none (0 : Nat) (0 : Nat) = Value.slice none (0 : Nat) (0 : Nat)) ∧ Ob ((0 : Int) = (0 : Int)) ∧ True) ∧ ∀ (xq : Unit), Ob True → (false = true → False) ∧ (false = false → True ∧ Ob (Value.bool true = Value.bool true)))
theorem iiNN_eq : iiNN = fun (_ : Unit) => vc Try.prog {} 0 26 true (iiEI (.slice none 0 0) (.slice none 0 0) (True) []) iiB [] (argFr 0 [.slice none 0 0, .slice none 0 0]) [] (retK Try.prog Try.f25 (fun v _ => v = .bool true)) := by kernel_rfl
noncomputable def iiNH :=
fun (s1 : Option Nat) (c1 : Nat) ↦ (false = true → True ∧ Ob (Value.bool false = Value.bool true)) ∧ (false = false → (∃ (y : Unit), Ob True ∧ True ∧ Ob (Value.slice none (0 : Nat) (0 : Nat) = Value.slice none (0 : Nat) (0 : Nat)) ∧ Ob (Value.slice (some { block := (0 : Nat), off := (0 : Nat), spot := s1 }) (0 : Nat) c1 = Value.slice (some { block := (0 : Nat), off := (0 : Nat), spot := s1 }) (0 : Nat) c1) ∧ Ob ((0 : Int) = (0 : Int)) ∧ True) ∧ ∀ (x : Unit), Ob True → (false = true → False) ∧ (false = false → True ∧ Ob (Value.bool true = Value.bool true)))
theorem iiNH_eq : iiNH = fun (s1 : Option Nat) (c1 : Nat) => vc Try.prog {} 1 26 true (iiEI (.slice none 0 0) (.slice (some ⟨0,0,s1⟩) 0 c1) (True) [.gone]) iiB [] (argFr 0 [.slice none 0 0, .slice (some ⟨0,0,s1⟩) 0 c1]) [.gone] (retK Try.prog Try.f25 (fun v _ => v = .bool true)) := by kernel_rfl
noncomputable def iiNR :=
fun (l1 : List Int) (c1 : Nat) ↦ (((↑(0 : Nat) : Int) != (↑l1.length : Int)) = true → True ∧ Ob (Value.bool false = Value.bool (decide ([] = l1)))) ∧ (((↑(0 : Nat) : Int) != (↑l1.length : Int)) = false → (∃ (y : Unit), Ob (l1.length = (0 : Nat)) ∧ (Ob (AObj.ro (List.map (Value.int IntKind.i64) l1) = AObj.ro (List.map (nmap1 fun (b : Nat) ↦ b) (List.map (Value.int IntKind.i64) l1)) ∧ AObj.sc (1 : Nat) (AObj.ro (List.map (Value.int IntKind.i64) l1)) = true) ∧ True) ∧ Ob (Value.slice none (0 : Nat) (0 : Nat) = Value.slice none (0 : Nat) (0 : Nat)) ∧ Ob (Value.slice (some (ad0 0)) l1.length c1 = Value.slice (some (ad0 0)) l1.length c1) ∧ Ob ((0 : Int) = (0 : Int)) ∧ True) ∧ ∀ (x : Unit), Ob (l1.length = (0 : Nat)) → (false = true → False) ∧ (false = false → True ∧ Ob (Value.bool true = Value.bool (decide ([] = l1)))))
theorem iiNR_eq : iiNR = fun (l1 : List Int) (c1 : Nat) => vc Try.prog {} 1 26 true (iiEI (.slice none 0 0) (.slice (some ⟨0,0,none⟩) l1.length c1) (l1.length = 0) [ros l1]) iiB [] (argFr 0 [.slice none 0 0, .slice (some ⟨0,0,none⟩) l1.length c1]) [ros l1] (retK Try.prog Try.f25 (fun v _ => v = .bool (decide ([] = l1)))) := by kernel_rfl
noncomputable def iiHN :=
fun (s0 : Option Nat) (c0 : Nat) ↦ (false = true → True ∧ Ob (Value.bool false = Value.bool true)) ∧ (false = false → (∃ (y : Unit), Ob True ∧ True ∧ Ob (Value.slice (some { block := (0 : Nat), off := (0 : Nat), spot := s0 }) (0 : Nat) c0 = Value.slice (some { block := (0 : Nat), off := (0 : Nat), spot := s0 }) (0 : Nat) c0) ∧ Ob (Value.slice none (0 : Nat) (0 : Nat) = Value.slice none (0 : Nat) (0 : Nat)) ∧ Ob ((0 : Int) = (0 : Int)) ∧ True) ∧ ∀ (x : Unit), Ob True → (false = true → Ob ((0 : Int) ≤ (0 : Int) ∧ (0 : Int) < (↑(0 : Nat) : Int) ∧ std { block := (0 : Nat), off := (0 : Nat), spot := s0 } c0 = true) ∧ False) ∧ (false = false → True ∧ Ob (Value.bool true = Value.bool true)))
theorem iiHN_eq : iiHN = fun (s0 : Option Nat) (c0 : Nat) => vc Try.prog {} 1 26 true (iiEI (.slice (some ⟨0,0,s0⟩) 0 c0) (.slice none 0 0) (True) [.gone]) iiB [] (argFr 0 [.slice (some ⟨0,0,s0⟩) 0 c0, .slice none 0 0]) [.gone] (retK Try.prog Try.f25 (fun v _ => v = .bool true)) := by kernel_rfl
noncomputable def iiHH :=
fun (s0 : Option Nat) (c0 : Nat) (s1 : Option Nat) (c1 : Nat) ↦ (false = true → True ∧ Ob (Value.bool false = Value.bool true)) ∧ (false = false → (∃ (y : Unit), Ob True ∧ True ∧ Ob (Value.slice (some { block := (0 : Nat), off := (0 : Nat), spot := s0 }) (0 : Nat) c0 = Value.slice (some { block := (0 : Nat), off := (0 : Nat), spot := s0 }) (0 : Nat) c0) ∧ Ob (Value.slice (some { block := (1 : Nat), off := (0 : Nat), spot := s1 }) (0 : Nat) c1 = Value.slice (some { block := (1 : Nat), off := (0 : Nat), spot := s1 }) (0 : Nat) c1) ∧ Ob ((0 : Int) = (0 : Int)) ∧ True) ∧ ∀ (x : Unit), Ob True → (false = true → Ob ((0 : Int) ≤ (0 : Int) ∧ (0 : Int) < (↑(0 : Nat) : Int) ∧ std { block := (0 : Nat), off := (0 : Nat), spot := s0 } c0 = true) ∧ False) ∧ (false = false → True ∧ Ob (Value.bool true = Value.bool true)))
theorem iiHH_eq : iiHH = fun (s0 : Option Nat) (c0 : Nat) (s1 : Option Nat) (c1 : Nat) => vc Try.prog {} 2 26 true (iiEI (.slice (some ⟨0,0,s0⟩) 0 c0) (.slice (some ⟨1,0,s1⟩) 0 c1) (True) [.gone, .gone]) iiB [] (argFr 0 [.slice (some ⟨0,0,s0⟩) 0 c0, .slice (some ⟨1,0,s1⟩) 0 c1]) [.gone, .gone] (retK Try.prog Try.f25 (fun v _ => v = .bool true)) := by kernel_rfl
noncomputable def iiHR :=
fun (s0 : Option Nat) (c0 : Nat) (l1 : List Int) (c1 : Nat) ↦ (((↑(0 : Nat) : Int) != (↑l1.length : Int)) = true → True ∧ Ob (Value.bool false = Value.bool (decide ([] = l1)))) ∧ (((↑(0 : Nat) : Int) != (↑l1.length : Int)) = false → (∃ (y : Unit), Ob (l1.length = (0 : Nat)) ∧ (Ob (AObj.ro (List.map (Value.int IntKind.i64) l1) = AObj.ro (List.map (nmap1 fun (b : Nat) ↦ b) (List.map (Value.int IntKind.i64) l1)) ∧ AObj.sc (2 : Nat) (AObj.ro (List.map (Value.int IntKind.i64) l1)) = true) ∧ True) ∧ Ob (Value.slice (some { block := (0 : Nat), off := (0 : Nat), spot := s0 }) (0 : Nat) c0 = Value.slice (some { block := (0 : Nat), off := (0 : Nat), spot := s0 }) (0 : Nat) c0) ∧ Ob (Value.slice (some (ad0 1)) l1.length c1 = Value.slice (some (ad0 1)) l1.length c1) ∧ Ob ((0 : Int) = (0 : Int)) ∧ True) ∧ ∀ (x : Unit), Ob (l1.length = (0 : Nat)) → (false = true → Ob ((0 : Int) ≤ (0 : Int) ∧ (0 : Int) < (↑(0 : Nat) : Int) ∧ std { block := (0 : Nat), off := (0 : Nat), spot := s0 } c0 = true) ∧ False) ∧ (false = false → True ∧ Ob (Value.bool true = Value.bool (decide ([] = l1)))))
theorem iiHR_eq : iiHR = fun (s0 : Option Nat) (c0 : Nat) (l1 : List Int) (c1 : Nat) => vc Try.prog {} 2 26 true (iiEI (.slice (some ⟨0,0,s0⟩) 0 c0) (.slice (some ⟨1,0,none⟩) l1.length c1) (l1.length = 0) [.gone, ros l1]) iiB [] (argFr 0 [.slice (some ⟨0,0,s0⟩) 0 c0, .slice (some ⟨1,0,none⟩) l1.length c1]) [.gone, ros l1] (retK Try.prog Try.f25 (fun v _ => v = .bool (decide ([] = l1)))) := by kernel_rfl
noncomputable def iiRN :=
fun (l0 : List Int) (c0 : Nat) ↦ (((↑l0.length : Int) != (↑(0 : Nat) : Int)) = true → True ∧ Ob (Value.bool false = Value.bool (decide (l0 = [])))) ∧ (((↑l0.length : Int) != (↑(0 : Nat) : Int)) = false → (∃ (y : Unit), Ob (l0.length = (0 : Nat)) ∧ (Ob (AObj.ro (List.map (Value.int IntKind.i64) l0) = AObj.ro (List.map (nmap1 fun (b : Nat) ↦ b) (List.map (Value.int IntKind.i64) l0)) ∧ AObj.sc (1 : Nat) (AObj.ro (List.map (Value.int IntKind.i64) l0)) = true) ∧ True) ∧ Ob (Value.slice (some (ad0 0)) l0.length c0 = Value.slice (some (ad0 0)) l0.length c0) ∧ Ob (Value.slice none (0 : Nat) (0 : Nat) = Value.slice none (0 : Nat) (0 : Nat)) ∧ Ob ((0 : Int) = (0 : Int)) ∧ True) ∧ ∀ (x : Unit), Ob (l0.length = (0 : Nat)) → (decide ((0 : Int) < (↑l0.length : Int)) = true → Ob ((0 : Int) ≤ (0 : Int) ∧ (0 : Int) < (↑l0.length : Int) ∧ true = true) ∧ Ob (IntAt IntKind.i64 (List.map (Value.int IntKind.i64) l0) (0 : Nat)) ∧ False) ∧ (decide ((0 : Int) < (↑l0.length : Int)) = false → True ∧ Ob (Value.bool true = Value.bool (decide (l0 = [])))))
theorem iiRN_eq : iiRN = fun (l0 : List Int) (c0 : Nat) => vc Try.prog {} 1 26 true (iiEI (.slice (some ⟨0,0,none⟩) l0.length c0) (.slice none 0 0) (l0.length = 0) [ros l0]) iiB [] (argFr 0 [.slice (some ⟨0,0,none⟩) l0.length c0, .slice none 0 0]) [ros l0] (retK Try.prog Try.f25 (fun v _ => v = .bool (decide (l0 = [])))) := by kernel_rfl
noncomputable def iiRH :=
fun (l0 : List Int) (c0 : Nat) (s1 : Option Nat) (c1 : Nat) ↦ (((↑l0.length : Int) != (↑(0 : Nat) : Int)) = true → True ∧ Ob (Value.bool false = Value.bool (decide (l0 = [])))) ∧ (((↑l0.length : Int) != (↑(0 : Nat) : Int)) = false → (∃ (y : Unit), Ob (l0.length = (0 : Nat)) ∧ (Ob (AObj.ro (List.map (Value.int IntKind.i64) l0) = AObj.ro (List.map (nmap1 fun (b : Nat) ↦ b) (List.map (Value.int IntKind.i64) l0)) ∧ AObj.sc (2 : Nat) (AObj.ro (List.map (Value.int IntKind.i64) l0)) = true) ∧ True) ∧ Ob (Value.slice (some (ad0 0)) l0.length c0 = Value.slice (some (ad0 0)) l0.length c0) ∧ Ob (Value.slice (some { block := (1 : Nat), off := (0 : Nat), spot := s1 }) (0 : Nat) c1 = Value.slice (some { block := (1 : Nat), off := (0 : Nat), spot := s1 }) (0 : Nat) c1) ∧ Ob ((0 : Int) = (0 : Int)) ∧ True) ∧ ∀ (x : Unit), Ob (l0.length = (0 : Nat)) → (decide ((0 : Int) < (↑l0.length : Int)) = true → Ob ((0 : Int) ≤ (0 : Int) ∧ (0 : Int) < (↑l0.length : Int) ∧ true = true) ∧ Ob (IntAt IntKind.i64 (List.map (Value.int IntKind.i64) l0) (0 : Nat)) ∧ Ob ((0 : Int) ≤ (0 : Int) ∧ (0 : Int) < (↑(0 : Nat) : Int) ∧ std { block := (1 : Nat), off := (0 : Nat), spot := s1 } c1 = true) ∧ False) ∧ (decide ((0 : Int) < (↑l0.length : Int)) = false → True ∧ Ob (Value.bool true = Value.bool (decide (l0 = [])))))
theorem iiRH_eq : iiRH = fun (l0 : List Int) (c0 : Nat) (s1 : Option Nat) (c1 : Nat) => vc Try.prog {} 2 26 true (iiEI (.slice (some ⟨0,0,none⟩) l0.length c0) (.slice (some ⟨1,0,s1⟩) 0 c1) (l0.length = 0) [ros l0, .gone]) iiB [] (argFr 0 [.slice (some ⟨0,0,none⟩) l0.length c0, .slice (some ⟨1,0,s1⟩) 0 c1]) [ros l0, .gone] (retK Try.prog Try.f25 (fun v _ => v = .bool (decide (l0 = [])))) := by kernel_rfl
noncomputable def iiRR_s0 (l0 : List Int) (c0 : Nat) (l1 : List Int) (c1 : Nat) (x : Nat) := (getI (List.map (Value.int IntKind.i64) l0) ((0 : Nat) + (↑x : Int).toNat * (1 : Nat)) != getI (List.map (Value.int IntKind.i64) l1) ((0 : Nat) + (↑x : Int).toNat * (1 : Nat)))
noncomputable def iiRR_s1 (l0 : List Int) (c0 : Nat) (l1 : List Int) (c1 : Nat) := (List.map (Value.int IntKind.i64) l0)
noncomputable def iiRR_s2 (l0 : List Int) (c0 : Nat) (l1 : List Int) (c1 : Nat) := (List.map (Value.int IntKind.i64) l1)
noncomputable def iiRR :=
fun (l0 : List Int) (c0 : Nat) (l1 : List Int) (c1 : Nat) ↦ (((↑l0.length : Int) != (↑l1.length : Int)) = true → True ∧ Ob (Value.bool false = Value.bool (decide (l0 = l1)))) ∧ (((↑l0.length : Int) != (↑l1.length : Int)) = false → (∃ (y : Nat), Ob (l0.length = l1.length ∧ y ≤ l0.length ∧ ∀ (j : Nat), j < y → l0.getD j (0 : Int) = l1.getD j (0 : Int)) ∧ (Ob (AObj.ro (iiRR_s1 l0 c0 l1 c1) = AObj.ro (List.map (nmap1 fun (b : Nat) ↦ b) (iiRR_s1 l0 c0 l1 c1)) ∧ AObj.sc (2 : Nat) (AObj.ro (iiRR_s1 l0 c0 l1 c1)) = true) ∧ Ob (AObj.ro (iiRR_s2 l0 c0 l1 c1) = AObj.ro (List.map (nmap1 fun (b : Nat) ↦ b) (iiRR_s2 l0 c0 l1 c1)) ∧ AObj.sc (2 : Nat) (AObj.ro (iiRR_s2 l0 c0 l1 c1)) = true) ∧ True) ∧ Ob (Value.slice (some (ad0 0)) l0.length c0 = Value.slice (some (ad0 0)) l0.length c0) ∧ Ob (Value.slice (some (ad0 1)) l1.length c1 = Value.slice (some (ad0 1)) l1.length c1) ∧ Ob ((0 : Int) = (↑y : Int)) ∧ True) ∧ ∀ (x : Nat), Ob (l0.length = l1.length ∧ x ≤ l0.length ∧ ∀ (j : Nat), j < x → l0.getD j (0 : Int) = l1.getD j (0 : Int)) → (decide ((↑x : Int) < (↑l0.length : Int)) = true → Ob ((0 : Int) ≤ (↑x : Int) ∧ (↑x : Int) < (↑l0.length : Int) ∧ true = true) ∧ Ob (IntAt IntKind.i64 (iiRR_s1 l0 c0 l1 c1) ((0 : Nat) + (↑x : Int).toNat * (1 : Nat))) ∧ Ob ((0 : Int) ≤ (↑x : Int) ∧ (↑x : Int) < (↑l1.length : Int) ∧ true = true) ∧ Ob (IntAt IntKind.i64 (iiRR_s2 l0 c0 l1 c1) ((0 : Nat) + (↑x : Int).toNat * (1 : Nat))) ∧ ((iiRR_s0 l0 c0 l1 c1 x) = true → True ∧ Ob (Value.bool false = Value.bool (decide (l0 = l1)))) ∧ ((iiRR_s0 l0 c0 l1 c1 x) = false → ∃ (y : Nat), Ob (l0.length = l1.length ∧ y ≤ l0.length ∧ ∀ (j : Nat), j < y → l0.getD j (0 : Int) = l1.getD j (0 : Int)) ∧ Ob (l0.length - y < l0.length - x) ∧ (Ob (AObj.ro (iiRR_s1 l0 c0 l1 c1) = AObj.ro (List.map (nmap1 fun (b : Nat) ↦ b) (iiRR_s1 l0 c0 l1 c1)) ∧ AObj.sc (2 : Nat) (AObj.ro (iiRR_s1 l0 c0 l1 c1)) = true) ∧ Ob (AObj.ro (iiRR_s2 l0 c0 l1 c1) = AObj.ro (List.map (nmap1 fun (b : Nat) ↦ b) (iiRR_s2 l0 c0 l1 c1)) ∧ AObj.sc (2 : Nat) (AObj.ro (iiRR_s2 l0 c0 l1 c1)) = true) ∧ True) ∧ Ob (Value.slice (some (ad0 0)) l0.length c0 = Value.slice (some (ad0 0)) l0.length c0) ∧ Ob (Value.slice (some (ad0 1)) l1.length c1 = Value.slice (some (ad0 1)) l1.length c1) ∧ Ob (IntKind.i64.wrap ((↑x : Int) + (1 : Int)) = (↑y : Int)) ∧ True)) ∧ (decide ((↑x : Int) < (↑l0.length : Int)) = false → True ∧ Ob (Value.bool true = Value.bool (decide (l0 = l1)))))
theorem iiRR_eq : iiRR = fun (l0 : List Int) (c0 : Nat) (l1 : List Int) (c1 : Nat) => vc Try.prog {} 2 26 true (iiRI l0 l1 c0 c1) iiB [] (argFr 0 [.slice (some ⟨0,0,none⟩) l0.length c0, .slice (some ⟨1,0,none⟩) l1.length c1]) [ros l0, ros l1] (retK Try.prog Try.f25 (fun v _ => v = .bool (decide (l0 = l1)))) := by kernel_rfl
theorem lists_eq {l m : List Int} (h : l.length = m.length) (hj : ∀ j, j < l.length → l.getD j 0 = m.getD j 0) : l = m := by
  refine List.ext_getElem h fun i h1 h2 => ?_
  have := hj i h1
  rw [List.getD_eq_getElem?_getD, List.getD_eq_getElem?_getD, List.getElem?_eq_getElem h1, List.getElem?_eq_getElem h2] at this
  exact this
theorem iiNN_ok (u : Unit) : iiNN u := by
  unfold iiNN
  simp only [ob_iff, map_nmap_int, sc_ro_int, sc_rw_int, getI_map, intAt_map, true_and, and_true, eq_self, Int.toNat_natCast, Nat.zero_add, Nat.mul_one, decide_eq_true_eq, decide_eq_false_iff_not, Value.bool.injEq, bne_iff_ne, ne_eq, bne_eq_false_iff_eq, exists_const, forall_const, true_implies]
  exact ⟨fun h => absurd h (by decide), fun h => absurd h (by decide)⟩
theorem iiNH_ok (s1 : Option Nat) (c1 : Nat) : iiNH s1 c1 := by
  unfold iiNH
  simp only [ob_iff, map_nmap_int, sc_ro_int, sc_rw_int, getI_map, intAt_map, true_and, and_true, eq_self, Int.toNat_natCast, Nat.zero_add, Nat.mul_one, decide_eq_true_eq, decide_eq_false_iff_not, Value.bool.injEq, bne_iff_ne, ne_eq, bne_eq_false_iff_eq, exists_const, forall_const, true_implies]
  exact ⟨fun h => absurd h (by decide), fun h => absurd h (by decide)⟩
theorem iiNR_ok (l1 : List Int) (c1 : Nat) : iiNR l1 c1 := by
  unfold iiNR
  simp only [ob_iff, map_nmap_int, sc_ro_int, sc_rw_int, getI_map, intAt_map, true_and, and_true, eq_self, Int.toNat_natCast, Nat.zero_add, Nat.mul_one, decide_eq_true_eq, decide_eq_false_iff_not, Value.bool.injEq, bne_iff_ne, ne_eq, bne_eq_false_iff_eq, exists_const, forall_const, true_implies]
  cases l1 with
  | nil => simp
  | cons a t => simp; try omega
theorem iiHN_ok (s0 : Option Nat) (c0 : Nat) : iiHN s0 c0 := by
  unfold iiHN
  simp only [ob_iff, map_nmap_int, sc_ro_int, sc_rw_int, getI_map, intAt_map, true_and, and_true, eq_self, Int.toNat_natCast, Nat.zero_add, Nat.mul_one, decide_eq_true_eq, decide_eq_false_iff_not, Value.bool.injEq, bne_iff_ne, ne_eq, bne_eq_false_iff_eq, exists_const, forall_const, true_implies]
  exact ⟨fun h => absurd h (by decide), fun h => absurd h (by decide)⟩
theorem iiHH_ok (s0 : Option Nat) (c0 : Nat) (s1 : Option Nat) (c1 : Nat) : iiHH s0 c0 s1 c1 := by
  unfold iiHH
  simp only [ob_iff, map_nmap_int, sc_ro_int, sc_rw_int, getI_map, intAt_map, true_and, and_true, eq_self, Int.toNat_natCast, Nat.zero_add, Nat.mul_one, decide_eq_true_eq, decide_eq_false_iff_not, Value.bool.injEq, bne_iff_ne, ne_eq, bne_eq_false_iff_eq, exists_const, forall_const, true_implies]
  exact ⟨fun h => absurd h (by decide), fun h => absurd h (by decide)⟩
theorem iiHR_ok (s0 : Option Nat) (c0 : Nat) (l1 : List Int) (c1 : Nat) : iiHR s0 c0 l1 c1 := by
  unfold iiHR
  simp only [ob_iff, map_nmap_int, sc_ro_int, sc_rw_int, getI_map, intAt_map, true_and, and_true, eq_self, Int.toNat_natCast, Nat.zero_add, Nat.mul_one, decide_eq_true_eq, decide_eq_false_iff_not, Value.bool.injEq, bne_iff_ne, ne_eq, bne_eq_false_iff_eq, exists_const, forall_const, true_implies]
  cases l1 with
  | nil => simp
  | cons a t => simp; try omega
theorem iiRN_ok (l0 : List Int) (c0 : Nat) : iiRN l0 c0 := by
  unfold iiRN
  simp only [ob_iff, map_nmap_int, sc_ro_int, sc_rw_int, getI_map, intAt_map, true_and, and_true, eq_self, Int.toNat_natCast, Nat.zero_add, Nat.mul_one, decide_eq_true_eq, decide_eq_false_iff_not, Value.bool.injEq, bne_iff_ne, ne_eq, bne_eq_false_iff_eq, exists_const, forall_const, true_implies]
  cases l0 with
  | nil => simp
  | cons a t => simp; try omega
theorem iiRH_ok (l0 : List Int) (c0 : Nat) (s1 : Option Nat) (c1 : Nat) : iiRH l0 c0 s1 c1 := by
  unfold iiRH
  simp only [ob_iff, map_nmap_int, sc_ro_int, sc_rw_int, getI_map, intAt_map, true_and, and_true, eq_self, Int.toNat_natCast, Nat.zero_add, Nat.mul_one, decide_eq_true_eq, decide_eq_false_iff_not, Value.bool.injEq, bne_iff_ne, ne_eq, bne_eq_false_iff_eq, exists_const, forall_const, true_implies]
  cases l0 with
  | nil => simp
  | cons a t => simp; try omega
theorem iiRR_ok (l0 : List Int) (c0 : Nat) (l1 : List Int) (c1 : Nat)  (hl : l0.length ≤ 1000000): iiRR l0 c0 l1 c1 := by
  unfold iiRR iiRR_s2 iiRR_s1 iiRR_s0
  simp only [ob_iff, map_nmap_int, sc_ro_int, sc_rw_int, getI_map, intAt_map, true_and, and_true, eq_self, Int.toNat_natCast, Nat.zero_add, Nat.mul_one, decide_eq_true_eq, decide_eq_false_iff_not, Value.bool.injEq, bne_iff_ne, ne_eq, bne_eq_false_iff_eq, exists_const, forall_const, true_implies]
  have ne : ∀ {j : Nat}, j < l0.length → ¬ l0.getD j 0 = l1.getD j 0 → false = decide (l0 = l1) := fun {j} h1 h2 => by
    symm; rw [decide_eq_false_iff_not]; intro e; subst e; exact h2 rfl
  refine ⟨fun h => ?_, fun h => ⟨⟨0, ⟨by omega, by omega, fun j hj => by omega⟩, rfl⟩, fun x ⟨h1, h2, h3⟩ => ⟨fun h4 => ?_, fun h4 => ?_⟩⟩⟩
  · symm; rw [decide_eq_false_iff_not]; intro e; subst e; exact h rfl
  · refine ⟨⟨by omega, by omega⟩, by omega, ⟨by omega, by omega⟩, by omega, fun h5 => ne (j := x) (by omega) h5, fun h5 => ⟨x + 1, ⟨h1, by omega, fun j hj => ?_⟩, by omega, by rw [wrap_in (by omega) (by omega)]; rfl⟩⟩
    by_cases e : j = x
    · subst e; exact h5
    · exact h3 j (by omega)
  · symm; rw [decide_eq_true_iff]; exact lists_eq h1 fun j hj => h3 j (by omega)
theorem iiNN_call : Call Try.prog 25 [.slice none 0 0, .slice none 0 0] [] fun v _ => v = .bool true :=
  Call.ofVc (VOk.ofCt CtOk.none) mixed (c := iiB) (inv := iiEI (.slice none 0 0) (.slice none 0 0) (True) []) Try.func25 (by kernel_rfl) (cast (congrFun (iiNN_eq) ()) (iiNN_ok ()))
theorem iiNH_call (s1 : Option Nat) (c1 : Nat) : Call Try.prog 25 [.slice none 0 0, .slice (some ⟨0,0,s1⟩) 0 c1] [.gone] fun v _ => v = .bool true :=
  Call.ofVc (VOk.ofCt CtOk.none) mixed (c := iiB) (inv := iiEI (.slice none 0 0) (.slice (some ⟨0,0,s1⟩) 0 c1) (True) [.gone]) Try.func25 (by kernel_rfl) (cast (congrFun (congrFun (iiNH_eq) s1) c1) (iiNH_ok s1 c1))
theorem iiNR_call (l1 : List Int) (c1 : Nat) : Call Try.prog 25 [.slice none 0 0, .slice (some ⟨0,0,none⟩) l1.length c1] [ros l1] fun v _ => v = .bool (decide ([] = l1)) :=
  Call.ofVc (VOk.ofCt CtOk.none) mixed (c := iiB) (inv := iiEI (.slice none 0 0) (.slice (some ⟨0,0,none⟩) l1.length c1) (l1.length = 0) [ros l1]) Try.func25 (by kernel_rfl) (cast (congrFun (congrFun (iiNR_eq) l1) c1) (iiNR_ok l1 c1))
theorem iiHN_call (s0 : Option Nat) (c0 : Nat) : Call Try.prog 25 [.slice (some ⟨0,0,s0⟩) 0 c0, .slice none 0 0] [.gone] fun v _ => v = .bool true :=
  Call.ofVc (VOk.ofCt CtOk.none) mixed (c := iiB) (inv := iiEI (.slice (some ⟨0,0,s0⟩) 0 c0) (.slice none 0 0) (True) [.gone]) Try.func25 (by kernel_rfl) (cast (congrFun (congrFun (iiHN_eq) s0) c0) (iiHN_ok s0 c0))
theorem iiHH_call (s0 : Option Nat) (c0 : Nat) (s1 : Option Nat) (c1 : Nat) : Call Try.prog 25 [.slice (some ⟨0,0,s0⟩) 0 c0, .slice (some ⟨1,0,s1⟩) 0 c1] [.gone, .gone] fun v _ => v = .bool true :=
  Call.ofVc (VOk.ofCt CtOk.none) mixed (c := iiB) (inv := iiEI (.slice (some ⟨0,0,s0⟩) 0 c0) (.slice (some ⟨1,0,s1⟩) 0 c1) (True) [.gone, .gone]) Try.func25 (by kernel_rfl) (cast (congrFun (congrFun (congrFun (congrFun (iiHH_eq) s0) c0) s1) c1) (iiHH_ok s0 c0 s1 c1))
theorem iiHR_call (s0 : Option Nat) (c0 : Nat) (l1 : List Int) (c1 : Nat) : Call Try.prog 25 [.slice (some ⟨0,0,s0⟩) 0 c0, .slice (some ⟨1,0,none⟩) l1.length c1] [.gone, ros l1] fun v _ => v = .bool (decide ([] = l1)) :=
  Call.ofVc (VOk.ofCt CtOk.none) mixed (c := iiB) (inv := iiEI (.slice (some ⟨0,0,s0⟩) 0 c0) (.slice (some ⟨1,0,none⟩) l1.length c1) (l1.length = 0) [.gone, ros l1]) Try.func25 (by kernel_rfl) (cast (congrFun (congrFun (congrFun (congrFun (iiHR_eq) s0) c0) l1) c1) (iiHR_ok s0 c0 l1 c1))
theorem iiRN_call (l0 : List Int) (c0 : Nat) : Call Try.prog 25 [.slice (some ⟨0,0,none⟩) l0.length c0, .slice none 0 0] [ros l0] fun v _ => v = .bool (decide (l0 = [])) :=
  Call.ofVc (VOk.ofCt CtOk.none) mixed (c := iiB) (inv := iiEI (.slice (some ⟨0,0,none⟩) l0.length c0) (.slice none 0 0) (l0.length = 0) [ros l0]) Try.func25 (by kernel_rfl) (cast (congrFun (congrFun (iiRN_eq) l0) c0) (iiRN_ok l0 c0))
theorem iiRH_call (l0 : List Int) (c0 : Nat) (s1 : Option Nat) (c1 : Nat) : Call Try.prog 25 [.slice (some ⟨0,0,none⟩) l0.length c0, .slice (some ⟨1,0,s1⟩) 0 c1] [ros l0, .gone] fun v _ => v = .bool (decide (l0 = [])) :=
  Call.ofVc (VOk.ofCt CtOk.none) mixed (c := iiB) (inv := iiEI (.slice (some ⟨0,0,none⟩) l0.length c0) (.slice (some ⟨1,0,s1⟩) 0 c1) (l0.length = 0) [ros l0, .gone]) Try.func25 (by kernel_rfl) (cast (congrFun (congrFun (congrFun (congrFun (iiRH_eq) l0) c0) s1) c1) (iiRH_ok l0 c0 s1 c1))
theorem iiRR_call (l0 : List Int) (c0 : Nat) (l1 : List Int) (c1 : Nat)  (hl : l0.length ≤ 1000000): Call Try.prog 25 [.slice (some ⟨0,0,none⟩) l0.length c0, .slice (some ⟨1,0,none⟩) l1.length c1] [ros l0, ros l1] fun v _ => v = .bool (decide (l0 = l1)) :=
  Call.ofVc (VOk.ofCt CtOk.none) mixed (c := iiB) (inv := iiRI l0 l1 c0 c1) Try.func25 (by kernel_rfl) (cast (congrFun (congrFun (congrFun (congrFun (iiRR_eq) l0) c0) l1) c1) (iiRR_ok l0 c0 l1 c1 hl))
def iiS (r : List Arg) : Prop × Value := match r with
  | [a, b] => (a.list.length ≤ 1000000, .bool (decide (a.list = b.list)))
  | _ => (False, undef)
theorem iiG_ok : ∀ args H φ v H' l, pureG [.ints .i64, .ints .i64] iiS args H = some (φ, v, H', l) → Asks φ → Call Try.prog 25 args H (fun v' H2 => v' = v ∧ H2 = H') ∧ Kept H H' l :=
  pureG_ok fun r hk hs => match r, hk with
    | [_, _], ⟨ha, hb, _⟩ => by
      rcases ha with rfl | ⟨s, rfl⟩ | ⟨l, rfl⟩ <;> rcases hb with rfl | ⟨s', rfl⟩ | ⟨l', rfl⟩ <;> refine ⟨rfl, fun caps => ?_⟩
      · exact iiNN_call
      · exact iiNH_call s' _
      · exact iiNR_call l' _
      · exact iiHN_call s _
      · exact iiHH_call s _ s' _
      · exact iiHR_call s _ l' _
      · exact iiRN_call l _
      · exact iiRH_call l _ s' _
      · exact iiRR_call l _ l' _ hs
end Go.Pier.Lg
set_option maxRecDepth 100000
set_option linter.unusedVariables false
set_option linter.unusedSimpArgs false
namespace Go.Pier.Lg
open Go Go.Pier Go.Proofs
def plcN (a : Int) : Int := 1 + a % 8
noncomputable def plB : Code := Try.f42.body.getD .skip
noncomputable def plV :=
fun (a : Int) ↦ Ob ((8 : Int) ≠ (0 : Int)) ∧ True ∧ Ob (IntKind.i64.wrap ((1 : Int) + (IntKind.i64.wrap a).tmod (8 : Int)) = plcN a) ∧ True
theorem plV_eq : plV = fun (a : Int) => vc Try.prog {} 0 7 true (fun _ => none) plB [] (argFr 0 [.int .u8 a]) [] (retR Try.prog Try.f42 0 (fun b => b) (vi (plcN a)) []) := by kernel_rfl
theorem plV_ok (a : Int) (ha : 0 ≤ a ∧ a < 256) : plV a := by
  have wA : IntKind.i64.wrap (1 + (IntKind.i64.wrap a).tmod 8) = plcN a := by
    rw [wrap_in (x := a) (by omega) (by omega), Int.tmod_eq_emod_of_nonneg ha.1]
    unfold plcN
    exact wrap_in (by omega) (by omega)
  unfold plV
  simp only [SS, reduceCtorEq, Arg.list, Arg.num, Arg.flag, intOf, andP, Nat.reduceLeDiff, Nat.reduceAdd, Nat.reduceMul, Nat.reduceLT, wA]
  decide
theorem plc_bd {a : Int} : 1 ≤ plcN a ∧ plcN a ≤ 8 := by unfold plcN; omega
theorem plc_nat (a : Int) : ∃ n : Nat, plcN a = n ∧ 1 ≤ n ∧ n ≤ 8 := by
  have := plc_bd (a := a)
  exact ⟨(plcN a).toNat, by omega, by omega, by omega⟩
def placeN (n : Nat) : List Value → Option (Prop × Value) := fun args => match args with
  | [.int .u8 a] => some ((0 ≤ a ∧ a < 256) ∧ plcN a = n, vi n)
  | _ => none
theorem u8_plain {n : Int} : Plain (.int .u8 n) := ⟨fun σ => by simp [nmap, nmap2, nmap1, nmap0], fun m => by simp [sc, sc2, sc1, sc0], fun p => by simp [nm, nm2, nm1, nm0]⟩
theorem placeG_ok (n : Nat) : ∀ args H φ v H' l, plainG (placeN n) args H = some (φ, v, H', l) → Asks φ → Call Try.prog 42 args H (fun v' H2 => v' = v ∧ H2 = H') ∧ Kept H H' l :=
  plainG_ok fun args φ v hs hφ => by
    unfold placeN at hs
    split at hs <;> cases hs
    rename_i a
    refine ⟨mem_one u8_plain, vi_plain, ?_⟩
    rw [← hφ.2]
    exact Call.ofVcR (VOk.ofCt CtOk.none) mixed (c := plB) Try.func42 (by kernel_rfl) (cast (congrFun plV_eq a) (plV_ok a hφ.1))
def ZeroOk (a : Option Addr) (c : Nat) : Prop := (a = none ∧ c = 0) ∨ ∃ b s, a = some ⟨b, 0, s⟩
theorem Call.gone {f : FuncId} {args : List Value} {H : Heap} {q : Value → Prop} (h : Call Try.prog f args (H ++ [.gone]) fun v _ => q v) : Call Try.prog f args H fun v _ => q v := fun ρ w R hs => by
  have hwr : ∀ b, wr (H ++ [.gone]) b = true → wr H b = true := fun b hb => by
    by_cases hl : b < H.length
    · unfold wr at hb ⊢; rwa [List.getElem?_append_left hl] at hb
    · unfold wr at hb
      rw [List.getElem?_append_right (by omega)] at hb
      by_cases e : b - H.length = 0
      · rw [e] at hb; simp at hb
      · rw [List.getElem?_eq_none (by simp; omega)] at hb; cases hb
  have hro : ∀ b, isRo (H ++ [.gone]) b = true → isRo H b = true := fun b hb => by
    by_cases hl : b < H.length
    · unfold isRo at hb ⊢; rwa [List.getElem?_append_left hl] at hb
    · unfold isRo at hb
      rw [List.getElem?_append_right (by omega)] at hb
      by_cases e : b - H.length = 0
      · rw [e] at hb; simp at hb
      · rw [List.getElem?_eq_none (by simp; omega)] at hb; cases hb
  have hmx : ∀ b, isMix (H ++ [.gone]) b = true → isMix H b = true := fun b hb => by
    by_cases hl : b < H.length
    · unfold isMix at hb ⊢; rwa [List.getElem?_append_left hl] at hb
    · unfold isMix at hb
      rw [List.getElem?_append_right (by omega)] at hb
      by_cases e : b - H.length = 0
      · rw [e] at hb; simp at hb
      · rw [List.getElem?_eq_none (by simp; omega)] at hb; cases hb
  have hget : ∀ (b : Nat) (o : AObj), (H ++ [.gone])[b]? = some o → o = .gone ∨ H[b]? = some o := fun b o hb => by
    by_cases hl : b < H.length
    · rw [List.getElem?_append_left hl] at hb; exact .inr hb
    · rw [List.getElem?_append_right (by omega)] at hb
      by_cases e : b - H.length = 0
      · rw [e] at hb; simp at hb; exact .inl hb.symm
      · rw [List.getElem?_eq_none (by simp; omega)] at hb; cases hb
  have R2 : Rel ρ (H ++ [.gone]) w := ⟨fun b o hb => by
      rcases hget b o hb with rfl | h1
      · trivial
      · exact R.obj b o h1, fun b b' hb hb' => R.inj b b' (hwr b hb) (hwr b' hb'), fun b b' hb hb' => R.sep b b' (hro b hb) (hwr b' hb'), fun b b' hb hb' => R.deep b b' (hmx b hb) (hwr b' hb'), fun b o hb => by
      rcases hget b o hb with rfl | h1
      · rfl
      · exact AObj.sc_mono (by simp) (R.scp b o h1)⟩
  refine (h ρ w R2 (List.all_eq_true.2 fun v hv => sc_mono (by simp) (List.all_eq_true.1 hs v hv))).mono ?_
  rintro e w' ⟨ρ', v, H', rfl, hq, R', X, s'⟩
  have hl : H.length + 1 ≤ H'.length := by have := X.len; simpa using this
  have hwi : ∀ b, wr H b = true → wr (H ++ [.gone]) b = true := fun b hb => by
    have := wr_lt hb
    unfold wr at hb ⊢; rwa [List.getElem?_append_left this]
  refine ⟨ρ', v, H', rfl, hq, R', ⟨by omega, fun b hb => X.agree b (by simp only [List.length_append, List.length_cons, List.length_nil]; omega), X.size, fun k hk hn => X.keep k hk fun b hb => hn b (hwr b hb), fun b hb => ?_, fun b hb => ?_, fun b hb => hmx b (X.mix b hb), X.os, X.tape, X.output⟩, s'⟩
  · rcases X.wr b hb with h1 | ⟨h1, h2⟩
    · exact .inl (hwr b h1)
    · refine .inr ⟨by simp only [List.length_append, List.length_cons, List.length_nil] at h1; omega, ?_⟩
      rcases h2 with h2 | ⟨b0, h3, h4⟩
      · exact .inl h2
      · exact .inr ⟨b0, hwr b0 h3, h4⟩
  · rcases X.ro b hb with h1 | ⟨h1, b0, h3, h4⟩
    · exact .inl (hro b h1)
    · exact .inr ⟨by simp only [List.length_append, List.length_cons, List.length_nil] at h1; omega, b0, hmx b0 h3, h4⟩
def dpdZ : List Value → Heap → Option (Option Prop × Value × Heap × List Nat) := fun args H => match args with
  | [.int .i64 _, .slice a n c] => some (some (n = 0 ∧ ZeroOk a c), nilS, H, [])
  | _ => none
theorem dpdZ_ok : ∀ args H φ v H' l, dpdZ args H = some (φ, v, H', l) → Asks φ → Call Try.prog 43 args H (fun v' H2 => v' = v ∧ H2 = H') ∧ Kept H H' l := by
  intro args H φ v H' l h hφ
  unfold dpdZ at h
  split at h <;> cases h
  rename_i p a n c
  obtain ⟨rfl, ⟨rfl, rfl⟩ | ⟨b, s, rfl⟩⟩ := hφ
  · exact ⟨Call.ofArgs («as» := [.plain (vi p), .plain nilS]) (fun caps => (Call.ofVcR (VOk.ofCt CtOk.none) mixed (c := drB) (inv := dr0I p nilS []) Try.func43 (by kernel_rfl) (cast (congrFun drN_eq p) (drN_ok p))).mono fun v H h => h.1) sc0_nil ⟨rfl, rfl, rfl, sc0_nil, trivial⟩, Kept.refl _ _⟩
  · exact ⟨Call.ofArgs («as» := [.plain (vi p), .hole s]) (fun caps => (Call.ofVcR (VOk.ofCt CtOk.none) mixed (c := drB) (inv := dr0I p (.slice (some ⟨0,0,s⟩) 0 (caps 0)) [.gone]) Try.func43 (by kernel_rfl) (cast (congrFun (congrFun (congrFun drH_eq p) s) _) (drH_ok p s _))).mono fun v H h => h.1) sc0_nil ⟨rfl, rfl, ⟨b, c, rfl⟩, trivial⟩, Kept.refl _ _⟩
theorem wf_byte {n : Int} (h : (Lit.int .u8 n).wf = true) : 0 ≤ n ∧ n < 256 := by
  simp only [Lit.wf, Bool.and_eq_true, decide_eq_true_eq] at h
  have h1 : IntKind.u8.min = 0 := rfl
  have h2 : IntKind.u8.max = 255 := rfl
  rw [h1, h2] at h
  omega
theorem fits_bytes {a : Arg} (h : (PK.ints .u8).fits a) : (a = .plain nilS ∨ ∃ s, a = .hole s) ∨ ∃ l, a = .ints .u8 l ∧ 0 < l.length ∧ u8s l := by
  rcases h with h | h | ⟨l, h, h2, _, h3⟩
  · exact .inl (.inl h)
  · exact .inl (.inr h)
  · exact .inr ⟨l, h, h2, fun x hx => wf_byte (h3 x hx)⟩
theorem fits_byte {a : Arg} (h : (PK.int .u8).fits a) : ∃ n, a = .plain (.int .u8 n) ∧ 0 ≤ n ∧ n < 256 := by
  obtain ⟨n, h, h2⟩ := h
  exact ⟨n, h, wf_byte h2⟩
theorem fits_cons {p : PK} {ps : List PK} {r : List Arg} (h : fitsAll (p :: ps) r) : ∃ a r', r = a :: r' ∧ p.fits a ∧ fitsAll ps r' := by
  cases r with
  | nil => exact h.elim
  | cons a r => exact ⟨a, r, rfl, h.1, h.2⟩
theorem fits_nil {r : List Arg} (h : fitsAll [] r) : r = [] := by
  cases r with
  | nil => rfl
  | cons a r => exact h.elim
end Go.Pier.Lg
