/-
  Pier: PierLdrops0, PierLmath.
-/
import Derived.Test.YtinkmgacaoohnaaPierME3
import Derived.Test.YtinkmgacaoohnaaPierLgS
import Derived.Test.YtinkmgacaoohnaaPierME2
import Derived.KernelRfl
set_option linter.unusedSimpArgs false
set_option linter.unusedVariables false
set_option maxRecDepth 100000
set_option linter.unusedVariables false
set_option linter.unusedSimpArgs false
namespace Go.Pier.Lg
open Go Go.Pier Go.Proofs 
def l0I (p : Int) (a : Value) (H : Heap) : Nat → Option LInv := invOf 0 (LInv.one Unit (fun _ => True) (fun _ => [(0, vi p), (1, a), (4, nilS), (5, vi 0), (6, nilS), (7, vi 0), (8, vi 0)]) (fun _ => H) (fun _ => 0))
noncomputable def l0N :=
fun (p : Int) ↦ (∃ (y : Unit), Ob True ∧ True ∧ Ob (p = p) ∧ Ob (Value.slice none (0 : Nat) (0 : Nat) = Value.slice none (0 : Nat) (0 : Nat)) ∧ Ob (Value.slice none (0 : Nat) (0 : Nat) = Value.slice none (0 : Nat) (0 : Nat)) ∧ Ob ((0 : Int) = (0 : Int)) ∧ Ob (Value.slice none (0 : Nat) (0 : Nat) = Value.slice none (0 : Nat) (0 : Nat)) ∧ Ob ((0 : Int) = (0 : Int)) ∧ Ob ((0 : Int) = (0 : Int)) ∧ True) ∧ ∀ (x : Unit), Ob True → (false = true → False) ∧ (false = false → True ∧ Ob (Value.tuple { toList := [Value.slice none (0 : Nat) (0 : Nat), vi (0 : Int)] } = Value.tuple { toList := [Value.slice none (0 : Nat) (0 : Nat), vi (0 : Int)] } ∧ ([] : List AObj) = []))
theorem l0N_eq : l0N = fun (p : Int) => vc Try.prog lieRE 0 47 true (l0I p nilS []) lieRB [] (argFr 0 [vi p, nilS]) [] (retK Try.prog Try.f50 (fun v H1 => v = .tuple #[nilS, vi 0] ∧ H1 = [])) := by kernel_rfl
noncomputable def l0H :=
fun (p : Int) (s : Option Nat) (c : Nat) ↦ (∃ (y : Unit), Ob True ∧ True ∧ Ob (p = p) ∧ Ob (Value.slice (some { block := (0 : Nat), off := (0 : Nat), spot := s }) (0 : Nat) c = Value.slice (some { block := (0 : Nat), off := (0 : Nat), spot := s }) (0 : Nat) c) ∧ Ob (Value.slice none (0 : Nat) (0 : Nat) = Value.slice none (0 : Nat) (0 : Nat)) ∧ Ob ((0 : Int) = (0 : Int)) ∧ Ob (Value.slice none (0 : Nat) (0 : Nat) = Value.slice none (0 : Nat) (0 : Nat)) ∧ Ob ((0 : Int) = (0 : Int)) ∧ Ob ((0 : Int) = (0 : Int)) ∧ True) ∧ ∀ (x : Unit), Ob True → (false = true → Ob ((0 : Int) ≤ (0 : Int) ∧ (0 : Int) < (↑(0 : Nat) : Int) ∧ std { block := (0 : Nat), off := (0 : Nat), spot := s } c = true) ∧ False) ∧ (false = false → True ∧ Ob (Value.tuple { toList := [Value.slice none (0 : Nat) (0 : Nat), vi (0 : Int)] } = Value.tuple { toList := [Value.slice none (0 : Nat) (0 : Nat), vi (0 : Int)] } ∧ [AObj.gone] = [AObj.gone]))
theorem l0H_eq : l0H = fun (p : Int) (s : Option Nat) (c : Nat) => vc Try.prog lieRE 1 47 true (l0I p (.slice (some ⟨0,0,s⟩) 0 c) [.gone]) lieRB [] (argFr 0 [vi p, .slice (some ⟨0,0,s⟩) 0 c]) [.gone] (retK Try.prog Try.f50 (fun v H1 => v = .tuple #[nilS, vi 0] ∧ H1 = [.gone])) := by kernel_rfl
def lie0S (r : List Arg) : Prop × Value := match r with
  | [_, a] => (a.list.length = 0, .tuple #[nilS, vi 0])
  | _ => (False, undef)
noncomputable def full0T : Ct := (Ct.none.add 45 hasG).add 50 (pureG [.int .i64, .ints .i64] lie0S)
def f0I (n : Nat) (a : Value) (H : Heap) : Nat → Option LInv := invOf 0 (LInv.one Nat (fun i => i ≤ n) (fun i => [(0, vi n), (1, a), (4, nilS), (5, vi 0), (6, nilS), (8, nilS), (9, vi i)]) (fun _ => H) (fun i => n - i))
noncomputable def f0N :=
fun (n : Nat) ↦ Ob ((0 : Nat) = (0 : Nat)) ∧ (∃ (y : Nat), Ob (y ≤ n) ∧ True ∧ Ob ((↑n : Int) = (↑n : Int)) ∧ Ob (Value.slice none (0 : Nat) (0 : Nat) = Value.slice none (0 : Nat) (0 : Nat)) ∧ Ob (Value.slice none (0 : Nat) (0 : Nat) = Value.slice none (0 : Nat) (0 : Nat)) ∧ Ob ((0 : Int) = (0 : Int)) ∧ Ob (Value.slice none (0 : Nat) (0 : Nat) = Value.slice none (0 : Nat) (0 : Nat)) ∧ Ob (Value.slice none (0 : Nat) (0 : Nat) = Value.slice none (0 : Nat) (0 : Nat)) ∧ Ob ((0 : Int) = (↑y : Int)) ∧ True) ∧ ∀ (x : Nat), Ob (x ≤ n) → (decide ((↑x : Int) < (↑n : Int)) = true → (false = true → Ob (andP (some ((0 : Nat) + (1 : Nat) ≤ (1 : Nat) ∧ true = true)) ((1 : Nat) ≤ (1099511627776 : Nat) ∧ (2064 : Nat) ≤ (281474976710656 : Nat) ∧ (1 : Nat) = (1 : Nat) ∧ (0 : Nat) = (0 : Nat) ∧ (0 : Nat) < (1 : Nat))) ∧ ∃ (y : Nat), Ob (y ≤ n) ∧ Ob (n - y < n - x) ∧ True ∧ Ob ((↑n : Int) = (↑n : Int)) ∧ Ob (Value.slice none (0 : Nat) (0 : Nat) = Value.slice none (0 : Nat) (0 : Nat)) ∧ Ob (Value.slice none (0 : Nat) (0 : Nat) = Value.slice none (0 : Nat) (0 : Nat)) ∧ Ob ((0 : Int) = (0 : Int)) ∧ Ob (Value.slice none (0 : Nat) (0 : Nat) = Value.slice none (0 : Nat) (0 : Nat)) ∧ Ob (Value.slice (some { block := (1 : Nat), off := (0 : Nat), spot := some (0 : Nat) }) (1 : Nat) (0 : Nat) = Value.slice none (0 : Nat) (0 : Nat)) ∧ Ob (IntKind.i64.wrap ((↑x : Int) + (1 : Int)) = (↑y : Int)) ∧ True) ∧ (false = false → ∃ (y : Nat), Ob (y ≤ n) ∧ Ob (n - y < n - x) ∧ True ∧ Ob ((↑n : Int) = (↑n : Int)) ∧ Ob (Value.slice none (0 : Nat) (0 : Nat) = Value.slice none (0 : Nat) (0 : Nat)) ∧ Ob (Value.slice none (0 : Nat) (0 : Nat) = Value.slice none (0 : Nat) (0 : Nat)) ∧ Ob ((0 : Int) = (0 : Int)) ∧ Ob (Value.slice none (0 : Nat) (0 : Nat) = Value.slice none (0 : Nat) (0 : Nat)) ∧ Ob (Value.slice none (0 : Nat) (0 : Nat) = Value.slice none (0 : Nat) (0 : Nat)) ∧ Ob (IntKind.i64.wrap ((↑x : Int) + (1 : Int)) = (↑y : Int)) ∧ True)) ∧ (decide ((↑x : Int) < (↑n : Int)) = false → True ∧ Ob (Value.tuple { toList := [Value.slice none (0 : Nat) (0 : Nat), vi (IntKind.i64.wrap ((↑(0 : Nat) : Int) - (↑(0 : Nat) : Int)))] } = Value.tuple { toList := [Value.slice none (0 : Nat) (0 : Nat), vi (0 : Int)] } ∧ ([] : List AObj) = []))
theorem f0N_eq : f0N = fun (n : Nat) => vc Try.prog { ct := full0T } 0 34 true (f0I n nilS []) fullRB [] (argFr 0 [vi n, nilS]) [] (retK Try.prog Try.f53 (fun v H1 => v = .tuple #[nilS, vi 0] ∧ H1 = [])) := by kernel_rfl
noncomputable def f0H :=
fun (n : Nat) (s : Option Nat) (c : Nat) ↦ Ob ((0 : Nat) = (0 : Nat)) ∧ (∃ (y : Nat), Ob (y ≤ n) ∧ True ∧ Ob ((↑n : Int) = (↑n : Int)) ∧ Ob (Value.slice (some { block := (0 : Nat), off := (0 : Nat), spot := s }) (0 : Nat) c = Value.slice (some { block := (0 : Nat), off := (0 : Nat), spot := s }) (0 : Nat) c) ∧ Ob (Value.slice none (0 : Nat) (0 : Nat) = Value.slice none (0 : Nat) (0 : Nat)) ∧ Ob ((0 : Int) = (0 : Int)) ∧ Ob (Value.slice none (0 : Nat) (0 : Nat) = Value.slice none (0 : Nat) (0 : Nat)) ∧ Ob (Value.slice none (0 : Nat) (0 : Nat) = Value.slice none (0 : Nat) (0 : Nat)) ∧ Ob ((0 : Int) = (↑y : Int)) ∧ True) ∧ ∀ (x : Nat), Ob (x ≤ n) → (decide ((↑x : Int) < (↑n : Int)) = true → (false = true → Ob (andP (some ((0 : Nat) + (1 : Nat) ≤ (1 : Nat) ∧ true = true)) ((1 : Nat) ≤ (1099511627776 : Nat) ∧ (2064 : Nat) ≤ (281474976710656 : Nat) ∧ (1 : Nat) = (1 : Nat) ∧ (0 : Nat) = (0 : Nat) ∧ (0 : Nat) < (1 : Nat))) ∧ ∃ (y : Nat), Ob (y ≤ n) ∧ Ob (n - y < n - x) ∧ True ∧ Ob ((↑n : Int) = (↑n : Int)) ∧ Ob (Value.slice (some { block := (0 : Nat), off := (0 : Nat), spot := s }) (0 : Nat) c = Value.slice (some { block := (0 : Nat), off := (0 : Nat), spot := s }) (0 : Nat) c) ∧ Ob (Value.slice none (0 : Nat) (0 : Nat) = Value.slice none (0 : Nat) (0 : Nat)) ∧ Ob ((0 : Int) = (0 : Int)) ∧ Ob (Value.slice none (0 : Nat) (0 : Nat) = Value.slice none (0 : Nat) (0 : Nat)) ∧ Ob (Value.slice (some { block := (2 : Nat), off := (0 : Nat), spot := some (0 : Nat) }) (1 : Nat) (0 : Nat) = Value.slice none (0 : Nat) (0 : Nat)) ∧ Ob (IntKind.i64.wrap ((↑x : Int) + (1 : Int)) = (↑y : Int)) ∧ True) ∧ (false = false → ∃ (y : Nat), Ob (y ≤ n) ∧ Ob (n - y < n - x) ∧ True ∧ Ob ((↑n : Int) = (↑n : Int)) ∧ Ob (Value.slice (some { block := (0 : Nat), off := (0 : Nat), spot := s }) (0 : Nat) c = Value.slice (some { block := (0 : Nat), off := (0 : Nat), spot := s }) (0 : Nat) c) ∧ Ob (Value.slice none (0 : Nat) (0 : Nat) = Value.slice none (0 : Nat) (0 : Nat)) ∧ Ob ((0 : Int) = (0 : Int)) ∧ Ob (Value.slice none (0 : Nat) (0 : Nat) = Value.slice none (0 : Nat) (0 : Nat)) ∧ Ob (Value.slice none (0 : Nat) (0 : Nat) = Value.slice none (0 : Nat) (0 : Nat)) ∧ Ob (IntKind.i64.wrap ((↑x : Int) + (1 : Int)) = (↑y : Int)) ∧ True)) ∧ (decide ((↑x : Int) < (↑n : Int)) = false → True ∧ Ob (Value.tuple { toList := [Value.slice none (0 : Nat) (0 : Nat), vi (IntKind.i64.wrap ((↑(0 : Nat) : Int) - (↑(0 : Nat) : Int)))] } = Value.tuple { toList := [Value.slice none (0 : Nat) (0 : Nat), vi (0 : Int)] } ∧ [AObj.gone] = [AObj.gone]))
theorem f0H_eq : f0H = fun (n : Nat) (s : Option Nat) (c : Nat) => vc Try.prog { ct := full0T } 1 34 true (f0I n (.slice (some ⟨0,0,s⟩) 0 c) [.gone]) fullRB [] (argFr 0 [vi n, .slice (some ⟨0,0,s⟩) 0 c]) [.gone] (retK Try.prog Try.f53 (fun v H1 => v = .tuple #[nilS, vi 0] ∧ H1 = [.gone])) := by kernel_rfl
noncomputable def l0R :=
fun (p : Int) (c : Nat) ↦ (∃ (y : Unit), Ob True ∧ (Ob (AObj.ro [] = AObj.ro [] ∧ true = true) ∧ True) ∧ Ob (p = p) ∧ Ob (Value.slice (some (ad0 0)) (0 : Nat) c = Value.slice (some (ad0 0)) (0 : Nat) c) ∧ Ob (Value.slice none (0 : Nat) (0 : Nat) = Value.slice none (0 : Nat) (0 : Nat)) ∧ Ob ((0 : Int) = (0 : Int)) ∧ Ob (Value.slice none (0 : Nat) (0 : Nat) = Value.slice none (0 : Nat) (0 : Nat)) ∧ Ob ((0 : Int) = (0 : Int)) ∧ Ob ((0 : Int) = (0 : Int)) ∧ True) ∧ ∀ (x : Unit), Ob True → (false = true → Ob ((0 : Int) ≤ (0 : Int) ∧ (0 : Int) < (↑(0 : Nat) : Int) ∧ true = true) ∧ Ob (IntAt IntKind.i64 [] (0 : Nat)) ∧ False) ∧ (false = false → True ∧ Ob (Value.tuple { toList := [Value.slice none (0 : Nat) (0 : Nat), vi (0 : Int)] } = Value.tuple { toList := [Value.slice none (0 : Nat) (0 : Nat), vi (0 : Int)] } ∧ [AObj.ro []] = [AObj.ro []]))
theorem l0R_eq : l0R = fun (p : Int) (c : Nat) => vc Try.prog lieRE 1 47 true (l0I p (.slice (some ⟨0,0,none⟩) 0 c) [ros []]) lieRB [] (argFr 0 [vi p, .slice (some ⟨0,0,none⟩) 0 c]) [ros []] (retK Try.prog Try.f50 (fun v H1 => v = .tuple #[nilS, vi 0] ∧ H1 = [ros []])) := by kernel_rfl
noncomputable def f0R :=
fun (n : Nat) (l : List Int) (c : Nat) ↦ Ob ((List.take l.length (List.drop (0 : Nat) (List.map (Value.int IntKind.i64) l)) = List.map (Value.int IntKind.i64) (List.take l.length (List.drop (0 : Nat) (intsOf (List.map (Value.int IntKind.i64) l)))) ∧ (0 : Nat) + l.length ≤ (List.map (Value.int IntKind.i64) l).length ∧ true = true) ∧ (Arg.ints IntKind.i64 (List.take l.length (List.drop (0 : Nat) (intsOf (List.map (Value.int IntKind.i64) l))))).list.length = (0 : Nat)) ∧ (∃ (y : Nat), Ob (y ≤ n) ∧ (Ob (AObj.ro (List.map (Value.int IntKind.i64) l) = AObj.ro (List.map (nmap1 fun (b : Nat) ↦ b) (List.map (Value.int IntKind.i64) l)) ∧ AObj.sc (1 : Nat) (AObj.ro (List.map (Value.int IntKind.i64) l)) = true) ∧ True) ∧ Ob ((↑n : Int) = (↑n : Int)) ∧ Ob (Value.slice (some (ad0 0)) l.length c = Value.slice (some (ad0 0)) l.length c) ∧ Ob (Value.slice none (0 : Nat) (0 : Nat) = Value.slice none (0 : Nat) (0 : Nat)) ∧ Ob ((0 : Int) = (0 : Int)) ∧ Ob (Value.slice none (0 : Nat) (0 : Nat) = Value.slice none (0 : Nat) (0 : Nat)) ∧ Ob (Value.slice none (0 : Nat) (0 : Nat) = Value.slice none (0 : Nat) (0 : Nat)) ∧ Ob ((0 : Int) = (↑y : Int)) ∧ True) ∧ ∀ (x : Nat), Ob (x ≤ n) → (decide ((↑x : Int) < (↑n : Int)) = true → (false = true → Ob (andP (some ((0 : Nat) + (1 : Nat) ≤ (1 : Nat) ∧ true = true)) ((1 : Nat) ≤ (1099511627776 : Nat) ∧ (2064 : Nat) ≤ (281474976710656 : Nat) ∧ (1 : Nat) = (1 : Nat) ∧ (0 : Nat) = (0 : Nat) ∧ (0 : Nat) < (1 : Nat))) ∧ ∃ (y : Nat), Ob (y ≤ n) ∧ Ob (n - y < n - x) ∧ (Ob (AObj.ro (List.map (Value.int IntKind.i64) l) = AObj.ro (List.map (nmap1 fun (b : Nat) ↦ b) (List.map (Value.int IntKind.i64) l)) ∧ AObj.sc (1 : Nat) (AObj.ro (List.map (Value.int IntKind.i64) l)) = true) ∧ True) ∧ Ob ((↑n : Int) = (↑n : Int)) ∧ Ob (Value.slice (some (ad0 0)) l.length c = Value.slice (some (ad0 0)) l.length c) ∧ Ob (Value.slice none (0 : Nat) (0 : Nat) = Value.slice none (0 : Nat) (0 : Nat)) ∧ Ob ((0 : Int) = (0 : Int)) ∧ Ob (Value.slice none (0 : Nat) (0 : Nat) = Value.slice none (0 : Nat) (0 : Nat)) ∧ Ob (Value.slice (some { block := (2 : Nat), off := (0 : Nat), spot := some (0 : Nat) }) (1 : Nat) (0 : Nat) = Value.slice none (0 : Nat) (0 : Nat)) ∧ Ob (IntKind.i64.wrap ((↑x : Int) + (1 : Int)) = (↑y : Int)) ∧ True) ∧ (false = false → ∃ (y : Nat), Ob (y ≤ n) ∧ Ob (n - y < n - x) ∧ (Ob (AObj.ro (List.map (Value.int IntKind.i64) l) = AObj.ro (List.map (nmap1 fun (b : Nat) ↦ b) (List.map (Value.int IntKind.i64) l)) ∧ AObj.sc (1 : Nat) (AObj.ro (List.map (Value.int IntKind.i64) l)) = true) ∧ True) ∧ Ob ((↑n : Int) = (↑n : Int)) ∧ Ob (Value.slice (some (ad0 0)) l.length c = Value.slice (some (ad0 0)) l.length c) ∧ Ob (Value.slice none (0 : Nat) (0 : Nat) = Value.slice none (0 : Nat) (0 : Nat)) ∧ Ob ((0 : Int) = (0 : Int)) ∧ Ob (Value.slice none (0 : Nat) (0 : Nat) = Value.slice none (0 : Nat) (0 : Nat)) ∧ Ob (Value.slice none (0 : Nat) (0 : Nat) = Value.slice none (0 : Nat) (0 : Nat)) ∧ Ob (IntKind.i64.wrap ((↑x : Int) + (1 : Int)) = (↑y : Int)) ∧ True)) ∧ (decide ((↑x : Int) < (↑n : Int)) = false → True ∧ Ob (Value.tuple { toList := [Value.slice none (0 : Nat) (0 : Nat), vi (IntKind.i64.wrap ((↑l.length : Int) - (↑(0 : Nat) : Int)))] } = Value.tuple { toList := [Value.slice none (0 : Nat) (0 : Nat), vi (0 : Int)] } ∧ [AObj.ro (List.map (Value.int IntKind.i64) l)] = [AObj.ro (List.map (Value.int IntKind.i64) l)]))
theorem f0R_eq : f0R = fun (n : Nat) (l : List Int) (c : Nat) => vc Try.prog { ct := full0T } 1 34 true (f0I n (.slice (some ⟨0,0,none⟩) l.length c) [ros l]) fullRB [] (argFr 0 [vi n, .slice (some ⟨0,0,none⟩) l.length c]) [ros l] (retK Try.prog Try.f53 (fun v H1 => v = .tuple #[nilS, vi 0] ∧ H1 = [ros l])) := by kernel_rfl
noncomputable def foW :=
fun (p : Int) (l : List Int) (c : Nat) ↦ Ob ((List.take l.length (List.drop (0 : Nat) (List.map (Value.int IntKind.i64) l)) = List.map (Value.int IntKind.i64) (List.take l.length (List.drop (0 : Nat) (intsOf (List.map (Value.int IntKind.i64) l)))) ∧ (0 : Nat) + l.length ≤ (List.map (Value.int IntKind.i64) l).length ∧ true = true) ∧ ((0 : Int) < (Arg.plain (vi p)).num ∧ (Arg.plain (vi p)).num ≤ (8 : Int)) ∧ (0 : Nat) < (List.take l.length (List.drop (0 : Nat) (intsOf (List.map (Value.int IntKind.i64) l)))).length ∧ (∀ (x : Int), x ∈ List.take l.length (List.drop (0 : Nat) (intsOf (List.map (Value.int IntKind.i64) l))) → (0 : Int) ≤ x ∧ x < (Arg.plain (vi p)).num) ∧ (List.take l.length (List.drop (0 : Nat) (intsOf (List.map (Value.int IntKind.i64) l)))).length ≤ (13 : Nat)) ∧ ((∃ (y : Nat), Ob ((↑y : Int) ≤ p ∧ fullTo p l y = []) ∧ (Ob (AObj.ro (List.map (Value.int IntKind.i64) l) = AObj.ro (List.map (nmap1 fun (b : Nat) ↦ b) (List.map (Value.int IntKind.i64) l)) ∧ AObj.sc (2 : Nat) (AObj.ro (List.map (Value.int IntKind.i64) l)) = true) ∧ Ob (AObj.rw (List.map (Value.int IntKind.i64) (lieOf (Arg.plain (vi p)).num (List.take l.length (List.drop (0 : Nat) (intsOf (List.map (Value.int IntKind.i64) l))))).fst) (some (1 : Nat)) = AObj.rw (List.map (nmap1 fun (b : Nat) ↦ b) (List.map (Value.int IntKind.i64) (lieOf p l).fst)) (some (1 : Nat)) ∧ AObj.sc (2 : Nat) (AObj.rw (List.map (Value.int IntKind.i64) (lieOf p l).fst) (some (1 : Nat))) = true) ∧ True) ∧ Ob (p = p) ∧ Ob (Value.slice (some (ad0 0)) l.length c = Value.slice (some (ad0 0)) l.length c) ∧ Ob (Value.slice (some { block := (1 : Nat), off := (0 : Nat), spot := some (0 : Nat) }) (lieOf (Arg.plain (vi p)).num (List.take l.length (List.drop (0 : Nat) (intsOf (List.map (Value.int IntKind.i64) l))))).fst.length (0 : Nat) = Value.slice (some { block := (1 : Nat), off := (0 : Nat), spot := some (0 : Nat) }) (lieOf p l).fst.length (0 : Nat)) ∧ Ob (Value.slice none (0 : Nat) (0 : Nat) = Value.slice none (0 : Nat) (0 : Nat)) ∧ Ob ((0 : Int) = (↑y : Int)) ∧ True) ∨ ∃ (y : Nat), Ob ((↑y : Int) ≤ p) ∧ (Ob (AObj.ro (List.map (Value.int IntKind.i64) l) = AObj.ro (List.map (nmap1 fun (b : Nat) ↦ b) (List.map (Value.int IntKind.i64) l)) ∧ AObj.sc (3 : Nat) (AObj.ro (List.map (Value.int IntKind.i64) l)) = true) ∧ Ob (AObj.rw (List.map (Value.int IntKind.i64) (lieOf (Arg.plain (vi p)).num (List.take l.length (List.drop (0 : Nat) (intsOf (List.map (Value.int IntKind.i64) l))))).fst) (some (1 : Nat)) = AObj.rw (List.map (nmap1 fun (b : Nat) ↦ b) (List.map (Value.int IntKind.i64) (lieOf p l).fst)) (some (1 : Nat)) ∧ AObj.sc (3 : Nat) (AObj.rw (List.map (Value.int IntKind.i64) (lieOf p l).fst) (some (1 : Nat))) = true) ∧ False) ∧ Ob (p = p) ∧ Ob (Value.slice (some (ad0 0)) l.length c = Value.slice (some (ad0 0)) l.length c) ∧ Ob (Value.slice (some { block := (1 : Nat), off := (0 : Nat), spot := some (0 : Nat) }) (lieOf (Arg.plain (vi p)).num (List.take l.length (List.drop (0 : Nat) (intsOf (List.map (Value.int IntKind.i64) l))))).fst.length (0 : Nat) = Value.slice (some { block := (1 : Nat), off := (0 : Nat), spot := some (0 : Nat) }) (lieOf p l).fst.length (0 : Nat)) ∧ Ob (Value.slice none (0 : Nat) (0 : Nat) = Value.slice (some { block := (2 : Nat), off := (0 : Nat), spot := some (0 : Nat) }) (fullTo p l y).length (0 : Nat)) ∧ Ob ((0 : Int) = (↑y : Int)) ∧ True) ∧ (∀ (x : Nat), Ob ((↑x : Int) ≤ p ∧ fullTo p l x = []) → (decide ((↑x : Int) < p) = true → Ob ((List.take (lieOf p l).fst.length (List.drop (0 : Nat) (List.map (Value.int IntKind.i64) (lieOf p l).fst)) = List.map (Value.int IntKind.i64) (List.take (lieOf p l).fst.length (List.drop (0 : Nat) (intsOf (List.map (Value.int IntKind.i64) (lieOf p l).fst)))) ∧ (0 : Nat) + (lieOf p l).fst.length ≤ (List.map (Value.int IntKind.i64) (lieOf p l).fst).length ∧ true = true) ∧ (List.take (lieOf p l).fst.length (List.drop (0 : Nat) (intsOf (List.map (Value.int IntKind.i64) (lieOf p l).fst)))).length < (1000000 : Nat)) ∧ (decide ((↑x : Int) ∈ List.take (lieOf p l).fst.length (List.drop (0 : Nat) (intsOf (List.map (Value.int IntKind.i64) (lieOf p l).fst)))) = true → Ob (andP (some ((0 : Nat) + (1 : Nat) ≤ (1 : Nat) ∧ true = true)) ((1 : Nat) ≤ (1099511627776 : Nat) ∧ (2064 : Nat) ≤ (281474976710656 : Nat) ∧ (1 : Nat) = (1 : Nat) ∧ (0 : Nat) = (0 : Nat) ∧ (0 : Nat) < (1 : Nat))) ∧ ((∃ (y : Nat), Ob ((↑y : Int) ≤ p ∧ fullTo p l y = []) ∧ Ob ((p - (↑y : Int)).toNat < (p - (↑x : Int)).toNat) ∧ (Ob (AObj.ro (List.map (Value.int IntKind.i64) l) = AObj.ro (List.map (nmap1 fun (b : Nat) ↦ b) (List.map (Value.int IntKind.i64) l)) ∧ AObj.sc (2 : Nat) (AObj.ro (List.map (Value.int IntKind.i64) l)) = true) ∧ Ob (AObj.rw (List.map (Value.int IntKind.i64) (lieOf p l).fst) (some (1 : Nat)) = AObj.rw (List.map (nmap1 fun (b : Nat) ↦ b) (List.map (Value.int IntKind.i64) (lieOf p l).fst)) (some (1 : Nat)) ∧ AObj.sc (2 : Nat) (AObj.rw (List.map (Value.int IntKind.i64) (lieOf p l).fst) (some (1 : Nat))) = true) ∧ True) ∧ Ob (p = p) ∧ Ob (Value.slice (some (ad0 0)) l.length c = Value.slice (some (ad0 0)) l.length c) ∧ Ob (Value.slice (some { block := (1 : Nat), off := (0 : Nat), spot := some (0 : Nat) }) (lieOf p l).fst.length (0 : Nat) = Value.slice (some { block := (1 : Nat), off := (0 : Nat), spot := some (0 : Nat) }) (lieOf p l).fst.length (0 : Nat)) ∧ Ob (Value.slice (some { block := (3 : Nat), off := (0 : Nat), spot := some (0 : Nat) }) (1 : Nat) (0 : Nat) = Value.slice none (0 : Nat) (0 : Nat)) ∧ Ob (IntKind.i64.wrap ((↑x : Int) + (1 : Int)) = (↑y : Int)) ∧ True) ∨ ∃ (y : Nat), Ob ((↑y : Int) ≤ p) ∧ Ob ((p - (↑y : Int)).toNat < (p - (↑x : Int)).toNat) ∧ (Ob (AObj.ro (List.map (Value.int IntKind.i64) l) = AObj.ro (List.map (nmap1 (nsub (2 : Nat) (3 : Nat))) (List.map (Value.int IntKind.i64) l)) ∧ AObj.sc (3 : Nat) (AObj.ro (List.map (Value.int IntKind.i64) l)) = true) ∧ Ob (AObj.rw (List.map (Value.int IntKind.i64) (lieOf p l).fst) (some (1 : Nat)) = AObj.rw (List.map (nmap1 (nsub (2 : Nat) (3 : Nat))) (List.map (Value.int IntKind.i64) (lieOf p l).fst)) (some (1 : Nat)) ∧ AObj.sc (3 : Nat) (AObj.rw (List.map (Value.int IntKind.i64) (lieOf p l).fst) (some (1 : Nat))) = true) ∧ Ob (AObj.rw [vi (↑x : Int)] (some (1 : Nat)) = AObj.rw (List.map (nmap1 (nsub (2 : Nat) (3 : Nat))) (List.map (Value.int IntKind.i64) (fullTo p l y))) (some (1 : Nat)) ∧ AObj.sc (3 : Nat) (AObj.rw (List.map (Value.int IntKind.i64) (fullTo p l y)) (some (1 : Nat))) = true) ∧ True) ∧ Ob (p = p) ∧ Ob (Value.slice (some (ad0 0)) l.length c = Value.slice (some (ad0 0)) l.length c) ∧ Ob (Value.slice (some { block := (1 : Nat), off := (0 : Nat), spot := some (0 : Nat) }) (lieOf p l).fst.length (0 : Nat) = Value.slice (some { block := (1 : Nat), off := (0 : Nat), spot := some (0 : Nat) }) (lieOf p l).fst.length (0 : Nat)) ∧ Ob (Value.slice (some { block := (3 : Nat), off := (0 : Nat), spot := some (0 : Nat) }) (1 : Nat) (0 : Nat) = Value.slice (some { block := (3 : Nat), off := (0 : Nat), spot := some (0 : Nat) }) (fullTo p l y).length (0 : Nat)) ∧ Ob (IntKind.i64.wrap ((↑x : Int) + (1 : Int)) = (↑y : Int)) ∧ True)) ∧ (decide ((↑x : Int) ∈ List.take (lieOf p l).fst.length (List.drop (0 : Nat) (intsOf (List.map (Value.int IntKind.i64) (lieOf p l).fst)))) = false → (∃ (y : Nat), Ob ((↑y : Int) ≤ p ∧ fullTo p l y = []) ∧ Ob ((p - (↑y : Int)).toNat < (p - (↑x : Int)).toNat) ∧ (Ob (AObj.ro (List.map (Value.int IntKind.i64) l) = AObj.ro (List.map (nmap1 fun (b : Nat) ↦ b) (List.map (Value.int IntKind.i64) l)) ∧ AObj.sc (2 : Nat) (AObj.ro (List.map (Value.int IntKind.i64) l)) = true) ∧ Ob (AObj.rw (List.map (Value.int IntKind.i64) (lieOf p l).fst) (some (1 : Nat)) = AObj.rw (List.map (nmap1 fun (b : Nat) ↦ b) (List.map (Value.int IntKind.i64) (lieOf p l).fst)) (some (1 : Nat)) ∧ AObj.sc (2 : Nat) (AObj.rw (List.map (Value.int IntKind.i64) (lieOf p l).fst) (some (1 : Nat))) = true) ∧ True) ∧ Ob (p = p) ∧ Ob (Value.slice (some (ad0 0)) l.length c = Value.slice (some (ad0 0)) l.length c) ∧ Ob (Value.slice (some { block := (1 : Nat), off := (0 : Nat), spot := some (0 : Nat) }) (lieOf p l).fst.length (0 : Nat) = Value.slice (some { block := (1 : Nat), off := (0 : Nat), spot := some (0 : Nat) }) (lieOf p l).fst.length (0 : Nat)) ∧ Ob (Value.slice none (0 : Nat) (0 : Nat) = Value.slice none (0 : Nat) (0 : Nat)) ∧ Ob (IntKind.i64.wrap ((↑x : Int) + (1 : Int)) = (↑y : Int)) ∧ True) ∨ ∃ (y : Nat), Ob ((↑y : Int) ≤ p) ∧ Ob ((p - (↑y : Int)).toNat < (p - (↑x : Int)).toNat) ∧ (Ob (AObj.ro (List.map (Value.int IntKind.i64) l) = AObj.ro (List.map (nmap1 (nsub (2 : Nat) (3 : Nat))) (List.map (Value.int IntKind.i64) l)) ∧ AObj.sc (3 : Nat) (AObj.ro (List.map (Value.int IntKind.i64) l)) = true) ∧ Ob (AObj.rw (List.map (Value.int IntKind.i64) (lieOf p l).fst) (some (1 : Nat)) = AObj.rw (List.map (nmap1 (nsub (2 : Nat) (3 : Nat))) (List.map (Value.int IntKind.i64) (lieOf p l).fst)) (some (1 : Nat)) ∧ AObj.sc (3 : Nat) (AObj.rw (List.map (Value.int IntKind.i64) (lieOf p l).fst) (some (1 : Nat))) = true) ∧ False) ∧ Ob (p = p) ∧ Ob (Value.slice (some (ad0 0)) l.length c = Value.slice (some (ad0 0)) l.length c) ∧ Ob (Value.slice (some { block := (1 : Nat), off := (0 : Nat), spot := some (0 : Nat) }) (lieOf p l).fst.length (0 : Nat) = Value.slice (some { block := (1 : Nat), off := (0 : Nat), spot := some (0 : Nat) }) (lieOf p l).fst.length (0 : Nat)) ∧ Ob (Value.slice none (0 : Nat) (0 : Nat) = Value.slice (some { block := (3 : Nat), off := (0 : Nat), spot := some (0 : Nat) }) (fullTo p l y).length (0 : Nat)) ∧ Ob (IntKind.i64.wrap ((↑x : Int) + (1 : Int)) = (↑y : Int)) ∧ True)) ∧ (decide ((↑x : Int) < p) = false → (Ob (AObj.ro (List.map (Value.int IntKind.i64) l) = AObj.ro (List.map (nmap1 (nsub (1 : Nat) (2 : Nat))) (List.map (Value.int IntKind.i64) l)) ∧ AObj.sc (2 : Nat) (AObj.ro (List.map (Value.int IntKind.i64) l)) = true) ∧ False) ∧ Ob (Value.tuple { toList := [Value.slice none (0 : Nat) (0 : Nat), vi (IntKind.i64.wrap ((↑l.length : Int) - (↑(0 : Nat) : Int)))] } = Value.tuple { toList := [Value.slice (some { block := (2 : Nat), off := (0 : Nat), spot := some (0 : Nat) }) (fullTo p l p.toNat).length (0 : Nat), vi ((↑l.length : Int) - (↑(fullTo p l p.toNat).length : Int))] }) ∧ True)) ∧ ∀ (x : Nat), Ob ((↑x : Int) ≤ p) → (decide ((↑x : Int) < p) = true → Ob ((List.take (lieOf p l).fst.length (List.drop (0 : Nat) (List.map (Value.int IntKind.i64) (lieOf p l).fst)) = List.map (Value.int IntKind.i64) (List.take (lieOf p l).fst.length (List.drop (0 : Nat) (intsOf (List.map (Value.int IntKind.i64) (lieOf p l).fst)))) ∧ (0 : Nat) + (lieOf p l).fst.length ≤ (List.map (Value.int IntKind.i64) (lieOf p l).fst).length ∧ true = true) ∧ (List.take (lieOf p l).fst.length (List.drop (0 : Nat) (intsOf (List.map (Value.int IntKind.i64) (lieOf p l).fst)))).length < (1000000 : Nat)) ∧ (decide ((↑x : Int) ∈ List.take (lieOf p l).fst.length (List.drop (0 : Nat) (intsOf (List.map (Value.int IntKind.i64) (lieOf p l).fst)))) = true → Ob (andP (some ((0 : Nat) + (1 : Nat) ≤ (1 : Nat) ∧ true = true)) ((fullTo p l x).length + (1 : Nat) ≤ (1099511627776 : Nat) ∧ ((2 : Nat) * ((fullTo p l x).length + (1 : Nat)) + (256 : Nat)) * (8 : Nat) ≤ (281474976710656 : Nat) ∧ (1 : Nat) = (1 : Nat) ∧ (List.map (Value.int IntKind.i64) (fullTo p l x)).length = (fullTo p l x).length * (1 : Nat))) ∧ (((∃ (y : Nat), Ob ((↑y : Int) ≤ p ∧ fullTo p l y = []) ∧ Ob ((p - (↑y : Int)).toNat < (p - (↑x : Int)).toNat) ∧ (Ob (AObj.ro (List.map (Value.int IntKind.i64) l) = AObj.ro (List.map (nmap1 fun (b : Nat) ↦ b) (List.map (Value.int IntKind.i64) l)) ∧ AObj.sc (2 : Nat) (AObj.ro (List.map (Value.int IntKind.i64) l)) = true) ∧ Ob (AObj.rw (List.map (Value.int IntKind.i64) (lieOf p l).fst) (some (1 : Nat)) = AObj.rw (List.map (nmap1 fun (b : Nat) ↦ b) (List.map (Value.int IntKind.i64) (lieOf p l).fst)) (some (1 : Nat)) ∧ AObj.sc (2 : Nat) (AObj.rw (List.map (Value.int IntKind.i64) (lieOf p l).fst) (some (1 : Nat))) = true) ∧ True) ∧ Ob (p = p) ∧ Ob (Value.slice (some (ad0 0)) l.length c = Value.slice (some (ad0 0)) l.length c) ∧ Ob (Value.slice (some { block := (1 : Nat), off := (0 : Nat), spot := some (0 : Nat) }) (lieOf p l).fst.length (0 : Nat) = Value.slice (some { block := (1 : Nat), off := (0 : Nat), spot := some (0 : Nat) }) (lieOf p l).fst.length (0 : Nat)) ∧ Ob (Value.slice (some { block := (4 : Nat), off := (0 : Nat), spot := some (0 : Nat) }) ((fullTo p l x).length + (1 : Nat)) (0 : Nat) = Value.slice none (0 : Nat) (0 : Nat)) ∧ Ob (IntKind.i64.wrap ((↑x : Int) + (1 : Int)) = (↑y : Int)) ∧ True) ∨ ∃ (y : Nat), Ob ((↑y : Int) ≤ p ∧ fullTo p l y = []) ∧ Ob ((p - (↑y : Int)).toNat < (p - (↑x : Int)).toNat) ∧ (Ob (AObj.ro (List.map (Value.int IntKind.i64) l) = AObj.ro (List.map (nmap1 (nsub (2 : Nat) (4 : Nat))) (List.map (Value.int IntKind.i64) l)) ∧ AObj.sc (2 : Nat) (AObj.ro (List.map (Value.int IntKind.i64) l)) = true) ∧ Ob (AObj.rw (List.map (Value.int IntKind.i64) (lieOf p l).fst) (some (1 : Nat)) = AObj.rw (List.map (nmap1 (nsub (2 : Nat) (4 : Nat))) (List.map (Value.int IntKind.i64) (lieOf p l).fst)) (some (1 : Nat)) ∧ AObj.sc (2 : Nat) (AObj.rw (List.map (Value.int IntKind.i64) (lieOf p l).fst) (some (1 : Nat))) = true) ∧ True) ∧ Ob (p = p) ∧ Ob (Value.slice (some (ad0 0)) l.length c = Value.slice (some (ad0 0)) l.length c) ∧ Ob (Value.slice (some { block := (1 : Nat), off := (0 : Nat), spot := some (0 : Nat) }) (lieOf p l).fst.length (0 : Nat) = Value.slice (some { block := (1 : Nat), off := (0 : Nat), spot := some (0 : Nat) }) (lieOf p l).fst.length (0 : Nat)) ∧ Ob (Value.slice (some { block := (4 : Nat), off := (0 : Nat), spot := some (0 : Nat) }) ((fullTo p l x).length + (1 : Nat)) (0 : Nat) = Value.slice none (0 : Nat) (0 : Nat)) ∧ Ob (IntKind.i64.wrap ((↑x : Int) + (1 : Int)) = (↑y : Int)) ∧ True) ∨ (∃ (y : Nat), Ob ((↑y : Int) ≤ p) ∧ Ob ((p - (↑y : Int)).toNat < (p - (↑x : Int)).toNat) ∧ (Ob (AObj.ro (List.map (Value.int IntKind.i64) l) = AObj.ro (List.map (nmap1 fun (b : Nat) ↦ b) (List.map (Value.int IntKind.i64) l)) ∧ AObj.sc (3 : Nat) (AObj.ro (List.map (Value.int IntKind.i64) l)) = true) ∧ Ob (AObj.rw (List.map (Value.int IntKind.i64) (lieOf p l).fst) (some (1 : Nat)) = AObj.rw (List.map (nmap1 fun (b : Nat) ↦ b) (List.map (Value.int IntKind.i64) (lieOf p l).fst)) (some (1 : Nat)) ∧ AObj.sc (3 : Nat) (AObj.rw (List.map (Value.int IntKind.i64) (lieOf p l).fst) (some (1 : Nat))) = true) ∧ Ob (AObj.gone = AObj.rw (List.map (nmap1 fun (b : Nat) ↦ b) (List.map (Value.int IntKind.i64) (fullTo p l y))) (some (1 : Nat)) ∧ AObj.sc (3 : Nat) (AObj.rw (List.map (Value.int IntKind.i64) (fullTo p l y)) (some (1 : Nat))) = true) ∧ True) ∧ Ob (p = p) ∧ Ob (Value.slice (some (ad0 0)) l.length c = Value.slice (some (ad0 0)) l.length c) ∧ Ob (Value.slice (some { block := (1 : Nat), off := (0 : Nat), spot := some (0 : Nat) }) (lieOf p l).fst.length (0 : Nat) = Value.slice (some { block := (1 : Nat), off := (0 : Nat), spot := some (0 : Nat) }) (lieOf p l).fst.length (0 : Nat)) ∧ Ob (Value.slice (some { block := (4 : Nat), off := (0 : Nat), spot := some (0 : Nat) }) ((fullTo p l x).length + (1 : Nat)) (0 : Nat) = Value.slice (some { block := (2 : Nat), off := (0 : Nat), spot := some (0 : Nat) }) (fullTo p l y).length (0 : Nat)) ∧ Ob (IntKind.i64.wrap ((↑x : Int) + (1 : Int)) = (↑y : Int)) ∧ True) ∨ ∃ (y : Nat), Ob ((↑y : Int) ≤ p) ∧ Ob ((p - (↑y : Int)).toNat < (p - (↑x : Int)).toNat) ∧ (Ob (AObj.ro (List.map (Value.int IntKind.i64) l) = AObj.ro (List.map (nmap1 (nsub (2 : Nat) (4 : Nat))) (List.map (Value.int IntKind.i64) l)) ∧ AObj.sc (3 : Nat) (AObj.ro (List.map (Value.int IntKind.i64) l)) = true) ∧ Ob (AObj.rw (List.map (Value.int IntKind.i64) (lieOf p l).fst) (some (1 : Nat)) = AObj.rw (List.map (nmap1 (nsub (2 : Nat) (4 : Nat))) (List.map (Value.int IntKind.i64) (lieOf p l).fst)) (some (1 : Nat)) ∧ AObj.sc (3 : Nat) (AObj.rw (List.map (Value.int IntKind.i64) (lieOf p l).fst) (some (1 : Nat))) = true) ∧ Ob (AObj.rw (List.map (Value.int IntKind.i64) (fullTo p l x) ++ [vi (↑x : Int)]) (some (1 : Nat)) = AObj.rw (List.map (nmap1 (nsub (2 : Nat) (4 : Nat))) (List.map (Value.int IntKind.i64) (fullTo p l y))) (some (1 : Nat)) ∧ AObj.sc (3 : Nat) (AObj.rw (List.map (Value.int IntKind.i64) (fullTo p l y)) (some (1 : Nat))) = true) ∧ True) ∧ Ob (p = p) ∧ Ob (Value.slice (some (ad0 0)) l.length c = Value.slice (some (ad0 0)) l.length c) ∧ Ob (Value.slice (some { block := (1 : Nat), off := (0 : Nat), spot := some (0 : Nat) }) (lieOf p l).fst.length (0 : Nat) = Value.slice (some { block := (1 : Nat), off := (0 : Nat), spot := some (0 : Nat) }) (lieOf p l).fst.length (0 : Nat)) ∧ Ob (Value.slice (some { block := (4 : Nat), off := (0 : Nat), spot := some (0 : Nat) }) ((fullTo p l x).length + (1 : Nat)) (0 : Nat) = Value.slice (some { block := (4 : Nat), off := (0 : Nat), spot := some (0 : Nat) }) (fullTo p l y).length (0 : Nat)) ∧ Ob (IntKind.i64.wrap ((↑x : Int) + (1 : Int)) = (↑y : Int)) ∧ True)) ∧ (decide ((↑x : Int) ∈ List.take (lieOf p l).fst.length (List.drop (0 : Nat) (intsOf (List.map (Value.int IntKind.i64) (lieOf p l).fst)))) = false → ((∃ (y : Nat), Ob ((↑y : Int) ≤ p ∧ fullTo p l y = []) ∧ Ob ((p - (↑y : Int)).toNat < (p - (↑x : Int)).toNat) ∧ (Ob (AObj.ro (List.map (Value.int IntKind.i64) l) = AObj.ro (List.map (nmap1 fun (b : Nat) ↦ b) (List.map (Value.int IntKind.i64) l)) ∧ AObj.sc (2 : Nat) (AObj.ro (List.map (Value.int IntKind.i64) l)) = true) ∧ Ob (AObj.rw (List.map (Value.int IntKind.i64) (lieOf p l).fst) (some (1 : Nat)) = AObj.rw (List.map (nmap1 fun (b : Nat) ↦ b) (List.map (Value.int IntKind.i64) (lieOf p l).fst)) (some (1 : Nat)) ∧ AObj.sc (2 : Nat) (AObj.rw (List.map (Value.int IntKind.i64) (lieOf p l).fst) (some (1 : Nat))) = true) ∧ True) ∧ Ob (p = p) ∧ Ob (Value.slice (some (ad0 0)) l.length c = Value.slice (some (ad0 0)) l.length c) ∧ Ob (Value.slice (some { block := (1 : Nat), off := (0 : Nat), spot := some (0 : Nat) }) (lieOf p l).fst.length (0 : Nat) = Value.slice (some { block := (1 : Nat), off := (0 : Nat), spot := some (0 : Nat) }) (lieOf p l).fst.length (0 : Nat)) ∧ Ob (Value.slice (some { block := (2 : Nat), off := (0 : Nat), spot := some (0 : Nat) }) (fullTo p l x).length (0 : Nat) = Value.slice none (0 : Nat) (0 : Nat)) ∧ Ob (IntKind.i64.wrap ((↑x : Int) + (1 : Int)) = (↑y : Int)) ∧ True) ∨ ∃ (y : Nat), Ob ((↑y : Int) ≤ p ∧ fullTo p l y = []) ∧ Ob ((p - (↑y : Int)).toNat < (p - (↑x : Int)).toNat) ∧ (Ob (AObj.ro (List.map (Value.int IntKind.i64) l) = AObj.ro (List.map (nmap1 (nsub (2 : Nat) (4 : Nat))) (List.map (Value.int IntKind.i64) l)) ∧ AObj.sc (2 : Nat) (AObj.ro (List.map (Value.int IntKind.i64) l)) = true) ∧ Ob (AObj.rw (List.map (Value.int IntKind.i64) (lieOf p l).fst) (some (1 : Nat)) = AObj.rw (List.map (nmap1 (nsub (2 : Nat) (4 : Nat))) (List.map (Value.int IntKind.i64) (lieOf p l).fst)) (some (1 : Nat)) ∧ AObj.sc (2 : Nat) (AObj.rw (List.map (Value.int IntKind.i64) (lieOf p l).fst) (some (1 : Nat))) = true) ∧ True) ∧ Ob (p = p) ∧ Ob (Value.slice (some (ad0 0)) l.length c = Value.slice (some (ad0 0)) l.length c) ∧ Ob (Value.slice (some { block := (1 : Nat), off := (0 : Nat), spot := some (0 : Nat) }) (lieOf p l).fst.length (0 : Nat) = Value.slice (some { block := (1 : Nat), off := (0 : Nat), spot := some (0 : Nat) }) (lieOf p l).fst.length (0 : Nat)) ∧ Ob (Value.slice (some { block := (2 : Nat), off := (0 : Nat), spot := some (0 : Nat) }) (fullTo p l x).length (0 : Nat) = Value.slice none (0 : Nat) (0 : Nat)) ∧ Ob (IntKind.i64.wrap ((↑x : Int) + (1 : Int)) = (↑y : Int)) ∧ True) ∨ (∃ (y : Nat), Ob ((↑y : Int) ≤ p) ∧ Ob ((p - (↑y : Int)).toNat < (p - (↑x : Int)).toNat) ∧ (Ob (AObj.ro (List.map (Value.int IntKind.i64) l) = AObj.ro (List.map (nmap1 fun (b : Nat) ↦ b) (List.map (Value.int IntKind.i64) l)) ∧ AObj.sc (3 : Nat) (AObj.ro (List.map (Value.int IntKind.i64) l)) = true) ∧ Ob (AObj.rw (List.map (Value.int IntKind.i64) (lieOf p l).fst) (some (1 : Nat)) = AObj.rw (List.map (nmap1 fun (b : Nat) ↦ b) (List.map (Value.int IntKind.i64) (lieOf p l).fst)) (some (1 : Nat)) ∧ AObj.sc (3 : Nat) (AObj.rw (List.map (Value.int IntKind.i64) (lieOf p l).fst) (some (1 : Nat))) = true) ∧ Ob (AObj.rw (List.map (Value.int IntKind.i64) (fullTo p l x)) (some (1 : Nat)) = AObj.rw (List.map (nmap1 fun (b : Nat) ↦ b) (List.map (Value.int IntKind.i64) (fullTo p l y))) (some (1 : Nat)) ∧ AObj.sc (3 : Nat) (AObj.rw (List.map (Value.int IntKind.i64) (fullTo p l y)) (some (1 : Nat))) = true) ∧ True) ∧ Ob (p = p) ∧ Ob (Value.slice (some (ad0 0)) l.length c = Value.slice (some (ad0 0)) l.length c) ∧ Ob (Value.slice (some { block := (1 : Nat), off := (0 : Nat), spot := some (0 : Nat) }) (lieOf p l).fst.length (0 : Nat) = Value.slice (some { block := (1 : Nat), off := (0 : Nat), spot := some (0 : Nat) }) (lieOf p l).fst.length (0 : Nat)) ∧ Ob (Value.slice (some { block := (2 : Nat), off := (0 : Nat), spot := some (0 : Nat) }) (fullTo p l x).length (0 : Nat) = Value.slice (some { block := (2 : Nat), off := (0 : Nat), spot := some (0 : Nat) }) (fullTo p l y).length (0 : Nat)) ∧ Ob (IntKind.i64.wrap ((↑x : Int) + (1 : Int)) = (↑y : Int)) ∧ True) ∨ ∃ (y : Nat), Ob ((↑y : Int) ≤ p) ∧ Ob ((p - (↑y : Int)).toNat < (p - (↑x : Int)).toNat) ∧ (Ob (AObj.ro (List.map (Value.int IntKind.i64) l) = AObj.ro (List.map (nmap1 (nsub (2 : Nat) (4 : Nat))) (List.map (Value.int IntKind.i64) l)) ∧ AObj.sc (3 : Nat) (AObj.ro (List.map (Value.int IntKind.i64) l)) = true) ∧ Ob (AObj.rw (List.map (Value.int IntKind.i64) (lieOf p l).fst) (some (1 : Nat)) = AObj.rw (List.map (nmap1 (nsub (2 : Nat) (4 : Nat))) (List.map (Value.int IntKind.i64) (lieOf p l).fst)) (some (1 : Nat)) ∧ AObj.sc (3 : Nat) (AObj.rw (List.map (Value.int IntKind.i64) (lieOf p l).fst) (some (1 : Nat))) = true) ∧ False) ∧ Ob (p = p) ∧ Ob (Value.slice (some (ad0 0)) l.length c = Value.slice (some (ad0 0)) l.length c) ∧ Ob (Value.slice (some { block := (1 : Nat), off := (0 : Nat), spot := some (0 : Nat) }) (lieOf p l).fst.length (0 : Nat) = Value.slice (some { block := (1 : Nat), off := (0 : Nat), spot := some (0 : Nat) }) (lieOf p l).fst.length (0 : Nat)) ∧ Ob (Value.slice (some { block := (2 : Nat), off := (0 : Nat), spot := some (0 : Nat) }) (fullTo p l x).length (0 : Nat) = Value.slice (some { block := (4 : Nat), off := (0 : Nat), spot := some (0 : Nat) }) (fullTo p l y).length (0 : Nat)) ∧ Ob (IntKind.i64.wrap ((↑x : Int) + (1 : Int)) = (↑y : Int)) ∧ True)) ∧ (decide ((↑x : Int) < p) = false → (Ob (AObj.ro (List.map (Value.int IntKind.i64) l) = AObj.ro (List.map (nmap1 (nsub (1 : Nat) (2 : Nat))) (List.map (Value.int IntKind.i64) l)) ∧ AObj.sc (2 : Nat) (AObj.ro (List.map (Value.int IntKind.i64) l)) = true) ∧ Ob (AObj.rw (List.map (Value.int IntKind.i64) (fullTo p l x)) (some (1 : Nat)) = AObj.rw (List.map (nmap1 (nsub (1 : Nat) (2 : Nat))) (List.map (Value.int IntKind.i64) (fullTo p l p.toNat))) (some (1 : Nat)) ∧ AObj.sc (2 : Nat) (AObj.rw (List.map (Value.int IntKind.i64) (fullTo p l p.toNat)) (some (1 : Nat))) = true) ∧ True) ∧ Ob (Value.tuple { toList := [Value.slice (some { block := (2 : Nat), off := (0 : Nat), spot := some (0 : Nat) }) (fullTo p l x).length (0 : Nat), vi (IntKind.i64.wrap ((↑l.length : Int) - (↑(fullTo p l x).length : Int)))] } = Value.tuple { toList := [Value.slice (some { block := (2 : Nat), off := (0 : Nat), spot := some (0 : Nat) }) (fullTo p l p.toNat).length (0 : Nat), vi ((↑l.length : Int) - (↑(fullTo p l p.toNat).length : Int))] }) ∧ True)
theorem foW_eq : foW = fun (p : Int) (l : List Int) (c : Nat) => vc Try.prog { ct := fullRT } 1 34 true (fullRI p l c) fullRB [] (argFr 0 [vi p, .slice (some ⟨0,0,none⟩) l.length c]) [ros l] (retR Try.prog Try.f53 1 (nsub 1 2) (.tuple #[newS 1 (fullTo p l p.toNat).length, vi (l.length - (fullTo p l p.toNat).length)]) [ros l, rws (fullTo p l p.toNat)]) := by kernel_rfl


theorem l0N_ok (p : Int) : l0N p := by
  unfold l0N
  simp only [ob_iff, map_nmap_int, sc_ro_int, sc_rw_int, getI_map, intAt_map, getB_map, boolAt_map, true_and, and_true, eq_self, Int.toNat_natCast, Nat.zero_add, Nat.add_zero, Nat.mul_one, Nat.one_mul, decide_eq_true_eq, decide_eq_false_iff_not, Value.bool.injEq, Value.int.injEq, Value.slice.injEq, Value.tuple.injEq, Option.some.injEq, Addr.mk.injEq, AObj.rw.injEq, AObj.ro.injEq, List.cons.injEq, reduceCtorEq, List.length_append, List.length_map, List.length_cons, List.length_nil, List.length_set, List.set_cons_zero, List.set_cons_succ, List.take_succ_cons, List.take_zero, List.take_nil, List.drop_nil, List.drop_zero, List.drop_succ_cons, intsOf_map, sl_id, sl_cells, Arg.list, Arg.num, Arg.flag, intOf, List.map_cons, List.map_nil, false_and, and_false, exists_const, or_false, false_or, true_or, forall_const, true_implies, false_implies, implies_true, beq_iff_eq, bne_iff_ne, beq_eq_false_iff_ne, bne_eq_false_iff_eq, Bool.not_eq_true', Bool.not_eq_false', ne_eq, not_true_eq_false, not_false_eq_true, Nat.le_refl, Nat.lt_irrefl, andP, Bool.not_true, Bool.not_false, Bool.true_eq_false, Bool.false_eq_true, Nat.reduceLeDiff, Nat.reduceAdd, Nat.reduceMul, Nat.reduceLT, Nat.zero_le, beq_self_eq_true, take_map_len, List.take_length, int_snoc, nilS]
theorem l0H_ok (p : Int) (s : Option Nat) (c : Nat) : l0H p s c := by
  unfold l0H
  simp only [ob_iff, map_nmap_int, sc_ro_int, sc_rw_int, getI_map, intAt_map, getB_map, boolAt_map, true_and, and_true, eq_self, Int.toNat_natCast, Nat.zero_add, Nat.add_zero, Nat.mul_one, Nat.one_mul, decide_eq_true_eq, decide_eq_false_iff_not, Value.bool.injEq, Value.int.injEq, Value.slice.injEq, Value.tuple.injEq, Option.some.injEq, Addr.mk.injEq, AObj.rw.injEq, AObj.ro.injEq, List.cons.injEq, reduceCtorEq, List.length_append, List.length_map, List.length_cons, List.length_nil, List.length_set, List.set_cons_zero, List.set_cons_succ, List.take_succ_cons, List.take_zero, List.take_nil, List.drop_nil, List.drop_zero, List.drop_succ_cons, intsOf_map, sl_id, sl_cells, Arg.list, Arg.num, Arg.flag, intOf, List.map_cons, List.map_nil, false_and, and_false, exists_const, or_false, false_or, true_or, forall_const, true_implies, false_implies, implies_true, beq_iff_eq, bne_iff_ne, beq_eq_false_iff_ne, bne_eq_false_iff_eq, Bool.not_eq_true', Bool.not_eq_false', ne_eq, not_true_eq_false, not_false_eq_true, Nat.le_refl, Nat.lt_irrefl, andP, Bool.not_true, Bool.not_false, Bool.true_eq_false, Bool.false_eq_true, Nat.reduceLeDiff, Nat.reduceAdd, Nat.reduceMul, Nat.reduceLT, Nat.zero_le, beq_self_eq_true, take_map_len, List.take_length, int_snoc, nilS]
theorem l0R_ok (p : Int) (c : Nat) : l0R p c := by
  unfold l0R
  simp only [ob_iff, map_nmap_int, sc_ro_int, sc_rw_int, getI_map, intAt_map, getB_map, boolAt_map, true_and, and_true, eq_self, Int.toNat_natCast, Nat.zero_add, Nat.add_zero, Nat.mul_one, Nat.one_mul, decide_eq_true_eq, decide_eq_false_iff_not, Value.bool.injEq, Value.int.injEq, Value.slice.injEq, Value.tuple.injEq, Option.some.injEq, Addr.mk.injEq, AObj.rw.injEq, AObj.ro.injEq, List.cons.injEq, reduceCtorEq, List.length_append, List.length_map, List.length_cons, List.length_nil, List.length_set, List.set_cons_zero, List.set_cons_succ, List.take_succ_cons, List.take_zero, List.take_nil, List.drop_nil, List.drop_zero, List.drop_succ_cons, intsOf_map, sl_id, sl_cells, Arg.list, Arg.num, Arg.flag, intOf, List.map_cons, List.map_nil, false_and, and_false, exists_const, or_false, false_or, true_or, forall_const, true_implies, false_implies, implies_true, beq_iff_eq, bne_iff_ne, beq_eq_false_iff_ne, bne_eq_false_iff_eq, Bool.not_eq_true', Bool.not_eq_false', ne_eq, not_true_eq_false, not_false_eq_true, Nat.le_refl, Nat.lt_irrefl, andP, Bool.not_true, Bool.not_false, Bool.true_eq_false, Bool.false_eq_true, Nat.reduceLeDiff, Nat.reduceAdd, Nat.reduceMul, Nat.reduceLT, Nat.zero_le, beq_self_eq_true, take_map_len, List.take_length, int_snoc, nilS, ros]
theorem f0N_ok (n : Nat) (hn : n ≤ 8) : f0N n := by
  unfold f0N
  simp only [ob_iff, map_nmap_int, sc_ro_int, sc_rw_int, getI_map, intAt_map, getB_map, boolAt_map, true_and, and_true, eq_self, Int.toNat_natCast, Nat.zero_add, Nat.add_zero, Nat.mul_one, Nat.one_mul, decide_eq_true_eq, decide_eq_false_iff_not, Value.bool.injEq, Value.int.injEq, Value.slice.injEq, Value.tuple.injEq, Option.some.injEq, Addr.mk.injEq, AObj.rw.injEq, AObj.ro.injEq, List.cons.injEq, reduceCtorEq, List.length_append, List.length_map, List.length_cons, List.length_nil, List.length_set, List.set_cons_zero, List.set_cons_succ, List.take_succ_cons, List.take_zero, List.take_nil, List.drop_nil, List.drop_zero, List.drop_succ_cons, intsOf_map, sl_id, sl_cells, Arg.list, Arg.num, Arg.flag, intOf, List.map_cons, List.map_nil, false_and, and_false, exists_const, or_false, false_or, true_or, forall_const, true_implies, false_implies, implies_true, beq_iff_eq, bne_iff_ne, beq_eq_false_iff_ne, bne_eq_false_iff_eq, Bool.not_eq_true', Bool.not_eq_false', ne_eq, not_true_eq_false, not_false_eq_true, Nat.le_refl, Nat.lt_irrefl, andP, Bool.not_true, Bool.not_false, Bool.true_eq_false, Bool.false_eq_true, Nat.reduceLeDiff, Nat.reduceAdd, Nat.reduceMul, Nat.reduceLT, Nat.zero_le, beq_self_eq_true, take_map_len, List.take_length, int_snoc, nilS]
  exact ⟨⟨0, Nat.zero_le _, rfl⟩, fun x hx => ⟨fun h => ⟨x + 1, by omega, by omega, by rw [wrap_in (by omega) (by omega)]; push_cast; rfl⟩, fun h => by rfl⟩⟩
theorem f0H_ok (n : Nat) (s : Option Nat) (c : Nat) (hn : n ≤ 8) : f0H n s c := by
  unfold f0H
  simp only [ob_iff, map_nmap_int, sc_ro_int, sc_rw_int, getI_map, intAt_map, getB_map, boolAt_map, true_and, and_true, eq_self, Int.toNat_natCast, Nat.zero_add, Nat.add_zero, Nat.mul_one, Nat.one_mul, decide_eq_true_eq, decide_eq_false_iff_not, Value.bool.injEq, Value.int.injEq, Value.slice.injEq, Value.tuple.injEq, Option.some.injEq, Addr.mk.injEq, AObj.rw.injEq, AObj.ro.injEq, List.cons.injEq, reduceCtorEq, List.length_append, List.length_map, List.length_cons, List.length_nil, List.length_set, List.set_cons_zero, List.set_cons_succ, List.take_succ_cons, List.take_zero, List.take_nil, List.drop_nil, List.drop_zero, List.drop_succ_cons, intsOf_map, sl_id, sl_cells, Arg.list, Arg.num, Arg.flag, intOf, List.map_cons, List.map_nil, false_and, and_false, exists_const, or_false, false_or, true_or, forall_const, true_implies, false_implies, implies_true, beq_iff_eq, bne_iff_ne, beq_eq_false_iff_ne, bne_eq_false_iff_eq, Bool.not_eq_true', Bool.not_eq_false', ne_eq, not_true_eq_false, not_false_eq_true, Nat.le_refl, Nat.lt_irrefl, andP, Bool.not_true, Bool.not_false, Bool.true_eq_false, Bool.false_eq_true, Nat.reduceLeDiff, Nat.reduceAdd, Nat.reduceMul, Nat.reduceLT, Nat.zero_le, beq_self_eq_true, take_map_len, List.take_length, int_snoc, nilS]
  exact ⟨⟨0, Nat.zero_le _, rfl⟩, fun x hx => ⟨fun h => ⟨x + 1, by omega, by omega, by rw [wrap_in (by omega) (by omega)]; push_cast; rfl⟩, fun h => by rfl⟩⟩
theorem f0R_ok (n : Nat) (l : List Int) (c : Nat) (hn : n ≤ 8) (hl : l.length = 0) : f0R n l c := by
  obtain rfl := List.length_eq_zero_iff.1 hl
  unfold f0R
  simp only [ob_iff, map_nmap_int, sc_ro_int, sc_rw_int, getI_map, intAt_map, getB_map, boolAt_map, true_and, and_true, eq_self, Int.toNat_natCast, Nat.zero_add, Nat.add_zero, Nat.mul_one, Nat.one_mul, decide_eq_true_eq, decide_eq_false_iff_not, Value.bool.injEq, Value.int.injEq, Value.slice.injEq, Value.tuple.injEq, Option.some.injEq, Addr.mk.injEq, AObj.rw.injEq, AObj.ro.injEq, List.cons.injEq, reduceCtorEq, List.length_append, List.length_map, List.length_cons, List.length_nil, List.length_set, List.set_cons_zero, List.set_cons_succ, List.take_succ_cons, List.take_zero, List.take_nil, List.drop_nil, List.drop_zero, List.drop_succ_cons, intsOf_map, sl_id, sl_cells, Arg.list, Arg.num, Arg.flag, intOf, List.map_cons, List.map_nil, false_and, and_false, exists_const, or_false, false_or, true_or, forall_const, true_implies, false_implies, implies_true, beq_iff_eq, bne_iff_ne, beq_eq_false_iff_ne, bne_eq_false_iff_eq, Bool.not_eq_true', Bool.not_eq_false', ne_eq, not_true_eq_false, not_false_eq_true, Nat.le_refl, Nat.lt_irrefl, andP, Bool.not_true, Bool.not_false, Bool.true_eq_false, Bool.false_eq_true, Nat.reduceLeDiff, Nat.reduceAdd, Nat.reduceMul, Nat.reduceLT, Nat.zero_le, beq_self_eq_true, take_map_len, List.take_length, int_snoc, nilS, ros]
  exact ⟨⟨0, Nat.zero_le _, by simp [AObj.sc], rfl⟩, fun x hx => ⟨fun h => ⟨x + 1, by omega, by omega, by simp [AObj.sc], by rw [wrap_in (by omega) (by omega)]; push_cast; rfl⟩, fun h => by rfl⟩⟩
theorem foW_ok (p : Int) (l : List Int) (c : Nat) (hp : 0 < p ∧ p ≤ 8) (hl : 0 < l.length) (hb : ∀ x ∈ l, 0 ≤ x ∧ x < p) (hlen : l.length ≤ 13) (hne : fullTo p l p.toNat ≠ []) : foW p l c := by
  unfold foW
  simp only [ob_iff, sl_id, sl_cells, Arg.num, map_nmap_int, sc_ro_int, sc_rw_int, getI_map, intAt_map, true_and, and_true, eq_self, Int.toNat_natCast, Nat.zero_add, Nat.mul_one, decide_eq_true_eq, decide_eq_false_iff_not, andP, List.set_cons_zero, List.length_cons, List.length_nil, List.drop_zero, List.take_succ_cons, List.take_zero,
    Value.slice.injEq, Value.tuple.injEq, Option.some.injEq, Addr.mk.injEq, AObj.rw.injEq, List.cons.injEq, reduceCtorEq, List.length_append, List.length_map, false_and, and_false, exists_const, or_false, false_or, true_or, Nat.lt_irrefl, forall_const, true_implies, List.length_set, beq_iff_eq, beq_eq_false_iff_ne, intsOf_map, List.take_length, take_map_len]
  have more : ∀ {x : Nat}, (x : Int) ∈ (lieOf p l).1 → fullTo p l (x + 1) = fullTo p l x ++ [(x : Int)] := fun h => by rw [fullTo, if_pos h]
  have same : ∀ {x : Nat}, ¬ (x : Int) ∈ (lieOf p l).1 → fullTo p l (x + 1) = fullTo p l x := fun h => by rw [fullTo, if_neg h]
  have hlie : (lieOf p l).1.length = l.length := by rw [← lieAt_end (Nat.le_refl _), lieAt_len (Nat.le_refl _)]
  have hw : ∀ {x : Nat}, (x : Int) < p → IntKind.i64.wrap ((x : Int) + 1) = ((x + 1 : Nat) : Int) := fun h => by rw [wrap_in (by omega) (by omega)]; rfl
  refine ⟨⟨by omega, ⟨by omega, by omega⟩, by omega, hb, by omega⟩, ⟨0, ⟨by omega, rfl⟩, rfl⟩, fun x ⟨h1, h2⟩ => ⟨fun h3 => ⟨⟨by omega, by omega⟩, fun h4 => ⟨⟨by omega, by omega, by omega, by omega⟩, x + 1, by omega, by omega, ?_, ?_, hw h3⟩, fun h4 => ⟨x + 1, ⟨by omega, ?_⟩, by omega, hw h3⟩⟩, fun h3 => ?_⟩,
    fun x h1 => ⟨fun h3 => ⟨⟨by omega, by omega⟩, fun h4 => ⟨⟨by omega, ?_, ?_⟩, x + 1, by omega, by omega, ?_, ?_, hw h3⟩, fun h4 => ⟨x + 1, by omega, by omega, ?_, ?_, hw h3⟩⟩, fun h3 => ?_⟩⟩
  · rw [more h4, h2]; rfl
  · rw [more h4, h2]; rfl
  · rw [same h4, h2]
  · obtain rfl : p.toNat = x := by omega
    exact absurd h2 hne
  · have := fullTo_len p l x; omega
  · have := fullTo_len p l x; omega
  · rw [more h4, List.map_append]; rfl
  · rw [more h4, List.length_append]; rfl
  · rw [same h4]
  · rw [same h4]
  · obtain rfl : p.toNat = x := by omega
    have := fullTo_len p l p.toNat
    rw [wrap_in (by omega) (by omega)]
    exact ⟨rfl, rfl⟩
theorem lie0G_ok : ∀ args H φ v H' l, pureG [.int .i64, .ints .i64] lie0S args H = some (φ, v, H', l) → Asks φ → Call Try.prog 50 args H (fun v' H2 => v' = v ∧ H2 = H') ∧ Kept H H' l :=
  pureG_ok fun r hk hs => match r, hk with
    | [_, _], ⟨⟨p, rfl⟩, ha, _⟩ => ⟨by show sc 0 (.tuple #[nilS, vi 0]) = true; simp [nilS, sc, sc2, sc1, sc0], fun caps => by
      have e : VOk Try.prog lieRE := VOk.ofCt (CtOk.none.add hasG_ok)
      rcases ha with rfl | ⟨s, rfl⟩ | ⟨l, rfl⟩
      · exact (Call.ofVc e mixed (c := lieRB) Try.func50 (by kernel_rfl) (cast (congrFun l0N_eq p) (l0N_ok p))).mono fun v H h => h.1
      · exact (Call.ofVc e mixed (c := lieRB) Try.func50 (by kernel_rfl) (cast (congrFun (congrFun (congrFun l0H_eq p) s) _) (l0H_ok p s _))).mono fun v H h => h.1
      · cases l with
        | nil => exact (Call.ofVc e mixed (c := lieRB) Try.func50 (by kernel_rfl) (cast (congrFun (congrFun l0R_eq p) _) (l0R_ok p _))).mono fun v H h => h.1
        | cons x l => exact absurd (show (x :: l).length = 0 from hs) (by simp)⟩
def full0S (r : List Arg) : Prop × Value := match r with
  | [p, a] => ((0 ≤ p.num ∧ p.num ≤ 8) ∧ a.list.length = 0, .tuple #[nilS, vi 0])
  | _ => (False, undef)
theorem full0G_ok : ∀ args H φ v H' l, pureG [.int .i64, .ints .i64] full0S args H = some (φ, v, H', l) → Asks φ → Call Try.prog 53 args H (fun v' H2 => v' = v ∧ H2 = H') ∧ Kept H H' l :=
  pureG_ok fun r hk hs => match r, hk with
    | [_, _], ⟨⟨p, rfl⟩, ha, _⟩ => ⟨by show sc 0 (.tuple #[nilS, vi 0]) = true; simp [nilS, sc, sc2, sc1, sc0], fun caps => by
      have e : VOk Try.prog { ct := full0T } := VOk.ofCt ((CtOk.none.add hasG_ok).add lie0G_ok)
      obtain ⟨n, rfl⟩ := Int.eq_ofNat_of_zero_le (show 0 ≤ p from hs.1.1)
      have hn : n ≤ 8 := by have : (n : Int) ≤ 8 := hs.1.2; omega
      rcases ha with rfl | ⟨s, rfl⟩ | ⟨l, rfl⟩
      · exact (Call.ofVc e mixed (c := fullRB) Try.func53 (by kernel_rfl) (cast (congrFun f0N_eq n) (f0N_ok n hn))).mono fun v H h => h.1
      · exact (Call.ofVc e mixed (c := fullRB) Try.func53 (by kernel_rfl) (cast (congrFun (congrFun (congrFun f0H_eq n) s) _) (f0H_ok n s _ hn))).mono fun v H h => h.1
      · exact (Call.ofVc e mixed (c := fullRB) Try.func53 (by kernel_rfl) (cast (congrFun (congrFun (congrFun f0R_eq n) l) _) (f0R_ok n l _ hn hs.2))).mono fun v H h => h.1⟩
theorem fullTo_mem {p : Int} {l : List Int} {x : Int} : ∀ {i : Nat}, x ∈ fullTo p l i ↔ (0 ≤ x ∧ x < i) ∧ x ∈ (lieOf p l).1
  | 0 => by simp [fullTo]; omega
  | i + 1 => by
    rw [fullTo]
    have ih := fullTo_mem (p := p) (l := l) (x := x) (i := i)
    split
    · rename_i h
      rw [List.mem_append, ih, List.mem_singleton]
      constructor
      · rintro (⟨h1, h2⟩ | rfl)
        · exact ⟨by omega, h2⟩
        · exact ⟨by omega, h⟩
      · rintro ⟨h1, h2⟩
        by_cases e : x = i
        · exact .inr e
        · exact .inl ⟨by omega, h2⟩
    · rename_i h
      rw [ih]
      constructor
      · rintro ⟨h1, h2⟩; exact ⟨by omega, h2⟩
      · rintro ⟨h1, h2⟩
        have : x ≠ i := fun e => h (e ▸ h2)
        exact ⟨by omega, h2⟩
theorem lie_first {p : Int} {l : List Int} (h0 : 0 < l.length) (hb : ∀ x ∈ l, 0 ≤ x ∧ x < p) : l.getD 0 0 ∈ (lieOf p l).1 := by
  cases l with
  | nil => cases h0
  | cons d l =>
    have grow : ∀ (m : List Int) (s : List Int × Int) (x : Int), x ∈ s.1 → x ∈ (m.foldl (lieStep p) s).1 := by
      intro m
      induction m with
      | nil => exact fun s x h => h
      | cons a m ih => exact fun s x h => ih _ x (List.mem_append_left _ h)
    have hd := hb d List.mem_cons_self
    have e : slideAt [] p d = d := by rw [slideAt_eq]; simp
    refine grow l (lieStep p ([], 0) d) d ?_
    unfold lieStep
    simp only [e, List.nil_append, List.mem_singleton]
    rw [if_neg (by omega)]
theorem full_ne {p : Int} {l : List Int} (h0 : 0 < l.length) (hb : ∀ x ∈ l, 0 ≤ x ∧ x < p) : fullTo p l p.toNat ≠ [] := fun e => by
  have hd := hb _ (getD_memR (l := l) (i := 0) h0)
  have := (fullTo_mem (p := p) (l := l) (x := l.getD 0 0) (i := p.toNat)).2 ⟨by omega, lie_first h0 hb⟩
  rw [e] at this
  cases this
def fullRS (r : List Arg) : Option (Prop × Back) := match r with
  | [p, .ints _ l] => some ((0 < p.num ∧ p.num ≤ 8) ∧ 0 < l.length ∧ (∀ x ∈ l, 0 ≤ x ∧ x < p.num) ∧ l.length ≤ 13, .both (fullTo p.num l p.num.toNat) [vi (l.length - (fullTo p.num l p.num.toNat).length)])
  | _ => none
theorem fullRG_ok : ∀ args H φ v H' l, newG [.int .i64, .ints .i64] fullRS args H = some (φ, v, H', l) → Asks φ → Call Try.prog 53 args H (fun v' H2 => v' = v ∧ H2 = H') ∧ Kept H H' l :=
  newG_ok fun r ψ b hk hs hψ => match r, hk with
    | [_, _], ⟨⟨p, rfl⟩, ha, _⟩ => by
      rcases ha with rfl | ⟨s, rfl⟩ | ⟨l, rfl⟩ <;> cases hs
      obtain ⟨h1, h2, h3, h4⟩ := hψ
      exact ⟨rfl, fun caps => Call.ofVcR (VOk.ofCt (fullRT_ok lieRG_ok)) mixed (c := fullRB) (inv := fullRI p l _) Try.func53 (by kernel_rfl) (cast (congrFun (congrFun (congrFun foW_eq p) l) _) (foW_ok p l _ h1 h2 h3 h4 (full_ne h2 h3)))⟩

end Go.Pier.Lg

set_option maxRecDepth 100000
set_option linter.unusedVariables false
set_option linter.unusedSimpArgs false
namespace Go.Pier.Lg
open Go Go.Pier Go.Proofs 


structure Same (n : Nat) (s : PS) (t : List Int × Int) : Prop where
  lies : s.lies = t.1
  slid : s.slid = t.2
  tk : ∀ i : Nat, i < n → (s.tk i = true ↔ (i : Int) ∈ t.1)
  out : ∀ x ∈ t.1, x = -1 ∨ (0 ≤ x ∧ x < n)
  fell : s.fell = (t.1.filter fun x => decide (x = -1)).length
  nodup : (t.1.filter fun x => decide (0 ≤ x)).Nodup
theorem slide_is {out : List Int} {n a j : Nat} (hj : a + j ≤ n) (h : ∀ i, i < j → ((a + i : Nat) : Int) ∈ out) (hb : a + j < n → ¬ ((a + j : Nat) : Int) ∈ out) : slideAt out n a = (a + j : Nat) := by
  induction j generalizing a with
  | zero =>
    rw [slideAt_eq, Nat.add_zero]
    rw [if_neg (fun hh => hb (by omega) (by rw [Nat.add_zero]; exact hh.2))]
  | succ j ih =>
    rw [slideAt_eq, if_pos ⟨by omega, by have := h 0 (by omega); rwa [Nat.add_zero] at this⟩]
    have := ih (a := a + 1) (by omega) (fun i hi => by have := h (i + 1) (by omega); rwa [show a + (i + 1) = a + 1 + i by omega] at this) (fun hh => by rw [show a + 1 + j = a + (j + 1) by omega]; exact hb (by omega))
    rw [show a + 1 + j = a + (j + 1) by omega] at this
    rw [← this]; rfl
theorem updB_at {tk : Nat → Bool} {a i : Nat} : updB tk a i = true ↔ i = a ∨ tk i = true := by
  unfold updB
  by_cases e : i = a
  · subst e; simp [Nat.beq_refl]
  · have : Nat.beq i a = false := by
      cases hb : Nat.beq i a with
      | false => rfl
      | true => exact absurd (Nat.eq_of_beq_eq_true hb) e
    rw [this]; simp [e]
theorem same_step {n : Nat} {s : PS} {t : List Int × Int} {d : Int} (h : Same n s t) (hd : 0 ≤ d ∧ d < n) : Same n (stepP false n s d) (lieStep n t d) := by
  obtain ⟨a, rfl⟩ := Int.eq_ofNat_of_zero_le hd.1
  have ha : a < n := by omega
  have pos : ∀ j, posM false n (Int.toNat (a : Int)) j = a + j := fun j => rfl
  have cnt : cntM false n (Int.toNat (a : Int)) = n - a := rfl
  obtain ⟨h1, h2, h3, h4⟩ := ffB_spec (fun j => s.tk (a + j)) (n - a) 0
  generalize hj : ffB (fun j => s.tk (a + j)) (n - a) 0 = j at *
  by_cases hlt : j < n - a
  · have hb := h4 (by omega)
    rw [step_found (ar := false) (j := j) (by rw [cnt]; exact hlt) (fun i hi => h3 i (Nat.zero_le _) hi) hb]
    have hsl : slideAt t.1 n a = (a + j : Nat) := slide_is (by omega) (fun i hi => (h.tk _ (by omega)).1 (h3 i (Nat.zero_le _) hi)) (fun hh hm => by
      have := (h.tk _ hh).2 hm
      rw [hb] at this; cases this)
    have hnm : ¬ ((a + j : Nat) : Int) ∈ t.1 := fun hm => by
      have := (h.tk _ (by omega)).2 hm
      rw [hb] at this; cases this
    unfold lieStep
    rw [hsl, if_neg (by omega)]
    refine ⟨by simp only [pos, h.lies], by simp only [h.slid]; omega, fun i hi => ?_, fun x hx => ?_, ?_, ?_⟩
    · simp only [pos]
      rw [updB_at, h.tk i hi, List.mem_append, List.mem_singleton]
      constructor
      · rintro (e | e)
        · exact .inr (by rw [e])
        · exact .inl e
      · rintro (e | e)
        · exact .inr e
        · exact .inl (by omega)
    · rcases List.mem_append.1 hx with hx | hx
      · exact h.out x hx
      · rw [List.mem_singleton.1 hx]; omega
    · simp only
      rw [List.filter_append, List.length_append, h.fell, List.filter_cons, if_neg (by simp; omega)]
      simp
    · rw [List.filter_append, List.filter_cons, if_pos (by simp; omega), List.filter_nil, List.nodup_append]
      refine ⟨h.nodup, by simp, fun x hx y hy e => ?_⟩
      rw [List.mem_singleton.1 hy] at e
      exact hnm (e ▸ (List.mem_filter.1 hx).1)
  · have ej : j = n - a := by omega
    have hall : ∀ i, i < n - a → s.tk (a + i) = true := fun i hi => h3 i (Nat.zero_le _) (by omega)
    rw [step_lost (ar := false) (n := n) (d := (a : Int)) (fun i hi => hall i hi)]
    have hsl : slideAt t.1 n a = (a + (n - a) : Nat) := slide_is (by omega) (fun i hi => (h.tk _ (by omega)).1 (hall i hi)) (fun hh => absurd hh (by omega))
    unfold lieStep
    rw [hsl, if_pos (by omega)]
    refine ⟨by simp only [h.lies], by simp only [h.slid]; omega, fun i hi => ?_, fun x hx => ?_, ?_, ?_⟩
    · simp only
      rw [h.tk i hi, List.mem_append, List.mem_singleton]
      constructor
      · exact .inl
      · rintro (e | e)
        · exact e
        · omega
    · rcases List.mem_append.1 hx with hx | hx
      · exact h.out x hx
      · exact .inl (List.mem_singleton.1 hx)
    · simp only
      rw [List.filter_append, List.length_append, h.fell]
      simp
    · rw [List.filter_append]
      simpa using h.nodup
theorem same_run {n : Nat} {l : List Int} (hb : ∀ x ∈ l, 0 ≤ x ∧ x < (n : Int)) : Same n (runA n l) (lieOf n l) := by
  have key : ∀ (m : List Int) (s : PS) (t : List Int × Int), Same n s t → (∀ x ∈ m, 0 ≤ x ∧ x < (n : Int)) → Same n (m.foldl (stepP false n) s) (m.foldl (lieStep n) t) := by
    intro m
    induction m with
    | nil => exact fun s t h _ => h
    | cons x m ih => exact fun s t h hm => ih _ _ (same_step h (hm x List.mem_cons_self)) fun y hy => hm y (List.mem_cons_of_mem _ hy)
  exact key l ⟨emp, [], 0, 0⟩ ([], 0) ⟨rfl, rfl, fun i _ => by simp [emp], (fun x hx => by cases hx), rfl, by simp⟩ hb
theorem full_is {n : Nat} {l : List Int} (hb : ∀ x ∈ l, 0 ≤ x ∧ x < (n : Int)) : ∀ {i : Nat}, i ≤ n → whL (runA n l).tk i = fullTo n l i
  | 0, _ => rfl
  | i + 1, h => by
    rw [whL_succ, fullTo, full_is hb (by omega)]
    have := (same_run hb).tk i (by omega)
    by_cases e : (runA n l).tk i = true
    · rw [if_pos e, if_pos (this.1 e)]
    · rw [if_neg e, if_neg (fun hh => e (this.2 hh))]
theorem errD_eq {p : Int} {l : List Int} : errD p l = errDrops p l := by
  unfold errD errDrops
  by_cases h : p < 1 ∨ 8 < p ∨ 12 < l.length
  · rw [if_pos h, if_pos h]
  · rw [if_neg h, if_neg h]
    by_cases h2 : ∀ d ∈ l, 0 ≤ d ∧ d < p
    · rw [if_pos h2, if_pos]
      rw [wiF, decide_eq_true_eq]
      intro x hx
      have := h2 x hx
      omega
    · rw [if_neg h2, if_neg]
      rw [wiF, decide_eq_true_eq]
      exact fun hh => h2 fun d hd => by have := hh d hd; omega
theorem len_le {l : List Int} : ∀ {k : List Int}, k.Nodup → (∀ x ∈ k, x ∈ l) → k.length ≤ l.length
  | [], _, _ => Nat.zero_le _
  | x :: k, hn, h => by
    obtain ⟨h1, h2⟩ := List.nodup_cons.1 hn
    have hx := h x List.mem_cons_self
    have := len_le (l := l.erase x) (k := k) h2 fun y hy => (List.mem_erase_of_ne (fun (e : y = x) => h1 (e ▸ hy))).2 (h y (List.mem_cons_of_mem _ hy))
    rw [List.length_erase_of_mem hx] at this
    have : 0 < l.length := List.length_pos_of_mem hx
    rw [List.length_cons]
    omega
theorem fullTo_nodup {p : Int} {l : List Int} : ∀ i : Nat, (fullTo p l i).Nodup
  | 0 => List.nodup_nil
  | i + 1 => by
    rw [fullTo]
    split
    · rw [List.nodup_append]
      refine ⟨fullTo_nodup i, by simp, fun x hx y hy e => ?_⟩
      rw [List.mem_singleton.1 hy] at e
      have := (fullTo_mem.1 hx).1
      omega
    · exact fullTo_nodup i
theorem lie_len {p : Int} {l : List Int} : (lieOf p l).1.length = l.length := by rw [← lieAt_end (Nat.le_refl _), lieAt_len (Nat.le_refl _)]
theorem fell_is {n : Nat} {l : List Int} (hb : ∀ x ∈ l, 0 ≤ x ∧ x < (n : Int)) : (runA n l).fell = l.length - (fullTo n l n).length := by
  have h := same_run hb
  have e1 : ((lieOf n l).1.filter fun x => decide (x = -1)).length + ((lieOf n l).1.filter fun x => decide (0 ≤ x)).length = l.length := by
    rw [← lie_len (p := n) (l := l)]
    have : ∀ (m : List Int), (∀ x ∈ m, x = -1 ∨ (0 ≤ x ∧ x < (n : Int))) → (m.filter fun x => decide (x = -1)).length + (m.filter fun x => decide (0 ≤ x)).length = m.length := by
      intro m
      induction m with
      | nil => exact fun _ => rfl
      | cons x m ih =>
        intro hm
        have := ih fun y hy => hm y (List.mem_cons_of_mem _ hy)
        rcases hm x List.mem_cons_self with e | e
        · rw [List.filter_cons, List.filter_cons, if_pos (by simp [e]), if_neg (by simp; omega), List.length_cons, List.length_cons]; omega
        · rw [List.filter_cons, List.filter_cons, if_neg (by simp; omega), if_pos (by simp; omega), List.length_cons, List.length_cons]; omega
    exact this _ h.out
  have e2 : ((lieOf n l).1.filter fun x => decide (0 ≤ x)).length = (fullTo n l n).length := by
    apply Nat.le_antisymm
    · refine len_le h.nodup fun x hx => ?_
      obtain ⟨h1, h2⟩ := List.mem_filter.1 hx
      have h3 : 0 ≤ x := of_decide_eq_true h2
      have := h.out x h1
      exact fullTo_mem.2 ⟨by omega, h1⟩
    · refine len_le (fullTo_nodup _) fun x hx => ?_
      obtain ⟨h1, h2⟩ := fullTo_mem.1 hx
      exact List.mem_filter.2 ⟨h2, by simp; omega⟩
  rw [h.fell, ← e2]
  omega

end Go.Pier.Lg

