import Derived.Test.YtinkmgacaoohnaaPierLrround
import Derived.Test.YtinkmgacaoohnaaPierMR5
import Derived.Test.YtinkmgacaoohnaaPierLdropt
import Derived.Test.YtinkmgacaoohnaaPierZX
import Derived.KernelRfl
set_option linter.unusedSimpArgs false
set_option linter.unusedVariables false
set_option maxRecDepth 100000
set_option linter.unusedVariables false
set_option linter.unusedSimpArgs false
namespace Go.Pier.Lg
open Go Go.Pier Go.Proofs
def ro0I (n : Nat) (sv : Value) (H : Heap) : Nat → Option LInv := invOf 0 (LInv.one Unit (fun _ => True) (fun _ => [(0, vi n), (1, sv), (6, nilS), (7, vi 0), (8, vi 0)]) (fun _ => H) (fun _ => 0) (fun _ => invOf 2 (LInv.one Unit (fun _ => False) (fun _ => []) (fun _ => H) (fun _ => 0))))
noncomputable def roN :=
fun (n : Nat) ↦ (∃ (y : Unit), Ob True ∧ True ∧ Ob ((↑n : Int) = (↑n : Int)) ∧ Ob (Value.slice none (0 : Nat) (0 : Nat) = Value.slice none (0 : Nat) (0 : Nat)) ∧ Ob (Value.slice none (0 : Nat) (0 : Nat) = Value.slice none (0 : Nat) (0 : Nat)) ∧ Ob ((0 : Int) = (0 : Int)) ∧ Ob ((0 : Int) = (0 : Int)) ∧ True) ∧ ∀ (x : Unit), Ob True → (false = true → False) ∧ (false = false → True ∧ Ob (Value.tuple { toList := [Value.slice none (0 : Nat) (0 : Nat), vi (0 : Int)] } = Value.tuple { toList := [Value.slice none (0 : Nat) (0 : Nat), vi (0 : Int)] }) ∧ True)
theorem roN_eq : roN = fun (n : Nat) => vc Try.prog roE 0 35 true (ro0I n nilS []) roB [] (argFr 0 [vi n, nilS]) [] (retR Try.prog Try.f76 0 (fun b => b) (.tuple #[nilS, vi 0]) []) := by kernel_rfl
noncomputable def roH :=
fun (n : Nat) (s : Option Nat) (c : Nat) ↦ (∃ (y : Unit), Ob True ∧ True ∧ Ob ((↑n : Int) = (↑n : Int)) ∧ Ob (Value.slice (some { block := (0 : Nat), off := (0 : Nat), spot := s }) (0 : Nat) c = Value.slice (some { block := (0 : Nat), off := (0 : Nat), spot := s }) (0 : Nat) c) ∧ Ob (Value.slice none (0 : Nat) (0 : Nat) = Value.slice none (0 : Nat) (0 : Nat)) ∧ Ob ((0 : Int) = (0 : Int)) ∧ Ob ((0 : Int) = (0 : Int)) ∧ True) ∧ ∀ (x : Unit), Ob True → (false = true → Ob ((0 : Int) ≤ (0 : Int) ∧ (0 : Int) < (↑(0 : Nat) : Int) ∧ std { block := (0 : Nat), off := (0 : Nat), spot := s } c = true) ∧ False) ∧ (false = false → True ∧ Ob (Value.tuple { toList := [Value.slice none (0 : Nat) (0 : Nat), vi (0 : Int)] } = Value.tuple { toList := [Value.slice none (0 : Nat) (0 : Nat), vi (0 : Int)] }) ∧ True)
theorem roH_eq : roH = fun (n : Nat) (s : Option Nat) (c : Nat) => vc Try.prog roE 1 35 true (ro0I n (.slice (some ⟨0,0,s⟩) 0 c) [.gone]) roB [] (argFr 0 [vi n, .slice (some ⟨0,0,s⟩) 0 c]) [.gone] (retR Try.prog Try.f76 1 (fun b => b) (.tuple #[nilS, vi 0]) [.gone]) := by kernel_rfl
def rofS (r : List Arg) : Option Fresh := match r with
  | [p, .ints _ l] => some ⟨errD p.num l = 0 ∧ 0 < l.length ∧ (l.length : Int) ≤ p.num, fun b => .tuple #[newS b l.length, vi (runR p.num.toNat l).slid], fun _ => [rws (runR p.num.toNat l).lies]⟩
  | [p, _] => some ⟨errD p.num [] = 0, fun _ => .tuple #[nilS, vi 0], fun _ => []⟩
  | _ => none
noncomputable def lrB : Code := Try.f6.body.getD .skip
noncomputable def lrC : Ct := (((Ct.none.add 18 (pureG [] worksS)).add 23 (pureG psA cdS)).add 24 (pureG psA rcdS)).add 25 (pureG [.ints .i64, .ints .i64] iiS)
noncomputable def lrX : VEnv := { ct := lrC, cc := ccIn Try.prog { ct := lrC } [⟨17, Try.f17, fun _ _ _ => none⟩, ⟨40, Try.f40, fun _ _ _ => none⟩, ⟨41, Try.f41, fun _ _ _ => none⟩] }
noncomputable def lrC2 (k : Nat) (s : Int) (la : List Int) : Ct := (lrC.add 40 (nameCt (freshG psA rndS) (fun b => .tuple #[newS b k, vi s, vi 0]) (fun _ => [rws la]))).add 76 (nameCt (freshG psA rofS) (fun b => .tuple #[newS b k, vi s]) (fun _ => [rws la]))
noncomputable def lrV (k : Nat) (s : Int) (la : List Int) : VEnv := { ct := lrC2 k s la, cc := ccIn Try.prog { ct := lrC2 k s la } [⟨17, Try.f17, fun _ _ _ => none⟩, ⟨41, Try.f41, fun _ _ _ => none⟩] }
noncomputable def lrC0 : Ct := (lrC.add 40 (freshG psA rndS)).add 76 (freshG psA rofS)
noncomputable def lr0 : VEnv := { ct := lrC0, cc := ccIn Try.prog { ct := lrC0 } [⟨17, Try.f17, fun _ _ _ => none⟩, ⟨41, Try.f41, fun _ _ _ => none⟩] }
noncomputable def lrXv_s0 (p : Int) (l : List Int) (c : Nat) := (Arg.ints IntKind.i64 (List.take l.length (List.drop (0 : Nat) (intsOf (List.map (Value.int IntKind.i64) l)))))
noncomputable def lrXv_s1 (p : Int) (l : List Int) (c : Nat) := (List.take l.length (List.drop (0 : Nat) (intsOf (List.map (Value.int IntKind.i64) l))))
noncomputable def lrXv_s2 (p : Int) (l : List Int) (c : Nat) := (List.drop (0 : Nat) (List.map (Value.int IntKind.i64) l))
noncomputable def lrXv_s3 (p : Int) (l : List Int) (c : Nat) := (errDrops (Arg.plain (vi p)).num (lrXv_s0 p l c).list != (0 : Int))
noncomputable def lrXv :=
fun (p : Int) (l : List Int) (c : Nat) ↦ (decide ((20 : Int) < (↑l.length : Int)) = true → Ob True ∧ True ∧ Ob (Value.bool true = Value.bool true)) ∧ (decide ((20 : Int) < (↑l.length : Int)) = false → Ob ((List.take l.length (lrXv_s2 p l c) = List.map (Value.int IntKind.i64) (lrXv_s1 p l c) ∧ (0 : Nat) + l.length ≤ (List.map (Value.int IntKind.i64) l).length ∧ true = true) ∧ (lrXv_s0 p l c).list.length ≤ (1000000 : Nat)) ∧ ((errD (Arg.plain (vi p)).num (lrXv_s0 p l c).list != (0 : Int)) = true → Ob ((List.take l.length (lrXv_s2 p l c) = List.map (Value.int IntKind.i64) (lrXv_s1 p l c) ∧ (0 : Nat) + l.length ≤ (List.map (Value.int IntKind.i64) l).length ∧ true = true) ∧ (lrXv_s0 p l c).list.length ≤ (1000000 : Nat)) ∧ ((lrXv_s3 p l c) = true → Ob ((List.take l.length (lrXv_s2 p l c) = List.map (Value.int IntKind.i64) (lrXv_s1 p l c) ∧ (0 : Nat) + l.length ≤ (List.map (Value.int IntKind.i64) l).length ∧ true = true) ∧ (lrXv_s0 p l c).list.length ≤ (1000000 : Nat)) ∧ Ob ((0 : Nat) ≤ (1000000 : Nat)) ∧ (true = true → (true = true → ((errD (Arg.plain (vi p)).num (lrXv_s0 p l c).list == errDrops (Arg.plain (vi p)).num (lrXv_s0 p l c).list) = true → Ob True ∧ True ∧ Ob (Value.bool true = Value.bool true)) ∧ ((errD (Arg.plain (vi p)).num (lrXv_s0 p l c).list == errDrops (Arg.plain (vi p)).num (lrXv_s0 p l c).list) = false → True ∧ Ob (Value.bool false = Value.bool true))) ∧ (true = false → True ∧ Ob (Value.bool false = Value.bool true))) ∧ (true = false → True ∧ Ob (Value.bool false = Value.bool true))) ∧ ((lrXv_s3 p l c) = false → (decide (p < (↑l.length : Int)) = true → Ob ((0 : Nat) ≤ (1000000 : Nat)) ∧ (true = true → (true = true → ((errD (Arg.plain (vi p)).num (lrXv_s0 p l c).list == (10 : Int)) = true → Ob True ∧ True ∧ Ob (Value.bool true = Value.bool true)) ∧ ((errD (Arg.plain (vi p)).num (lrXv_s0 p l c).list == (10 : Int)) = false → True ∧ Ob (Value.bool false = Value.bool true))) ∧ (true = false → True ∧ Ob (Value.bool false = Value.bool true))) ∧ (true = false → True ∧ Ob (Value.bool false = Value.bool true))) ∧ (decide (p < (↑l.length : Int)) = false → False))) ∧ ((errD (Arg.plain (vi p)).num (lrXv_s0 p l c).list != (0 : Int)) = false → (decide (p < (↑l.length : Int)) = true → Ob ((List.take l.length (lrXv_s2 p l c) = List.map (Value.int IntKind.i64) (lrXv_s1 p l c) ∧ (0 : Nat) + l.length ≤ (List.map (Value.int IntKind.i64) l).length ∧ true = true) ∧ (lrXv_s0 p l c).list.length ≤ (1000000 : Nat)) ∧ ((lrXv_s3 p l c) = true → Ob ((List.take l.length (lrXv_s2 p l c) = List.map (Value.int IntKind.i64) (lrXv_s1 p l c) ∧ (0 : Nat) + l.length ≤ (List.map (Value.int IntKind.i64) l).length ∧ true = true) ∧ (lrXv_s0 p l c).list.length ≤ (1000000 : Nat)) ∧ Ob ((0 : Nat) ≤ (1000000 : Nat)) ∧ (true = true → (true = true → (((10 : Int) == errDrops (Arg.plain (vi p)).num (lrXv_s0 p l c).list) = true → Ob True ∧ True ∧ Ob (Value.bool true = Value.bool true)) ∧ (((10 : Int) == errDrops (Arg.plain (vi p)).num (lrXv_s0 p l c).list) = false → True ∧ Ob (Value.bool false = Value.bool true))) ∧ (true = false → True ∧ Ob (Value.bool false = Value.bool true))) ∧ (true = false → True ∧ Ob (Value.bool false = Value.bool true))) ∧ ((lrXv_s3 p l c) = false → (decide (p < (↑l.length : Int)) = true → Ob ((0 : Nat) ≤ (1000000 : Nat)) ∧ (true = true → (true = true → (true = true → Ob True ∧ True ∧ Ob (Value.bool true = Value.bool true)) ∧ (true = false → True ∧ Ob (Value.bool false = Value.bool true))) ∧ (true = false → True ∧ Ob (Value.bool false = Value.bool true))) ∧ (true = false → True ∧ Ob (Value.bool false = Value.bool true))) ∧ (decide (p < (↑l.length : Int)) = false → False))) ∧ (decide (p < (↑l.length : Int)) = false → False)))
theorem lrXv_eq : lrXv = fun (p : Int) (l : List Int) (c : Nat) => vc Try.prog lrX 1 44 true (fun _ => none) lrB [] (argFr 0 [vi p, .slice (some ⟨0,0,none⟩) l.length c]) [ros l] (retK Try.prog Try.f6 (fun v _ => v = .bool true)) := by kernel_rfl
noncomputable def lrXN :=
fun (p : Int) ↦ (false = true → Ob True ∧ True ∧ Ob (Value.bool true = Value.bool true)) ∧ (false = false → Ob ((0 : Nat) ≤ (1000000 : Nat)) ∧ ((errD (Arg.plain (vi p)).num [] != (0 : Int)) = true → Ob ((0 : Nat) ≤ (1000000 : Nat)) ∧ ((errDrops (Arg.plain (vi p)).num [] != (0 : Int)) = true → Ob ((0 : Nat) ≤ (1000000 : Nat)) ∧ Ob ((0 : Nat) ≤ (1000000 : Nat)) ∧ (true = true → (true = true → ((errD (Arg.plain (vi p)).num [] == errDrops (Arg.plain (vi p)).num []) = true → Ob True ∧ True ∧ Ob (Value.bool true = Value.bool true)) ∧ ((errD (Arg.plain (vi p)).num [] == errDrops (Arg.plain (vi p)).num []) = false → True ∧ Ob (Value.bool false = Value.bool true))) ∧ (true = false → True ∧ Ob (Value.bool false = Value.bool true))) ∧ (true = false → True ∧ Ob (Value.bool false = Value.bool true))) ∧ ((errDrops (Arg.plain (vi p)).num [] != (0 : Int)) = false → (decide (p < (↑(0 : Nat) : Int)) = true → Ob ((0 : Nat) ≤ (1000000 : Nat)) ∧ (true = true → (true = true → ((errD (Arg.plain (vi p)).num [] == (10 : Int)) = true → Ob True ∧ True ∧ Ob (Value.bool true = Value.bool true)) ∧ ((errD (Arg.plain (vi p)).num [] == (10 : Int)) = false → True ∧ Ob (Value.bool false = Value.bool true))) ∧ (true = false → True ∧ Ob (Value.bool false = Value.bool true))) ∧ (true = false → True ∧ Ob (Value.bool false = Value.bool true))) ∧ (decide (p < (↑(0 : Nat) : Int)) = false → False))) ∧ ((errD (Arg.plain (vi p)).num [] != (0 : Int)) = false → (decide (p < (↑(0 : Nat) : Int)) = true → Ob ((0 : Nat) ≤ (1000000 : Nat)) ∧ ((errDrops (Arg.plain (vi p)).num [] != (0 : Int)) = true → Ob ((0 : Nat) ≤ (1000000 : Nat)) ∧ Ob ((0 : Nat) ≤ (1000000 : Nat)) ∧ (true = true → (true = true → (((10 : Int) == errDrops (Arg.plain (vi p)).num []) = true → Ob True ∧ True ∧ Ob (Value.bool true = Value.bool true)) ∧ (((10 : Int) == errDrops (Arg.plain (vi p)).num []) = false → True ∧ Ob (Value.bool false = Value.bool true))) ∧ (true = false → True ∧ Ob (Value.bool false = Value.bool true))) ∧ (true = false → True ∧ Ob (Value.bool false = Value.bool true))) ∧ ((errDrops (Arg.plain (vi p)).num [] != (0 : Int)) = false → (decide (p < (↑(0 : Nat) : Int)) = true → Ob ((0 : Nat) ≤ (1000000 : Nat)) ∧ (true = true → (true = true → (true = true → Ob True ∧ True ∧ Ob (Value.bool true = Value.bool true)) ∧ (true = false → True ∧ Ob (Value.bool false = Value.bool true))) ∧ (true = false → True ∧ Ob (Value.bool false = Value.bool true))) ∧ (true = false → True ∧ Ob (Value.bool false = Value.bool true))) ∧ (decide (p < (↑(0 : Nat) : Int)) = false → False))) ∧ (decide (p < (↑(0 : Nat) : Int)) = false → False)))
theorem lrXN_eq : lrXN = fun (p : Int) => vc Try.prog lrX 0 44 true (fun _ => none) lrB [] (argFr 0 [vi p, nilS]) [] (retK Try.prog Try.f6 (fun v _ => v = .bool true)) := by kernel_rfl
noncomputable def lrXH :=
fun (p : Int) (s : Option Nat) (c : Nat) ↦ (false = true → Ob True ∧ True ∧ Ob (Value.bool true = Value.bool true)) ∧ (false = false → Ob ((0 : Nat) ≤ (1000000 : Nat)) ∧ ((errD (Arg.plain (vi p)).num [] != (0 : Int)) = true → Ob ((0 : Nat) ≤ (1000000 : Nat)) ∧ ((errDrops (Arg.plain (vi p)).num [] != (0 : Int)) = true → Ob ((0 : Nat) ≤ (1000000 : Nat)) ∧ Ob ((0 : Nat) ≤ (1000000 : Nat)) ∧ (true = true → (true = true → ((errD (Arg.plain (vi p)).num [] == errDrops (Arg.plain (vi p)).num []) = true → Ob True ∧ True ∧ Ob (Value.bool true = Value.bool true)) ∧ ((errD (Arg.plain (vi p)).num [] == errDrops (Arg.plain (vi p)).num []) = false → True ∧ Ob (Value.bool false = Value.bool true))) ∧ (true = false → True ∧ Ob (Value.bool false = Value.bool true))) ∧ (true = false → True ∧ Ob (Value.bool false = Value.bool true))) ∧ ((errDrops (Arg.plain (vi p)).num [] != (0 : Int)) = false → (decide (p < (↑(0 : Nat) : Int)) = true → Ob ((0 : Nat) ≤ (1000000 : Nat)) ∧ (true = true → (true = true → ((errD (Arg.plain (vi p)).num [] == (10 : Int)) = true → Ob True ∧ True ∧ Ob (Value.bool true = Value.bool true)) ∧ ((errD (Arg.plain (vi p)).num [] == (10 : Int)) = false → True ∧ Ob (Value.bool false = Value.bool true))) ∧ (true = false → True ∧ Ob (Value.bool false = Value.bool true))) ∧ (true = false → True ∧ Ob (Value.bool false = Value.bool true))) ∧ (decide (p < (↑(0 : Nat) : Int)) = false → False))) ∧ ((errD (Arg.plain (vi p)).num [] != (0 : Int)) = false → (decide (p < (↑(0 : Nat) : Int)) = true → Ob ((0 : Nat) ≤ (1000000 : Nat)) ∧ ((errDrops (Arg.plain (vi p)).num [] != (0 : Int)) = true → Ob ((0 : Nat) ≤ (1000000 : Nat)) ∧ Ob ((0 : Nat) ≤ (1000000 : Nat)) ∧ (true = true → (true = true → (((10 : Int) == errDrops (Arg.plain (vi p)).num []) = true → Ob True ∧ True ∧ Ob (Value.bool true = Value.bool true)) ∧ (((10 : Int) == errDrops (Arg.plain (vi p)).num []) = false → True ∧ Ob (Value.bool false = Value.bool true))) ∧ (true = false → True ∧ Ob (Value.bool false = Value.bool true))) ∧ (true = false → True ∧ Ob (Value.bool false = Value.bool true))) ∧ ((errDrops (Arg.plain (vi p)).num [] != (0 : Int)) = false → (decide (p < (↑(0 : Nat) : Int)) = true → Ob ((0 : Nat) ≤ (1000000 : Nat)) ∧ (true = true → (true = true → (true = true → Ob True ∧ True ∧ Ob (Value.bool true = Value.bool true)) ∧ (true = false → True ∧ Ob (Value.bool false = Value.bool true))) ∧ (true = false → True ∧ Ob (Value.bool false = Value.bool true))) ∧ (true = false → True ∧ Ob (Value.bool false = Value.bool true))) ∧ (decide (p < (↑(0 : Nat) : Int)) = false → False))) ∧ (decide (p < (↑(0 : Nat) : Int)) = false → False)))
theorem lrXH_eq : lrXH = fun (p : Int) (s : Option Nat) (c : Nat) => vc Try.prog lrX 1 44 true (fun _ => none) lrB [] (argFr 0 [vi p, .slice (some ⟨0,0,s⟩) 0 c]) [.gone] (retK Try.prog Try.f6 (fun v _ => v = .bool true)) := by kernel_rfl
noncomputable def lrVv_s0 (n : Nat) (l : List Int) (c : Nat) (s : Int) (la : List Int) := (List.take l.length (List.drop (0 : Nat) (intsOf (List.map (Value.int IntKind.i64) l))))
noncomputable def lrVv_s1 (n : Nat) (l : List Int) (c : Nat) (s : Int) (la : List Int) := (List.take l.length (List.drop (0 : Nat) (intsOf (List.map (Value.int IntKind.i64) la))))
noncomputable def lrVv_s2 (n : Nat) (l : List Int) (c : Nat) (s : Int) (la : List Int) := (Arg.ints IntKind.i64 (lrVv_s1 n l c s la))
noncomputable def lrVv :=
fun (n : Nat) (l : List Int) (c : Nat) (s : Int) (la : List Int) ↦ (decide ((20 : Int) < (↑l.length : Int)) = true → Ob True ∧ True ∧ Ob (Value.bool true = Value.bool true)) ∧ (decide ((20 : Int) < (↑l.length : Int)) = false → Ob (((List.take l.length (List.drop (0 : Nat) (List.map (Value.int IntKind.i64) l)) = List.map (Value.int IntKind.i64) (lrVv_s0 n l c s la) ∧ (0 : Nat) + l.length ≤ (List.map (Value.int IntKind.i64) l).length ∧ true = true) ∧ errD (Arg.plain (vi (↑n : Int))).num (lrVv_s0 n l c s la) = (0 : Int) ∧ (0 : Nat) < (lrVv_s0 n l c s la).length ∧ (↑(lrVv_s0 n l c s la).length : Int) ≤ (Arg.plain (vi (↑n : Int))).num) ∧ Value.tuple { toList := [Value.slice (some { block := (1 : Nat), off := (0 : Nat), spot := some (0 : Nat) }) (lrVv_s0 n l c s la).length (0 : Nat), vi (runR (Arg.plain (vi (↑n : Int))).num.toNat (lrVv_s0 n l c s la)).slid, vi (0 : Int)] } = Value.tuple { toList := [Value.slice (some { block := (1 : Nat), off := (0 : Nat), spot := some (0 : Nat) }) l.length (0 : Nat), vi s, vi (0 : Int)] } ∧ [AObj.ro (List.map (Value.int IntKind.i64) l), AObj.rw (List.map (Value.int IntKind.i64) (runR (Arg.plain (vi (↑n : Int))).num.toNat (lrVv_s0 n l c s la)).lies) (some (1 : Nat))] = [AObj.ro (List.map (Value.int IntKind.i64) l), AObj.rw (List.map (Value.int IntKind.i64) la) (some (1 : Nat))]) ∧ Ob ((List.take l.length (List.drop (0 : Nat) (List.map (Value.int IntKind.i64) l)) = List.map (Value.int IntKind.i64) (lrVv_s0 n l c s la) ∧ (0 : Nat) + l.length ≤ (List.map (Value.int IntKind.i64) l).length ∧ true = true) ∧ (Arg.ints IntKind.i64 (lrVv_s0 n l c s la)).list.length ≤ (1000000 : Nat)) ∧ ((errDrops (Arg.plain (vi (↑n : Int))).num (Arg.ints IntKind.i64 (lrVv_s0 n l c s la)).list != (0 : Int)) = true → Ob ((List.take l.length (List.drop (0 : Nat) (List.map (Value.int IntKind.i64) l)) = List.map (Value.int IntKind.i64) (lrVv_s0 n l c s la) ∧ (0 : Nat) + l.length ≤ (List.map (Value.int IntKind.i64) l).length ∧ true = true) ∧ (Arg.ints IntKind.i64 (lrVv_s0 n l c s la)).list.length ≤ (1000000 : Nat)) ∧ Ob ((List.take l.length (List.drop (0 : Nat) (List.map (Value.int IntKind.i64) la)) = List.map (Value.int IntKind.i64) (lrVv_s1 n l c s la) ∧ (0 : Nat) + l.length ≤ (List.map (Value.int IntKind.i64) la).length ∧ true = true) ∧ (lrVv_s2 n l c s la).list.length ≤ (1000000 : Nat)) ∧ (decide ((lrVv_s2 n l c s la).list = []) = true → ((s == (0 : Int)) = true → (((0 : Int) == errDrops (Arg.plain (vi (↑n : Int))).num (Arg.ints IntKind.i64 (lrVv_s0 n l c s la)).list) = true → Ob True ∧ True ∧ Ob (Value.bool true = Value.bool true)) ∧ (((0 : Int) == errDrops (Arg.plain (vi (↑n : Int))).num (Arg.ints IntKind.i64 (lrVv_s0 n l c s la)).list) = false → True ∧ Ob (Value.bool false = Value.bool true))) ∧ ((s == (0 : Int)) = false → True ∧ Ob (Value.bool false = Value.bool true))) ∧ (decide ((lrVv_s2 n l c s la).list = []) = false → True ∧ Ob (Value.bool false = Value.bool true))) ∧ ((errDrops (Arg.plain (vi (↑n : Int))).num (Arg.ints IntKind.i64 (lrVv_s0 n l c s la)).list != (0 : Int)) = false → (decide ((↑n : Int) < (↑l.length : Int)) = true → Ob ((List.take l.length (List.drop (0 : Nat) (List.map (Value.int IntKind.i64) la)) = List.map (Value.int IntKind.i64) (lrVv_s1 n l c s la) ∧ (0 : Nat) + l.length ≤ (List.map (Value.int IntKind.i64) la).length ∧ true = true) ∧ (lrVv_s2 n l c s la).list.length ≤ (1000000 : Nat)) ∧ (decide ((lrVv_s2 n l c s la).list = []) = true → ((s == (0 : Int)) = true → (false = true → Ob True ∧ True ∧ Ob (Value.bool true = Value.bool true)) ∧ (false = false → True ∧ Ob (Value.bool false = Value.bool true))) ∧ ((s == (0 : Int)) = false → True ∧ Ob (Value.bool false = Value.bool true))) ∧ (decide ((lrVv_s2 n l c s la).list = []) = false → True ∧ Ob (Value.bool false = Value.bool true))) ∧ (decide ((↑n : Int) < (↑l.length : Int)) = false → Ob (((List.take l.length (List.drop (0 : Nat) (List.map (Value.int IntKind.i64) l)) = List.map (Value.int IntKind.i64) (lrVv_s0 n l c s la) ∧ (0 : Nat) + l.length ≤ (List.map (Value.int IntKind.i64) l).length ∧ true = true) ∧ errD (Arg.plain (vi (↑n : Int))).num (lrVv_s0 n l c s la) = (0 : Int) ∧ (0 : Nat) < (lrVv_s0 n l c s la).length ∧ (↑(lrVv_s0 n l c s la).length : Int) ≤ (Arg.plain (vi (↑n : Int))).num) ∧ Value.tuple { toList := [Value.slice (some { block := (2 : Nat), off := (0 : Nat), spot := some (0 : Nat) }) (lrVv_s0 n l c s la).length (0 : Nat), vi (runR (Arg.plain (vi (↑n : Int))).num.toNat (lrVv_s0 n l c s la)).slid] } = Value.tuple { toList := [Value.slice (some { block := (2 : Nat), off := (0 : Nat), spot := some (0 : Nat) }) l.length (0 : Nat), vi s] } ∧ [AObj.ro (List.map (Value.int IntKind.i64) l), AObj.rw (List.map (Value.int IntKind.i64) la) (some (1 : Nat)), AObj.rw (List.map (Value.int IntKind.i64) (runR (Arg.plain (vi (↑n : Int))).num.toNat (lrVv_s0 n l c s la)).lies) (some (1 : Nat))] = [AObj.ro (List.map (Value.int IntKind.i64) l), AObj.rw (List.map (Value.int IntKind.i64) la) (some (1 : Nat)), AObj.rw (List.map (Value.int IntKind.i64) la) (some (1 : Nat))]) ∧ Ob (((List.take l.length (List.drop (0 : Nat) (List.map (Value.int IntKind.i64) la)) = List.map (Value.int IntKind.i64) (lrVv_s1 n l c s la) ∧ (0 : Nat) + l.length ≤ (List.map (Value.int IntKind.i64) la).length ∧ true = true) ∧ List.take l.length (List.drop (0 : Nat) (List.map (Value.int IntKind.i64) la)) = List.map (Value.int IntKind.i64) (lrVv_s1 n l c s la) ∧ (0 : Nat) + l.length ≤ (List.map (Value.int IntKind.i64) la).length ∧ true = true) ∧ (lrVv_s2 n l c s la).list.length ≤ (1000000 : Nat)) ∧ (decide ((lrVv_s2 n l c s la).list = (lrVv_s2 n l c s la).list) = true → ((s == s) = true → (true = true → Ob True ∧ True ∧ Ob (Value.bool true = Value.bool true)) ∧ (true = false → True ∧ Ob (Value.bool false = Value.bool true))) ∧ ((s == s) = false → True ∧ Ob (Value.bool false = Value.bool true))) ∧ (decide ((lrVv_s2 n l c s la).list = (lrVv_s2 n l c s la).list) = false → True ∧ Ob (Value.bool false = Value.bool true)))))
theorem lrVv_eq : lrVv = fun (n : Nat) (l : List Int) (c : Nat) (s : Int) (la : List Int) => vc Try.prog (lrV l.length s la) 1 44 true (fun _ => none) lrB [] (argFr 0 [vi n, .slice (some ⟨0,0,none⟩) l.length c]) [ros l] (retK Try.prog Try.f6 (fun v _ => v = .bool true)) := by kernel_rfl
noncomputable def lr0N :=
fun (n : Nat) ↦ (false = true → Ob True ∧ True ∧ Ob (Value.bool true = Value.bool true)) ∧ (false = false → Ob (errD (Arg.plain (vi (↑n : Int))).num [] = (0 : Int)) ∧ Ob ((0 : Nat) ≤ (1000000 : Nat)) ∧ ((errDrops (Arg.plain (vi (↑n : Int))).num [] != (0 : Int)) = true → Ob ((0 : Nat) ≤ (1000000 : Nat)) ∧ Ob ((0 : Nat) ≤ (1000000 : Nat)) ∧ (true = true → (true = true → (((0 : Int) == errDrops (Arg.plain (vi (↑n : Int))).num []) = true → Ob True ∧ True ∧ Ob (Value.bool true = Value.bool true)) ∧ (((0 : Int) == errDrops (Arg.plain (vi (↑n : Int))).num []) = false → True ∧ Ob (Value.bool false = Value.bool true))) ∧ (true = false → True ∧ Ob (Value.bool false = Value.bool true))) ∧ (true = false → True ∧ Ob (Value.bool false = Value.bool true))) ∧ ((errDrops (Arg.plain (vi (↑n : Int))).num [] != (0 : Int)) = false → (decide ((↑n : Int) < (↑(0 : Nat) : Int)) = true → Ob ((0 : Nat) ≤ (1000000 : Nat)) ∧ (true = true → (true = true → (false = true → Ob True ∧ True ∧ Ob (Value.bool true = Value.bool true)) ∧ (false = false → True ∧ Ob (Value.bool false = Value.bool true))) ∧ (true = false → True ∧ Ob (Value.bool false = Value.bool true))) ∧ (true = false → True ∧ Ob (Value.bool false = Value.bool true))) ∧ (decide ((↑n : Int) < (↑(0 : Nat) : Int)) = false → Ob (errD (Arg.plain (vi (↑n : Int))).num [] = (0 : Int)) ∧ Ob ((0 : Nat) ≤ (1000000 : Nat)) ∧ (true = true → (true = true → (true = true → Ob True ∧ True ∧ Ob (Value.bool true = Value.bool true)) ∧ (true = false → True ∧ Ob (Value.bool false = Value.bool true))) ∧ (true = false → True ∧ Ob (Value.bool false = Value.bool true))) ∧ (true = false → True ∧ Ob (Value.bool false = Value.bool true)))))
theorem lr0N_eq : lr0N = fun (n : Nat) => vc Try.prog lr0 0 44 true (fun _ => none) lrB [] (argFr 0 [vi n, nilS]) [] (retK Try.prog Try.f6 (fun v _ => v = .bool true)) := by kernel_rfl
noncomputable def lr0H :=
fun (n : Nat) (s : Option Nat) (c : Nat) ↦ (false = true → Ob True ∧ True ∧ Ob (Value.bool true = Value.bool true)) ∧ (false = false → Ob (errD (Arg.plain (vi (↑n : Int))).num [] = (0 : Int)) ∧ Ob ((0 : Nat) ≤ (1000000 : Nat)) ∧ ((errDrops (Arg.plain (vi (↑n : Int))).num [] != (0 : Int)) = true → Ob ((0 : Nat) ≤ (1000000 : Nat)) ∧ Ob ((0 : Nat) ≤ (1000000 : Nat)) ∧ (true = true → (true = true → (((0 : Int) == errDrops (Arg.plain (vi (↑n : Int))).num []) = true → Ob True ∧ True ∧ Ob (Value.bool true = Value.bool true)) ∧ (((0 : Int) == errDrops (Arg.plain (vi (↑n : Int))).num []) = false → True ∧ Ob (Value.bool false = Value.bool true))) ∧ (true = false → True ∧ Ob (Value.bool false = Value.bool true))) ∧ (true = false → True ∧ Ob (Value.bool false = Value.bool true))) ∧ ((errDrops (Arg.plain (vi (↑n : Int))).num [] != (0 : Int)) = false → (decide ((↑n : Int) < (↑(0 : Nat) : Int)) = true → Ob ((0 : Nat) ≤ (1000000 : Nat)) ∧ (true = true → (true = true → (false = true → Ob True ∧ True ∧ Ob (Value.bool true = Value.bool true)) ∧ (false = false → True ∧ Ob (Value.bool false = Value.bool true))) ∧ (true = false → True ∧ Ob (Value.bool false = Value.bool true))) ∧ (true = false → True ∧ Ob (Value.bool false = Value.bool true))) ∧ (decide ((↑n : Int) < (↑(0 : Nat) : Int)) = false → Ob (errD (Arg.plain (vi (↑n : Int))).num [] = (0 : Int)) ∧ Ob ((0 : Nat) ≤ (1000000 : Nat)) ∧ (true = true → (true = true → (true = true → Ob True ∧ True ∧ Ob (Value.bool true = Value.bool true)) ∧ (true = false → True ∧ Ob (Value.bool false = Value.bool true))) ∧ (true = false → True ∧ Ob (Value.bool false = Value.bool true))) ∧ (true = false → True ∧ Ob (Value.bool false = Value.bool true)))))
theorem lr0H_eq : lr0H = fun (n : Nat) (s : Option Nat) (c : Nat) => vc Try.prog lr0 1 44 true (fun _ => none) lrB [] (argFr 0 [vi n, .slice (some ⟨0,0,s⟩) 0 c]) [.gone] (retK Try.prog Try.f6 (fun v _ => v = .bool true)) := by kernel_rfl
theorem errD_is {p : Int} {l : List Int} : errD p l = errDrops p l := by
  unfold errD errDrops
  by_cases h : p < 1 ∨ 8 < p ∨ 12 < l.length
  · rw [if_pos h, if_pos h]
  · rw [if_neg h, if_neg h]
    by_cases h2 : ∀ d ∈ l, 0 ≤ d ∧ d < p
    · rw [if_pos h2, if_pos]
      rw [wiF, decide_eq_true_eq]
      intro x hx
      have := h2 x hx
      omega
    · rw [if_neg h2, if_neg]
      rw [wiF, decide_eq_true_eq]
      exact fun hh => h2 fun d hd => by have := hh d hd; omega
theorem roN_ok (n : Nat) : roN n := by
  unfold roN
  simp only [SS, reduceCtorEq, Arg.list, Arg.num, Arg.flag, intOf, andP, Nat.reduceLeDiff, Nat.reduceAdd, Nat.reduceMul, Nat.reduceLT]
theorem roH_ok (n : Nat) (s : Option Nat) (c : Nat) : roH n s c := by
  unfold roH
  simp only [SS, reduceCtorEq, Arg.list, Arg.num, Arg.flag, intOf, andP, Nat.reduceLeDiff, Nat.reduceAdd, Nat.reduceMul, Nat.reduceLT]
theorem lrXv_ok (p : Int) (l : List Int) (c : Nat) (h : errD p l ≠ 0 ∨ p < l.length) : lrXv p l c := by
  unfold lrXv lrXv_s3 lrXv_s2 lrXv_s1 lrXv_s0
  simp only [SS, reduceCtorEq, Arg.list, Arg.num, Arg.flag, intOf, andP, Nat.reduceLeDiff, Nat.reduceAdd, Nat.reduceMul, Nat.reduceLT, ← errD_is]
  intro h20
  have hl : l.length ≤ 1000000 := by omega
  by_cases he : errD p l = 0
  · have hp : p < (l.length : Int) := h.resolve_left fun k => k he
    simp [he, hl, hp]
  · simp [he, hl]
theorem lrXN_ok (p : Int) (h : errD p [] ≠ 0) : lrXN p := by
  unfold lrXN
  simp only [SS, reduceCtorEq, Arg.list, Arg.num, Arg.flag, intOf, andP, Nat.reduceLeDiff, Nat.reduceAdd, Nat.reduceMul, Nat.reduceLT, ← errD_is]
  simp [h]
theorem lrXH_ok (p : Int) (s : Option Nat) (c : Nat) (h : errD p [] ≠ 0) : lrXH p s c := by
  unfold lrXH
  simp only [SS, reduceCtorEq, Arg.list, Arg.num, Arg.flag, intOf, andP, Nat.reduceLeDiff, Nat.reduceAdd, Nat.reduceMul, Nat.reduceLT, ← errD_is]
  simp [h]
theorem lrVv_ok (n : Nat) (l : List Int) (c : Nat) (he : errD n l = 0) (h0 : 0 < l.length) (hf : l.length ≤ n) : lrVv n l c (runR n l).slid (runR n l).lies := by
  obtain ⟨hn, hb, hl⟩ := pre_ok he
  have la : (runR n l).lies.length = l.length := lies_len hb
  have tk : List.take l.length (runR n l).lies = (runR n l).lies := List.take_of_length_le (by omega)
  unfold lrVv lrVv_s2 lrVv_s1 lrVv_s0
  simp only [SS, reduceCtorEq, Arg.list, Arg.num, Arg.flag, intOf, andP, Nat.reduceLeDiff, Nat.reduceAdd, Nat.reduceMul, Nat.reduceLT, ← errD_is, he, tk, ← List.map_take, la]
  omega
theorem lr0N_ok (n : Nat) (he : errD n [] = 0) : lr0N n := by
  unfold lr0N
  simp only [SS, reduceCtorEq, Arg.list, Arg.num, Arg.flag, intOf, andP, Nat.reduceLeDiff, Nat.reduceAdd, Nat.reduceMul, Nat.reduceLT, ← errD_is, he]
  omega
theorem lr0H_ok (n : Nat) (s : Option Nat) (c : Nat) (he : errD n [] = 0) : lr0H n s c := by
  unfold lr0H
  simp only [SS, reduceCtorEq, Arg.list, Arg.num, Arg.flag, intOf, andP, Nat.reduceLeDiff, Nat.reduceAdd, Nat.reduceMul, Nat.reduceLT, ← errD_is, he]
  omega
theorem good_two {p : Prop} {s : Option Nat} {k c : Nat} {u : Int} {l : List Int} {r : Option Nat} : Fresh.Good ⟨p, fun b => .tuple #[.slice (some ⟨b, 0, s⟩) k c, vi u], fun _ => [.rw (l.map (.int .i64)) r]⟩ where
  val e n := by simp [nmap, nmap2, nmap1, nmap0, am]
  new e n := omap_one
  ro n := mem_one rfl
  nmv n := by simp [nm, nm2, nm1, nm0]
  nmn n := mem_one nm_ints
  scv n := by simp [sc, sc2, sc1, sc0]
  scn n := mem_one sc_ints
theorem roE_ok : VOk Try.prog roE := VOk.ofCt (CtOk.none.add hasG_ok)
theorem rofG_ok : ∀ args H φ v H' l, freshG psA rofS args H = some (φ, v, H', l) → Asks φ → Call Try.prog 76 args H (fun v' H2 => v' = v ∧ H2 = H') ∧ Kept H H' l :=
  freshG_ok fun r s hk hs hψ => match r, hk with
    | [_, _], ⟨⟨p, rfl⟩, ha, _⟩ => by
      rcases ha with rfl | ⟨s, rfl⟩ | ⟨l, rfl⟩ <;> cases hs
      · obtain ⟨n, rfl⟩ : ∃ n : Nat, p = n := errD_pos hψ
        have h := roN_ok n
        rw [roN_eq] at h
        exact ⟨fresh_plain (by simp [nilS, sc, sc2, sc1, sc0]), fun caps => Call.ofVcR roE_ok mixed (c := roB) Try.func76 (by kernel_rfl) h⟩
      · obtain ⟨n, rfl⟩ : ∃ n : Nat, p = n := errD_pos hψ
        refine ⟨fresh_plain (by simp [nilS, sc, sc2, sc1, sc0]), fun caps => ?_⟩
        have h := roH_ok n s (caps 0)
        rw [roH_eq] at h
        exact Call.ofVcR roE_ok mixed (c := roB) Try.func76 (by kernel_rfl) h
      · obtain ⟨n, rfl⟩ : ∃ n : Nat, p = n := errD_pos hψ.1
        refine ⟨good_two, fun caps => ?_⟩
        obtain ⟨hn, hb, hl⟩ := pre_ok hψ.1
        have hf : l.length ≤ n := by have h3 : (l.length : Int) ≤ (n : Int) := hψ.2.2; omega
        have h := roV_ok n l (caps 0) ⟨by have := hψ.2.1; omega, hn⟩ hψ.2.1 hb hf
        rw [roV_eq] at h
        have e : roS n l l.length = runR n l := stI_end (Nat.le_refl _)
        rw [e] at h
        exact Call.ofVc roE_ok mixed (c := roB) Try.func76 (by kernel_rfl) h
theorem lrC_ok : CtOk Try.prog lrC := (((CtOk.none.add worksG_ok).add cdG_ok).add rcdG_ok).add iiG_ok
theorem inl3 {f g k : Nat} {fn gn kn : Func} (h1 : Try.prog.funcs[f]? = some fn) (h2 : Try.prog.funcs[g]? = some gn) (h3 : Try.prog.funcs[k]? = some kn) {a b c : List Value → Heap → Nat → Option LInv} : ∀ e ∈ ([⟨f, fn, a⟩, ⟨g, gn, b⟩, ⟨k, kn, c⟩] : List InlE), Try.prog.funcs[e.f]? = some e.fn := fun e he => by
  rcases List.mem_cons.1 he with rfl | he
  · exact h1
  · exact inl_two h2 h3 e he
theorem lrX_ok : VOk Try.prog lrX := ⟨lrC_ok, ccIn_ok (VOk.ofCt lrC_ok) mixed (inl3 Try.func17 Try.func40 Try.func41), (VOk.ofCt lrC_ok).yc, (VOk.ofCt lrC_ok).orc⟩
theorem lrC2_ok (k : Nat) (s : Int) (la : List Int) : CtOk Try.prog (lrC2 k s la) := (lrC_ok.add (nameCt_ok rndG_ok)).add (nameCt_ok rofG_ok)
theorem lrV_ok (k : Nat) (s : Int) (la : List Int) : VOk Try.prog (lrV k s la) := ⟨lrC2_ok k s la, ccIn_ok (VOk.ofCt (lrC2_ok k s la)) mixed (inl_two Try.func17 Try.func41), (VOk.ofCt lrC_ok).yc, (VOk.ofCt lrC_ok).orc⟩
theorem lrC0_ok : CtOk Try.prog lrC0 := (lrC_ok.add rndG_ok).add rofG_ok
theorem lr0_ok : VOk Try.prog lr0 := ⟨lrC0_ok, ccIn_ok (VOk.ofCt lrC0_ok) mixed (inl_two Try.func17 Try.func41), (VOk.ofCt lrC_ok).yc, (VOk.ofCt lrC_ok).orc⟩
theorem fits_int {k : IntKind} {a : Arg} (h : (PK.int k).fits a) : ∃ n, a = .plain (.int k n) := by
  obtain ⟨n, h, _⟩ := h
  exact ⟨n, h⟩
theorem fits_ints {k : IntKind} {a : Arg} (h : (PK.ints k).fits a) : a = .plain (.slice none 0 0) ∨ (∃ s, a = .hole s) ∨ ∃ l, a = .ints k l ∧ 0 < l.length := by
  rcases h with h | h | ⟨l, h, h2, _⟩
  · exact .inl h
  · exact .inr (.inl h)
  · exact .inr (.inr ⟨l, h, h2⟩)
theorem rounds_small (r : List Arg) (hr : fitsAll [.int .i64, .ints .i64] r) (caps : Nat → Nat) : Call Try.prog 6 (canonA caps 0 r) (canonH r) isTrue := by
  obtain ⟨x, r, rfl, hx, hr⟩ := fits_cons hr
  obtain ⟨y, r, rfl, hy, hr⟩ := fits_cons hr
  obtain rfl := fits_nil hr
  obtain ⟨p, rfl⟩ := fits_int hx
  rcases fits_ints hy with rfl | ⟨s, rfl⟩ | ⟨l, rfl, h0⟩
  · by_cases he : errD p [] = 0
    · obtain ⟨n, rfl⟩ := errD_pos he
      have h := lr0N_ok n he
      rw [lr0N_eq] at h
      exact Call.ofVc lr0_ok mixed (c := lrB) Try.func6 (by kernel_rfl) h
    · have h := lrXN_ok p he
      rw [lrXN_eq] at h
      exact Call.ofVc lrX_ok mixed (c := lrB) Try.func6 (by kernel_rfl) h
  · by_cases he : errD p [] = 0
    · obtain ⟨n, rfl⟩ := errD_pos he
      have h := lr0H_ok n s (caps 0) he
      rw [lr0H_eq] at h
      exact Call.ofVc lr0_ok mixed (c := lrB) Try.func6 (by kernel_rfl) h
    · have h := lrXH_ok p s (caps 0) he
      rw [lrXH_eq] at h
      exact Call.ofVc lrX_ok mixed (c := lrB) Try.func6 (by kernel_rfl) h
  · by_cases he : errD p l = 0 ∧ (l.length : Int) ≤ p
    · obtain ⟨n, rfl⟩ := errD_pos he.1
      have h := lrVv_ok n l (caps 0) he.1 h0 (by have := he.2; omega)
      rw [lrVv_eq] at h
      exact Call.ofVc (lrV_ok ..) mixed (c := lrB) Try.func6 (by kernel_rfl) h
    · have h := lrXv_ok p l (caps 0) (by
        rcases Classical.em (errD p l = 0) with k | k
        · exact .inr (by have := fun q => he ⟨k, q⟩; omega)
        · exact .inl k)
      rw [lrXv_eq] at h
      exact Call.ofVc lrX_ok mixed (c := lrB) Try.func6 (by kernel_rfl) h
theorem rounds_law {K : Type} : ∀ (H : Heap) (avs : List Value) (ds : List (DataW K)), Still H → ReadsAll Try.prog H Try.f6.params.toList avs ds → Call Try.prog 6 avs H fun v _ => v = .bool true :=
  law_of (ps := [.int .i64, .ints .i64]) (by kernel_rfl) rounds_small
end Go.Pier.Lg
