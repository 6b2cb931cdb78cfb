/-
  Pier: PierSkst.
-/
import Derived.Test.YthbcmcmmkmoccaaPierKC3
import Derived.Test.YthbcmcmmkmoccaaPierSlgB
import Derived.KernelRfl
set_option linter.unusedSimpArgs false
set_option linter.unusedVariables false
set_option maxRecDepth 100000
set_option linter.unusedVariables false
set_option linter.unusedSimpArgs false
namespace Go.Pier.Sk
open Go Go.Pier Go.Proofs 
def errT (e : Int) : Value := .tuple #[nilS, vi e]
noncomputable def finC (m : List Int) (z : Bool) (v : Value) (H : Heap) : Prop := (errK m z ≠ 0 → v = errT (errK m z)) ∧ (errK m z = 0 → ∃ b, 1 ≤ b ∧ v = .tuple #[newS b ((allL m z).length / 2), vi 0] ∧ H[0]? = some (ros m) ∧ H[b]? = some (rowP (allL m z)))
noncomputable def csB : Code := Try.f7.body.getD .skip
noncomputable def rsB : Code := Try.f8.body.getD .skip
noncomputable def csE : VEnv := { ct := Ct.none.add 9 (pure3 psK knS), cc := caC 35 }
noncomputable def rsE : VEnv := { ct := Ct.none.add 10 (pure3 psK knS), cc := caC 36 }
noncomputable def csV_s0 (m : List Int) (c : Nat) (z : Bool) := (List.map (Value.int IntKind.i64) m)
noncomputable def csV :=
fun (m : List Int) (c : Nat) (z : Bool) ↦ Ob ((true = true ∧ Flat (csV_s0 m c z)) ∧ okM (Leaf.view (csV_s0 m c z) m.length false)) ∧ ((errK (intsOf (csV_s0 m c z)) z != (0 : Int)) = true → True ∧ Ob (finC m z (Value.tuple { toList := [Value.slice none (0 : Nat) (0 : Nat), vi (errK (intsOf (csV_s0 m c z)) z)] }) [AObj.ro (csV_s0 m c z), AObj.rw [Value.slice (some (ad0 0)) m.length c, Value.bool z] none])) ∧ ((errK (intsOf (csV_s0 m c z)) z != (0 : Int)) = false → (true = true ∧ (csV_s0 m c z).all (sc1 (0 : Nat)) = true) ∧ (List.map (Value.int IntKind.i64) m = List.map (Value.int IntKind.i64) (intsOf (csV_s0 m c z)) ∧ (csV_s0 m c z).length = m.length ∧ m.length.le (1000 : Nat)) ∧ (allL (intsOf (csV_s0 m c z)) z = [] → True ∧ Ob (finC m z (Value.tuple { toList := [Value.slice none (0 : Nat) (0 : Nat), vi (0 : Int)] }) [AObj.ro (csV_s0 m c z), AObj.rw [Value.slice (some (ad0 0)) m.length c, Value.bool z] none])) ∧ ((allL (intsOf (csV_s0 m c z)) z = [] → False) → True ∧ Ob (finC m z (Value.tuple { toList := [Value.slice (some { block := (2 : Nat), off := (0 : Nat), spot := some (0 : Nat) }) ((allL (intsOf (csV_s0 m c z)) z).length / (2 : Nat)) (0 : Nat), vi (0 : Int)] }) [AObj.ro (csV_s0 m c z), AObj.rw [Value.slice (some (ad0 0)) m.length c, Value.bool z] none, AObj.rw (List.map (Value.int IntKind.i64) (allL (intsOf (csV_s0 m c z)) z)) (some (2 : Nat))])))
theorem csV_eq : csV = fun (m : List Int) (c : Nat) (z : Bool) => vc Try.prog csE 1 12 true (fun _ => none) csB [] (argFr 0 [knV (some ⟨0,0,none⟩) m.length c z]) [ros m] (retK Try.prog Try.f7 (finC m z)) := by kernel_rfl
noncomputable def csN :=
fun (z : Bool) ↦ Ob True ∧ (true = true → True ∧ Ob (Value.tuple { toList := [Value.slice none (0 : Nat) (0 : Nat), vi (6 : Int)] } = Value.tuple { toList := [Value.slice none (0 : Nat) (0 : Nat), vi (6 : Int)] })) ∧ (true = false → False)
theorem csN_eq : csN = fun (z : Bool) => vc Try.prog csE 0 12 true (fun _ => none) csB [] (argFr 0 [knV none 0 0 z]) [] (retK Try.prog Try.f7 (fun v _ => v = errT 6)) := by kernel_rfl
noncomputable def csH :=
fun (c : Nat) (s : Option Nat) (z : Bool) ↦ Ob True ∧ (true = true → True ∧ Ob (Value.tuple { toList := [Value.slice none (0 : Nat) (0 : Nat), vi (6 : Int)] } = Value.tuple { toList := [Value.slice none (0 : Nat) (0 : Nat), vi (6 : Int)] })) ∧ (true = false → False)
theorem csH_eq : csH = fun (c : Nat) (s : Option Nat) (z : Bool) => vc Try.prog csE 1 12 true (fun _ => none) csB [] (argFr 0 [knV (some ⟨0,0,s⟩) 0 c z]) [.gone] (retK Try.prog Try.f7 (fun v _ => v = errT 6)) := by kernel_rfl
noncomputable def rsV_s0 (m : List Int) (c : Nat) (z : Bool) := (List.map (Value.int IntKind.i64) m)
noncomputable def rsV :=
fun (m : List Int) (c : Nat) (z : Bool) ↦ Ob ((true = true ∧ Flat (rsV_s0 m c z)) ∧ okM (Leaf.view (rsV_s0 m c z) m.length false)) ∧ ((errK (intsOf (rsV_s0 m c z)) z != (0 : Int)) = true → Ob ((true = true ∧ Flat (rsV_s0 m c z)) ∧ okM (Leaf.view (rsV_s0 m c z) m.length false)) ∧ True ∧ Ob (finC m z (Value.tuple { toList := [Value.slice none (0 : Nat) (0 : Nat), vi (errK (intsOf (rsV_s0 m c z)) z)] }) [AObj.ro (rsV_s0 m c z), AObj.rw [Value.slice (some (ad0 0)) m.length c, Value.bool z] none])) ∧ ((errK (intsOf (rsV_s0 m c z)) z != (0 : Int)) = false → (true = true ∧ (rsV_s0 m c z).all (sc1 (0 : Nat)) = true) ∧ (List.map (Value.int IntKind.i64) m = List.map (Value.int IntKind.i64) (intsOf (rsV_s0 m c z)) ∧ (rsV_s0 m c z).length = m.length ∧ m.length.le (1000 : Nat)) ∧ (allL (intsOf (rsV_s0 m c z)) z = [] → True ∧ Ob (finC m z (Value.tuple { toList := [Value.slice none (0 : Nat) (0 : Nat), vi (0 : Int)] }) [AObj.ro (rsV_s0 m c z), AObj.rw [Value.slice (some (ad0 0)) m.length c, Value.bool z] none])) ∧ ((allL (intsOf (rsV_s0 m c z)) z = [] → False) → True ∧ Ob (finC m z (Value.tuple { toList := [Value.slice (some { block := (2 : Nat), off := (0 : Nat), spot := some (0 : Nat) }) ((allL (intsOf (rsV_s0 m c z)) z).length / (2 : Nat)) (0 : Nat), vi (0 : Int)] }) [AObj.ro (rsV_s0 m c z), AObj.rw [Value.slice (some (ad0 0)) m.length c, Value.bool z] none, AObj.rw (List.map (Value.int IntKind.i64) (allL (intsOf (rsV_s0 m c z)) z)) (some (2 : Nat))])))
theorem rsV_eq : rsV = fun (m : List Int) (c : Nat) (z : Bool) => vc Try.prog rsE 1 11 true (fun _ => none) rsB [] (argFr 0 [knV (some ⟨0,0,none⟩) m.length c z]) [ros m] (retK Try.prog Try.f8 (finC m z)) := by kernel_rfl
noncomputable def rsN :=
fun (z : Bool) ↦ Ob True ∧ (true = true → Ob True ∧ True ∧ Ob (Value.tuple { toList := [Value.slice none (0 : Nat) (0 : Nat), vi (6 : Int)] } = Value.tuple { toList := [Value.slice none (0 : Nat) (0 : Nat), vi (6 : Int)] })) ∧ (true = false → False)
theorem rsN_eq : rsN = fun (z : Bool) => vc Try.prog rsE 0 11 true (fun _ => none) rsB [] (argFr 0 [knV none 0 0 z]) [] (retK Try.prog Try.f8 (fun v _ => v = errT 6)) := by kernel_rfl
noncomputable def rsH :=
fun (c : Nat) (s : Option Nat) (z : Bool) ↦ Ob True ∧ (true = true → Ob True ∧ True ∧ Ob (Value.tuple { toList := [Value.slice none (0 : Nat) (0 : Nat), vi (6 : Int)] } = Value.tuple { toList := [Value.slice none (0 : Nat) (0 : Nat), vi (6 : Int)] })) ∧ (true = false → False)
theorem rsH_eq : rsH = fun (c : Nat) (s : Option Nat) (z : Bool) => vc Try.prog rsE 1 11 true (fun _ => none) rsB [] (argFr 0 [knV (some ⟨0,0,s⟩) 0 c z]) [.gone] (retK Try.prog Try.f8 (fun v _ => v = errT 6)) := by kernel_rfl
noncomputable def leB : Code := Try.f11.body.getD .skip
noncomputable def leO : Orc := orcOr (orcLd Try.prog) (orcEq2 34)
noncomputable def leE : VEnv := { orc := leO }
def leI (l : List Int) (n c d : Nat) : Nat → Option LInv := invOf 0 (LInv.one Nat (fun i => i ≤ n) (fun i => [(0, .slice (some ⟨0,0,none⟩) n c), (1, .slice (some ⟨1,0,none⟩) n d), (4, .bool false), (5, vi i)]) (fun _ => [ros l, ros l]) (fun i => n - i))
noncomputable def leV_s0 (l : List Int) (n c d : Nat) (x : Nat) := (!(getI (List.map (Value.int IntKind.i64) l) ((0 : Nat) + (↑x : Int).toNat * (2 : Nat)) == getI (List.map (Value.int IntKind.i64) l) ((0 : Nat) + (↑x : Int).toNat * (2 : Nat)) && getI (List.map (Value.int IntKind.i64) l) ((0 : Nat) + (↑x : Int).toNat * (2 : Nat) + (1 : Nat)) == getI (List.map (Value.int IntKind.i64) l) ((0 : Nat) + (↑x : Int).toNat * (2 : Nat) + (1 : Nat))))
noncomputable def leV_s1 (l : List Int) (n c d : Nat) := (List.map (Value.int IntKind.i64) l)
noncomputable def leV :=
fun (l : List Int) (n c d : Nat) ↦ (((↑n : Int) != (↑n : Int)) = true → True ∧ Ob (Value.bool false = Value.bool true)) ∧ (((↑n : Int) != (↑n : Int)) = false → (∃ (y : Nat), Ob (y ≤ n) ∧ (Ob (AObj.ro (leV_s1 l n c d) = AObj.ro (List.map (nmap1 fun (b : Nat) ↦ b) (leV_s1 l n c d)) ∧ AObj.sc (2 : Nat) (AObj.ro (leV_s1 l n c d)) = true) ∧ Ob (AObj.ro (leV_s1 l n c d) = AObj.ro (List.map (nmap1 fun (b : Nat) ↦ b) (leV_s1 l n c d)) ∧ AObj.sc (2 : Nat) (AObj.ro (leV_s1 l n c d)) = true) ∧ True) ∧ Ob (Value.slice (some (ad0 0)) n c = Value.slice (some (ad0 0)) n c) ∧ Ob (Value.slice (some (ad0 1)) n d = Value.slice (some (ad0 1)) n d) ∧ Ob (false = false) ∧ Ob ((0 : Int) = (↑y : Int)) ∧ True) ∧ ∀ (x : Nat), Ob (x ≤ n) → (decide ((↑x : Int) < (↑n : Int)) = true → Ob ((0 : Int) ≤ (↑x : Int) ∧ (↑x : Int) < (↑n : Int) ∧ true = true) ∧ Ob (ckAsk [CK.i IntKind.i64, CK.i IntKind.i64] (leV_s1 l n c d) ((0 : Nat) + (↑x : Int).toNat * (2 : Nat))) ∧ Ob ((0 : Int) ≤ (↑x : Int) ∧ (↑x : Int) < (↑n : Int) ∧ true = true) ∧ Ob (ckAsk [CK.i IntKind.i64, CK.i IntKind.i64] (leV_s1 l n c d) ((0 : Nat) + (↑x : Int).toNat * (2 : Nat))) ∧ Ob True ∧ ((leV_s0 l n c d x) = true → True ∧ Ob (Value.bool false = Value.bool true)) ∧ ((leV_s0 l n c d x) = false → ∃ (y : Nat), Ob (y ≤ n) ∧ Ob (n - y < n - x) ∧ (Ob (AObj.ro (leV_s1 l n c d) = AObj.ro (List.map (nmap1 fun (b : Nat) ↦ b) (leV_s1 l n c d)) ∧ AObj.sc (2 : Nat) (AObj.ro (leV_s1 l n c d)) = true) ∧ Ob (AObj.ro (leV_s1 l n c d) = AObj.ro (List.map (nmap1 fun (b : Nat) ↦ b) (leV_s1 l n c d)) ∧ AObj.sc (2 : Nat) (AObj.ro (leV_s1 l n c d)) = true) ∧ True) ∧ Ob (Value.slice (some (ad0 0)) n c = Value.slice (some (ad0 0)) n c) ∧ Ob (Value.slice (some (ad0 1)) n d = Value.slice (some (ad0 1)) n d) ∧ Ob (false = false) ∧ Ob (IntKind.i64.wrap ((↑x : Int) + (1 : Int)) = (↑y : Int)) ∧ True)) ∧ (decide ((↑x : Int) < (↑n : Int)) = false → True ∧ Ob (Value.bool true = Value.bool true)))
theorem leV_eq : leV = fun (l : List Int) (n c d : Nat) => vc Try.prog leE 2 26 true (leI l n c d) leB [] (argFr 0 [.slice (some ⟨0,0,none⟩) n c, .slice (some ⟨1,0,none⟩) n d]) [ros l, ros l] (retK Try.prog Try.f11 (fun v _ => v = .bool true)) := by kernel_rfl
noncomputable def leN :=
fun (x : Unit) ↦ (false = true → True ∧ Ob (Value.bool false = Value.bool true)) ∧ (false = false → (∃ (y : Unit), Ob True ∧ True ∧ Ob (Value.slice none (0 : Nat) (0 : Nat) = Value.slice none (0 : Nat) (0 : Nat)) ∧ Ob (Value.slice none (0 : Nat) (0 : Nat) = Value.slice none (0 : Nat) (0 : Nat)) ∧ Ob (false = false) ∧ Ob ((0 : Int) = (0 : Int)) ∧ True) ∧ ∀ (xq : Unit), Ob True → (false = true → False) ∧ (false = false → True ∧ Ob (Value.bool true = Value.bool true)))
theorem leN_eq : leN = fun (_ : Unit) => vc Try.prog leE 0 26 true (invOf 0 (LInv.one Unit (fun _ => True) (fun _ => [(0, nilS), (1, nilS), (4, .bool false), (5, vi 0)]) (fun _ => []) (fun _ => 0))) leB [] (argFr 0 [nilS, nilS]) [] (retK Try.prog Try.f11 (fun v _ => v = .bool true)) := by kernel_rfl
noncomputable def csC (f0 : Nat) : Cc := fun f args H => match Nat.beq f f0 with
  | true => match to3 H psK args with
    | some (φ, [.agg [.view cs n r, .plain (.bool z)]]) => some fun Q => Asks φ ∧ okM (.view cs n r) ∧ (errK (intsOf cs) z ≠ 0 → Q (errT (errK (intsOf cs) z)) H) ∧ (errK (intsOf cs) z = 0 → Q (.tuple #[newS H.length ((allL (intsOf cs) z).length / 2), vi 0]) (H ++ [rowP (allL (intsOf cs) z)]))
    | some (φ, [.agg [_, .plain (.bool _)]]) => some fun Q => Asks φ ∧ Q (errT 6) H
    | _ => none
  | false => none
abbrev psC : List K3 := [.one (.rows [.i .i64, .i .i64] false), .one (.rows [.i .i64, .i .i64] false)]
def leS : List Arg3 → Option (Prop × Value)
  | [.one (.plain _), .one (.plain _)] => some (True, .bool true)
  | [.one (.view cs n _), .one (.view ds k _)] => some ((cs = ds ∧ n = k) ∧ cs = (intsOf cs).map (.int .i64) ∧ cs.length = n * 2 ∧ n ≤ 100000, .bool true)
  | _ => none
noncomputable def knB : Code := Try.f3.body.getD .skip
def worksS (r : List Arg) : Prop × Value := match r with | [] => (True, .bool true) | _ => (False, undef)
noncomputable def knT : Ct := (((Ct.none.add 6 (pureG [] worksS)).add 9 (pure3 psK knS)).add 10 (pure3 psK knS)).add 11 (pure3 psC leS)
noncomputable def knE : VEnv := { ct := knT, cc := ccOr (csC 7) (ccOr (csC 8) (ccIn Try.prog {} [⟨5, Try.f5, fun _ _ _ => none⟩])) }
noncomputable def knV3_s0 (m : List Int) (c : Nat) (z : Bool) := (List.map (Value.int IntKind.i64) m)
noncomputable def knV3_s1 (m : List Int) (c : Nat) (z : Bool) := (Leaf.view (knV3_s0 m c z) m.length false)
noncomputable def knV3_s2 (m : List Int) (c : Nat) (z : Bool) := (List.map (Value.int IntKind.i64) (allL (intsOf (knV3_s0 m c z)) z))
noncomputable def knV3 :=
fun (m : List Int) (c : Nat) (z : Bool) ↦ (decide ((16 : Int) < (↑m.length : Int)) = true → Ob True ∧ True ∧ Ob (Value.bool true = Value.bool true)) ∧ (decide ((16 : Int) < (↑m.length : Int)) = false → (true = true ∧ (knV3_s0 m c z).all (sc1 (0 : Nat)) = true) ∧ (List.map (Value.int IntKind.i64) m = List.map (Value.int IntKind.i64) (intsOf (knV3_s0 m c z)) ∧ (knV3_s0 m c z).length = m.length ∧ m.length.le (1000 : Nat)) ∧ ((errK (intsOf (knV3_s0 m c z)) z = (0 : Int) → False) → (true = true ∧ (knV3_s0 m c z).all (sc1 (0 : Nat)) = true) ∧ (List.map (Value.int IntKind.i64) m = List.map (Value.int IntKind.i64) (intsOf (knV3_s0 m c z)) ∧ (knV3_s0 m c z).length = m.length ∧ m.length.le (1000 : Nat)) ∧ ((errK (intsOf (knV3_s0 m c z)) z = (0 : Int) → False) → Ob ((true = true ∧ Flat (knV3_s0 m c z)) ∧ okM (knV3_s1 m c z)) ∧ Ob ((true = true ∧ Flat (knV3_s0 m c z)) ∧ okM (knV3_s1 m c z)) ∧ ((errK (intsOf (knV3_s0 m c z)) z == errK (intsOf (knV3_s0 m c z)) z) = true → Ob True ∧ (true = true → ((errK (intsOf (knV3_s0 m c z)) z == errK (intsOf (knV3_s0 m c z)) z) = true → Ob True ∧ True ∧ Ob (Value.bool true = Value.bool true)) ∧ ((errK (intsOf (knV3_s0 m c z)) z == errK (intsOf (knV3_s0 m c z)) z) = false → True ∧ Ob (Value.bool false = Value.bool true))) ∧ (true = false → True ∧ Ob (Value.bool false = Value.bool true))) ∧ ((errK (intsOf (knV3_s0 m c z)) z == errK (intsOf (knV3_s0 m c z)) z) = false → True ∧ Ob (Value.bool false = Value.bool true))) ∧ (errK (intsOf (knV3_s0 m c z)) z = (0 : Int) → Ob ((true = true ∧ Flat (knV3_s0 m c z)) ∧ okM (knV3_s1 m c z)) ∧ Ob ((true = true ∧ Flat (knV3_s0 m c z)) ∧ okM (knV3_s1 m c z)) ∧ ((errK (intsOf (knV3_s0 m c z)) z == errK (intsOf (knV3_s0 m c z)) z) = true → False) ∧ ((errK (intsOf (knV3_s0 m c z)) z == errK (intsOf (knV3_s0 m c z)) z) = false → True ∧ Ob (Value.bool false = Value.bool true)))) ∧ (errK (intsOf (knV3_s0 m c z)) z = (0 : Int) → (true = true ∧ (knV3_s0 m c z).all (sc1 (0 : Nat)) = true) ∧ (List.map (Value.int IntKind.i64) m = List.map (Value.int IntKind.i64) (intsOf (knV3_s0 m c z)) ∧ (knV3_s0 m c z).length = m.length ∧ m.length.le (1000 : Nat)) ∧ ((errK (intsOf (knV3_s0 m c z)) z = (0 : Int) → False) → Ob ((true = true ∧ Flat (knV3_s0 m c z)) ∧ okM (knV3_s1 m c z)) ∧ Ob ((true = true ∧ Flat (knV3_s0 m c z)) ∧ okM (knV3_s1 m c z)) ∧ ((errK (intsOf (knV3_s0 m c z)) z == errK (intsOf (knV3_s0 m c z)) z) = true → False) ∧ ((errK (intsOf (knV3_s0 m c z)) z == errK (intsOf (knV3_s0 m c z)) z) = false → True ∧ Ob (Value.bool false = Value.bool true))) ∧ (errK (intsOf (knV3_s0 m c z)) z = (0 : Int) → Ob ((true = true ∧ Flat (knV3_s0 m c z)) ∧ okM (knV3_s1 m c z)) ∧ Ob ((true = true ∧ Flat (knV3_s0 m c z)) ∧ okM (knV3_s1 m c z)) ∧ ((errK (intsOf (knV3_s0 m c z)) z == errK (intsOf (knV3_s0 m c z)) z) = true → Ob (((true = true ∧ Flat (knV3_s2 m c z)) ∧ true = true ∧ Flat (knV3_s2 m c z)) ∧ (List.map (Value.int IntKind.i64) (allL (intsOf (knV3_s0 m c z)) z) = List.map (Value.int IntKind.i64) (allL (intsOf (knV3_s0 m c z)) z) ∧ (allL (intsOf (knV3_s0 m c z)) z).length / (2 : Nat) = (allL (intsOf (knV3_s0 m c z)) z).length / (2 : Nat)) ∧ List.map (Value.int IntKind.i64) (allL (intsOf (knV3_s0 m c z)) z) = List.map (Value.int IntKind.i64) (intsOf (knV3_s2 m c z)) ∧ (knV3_s2 m c z).length = (allL (intsOf (knV3_s0 m c z)) z).length / (2 : Nat) * (2 : Nat) ∧ (allL (intsOf (knV3_s0 m c z)) z).length / (2 : Nat) ≤ (100000 : Nat)) ∧ (true = true → (true = true → Ob True ∧ True ∧ Ob (Value.bool true = Value.bool true)) ∧ (true = false → True ∧ Ob (Value.bool false = Value.bool true))) ∧ (true = false → True ∧ Ob (Value.bool false = Value.bool true))) ∧ ((errK (intsOf (knV3_s0 m c z)) z == errK (intsOf (knV3_s0 m c z)) z) = false → True ∧ Ob (Value.bool false = Value.bool true)))))
theorem knV3_eq : knV3 = fun (m : List Int) (c : Nat) (z : Bool) => vc Try.prog knE 1 38 true (fun _ => none) knB [] (argFr 0 [knV (some ⟨0,0,none⟩) m.length c z]) [ros m] (retK Try.prog Try.f3 (fun v _ => v = .bool true)) := by kernel_rfl
noncomputable def knN3 :=
fun (z : Bool) ↦ (false = true → Ob True ∧ True ∧ Ob (Value.bool true = Value.bool true)) ∧ (false = false → True ∧ True ∧ Ob True ∧ Ob True ∧ (true = true → Ob True ∧ (true = true → (true = true → Ob True ∧ True ∧ Ob (Value.bool true = Value.bool true)) ∧ (true = false → True ∧ Ob (Value.bool false = Value.bool true))) ∧ (true = false → True ∧ Ob (Value.bool false = Value.bool true))) ∧ (true = false → True ∧ Ob (Value.bool false = Value.bool true)))
theorem knN3_eq : knN3 = fun (z : Bool) => vc Try.prog knE 0 38 true (fun _ => none) knB [] (argFr 0 [knV none 0 0 z]) [] (retK Try.prog Try.f3 (fun v _ => v = .bool true)) := by kernel_rfl
noncomputable def knH3 :=
fun (c : Nat) (s : Option Nat) (z : Bool) ↦ (false = true → Ob True ∧ True ∧ Ob (Value.bool true = Value.bool true)) ∧ (false = false → True ∧ True ∧ Ob True ∧ Ob True ∧ (true = true → Ob True ∧ (true = true → (true = true → Ob True ∧ True ∧ Ob (Value.bool true = Value.bool true)) ∧ (true = false → True ∧ Ob (Value.bool false = Value.bool true))) ∧ (true = false → True ∧ Ob (Value.bool false = Value.bool true))) ∧ (true = false → True ∧ Ob (Value.bool false = Value.bool true)))
theorem knH3_eq : knH3 = fun (c : Nat) (s : Option Nat) (z : Bool) => vc Try.prog knE 1 38 true (fun _ => none) knB [] (argFr 0 [knV (some ⟨0,0,s⟩) 0 c z]) [.gone] (retK Try.prog Try.f3 (fun v _ => v = .bool true)) := by kernel_rfl


theorem errK_cases {m : List Int} {z : Bool} (h : errK m z = 0) : (1 ≤ m.length ∧ m.length ≤ 12) ∧ ¬ allL m z = [] := by
  unfold errK at h
  split at h
  · cases h
  split at h
  · cases h
  split at h
  · cases h
  rename_i h1 _ h3
  rw [Bool.not_eq_true] at h3
  exact ⟨by omega, of_dBf h3⟩
theorem csV_ok (m : List Int) (c : Nat) (z : Bool) (hm : m.length ≤ 1000) : csV m c z := by
  unfold csV csV_s0
  simp only [SS, reduceCtorEq, Arg.list, Arg.num, Arg.flag, intOf, andP, Nat.reduceLeDiff, Nat.reduceAdd, Nat.reduceMul, Nat.reduceLT, Asks]
  exact ⟨⟨flat_ints, okM_ints hm⟩, fun h => ⟨fun _ => rfl, fun k => absurd k h⟩, fun h => ⟨flat_ints, hm, fun k => absurd k (errK_cases h).2, fun _ => ⟨fun k => absurd h k, fun _ => ⟨2, by omega, rfl, rfl, rfl⟩⟩⟩⟩
theorem rsV_ok (m : List Int) (c : Nat) (z : Bool) (hm : m.length ≤ 1000) : rsV m c z := by
  unfold rsV rsV_s0
  simp only [SS, reduceCtorEq, Arg.list, Arg.num, Arg.flag, intOf, andP, Nat.reduceLeDiff, Nat.reduceAdd, Nat.reduceMul, Nat.reduceLT, Asks]
  exact ⟨⟨flat_ints, okM_ints hm⟩, fun h => ⟨⟨flat_ints, okM_ints hm⟩, fun _ => rfl, fun k => absurd k h⟩, fun h => ⟨flat_ints, hm, fun k => absurd k (errK_cases h).2, fun _ => ⟨fun k => absurd h k, fun _ => ⟨2, by omega, rfl, rfl, rfl⟩⟩⟩⟩
theorem csN_ok (z : Bool) : csN z := by
  unfold csN
  simp only [SS, reduceCtorEq, Arg.list, Arg.num, Arg.flag, intOf, andP, Nat.reduceLeDiff, Nat.reduceAdd, Nat.reduceMul, Nat.reduceLT, errT]
theorem rsN_ok (z : Bool) : rsN z := by
  unfold rsN
  simp only [SS, reduceCtorEq, Arg.list, Arg.num, Arg.flag, intOf, andP, Nat.reduceLeDiff, Nat.reduceAdd, Nat.reduceMul, Nat.reduceLT, errT]
theorem csH_ok (c : Nat) (s : Option Nat) (z : Bool) : csH c s z := by
  unfold csH
  simp only [SS, reduceCtorEq, Arg.list, Arg.num, Arg.flag, intOf, andP, Nat.reduceLeDiff, Nat.reduceAdd, Nat.reduceMul, Nat.reduceLT, errT]
theorem rsH_ok (c : Nat) (s : Option Nat) (z : Bool) : rsH c s z := by
  unfold rsH
  simp only [SS, reduceCtorEq, Arg.list, Arg.num, Arg.flag, intOf, andP, Nat.reduceLeDiff, Nat.reduceAdd, Nat.reduceMul, Nat.reduceLT, errT]
theorem leV_ok (l : List Int) (n c d : Nat) (hl : l.length = n * 2) (hn : n ≤ 100000) : leV l n c d := by
  unfold leV leV_s1 leV_s0
  simp only [SS, reduceCtorEq, Arg.list, Arg.num, Arg.flag, intOf, andP, Nat.reduceLeDiff, Nat.reduceAdd, Nat.reduceMul, Nat.reduceLT, ckAsk, CK.ask]
  exact ⟨⟨0, by omega, rfl⟩, fun x hx h => ⟨by omega, ⟨by omega, by omega⟩, by omega, ⟨by omega, by omega⟩, fun k => (by cases k), fun _ => ⟨x + 1, by omega, by omega, wrap_succ (n := n) (by omega) (by omega)⟩⟩⟩
theorem leN_ok (u : Unit) : leN u := by
  unfold leN
  simp only [SS, reduceCtorEq, Arg.list, Arg.num, Arg.flag, intOf, andP, Nat.reduceLeDiff, Nat.reduceAdd, Nat.reduceMul, Nat.reduceLT]
theorem knV3_ok (m : List Int) (c : Nat) (z : Bool) : knV3 m c z := by
  unfold knV3 knV3_s2 knV3_s1 knV3_s0
  simp only [SS, reduceCtorEq, Arg.list, Arg.num, Arg.flag, intOf, andP, Nat.reduceLeDiff, Nat.reduceAdd, Nat.reduceMul, Nat.reduceLT, Asks, errT]
  intro h
  have f : Flat (List.map (Value.int .i64) m) := flat_ints
  have hm : m.length ≤ 1000 := by omega
  have fo : Flat (List.map (Value.int .i64) m) ∧ okM (.view (List.map (Value.int .i64) m) m.length false) := ⟨f, okM_ints hm⟩
  refine ⟨f, hm, fun h1 => ⟨f, hm, fun _ => ⟨fo, fo⟩, h1⟩, fun h1 => ⟨f, hm, fun k => k h1, fun _ => ⟨fo, fo, ⟨flat_ints, flat_ints⟩, ?_, ?_⟩⟩⟩
  · have := all_len (m := m) (z := z); omega
  · have h2 := (ca_len (m := m) m.length).2
    have h3 : (allL m z).length ≤ 4 * m.length + 2 := by
      unfold allL
      cases z <;> simp <;> omega
    omega
theorem knN3_ok (z : Bool) : knN3 z := by
  unfold knN3
  simp only [SS, reduceCtorEq, Arg.list, Arg.num, Arg.flag, intOf, andP, Nat.reduceLeDiff, Nat.reduceAdd, Nat.reduceMul, Nat.reduceLT, Asks, errT]
theorem knH3_ok (c : Nat) (s : Option Nat) (z : Bool) : knH3 c s z := by
  unfold knH3
  simp only [SS, reduceCtorEq, Arg.list, Arg.num, Arg.flag, intOf, andP, Nat.reduceLeDiff, Nat.reduceAdd, Nat.reduceMul, Nat.reduceLT, Asks, errT]
structure CsCalls (f : FuncId) : Prop where
  v : ∀ m c z, m.length ≤ 1000 → Call Try.prog f [knV (some ⟨0,0,none⟩) m.length c z] [ros m] (finC m z)
  n : ∀ z, Call Try.prog f [knV none 0 0 z] [] fun v _ => v = errT 6
  h : ∀ c s z, Call Try.prog f [knV (some ⟨0,0,s⟩) 0 c z] [.gone] fun v _ => v = errT 6
theorem errT_sc {e : Int} : sc 0 (errT e) = true := by simp [errT, sc, sc2, sc1, sc0, nilS]
theorem csC_ok {f0 : FuncId} (C : CsCalls f0) : CcOk Try.prog (csC f0) := fun f args H T h Q hT => by
  unfold csC at h
  split at h <;> try (cases h; done)
  rename_i hf
  obtain rfl := Nat.eq_of_beq_eq_true hf
  split at h <;> try (cases h; done)
  · cases h
    rename_i φ cs n r z ht
    obtain ⟨h1, h2, h3, h4⟩ := hT
    have hr := to3_ok ht h1
    obtain ⟨e1, e2⟩ := view_ros h2
    have hc : ∀ caps : Nat → Nat, Call Try.prog f (canon3 caps 0 [.agg [.view cs n r, .plain (.bool z)]]) (canonH3 [.agg [.view cs n r, .plain (.bool z)]]) (finC (intsOf cs) z) := fun caps => by
      have k := C.v (intsOf cs) (caps 0) z (by rw [e1]; exact h2.2.2)
      rw [e1] at k
      show Call Try.prog f _ [AObj.ro cs] _
      rw [e2]
      exact k
    by_cases he : errK (intsOf cs) z = 0
    · refine (Call.of3New (mk := fun b => .tuple #[newS b ((allL (intsOf cs) z).length / 2), vi 0]) (N := [rowP (allL (intsOf cs) z)]) (fun caps _ => ?_) row_plain (fun ρ b ρ' c ha => ?_) ?_ hr).mono fun v H' hv => ?_
      · have hH : canonH3 [.agg [.view cs n r, .plain (.bool z)]] = [ros (intsOf cs)] := by show [AObj.ro cs] = _; rw [e2]
        rw [hH]
        have k := hc caps
        rw [hH] at k
        refine Call.anew (k.mono fun v H' hk => ?_)
        obtain ⟨b, hb, rfl, g0, g1⟩ := hk.2 he
        refine ⟨nsub 1 b, .tuple #[newS 1 _, vi 0], [ros (intsOf cs), rowP (allL (intsOf cs) z)], ⟨by simp, fun b' hb' => ?_, fun b' o ho => ?_, fun b1 b2 o h1 h2 _ _ _ he => ?_, fun b' o ho => ?_⟩, ?_, ?_, rfl, rfl⟩
        · have : b' = 0 := by simp at hb'; omega
          subst this; rfl
        · right
          rcases b' with _ | _ | b'
          · cases ho
            rw [show nsub 1 b 0 = 0 from rfl, g0]
            simp only [omap, ros, map_nmap_int]
          · cases ho
            rw [show nsub 1 b (0 + 1) = b from rfl, g1]
            simp only [omap, rowP, map_nmap_int]
          · simp at ho
        · simp at h1 h2
          rcases b1 with _ | _ | b1 <;> rcases b2 with _ | _ | b2 <;> first | rfl | omega | (simp [nsub, Nat.beq] at he; omega)
        · rcases b' with _ | _ | b'
          · cases ho; exact sc_ro_int
          · cases ho; exact sc_rw_int
          · simp at ho
        · simp [nmap, nmap2, nmap1, nmap0, newS, am, nsub, Nat.beq]
        · simp [sc, sc2, sc1, sc0, newS]
      · have e := new_alike (k := (allL (intsOf cs) z).length / 2) ha
        show Value.tuple (Array.map (ren2 ρ) _) = Value.tuple (Array.map (ren2 ρ') _)
        have e' : ren2 ρ (newS b ((allL (intsOf cs) z).length / 2)) = ren2 ρ' (newS c ((allL (intsOf cs) z).length / 2)) := e
        simp only [List.map_toArray, List.map_cons, List.map_nil, e']
        rfl
      · simp [sc, sc2, sc1, sc0, newS]
      · obtain ⟨rfl, rfl⟩ := hv
        exact h4 he
    · refine (Call.of3 (v0 := errT (errK (intsOf cs) z)) (fun caps _ => (hc caps).mono fun v H' hk => hk.1 he) errT_sc hr).mono fun v H' hv => ?_
      obtain ⟨rfl, rfl⟩ := hv
      exact h3 he
  · cases h
    rename_i φ lf z hlf ht
    obtain ⟨h1, h2⟩ := hT
    have hr := to3_ok ht h1
    have hk := to3_kind ht
    obtain ⟨lf', z', e, hl⟩ := kinds_kn rfl hk
    cases e
    have hc : ∀ caps : Nat → Nat, Call Try.prog f (canon3 caps 0 [.agg [lf, .plain (.bool z)]]) (canonH3 [.agg [lf, .plain (.bool z)]]) fun v _ => v = errT 6 := fun caps => by
      rcases hl with rfl | ⟨s, rfl⟩ | ⟨cs, n, rfl⟩
      · exact C.n z
      · exact C.h (caps 0) s z
      · exact absurd rfl (hlf _ _ _)
    refine (Call.of3 (v0 := errT 6) (fun caps _ => hc caps) errT_sc hr).mono fun v H' hv => ?_
    obtain ⟨rfl, rfl⟩ := hv
    exact h2
theorem csE_ok : VOk Try.prog csE := ⟨CtOk.none.add ckG_ok, caC_ok pack_cases, E0_ok.yc, E0_ok.orc⟩
theorem rsE_ok : VOk Try.prog rsE := ⟨CtOk.none.add rkG_ok, caC_ok ref_cases, E0_ok.yc, E0_ok.orc⟩
theorem pack_cs : CsCalls 7 where
  v m c z h := by
    have k := csV_ok m c z h
    rw [csV_eq] at k
    exact Call.ofVc csE_ok mixed (c := csB) Try.func7 (by kernel_rfl) k
  n z := Call.ofVc csE_ok mixed (c := csB) Try.func7 (by kernel_rfl) (cast (congrFun csN_eq z) (csN_ok z))
  h c s z := Call.ofVc csE_ok mixed (c := csB) Try.func7 (by kernel_rfl) (cast (congrFun (congrFun (congrFun csH_eq c) s) z) (csH_ok c s z))
theorem ref_cs : CsCalls 8 where
  v m c z h := by
    have k := rsV_ok m c z h
    rw [rsV_eq] at k
    exact Call.ofVc rsE_ok mixed (c := rsB) Try.func8 (by kernel_rfl) k
  n z := Call.ofVc rsE_ok mixed (c := rsB) Try.func8 (by kernel_rfl) (cast (congrFun rsN_eq z) (rsN_ok z))
  h c s z := Call.ofVc rsE_ok mixed (c := rsB) Try.func8 (by kernel_rfl) (cast (congrFun (congrFun (congrFun rsH_eq c) s) z) (rsH_ok c s z))
noncomputable def fs34 : Array Field := match Try.prog.underlying 34 with | some (.struct f) => f | _ => #[]
noncomputable def fd0 : Field := fs34.toList.getD 0 default
noncomputable def fd1 : Field := fs34.toList.getD 1 default
theorem two34 : TwoNums Try.prog 34 fd0 fd1 where
  ud := ⟨fs34, by kernel_rfl, by kernel_rfl⟩
  st := by kernel_rfl
  n0 := of_decide_eq_true (by kernel_rfl)
  n1 := of_decide_eq_true (by kernel_rfl)
  o0 := by kernel_rfl
  o1 := by kernel_rfl
  t0 := by kernel_rfl
  t1 := by kernel_rfl
  p0 a b := by kernel_rfl
  p1 a b := by kernel_rfl
  gd := by kernel_rfl
theorem leE_ok : VOk Try.prog leE := ⟨CtOk.none, E0_ok.cc, E0_ok.yc, orcOr_ok orcLd_ok (orcEq2_ok two34)⟩
theorem leG_ok : ∀ args H φ v H' l, pure3 psC leS args H = some (φ, v, H', l) → Asks φ → Call Try.prog 11 args H (fun v' H2 => v' = v ∧ H2 = H') ∧ Kept H H' l :=
  pure3_ok fun r ψ v hk hs hψ => by
    match r, hk with
    | [.one x, .one y], ⟨h1, h2, _⟩ =>
      rcases h1 with rfl | ⟨s, rfl⟩ | ⟨cs, n, rfl⟩ <;> rcases h2 with rfl | ⟨t, rfl⟩ | ⟨ds, k, rfl⟩ <;> cases hs <;> refine ⟨rfl, fun caps _ => ?_⟩
      · exact Call.ofVc leE_ok mixed (c := leB) Try.func11 (by kernel_rfl) (cast (congrFun leN_eq ()) (leN_ok ()))
      · obtain ⟨⟨rfl, rfl⟩, k1, k2, k3⟩ := hψ
        have h := leV_ok (intsOf cs) n (caps 0) (caps 1) (by rw [← k2, intsOf, List.length_map]) k3
        rw [leV_eq] at h
        have hc := Call.ofVc leE_ok mixed (c := leB) (H := [ros (intsOf cs), ros (intsOf cs)]) (args := [.slice (some ⟨0,0,none⟩) n (caps 0), .slice (some ⟨1,0,none⟩) n (caps 1)]) Try.func11 (by kernel_rfl) h
        have e : AObj.ro cs = ros (intsOf cs) := by show AObj.ro cs = .ro _; rw [← k1]
        show Call Try.prog 11 _ [AObj.ro cs, AObj.ro cs] _
        rw [e]
        exact hc
theorem worksG_ok : ∀ args H φ v H' l, pureG [] worksS args H = some (φ, v, H', l) → Asks φ → Call Try.prog 6 args H (fun v' H2 => v' = v ∧ H2 = H') ∧ Kept H H' l :=
  closedG_ok (SlgK.works_ok.call.mono fun v H h => h.1) rfl
theorem knE_ok : VOk Try.prog knE := ⟨(((CtOk.none.add worksG_ok).add ckG_ok).add rkG_ok).add leG_ok, ccOr_ok (csC_ok pack_cs) (ccOr_ok (csC_ok ref_cs) (ccIn_ok E0_ok mixed (inl_one Try.func5))), E0_ok.yc, E0_ok.orc⟩
abbrev psKT : List K3 := [.agg [.rows [.i .i64] true, .bool]]
theorem fits_kn {r : List Arg3} (h : fits3 psKT r) : ∃ lf z, r = [.agg [lf, .plain (.bool z)]] ∧ (lf = .plain (.slice none 0 0) ∨ (∃ s, lf = .hole s) ∨ ∃ m : List Int, lf = .view (m.map (.int .i64)) m.length true) := by
  match r, h with
  | [.agg [x, y]], ⟨⟨h1, h2, _⟩, _⟩ =>
    obtain ⟨z, rfl⟩ := h2
    refine ⟨x, z, rfl, ?_⟩
    rcases h1 with h1 | h1 | ⟨cs, n, h1, h4⟩
    · exact .inl h1
    · exact .inr (.inl h1)
    · obtain ⟨m, rfl, e, _⟩ := RowsOk.ints (k := .i64) (m := 1) h4
      rw [Nat.mul_one] at e
      exact .inr (.inr ⟨m, by rw [e]; exact h1⟩)
theorem kn_small (r : List Arg3) (hr : fits3 psKT r) (caps : Nat → Nat) (_ : caps3 caps 0 r) : Call Try.prog 3 (canon3 caps 0 r) (canonH3 r) fun v _ => v = .bool true := by
  obtain ⟨lf, z, rfl, hl⟩ := fits_kn hr
  rcases hl with rfl | ⟨s, rfl⟩ | ⟨m, rfl⟩
  · exact Call.ofVc knE_ok mixed (c := knB) Try.func3 (by kernel_rfl) (cast (congrFun knN3_eq z) (knN3_ok z))
  · exact Call.ofVc knE_ok mixed (c := knB) Try.func3 (by kernel_rfl) (cast (congrFun (congrFun (congrFun knH3_eq (caps 0)) s) z) (knH3_ok (caps 0) s z))
  · exact Call.ofVc knE_ok mixed (c := knB) Try.func3 (by kernel_rfl) (cast (congrFun (congrFun (congrFun knV3_eq m) (caps 0)) z) (knV3_ok m (caps 0) z))
theorem knowns_law {K : Type} : ∀ (H : Heap) (avs : List Value) (ds : List (DataW K)), Still H → ReadsAll Try.prog H Try.f3.params.toList avs ds → Call Try.prog 3 avs H fun v _ => v = .bool true :=
  law_of3 (ps := psKT) (by kernel_rfl) kn_small

end Go.Pier.Sk

