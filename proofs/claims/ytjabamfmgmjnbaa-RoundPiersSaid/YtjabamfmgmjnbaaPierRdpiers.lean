/-
  Pier: PierRdpiers.
-/
import Derived.Test.YtjabamfmgmjnbaaPierRP3
import Derived.Test.YtjabamfmgmjnbaaPierRoundB
import Derived.KernelRfl
set_option linter.unusedSimpArgs false
set_option linter.unusedVariables false
set_option maxRecDepth 100000
set_option linter.unusedVariables false
set_option linter.unusedSimpArgs false
namespace Go.Pier.Rd
open Go Go.Pier Go.Proofs 
noncomputable def rpB : Code := Try.f3.body.getD .skip
def worksS (r : List Arg) : Prop × Value := match r with | [] => (True, .bool true) | _ => (False, undef)
noncomputable def rpT : Ct := (((Ct.none.add 18 (pureG [] worksS)).add 21 (pureP (fun b n l => vi (errP b n l)) (vi 6))).add 22 (pureP (fun b n l => vi (errP b n l)) (vi 6))).add 23 (pureG [.ints .i64, .ints .i64] iiS)
noncomputable def rpTE : Ct := (rpT.add 19 (pure3 psPR crE)).add 20 (pure3 psPR crE)
noncomputable def rpTO : Ct := (rpT.add 19 (born3 psPR crO)).add 20 (born3 psPR crO)
noncomputable def rpE : VEnv := { ct := rpTE, cc := ccIn Try.prog {} [⟨17, Try.f17, fun _ _ _ => none⟩] }
noncomputable def rpO : VEnv := { ct := rpTO, cc := ccIn Try.prog {} [⟨17, Try.f17, fun _ _ _ => none⟩] }
noncomputable def rpNN :=
fun (b : Int) ↦ (false = false → (false = true → Ob True ∧ True ∧ Ob (Value.bool true = Value.bool true)) ∧ (false = false → Ob (okM (Leaf.plain (Value.slice none (0 : Nat) (0 : Nat)))) ∧ Ob (okM (Leaf.plain (Value.slice none (0 : Nat) (0 : Nat)))) ∧ Ob True ∧ Ob True ∧ (true = true → Ob True ∧ (true = true → (true = true → Ob True ∧ True ∧ Ob (Value.bool true = Value.bool true)) ∧ (true = false → True ∧ Ob (Value.bool false = Value.bool true))) ∧ (true = false → True ∧ Ob (Value.bool false = Value.bool true))) ∧ (true = false → True ∧ Ob (Value.bool false = Value.bool true)))) ∧ (false = true → Ob True ∧ True ∧ Ob (Value.bool true = Value.bool true))
theorem rpNN_eq : rpNN = fun (b : Int) => vc Try.prog rpE 0 47 true (fun _ => none) rpB [] (argFr 0 [pierV b none 0 0, nilS]) [] (retK Try.prog Try.f3 (fun v _ => v = .bool true)) := by kernel_rfl
noncomputable def rpNH :=
fun (b : Int) (d : Nat) (t : Option Nat) ↦ (false = false → (false = true → Ob True ∧ True ∧ Ob (Value.bool true = Value.bool true)) ∧ (false = false → Ob (okM (Leaf.hole t)) ∧ Ob (okM (Leaf.hole t)) ∧ Ob True ∧ Ob True ∧ (true = true → Ob True ∧ (true = true → (true = true → Ob True ∧ True ∧ Ob (Value.bool true = Value.bool true)) ∧ (true = false → True ∧ Ob (Value.bool false = Value.bool true))) ∧ (true = false → True ∧ Ob (Value.bool false = Value.bool true))) ∧ (true = false → True ∧ Ob (Value.bool false = Value.bool true)))) ∧ (false = true → Ob True ∧ True ∧ Ob (Value.bool true = Value.bool true))
theorem rpNH_eq : rpNH = fun (b : Int) (d : Nat) (t : Option Nat) => vc Try.prog rpE 1 47 true (fun _ => none) rpB [] (argFr 0 [pierV b none 0 0, .slice (some ⟨0,0,t⟩) 0 d]) [.gone] (retK Try.prog Try.f3 (fun v _ => v = .bool true)) := by kernel_rfl
noncomputable def rpNV :=
fun (b : Int) (d : Nat) (m : List Int) ↦ (false = false → (decide ((20 : Int) < (↑m.length : Int)) = true → Ob True ∧ True ∧ Ob (Value.bool true = Value.bool true)) ∧ (decide ((20 : Int) < (↑m.length : Int)) = false → Ob ((true = true ∧ Flat (List.map (Value.int IntKind.i64) m) ∧ (none : Option Nat) = none ∧ m.length ≤ d) ∧ okM (Leaf.view (List.map (Value.int IntKind.i64) m) m.length true)) ∧ Ob ((true = true ∧ Flat (List.map (Value.int IntKind.i64) m) ∧ (none : Option Nat) = none ∧ m.length ≤ d) ∧ okM (Leaf.view (List.map (Value.int IntKind.i64) m) m.length true)) ∧ Ob True ∧ Ob True ∧ (true = true → Ob True ∧ (true = true → (true = true → Ob True ∧ True ∧ Ob (Value.bool true = Value.bool true)) ∧ (true = false → True ∧ Ob (Value.bool false = Value.bool true))) ∧ (true = false → True ∧ Ob (Value.bool false = Value.bool true))) ∧ (true = false → True ∧ Ob (Value.bool false = Value.bool true)))) ∧ (false = true → Ob True ∧ True ∧ Ob (Value.bool true = Value.bool true))
theorem rpNV_eq : rpNV = fun (b : Int) (d : Nat) (m : List Int) => vc Try.prog rpE 1 47 true (fun _ => none) rpB [] (argFr 0 [pierV b none 0 0, .slice (some ⟨0,0,none⟩) m.length d]) [ros m] (retK Try.prog Try.f3 (fun v _ => v = .bool true)) := by kernel_rfl
noncomputable def rpHN :=
fun (b : Int) (c : Nat) (s : Option Nat) ↦ (false = false → (false = true → Ob True ∧ True ∧ Ob (Value.bool true = Value.bool true)) ∧ (false = false → Ob (okM (Leaf.plain (Value.slice none (0 : Nat) (0 : Nat)))) ∧ Ob (okM (Leaf.plain (Value.slice none (0 : Nat) (0 : Nat)))) ∧ Ob True ∧ Ob True ∧ (true = true → Ob True ∧ (true = true → (true = true → Ob True ∧ True ∧ Ob (Value.bool true = Value.bool true)) ∧ (true = false → True ∧ Ob (Value.bool false = Value.bool true))) ∧ (true = false → True ∧ Ob (Value.bool false = Value.bool true))) ∧ (true = false → True ∧ Ob (Value.bool false = Value.bool true)))) ∧ (false = true → Ob True ∧ True ∧ Ob (Value.bool true = Value.bool true))
theorem rpHN_eq : rpHN = fun (b : Int) (c : Nat) (s : Option Nat) => vc Try.prog rpE 1 47 true (fun _ => none) rpB [] (argFr 0 [pierV b (some ⟨0,0,s⟩) 0 c, nilS]) [.gone] (retK Try.prog Try.f3 (fun v _ => v = .bool true)) := by kernel_rfl
noncomputable def rpHH :=
fun (b : Int) (c : Nat) (s : Option Nat) (d : Nat) (t : Option Nat) ↦ (false = false → (false = true → Ob True ∧ True ∧ Ob (Value.bool true = Value.bool true)) ∧ (false = false → Ob (okM (Leaf.hole t)) ∧ Ob (okM (Leaf.hole t)) ∧ Ob True ∧ Ob True ∧ (true = true → Ob True ∧ (true = true → (true = true → Ob True ∧ True ∧ Ob (Value.bool true = Value.bool true)) ∧ (true = false → True ∧ Ob (Value.bool false = Value.bool true))) ∧ (true = false → True ∧ Ob (Value.bool false = Value.bool true))) ∧ (true = false → True ∧ Ob (Value.bool false = Value.bool true)))) ∧ (false = true → Ob True ∧ True ∧ Ob (Value.bool true = Value.bool true))
theorem rpHH_eq : rpHH = fun (b : Int) (c : Nat) (s : Option Nat) (d : Nat) (t : Option Nat) => vc Try.prog rpE 2 47 true (fun _ => none) rpB [] (argFr 0 [pierV b (some ⟨0,0,s⟩) 0 c, .slice (some ⟨1,0,t⟩) 0 d]) [.gone, .gone] (retK Try.prog Try.f3 (fun v _ => v = .bool true)) := by kernel_rfl
noncomputable def rpHV :=
fun (b : Int) (c : Nat) (s : Option Nat) (d : Nat) (m : List Int) ↦ (false = false → (decide ((20 : Int) < (↑m.length : Int)) = true → Ob True ∧ True ∧ Ob (Value.bool true = Value.bool true)) ∧ (decide ((20 : Int) < (↑m.length : Int)) = false → Ob ((true = true ∧ Flat (List.map (Value.int IntKind.i64) m) ∧ (none : Option Nat) = none ∧ m.length ≤ d) ∧ okM (Leaf.view (List.map (Value.int IntKind.i64) m) m.length true)) ∧ Ob ((true = true ∧ Flat (List.map (Value.int IntKind.i64) m) ∧ (none : Option Nat) = none ∧ m.length ≤ d) ∧ okM (Leaf.view (List.map (Value.int IntKind.i64) m) m.length true)) ∧ Ob True ∧ Ob True ∧ (true = true → Ob True ∧ (true = true → (true = true → Ob True ∧ True ∧ Ob (Value.bool true = Value.bool true)) ∧ (true = false → True ∧ Ob (Value.bool false = Value.bool true))) ∧ (true = false → True ∧ Ob (Value.bool false = Value.bool true))) ∧ (true = false → True ∧ Ob (Value.bool false = Value.bool true)))) ∧ (false = true → Ob True ∧ True ∧ Ob (Value.bool true = Value.bool true))
theorem rpHV_eq : rpHV = fun (b : Int) (c : Nat) (s : Option Nat) (d : Nat) (m : List Int) => vc Try.prog rpE 2 47 true (fun _ => none) rpB [] (argFr 0 [pierV b (some ⟨0,0,s⟩) 0 c, .slice (some ⟨1,0,none⟩) m.length d]) [.gone, ros m] (retK Try.prog Try.f3 (fun v _ => v = .bool true)) := by kernel_rfl
noncomputable def rpVN_s0 (b : Int) (n c : Nat) (l : List Int) := (List.map (Value.int IntKind.i64) l)
noncomputable def rpVN :=
fun (b : Int) (n c : Nat) (l : List Int) ↦ (decide ((14 : Int) < (↑n : Int)) = false → (false = true → Ob True ∧ True ∧ Ob (Value.bool true = Value.bool true)) ∧ (false = false → Ob ((true = true ∧ Flat (rpVN_s0 b n c l) ∧ (none : Option Nat) = none ∧ n ≤ c) ∧ okL (Leaf.view (rpVN_s0 b n c l) n true)) ∧ Ob ((true = true ∧ Flat (rpVN_s0 b n c l) ∧ (none : Option Nat) = none ∧ n ≤ c) ∧ okL (Leaf.view (rpVN_s0 b n c l) n true)) ∧ Ob ((true = true ∧ Flat (rpVN_s0 b n c l)) ∧ okL (Leaf.view (rpVN_s0 b n c l) n false)) ∧ Ob ((true = true ∧ Flat (rpVN_s0 b n c l)) ∧ okL (Leaf.view (rpVN_s0 b n c l) n false)) ∧ ((errP b n (intsOf (rpVN_s0 b n c l)) == errP b n (intsOf (rpVN_s0 b n c l))) = true → Ob True ∧ (true = true → ((errR b n (intsOf (rpVN_s0 b n c l)) [] == errR b n (intsOf (rpVN_s0 b n c l)) []) = true → Ob True ∧ True ∧ Ob (Value.bool true = Value.bool true)) ∧ ((errR b n (intsOf (rpVN_s0 b n c l)) [] == errR b n (intsOf (rpVN_s0 b n c l)) []) = false → True ∧ Ob (Value.bool false = Value.bool true))) ∧ (true = false → True ∧ Ob (Value.bool false = Value.bool true))) ∧ ((errP b n (intsOf (rpVN_s0 b n c l)) == errP b n (intsOf (rpVN_s0 b n c l))) = false → True ∧ Ob (Value.bool false = Value.bool true)))) ∧ (decide ((14 : Int) < (↑n : Int)) = true → Ob True ∧ True ∧ Ob (Value.bool true = Value.bool true))
theorem rpVN_eq : rpVN = fun (b : Int) (n c : Nat) (l : List Int) => vc Try.prog rpE 1 47 true (fun _ => none) rpB [] (argFr 0 [pierV b (some ⟨0,0,none⟩) n c, nilS]) [ros l] (retK Try.prog Try.f3 (fun v _ => v = .bool true)) := by kernel_rfl
noncomputable def rpVH_s0 (b : Int) (n c : Nat) (l : List Int) (d : Nat) (t : Option Nat) := (List.map (Value.int IntKind.i64) l)
noncomputable def rpVH :=
fun (b : Int) (n c : Nat) (l : List Int) (d : Nat) (t : Option Nat) ↦ (decide ((14 : Int) < (↑n : Int)) = false → (false = true → Ob True ∧ True ∧ Ob (Value.bool true = Value.bool true)) ∧ (false = false → Ob ((true = true ∧ Flat (rpVH_s0 b n c l d t) ∧ (none : Option Nat) = none ∧ n ≤ c) ∧ okL (Leaf.view (rpVH_s0 b n c l d t) n true)) ∧ Ob ((true = true ∧ Flat (rpVH_s0 b n c l d t) ∧ (none : Option Nat) = none ∧ n ≤ c) ∧ okL (Leaf.view (rpVH_s0 b n c l d t) n true)) ∧ Ob ((true = true ∧ Flat (rpVH_s0 b n c l d t)) ∧ okL (Leaf.view (rpVH_s0 b n c l d t) n false)) ∧ Ob ((true = true ∧ Flat (rpVH_s0 b n c l d t)) ∧ okL (Leaf.view (rpVH_s0 b n c l d t) n false)) ∧ ((errP b n (intsOf (rpVH_s0 b n c l d t)) == errP b n (intsOf (rpVH_s0 b n c l d t))) = true → Ob True ∧ (true = true → ((errR b n (intsOf (rpVH_s0 b n c l d t)) [] == errR b n (intsOf (rpVH_s0 b n c l d t)) []) = true → Ob True ∧ True ∧ Ob (Value.bool true = Value.bool true)) ∧ ((errR b n (intsOf (rpVH_s0 b n c l d t)) [] == errR b n (intsOf (rpVH_s0 b n c l d t)) []) = false → True ∧ Ob (Value.bool false = Value.bool true))) ∧ (true = false → True ∧ Ob (Value.bool false = Value.bool true))) ∧ ((errP b n (intsOf (rpVH_s0 b n c l d t)) == errP b n (intsOf (rpVH_s0 b n c l d t))) = false → True ∧ Ob (Value.bool false = Value.bool true)))) ∧ (decide ((14 : Int) < (↑n : Int)) = true → Ob True ∧ True ∧ Ob (Value.bool true = Value.bool true))
theorem rpVH_eq : rpVH = fun (b : Int) (n c : Nat) (l : List Int) (d : Nat) (t : Option Nat) => vc Try.prog rpE 2 47 true (fun _ => none) rpB [] (argFr 0 [pierV b (some ⟨0,0,none⟩) n c, .slice (some ⟨1,0,t⟩) 0 d]) [ros l, .gone] (retK Try.prog Try.f3 (fun v _ => v = .bool true)) := by kernel_rfl
noncomputable def rpVV_s0 (b : Int) (n c : Nat) (l : List Int) (d : Nat) (m : List Int) := (List.map (Value.int IntKind.i64) l)
noncomputable def rpVV :=
fun (b : Int) (n c : Nat) (l : List Int) (d : Nat) (m : List Int) ↦ (decide ((14 : Int) < (↑n : Int)) = false → (decide ((20 : Int) < (↑m.length : Int)) = true → Ob True ∧ True ∧ Ob (Value.bool true = Value.bool true)) ∧ (decide ((20 : Int) < (↑m.length : Int)) = false → Ob (((true = true ∧ Flat (rpVV_s0 b n c l d m) ∧ (none : Option Nat) = none ∧ n ≤ c) ∧ true = true ∧ Flat (List.map (Value.int IntKind.i64) m) ∧ (none : Option Nat) = none ∧ m.length ≤ d) ∧ (okL (Leaf.view (rpVV_s0 b n c l d m) n true) ∧ okM (Leaf.view (List.map (Value.int IntKind.i64) m) m.length true)) ∧ m.length ≤ (1000 : Nat) ∧ errR b n (intsOf (rpVV_s0 b n c l d m)) (intsOf (List.map (Value.int IntKind.i64) m)) ≠ (0 : Int)) ∧ Ob (((true = true ∧ Flat (rpVV_s0 b n c l d m) ∧ (none : Option Nat) = none ∧ n ≤ c) ∧ true = true ∧ Flat (List.map (Value.int IntKind.i64) m) ∧ (none : Option Nat) = none ∧ m.length ≤ d) ∧ (okL (Leaf.view (rpVV_s0 b n c l d m) n true) ∧ okM (Leaf.view (List.map (Value.int IntKind.i64) m) m.length true)) ∧ m.length ≤ (1000 : Nat) ∧ errR b n (intsOf (rpVV_s0 b n c l d m)) (intsOf (List.map (Value.int IntKind.i64) m)) ≠ (0 : Int)) ∧ Ob ((true = true ∧ Flat (rpVV_s0 b n c l d m)) ∧ okL (Leaf.view (rpVV_s0 b n c l d m) n false)) ∧ Ob ((true = true ∧ Flat (rpVV_s0 b n c l d m)) ∧ okL (Leaf.view (rpVV_s0 b n c l d m) n false)) ∧ ((errP b n (intsOf (rpVV_s0 b n c l d m)) == errP b n (intsOf (rpVV_s0 b n c l d m))) = true → Ob True ∧ (true = true → ((errR b n (intsOf (rpVV_s0 b n c l d m)) (intsOf (List.map (Value.int IntKind.i64) m)) == errR b n (intsOf (rpVV_s0 b n c l d m)) (intsOf (List.map (Value.int IntKind.i64) m))) = true → Ob True ∧ True ∧ Ob (Value.bool true = Value.bool true)) ∧ ((errR b n (intsOf (rpVV_s0 b n c l d m)) (intsOf (List.map (Value.int IntKind.i64) m)) == errR b n (intsOf (rpVV_s0 b n c l d m)) (intsOf (List.map (Value.int IntKind.i64) m))) = false → True ∧ Ob (Value.bool false = Value.bool true))) ∧ (true = false → True ∧ Ob (Value.bool false = Value.bool true))) ∧ ((errP b n (intsOf (rpVV_s0 b n c l d m)) == errP b n (intsOf (rpVV_s0 b n c l d m))) = false → True ∧ Ob (Value.bool false = Value.bool true)))) ∧ (decide ((14 : Int) < (↑n : Int)) = true → Ob True ∧ True ∧ Ob (Value.bool true = Value.bool true))
theorem rpVV_eq : rpVV = fun (b : Int) (n c : Nat) (l : List Int) (d : Nat) (m : List Int) => vc Try.prog rpE 2 47 true (fun _ => none) rpB [] (argFr 0 [pierV b (some ⟨0,0,none⟩) n c, .slice (some ⟨1,0,none⟩) m.length d]) [ros l, ros m] (retK Try.prog Try.f3 (fun v _ => v = .bool true)) := by kernel_rfl
noncomputable def rpVVO_s0 (b : Int) (n c : Nat) (l : List Int) (d : Nat) (m : List Int) := (List.map (Value.int IntKind.i64) (outL n (sf b (intsOf (List.map (Value.int IntKind.i64) l)) (intsOf (List.map (Value.int IntKind.i64) m)) (intsOf (List.map (Value.int IntKind.i64) m)).length)))
noncomputable def rpVVO_s1 (b : Int) (n c : Nat) (l : List Int) (d : Nat) (m : List Int) := (List.drop (0 : Nat) (intsOf (rpVVO_s0 b n c l d m)))
noncomputable def rpVVO :=
fun (b : Int) (n c : Nat) (l : List Int) (d : Nat) (m : List Int) ↦ (decide ((14 : Int) < (↑n : Int)) = false → (decide ((20 : Int) < (↑m.length : Int)) = true → Ob True ∧ True ∧ Ob (Value.bool true = Value.bool true)) ∧ (decide ((20 : Int) < (↑m.length : Int)) = false → Ob (((true = true ∧ Flat (List.map (Value.int IntKind.i64) l) ∧ (none : Option Nat) = none ∧ n ≤ c) ∧ true = true ∧ Flat (List.map (Value.int IntKind.i64) m) ∧ (none : Option Nat) = none ∧ m.length ≤ d) ∧ (okL (Leaf.view (List.map (Value.int IntKind.i64) l) n true) ∧ okM (Leaf.view (List.map (Value.int IntKind.i64) m) m.length true)) ∧ m.length ≤ (1000 : Nat) ∧ errR b n (intsOf (List.map (Value.int IntKind.i64) l)) (intsOf (List.map (Value.int IntKind.i64) m)) = (0 : Int)) ∧ Ob (((true = true ∧ Flat (List.map (Value.int IntKind.i64) l) ∧ (none : Option Nat) = none ∧ n ≤ c) ∧ true = true ∧ Flat (List.map (Value.int IntKind.i64) m) ∧ (none : Option Nat) = none ∧ m.length ≤ d) ∧ (okL (Leaf.view (List.map (Value.int IntKind.i64) l) n true) ∧ okM (Leaf.view (List.map (Value.int IntKind.i64) m) m.length true)) ∧ m.length ≤ (1000 : Nat) ∧ errR b n (intsOf (List.map (Value.int IntKind.i64) l)) (intsOf (List.map (Value.int IntKind.i64) m)) = (0 : Int)) ∧ Ob ((true = true ∧ Flat (List.map (Value.int IntKind.i64) l)) ∧ okL (Leaf.view (List.map (Value.int IntKind.i64) l) n false)) ∧ Ob ((true = true ∧ Flat (List.map (Value.int IntKind.i64) l)) ∧ okL (Leaf.view (List.map (Value.int IntKind.i64) l) n false)) ∧ ((errP b n (intsOf (List.map (Value.int IntKind.i64) l)) == errP b n (intsOf (List.map (Value.int IntKind.i64) l))) = true → Ob (((List.take n (List.drop (0 : Nat) (rpVVO_s0 b n c l d m)) = List.map (Value.int IntKind.i64) (List.take n (rpVVO_s1 b n c l d m)) ∧ (0 : Nat) + n ≤ (rpVVO_s0 b n c l d m).length ∧ true = true) ∧ List.take n (List.drop (0 : Nat) (rpVVO_s0 b n c l d m)) = List.map (Value.int IntKind.i64) (List.take n (rpVVO_s1 b n c l d m)) ∧ (0 : Nat) + n ≤ (rpVVO_s0 b n c l d m).length ∧ true = true) ∧ (List.take n (rpVVO_s1 b n c l d m)).length ≤ (1000000 : Nat)) ∧ (decide (List.take n (rpVVO_s1 b n c l d m) = List.take n (rpVVO_s1 b n c l d m)) = true → (true = true → Ob True ∧ True ∧ Ob (Value.bool true = Value.bool true)) ∧ (true = false → True ∧ Ob (Value.bool false = Value.bool true))) ∧ (decide (List.take n (rpVVO_s1 b n c l d m) = List.take n (rpVVO_s1 b n c l d m)) = false → True ∧ Ob (Value.bool false = Value.bool true))) ∧ ((errP b n (intsOf (List.map (Value.int IntKind.i64) l)) == errP b n (intsOf (List.map (Value.int IntKind.i64) l))) = false → True ∧ Ob (Value.bool false = Value.bool true)))) ∧ (decide ((14 : Int) < (↑n : Int)) = true → Ob True ∧ True ∧ Ob (Value.bool true = Value.bool true))
theorem rpVVO_eq : rpVVO = fun (b : Int) (n c : Nat) (l : List Int) (d : Nat) (m : List Int) => vc Try.prog rpO 2 47 true (fun _ => none) rpB [] (argFr 0 [pierV b (some ⟨0,0,none⟩) n c, .slice (some ⟨1,0,none⟩) m.length d]) [ros l, ros m] (retK Try.prog Try.f3 (fun v _ => v = .bool true)) := by kernel_rfl


theorem rpNN_ok (b : Int) : rpNN b := by
  unfold rpNN
  simp only [SS, reduceCtorEq, Arg.list, Arg.num, Arg.flag, intOf, andP, Nat.reduceLeDiff, Nat.reduceAdd, Nat.reduceMul, Nat.reduceLT, errT]
  exact ⟨trivial, trivial⟩
theorem rpNH_ok (b : Int) (d : Nat) (t : Option Nat) : rpNH b d t := by
  unfold rpNH
  simp only [SS, reduceCtorEq, Arg.list, Arg.num, Arg.flag, intOf, andP, Nat.reduceLeDiff, Nat.reduceAdd, Nat.reduceMul, Nat.reduceLT, errT]
  exact ⟨trivial, trivial⟩
theorem rpNV_ok (b : Int) (d : Nat) (m : List Int) (hd : m.length ≤ d) : rpNV b d m := by
  unfold rpNV
  simp only [SS, reduceCtorEq, Arg.list, Arg.num, Arg.flag, intOf, andP, Nat.reduceLeDiff, Nat.reduceAdd, Nat.reduceMul, Nat.reduceLT, errT]
  intro h
  have k : (Flat (List.map (Value.int .i64) m) ∧ m.length ≤ d) ∧ okM (.view (List.map (Value.int .i64) m) m.length true) := ⟨⟨flat_ints, hd⟩, okM_ints (by omega)⟩
  exact ⟨k, k⟩
theorem rpHN_ok (b : Int) (c : Nat) (s : Option Nat) : rpHN b c s := by
  unfold rpHN
  simp only [SS, reduceCtorEq, Arg.list, Arg.num, Arg.flag, intOf, andP, Nat.reduceLeDiff, Nat.reduceAdd, Nat.reduceMul, Nat.reduceLT, errT]
  exact ⟨trivial, trivial⟩
theorem rpHH_ok (b : Int) (c : Nat) (s : Option Nat) (d : Nat) (t : Option Nat) : rpHH b c s d t := by
  unfold rpHH
  simp only [SS, reduceCtorEq, Arg.list, Arg.num, Arg.flag, intOf, andP, Nat.reduceLeDiff, Nat.reduceAdd, Nat.reduceMul, Nat.reduceLT, errT]
  exact ⟨trivial, trivial⟩
theorem rpHV_ok (b : Int) (c : Nat) (s : Option Nat) (d : Nat) (m : List Int) (hd : m.length ≤ d) : rpHV b c s d m := by
  unfold rpHV
  simp only [SS, reduceCtorEq, Arg.list, Arg.num, Arg.flag, intOf, andP, Nat.reduceLeDiff, Nat.reduceAdd, Nat.reduceMul, Nat.reduceLT, errT]
  intro h
  have k : (Flat (List.map (Value.int .i64) m) ∧ m.length ≤ d) ∧ okM (.view (List.map (Value.int .i64) m) m.length true) := ⟨⟨flat_ints, hd⟩, okM_ints (by omega)⟩
  exact ⟨k, k⟩
theorem rpVN_ok (b : Int) (n c : Nat) (l : List Int) (hl : l.length = n * 2) (hc : n ≤ c) : rpVN b n c l := by
  unfold rpVN rpVN_s0
  simp only [SS, reduceCtorEq, Arg.list, Arg.num, Arg.flag, intOf, andP, Nat.reduceLeDiff, Nat.reduceAdd, Nat.reduceMul, Nat.reduceLT, errT]
  intro h
  exact ⟨⟨⟨flat_ints, hc⟩, okL_ints hl (by omega)⟩, ⟨⟨flat_ints, hc⟩, okL_ints hl (by omega)⟩, ⟨flat_ints, okL_ints hl (by omega)⟩, flat_ints, okL_ints hl (by omega)⟩
theorem rpVH_ok (b : Int) (n c : Nat) (l : List Int) (d : Nat) (t : Option Nat) (hl : l.length = n * 2) (hc : n ≤ c) : rpVH b n c l d t := by
  unfold rpVH rpVH_s0
  simp only [SS, reduceCtorEq, Arg.list, Arg.num, Arg.flag, intOf, andP, Nat.reduceLeDiff, Nat.reduceAdd, Nat.reduceMul, Nat.reduceLT, errT]
  intro h
  exact ⟨⟨⟨flat_ints, hc⟩, okL_ints hl (by omega)⟩, ⟨⟨flat_ints, hc⟩, okL_ints hl (by omega)⟩, ⟨flat_ints, okL_ints hl (by omega)⟩, flat_ints, okL_ints hl (by omega)⟩
theorem rpVV_ok (b : Int) (n c : Nat) (l : List Int) (d : Nat) (m : List Int) (hl : l.length = n * 2) (hc : n ≤ c) (hd : m.length ≤ d) (he : errR b n l m ≠ 0) : rpVV b n c l d m := by
  unfold rpVV rpVV_s0
  simp only [SS, reduceCtorEq, Arg.list, Arg.num, Arg.flag, intOf, andP, Nat.reduceLeDiff, Nat.reduceAdd, Nat.reduceMul, Nat.reduceLT, errT]
  intro h h2
  have k : ((Flat (List.map (Value.int .i64) l) ∧ n ≤ c) ∧ Flat (List.map (Value.int .i64) m) ∧ m.length ≤ d) ∧ (okL (.view (List.map (Value.int .i64) l) n true) ∧ okM (.view (List.map (Value.int .i64) m) m.length true)) ∧ m.length ≤ 1000 ∧ ¬ errR b n l m = 0 := ⟨⟨⟨flat_ints, hc⟩, flat_ints, hd⟩, ⟨okL_ints hl (by omega), okM_ints (by omega)⟩, by omega, he⟩
  exact ⟨k, k, ⟨flat_ints, okL_ints hl (by omega)⟩, flat_ints, okL_ints hl (by omega)⟩
theorem rpVVO_ok (b : Int) (n c : Nat) (l : List Int) (d : Nat) (m : List Int) (hl : l.length = n * 2) (hc : n ≤ c) (hd : m.length ≤ d) (he : errR b n l m = 0) : rpVVO b n c l d m := by
  unfold rpVVO rpVVO_s1 rpVVO_s0
  simp only [SS, reduceCtorEq, Arg.list, Arg.num, Arg.flag, intOf, andP, Nat.reduceLeDiff, Nat.reduceAdd, Nat.reduceMul, Nat.reduceLT, errT]
  intro h h2
  have k : ((Flat (List.map (Value.int .i64) l) ∧ n ≤ c) ∧ Flat (List.map (Value.int .i64) m) ∧ m.length ≤ d) ∧ (okL (.view (List.map (Value.int .i64) l) n true) ∧ okM (.view (List.map (Value.int .i64) m) m.length true)) ∧ m.length ≤ 1000 ∧ errR b n l m = 0 := ⟨⟨⟨flat_ints, hc⟩, flat_ints, hd⟩, ⟨okL_ints hl (by omega), okM_ints (by omega)⟩, by omega, he⟩
  have e : n ≤ (outL n (sf b l m m.length)).length := by rw [outL_len]; exact Nat.le_refl _
  exact ⟨k, k, ⟨flat_ints, okL_ints hl (by omega)⟩, ⟨flat_ints, okL_ints hl (by omega)⟩, ⟨⟨List.map_take.symm, e⟩, List.map_take.symm, e⟩, by rw [List.length_take]; omega⟩
theorem worksG_ok : ∀ args H φ v H' l, pureG [] worksS args H = some (φ, v, H', l) → Asks φ → Call Try.prog 18 args H (fun v' H2 => v' = v ∧ H2 = H') ∧ Kept H H' l :=
  closedG_ok (RoundK.works_ok.call.mono fun v H h => h.1) rfl
theorem rpT_ok : CtOk Try.prog rpT := (((CtOk.none.add worksG_ok).add cpG_ok).add rcpG_ok).add iiG_ok
theorem rpE_ok : VOk Try.prog rpE := ⟨(rpT_ok.add (crE_ok pack_calls)).add (crE_ok ref_calls), ccIn_ok E0_ok mixed (inl_one Try.func17), E0_ok.yc, E0_ok.orc⟩
theorem rpO_ok : VOk Try.prog rpO := ⟨(rpT_ok.add (crO_ok pack_calls)).add (crO_ok ref_calls), ccIn_ok E0_ok mixed (inl_one Try.func17), E0_ok.yc, E0_ok.orc⟩
theorem fits3_one {k : LK} {ps : List K3} {r : List Arg3} (h : fits3 (.one k :: ps) r) : ∃ l r', r = .one l :: r' ∧ k.fits l ∧ fits3 ps r' := by
  cases r with
  | nil => exact h.elim
  | cons a r => cases a with
    | one l => exact ⟨l, r, rfl, h.1, h.2⟩
    | agg ls => exact h.elim
theorem fits3_agg {ks : List LK} {ps : List K3} {r : List Arg3} (h : fits3 (.agg ks :: ps) r) : ∃ ls r', r = .agg ls :: r' ∧ fitsL ks ls ∧ fits3 ps r' := by
  cases r with
  | nil => exact h.elim
  | cons a r => cases a with
    | one l => exact h.elim
    | agg ls => exact ⟨ls, r, rfl, h.1, h.2⟩
theorem fits3_nil {r : List Arg3} (h : fits3 [] r) : r = [] := by
  cases r with
  | nil => rfl
  | cons a r => exact h.elim
theorem fitsL_cons {k : LK} {ks : List LK} {ls : List Leaf} (h : fitsL (k :: ks) ls) : ∃ l r, ls = l :: r ∧ k.fits l ∧ fitsL ks r := by
  cases ls with
  | nil => exact h.elim
  | cons l r => exact ⟨l, r, rfl, h.1, h.2⟩
theorem fitsL_nil {ls : List Leaf} (h : fitsL [] ls) : ls = [] := by
  cases ls with
  | nil => rfl
  | cons l r => exact h.elim
theorem fits_plR {r : List Arg3} (h : fits3 psPR r) : ∃ b lf lm, r = [.agg [.plain (.int .i64 b), lf], .one lm] ∧ (lf = .plain (.slice none 0 0) ∨ (∃ s, lf = .hole s) ∨ ∃ (l : List Int) (n : Nat), lf = .view (l.map (.int .i64)) n true ∧ l.length = n * 2) ∧ (lm = .plain (.slice none 0 0) ∨ (∃ s, lm = .hole s) ∨ ∃ m : List Int, lm = .view (m.map (.int .i64)) m.length true) := by
  obtain ⟨ls, r, rfl, hg, h⟩ := fits3_agg h
  obtain ⟨z, r, rfl, h3, h⟩ := fits3_one h
  obtain rfl := fits3_nil h
  obtain ⟨x, ls, rfl, h1, hg⟩ := fitsL_cons hg
  obtain ⟨y, ls, rfl, h2, hg⟩ := fitsL_cons hg
  obtain rfl := fitsL_nil hg
  · obtain ⟨b, rfl, _⟩ := h1
    refine ⟨b, y, z, rfl, ?_, ?_⟩
    · rcases h2 with h2 | h2 | ⟨cs, n, h2, h4⟩
      · exact .inl h2
      · exact .inr (.inl h2)
      · obtain ⟨l, rfl, e, _⟩ := RowsOk.ints (k := .i64) (m := 2) h4
        exact .inr (.inr ⟨l, n, h2, e⟩)
    · rcases h3 with h3 | h3 | ⟨cs, n, h3, h4⟩
      · exact .inl h3
      · exact .inr (.inl h3)
      · obtain ⟨m, rfl, e, _⟩ := RowsOk.ints (k := .i64) (m := 1) h4
        rw [Nat.mul_one] at e
        exact .inr (.inr ⟨m, by rw [e]; exact h3⟩)
def isTrue (v : Value) (_ : Heap) : Prop := v = .bool true
theorem piers_small (r : List Arg3) (hr : fits3 psPR r) (caps : Nat → Nat) (hcaps : caps3 caps 0 r) : Call Try.prog 3 (canon3 caps 0 r) (canonH3 r) isTrue := by
  obtain ⟨b, lf, lm, rfl, hl, hm⟩ := fits_plR hr
  rcases hl with rfl | ⟨s, rfl⟩ | ⟨l, n, rfl, hl⟩ <;> rcases hm with rfl | ⟨t, rfl⟩ | ⟨m, rfl⟩
  · exact Call.ofVc rpE_ok mixed (c := rpB) Try.func3 (by kernel_rfl) (cast (congrFun rpNN_eq b) (rpNN_ok b))
  · exact Call.ofVc rpE_ok mixed (c := rpB) Try.func3 (by kernel_rfl) (cast (congrFun (congrFun (congrFun rpNH_eq b) (caps 0)) t) (rpNH_ok b (caps 0) t))
  · exact Call.ofVc rpE_ok mixed (c := rpB) Try.func3 (by kernel_rfl) (cast (congrFun (congrFun (congrFun rpNV_eq b) (caps 0)) m) (rpNV_ok b (caps 0) m hcaps.2.1))
  · exact Call.ofVc rpE_ok mixed (c := rpB) Try.func3 (by kernel_rfl) (cast (congrFun (congrFun (congrFun rpHN_eq b) (caps 0)) s) (rpHN_ok b (caps 0) s))
  · exact Call.ofVc rpE_ok mixed (c := rpB) Try.func3 (by kernel_rfl) (cast (congrFun (congrFun (congrFun (congrFun (congrFun rpHH_eq b) (caps 0)) s) (caps 1)) t) (rpHH_ok b (caps 0) s (caps 1) t))
  · exact Call.ofVc rpE_ok mixed (c := rpB) Try.func3 (by kernel_rfl) (cast (congrFun (congrFun (congrFun (congrFun (congrFun rpHV_eq b) (caps 0)) s) (caps 1)) m) (rpHV_ok b (caps 0) s (caps 1) m hcaps.2.1))
  · exact Call.ofVc rpE_ok mixed (c := rpB) Try.func3 (by kernel_rfl) (cast (congrFun (congrFun (congrFun (congrFun rpVN_eq b) n) (caps 0)) l) (rpVN_ok b n (caps 0) l hl hcaps.1.2.1))
  · exact Call.ofVc rpE_ok mixed (c := rpB) Try.func3 (by kernel_rfl) (cast (congrFun (congrFun (congrFun (congrFun (congrFun (congrFun rpVH_eq b) n) (caps 0)) l) (caps 1)) t) (rpVH_ok b n (caps 0) l (caps 1) t hl hcaps.1.2.1))
  · by_cases he : errR b n l m = 0
    · exact Call.ofVc rpO_ok mixed (c := rpB) Try.func3 (by kernel_rfl) (cast (congrFun (congrFun (congrFun (congrFun (congrFun (congrFun rpVVO_eq b) n) (caps 0)) l) (caps 1)) m) (rpVVO_ok b n (caps 0) l (caps 1) m hl hcaps.1.2.1 hcaps.2.1 he))
    · exact Call.ofVc rpE_ok mixed (c := rpB) Try.func3 (by kernel_rfl) (cast (congrFun (congrFun (congrFun (congrFun (congrFun (congrFun rpVV_eq b) n) (caps 0)) l) (caps 1)) m) (rpVV_ok b n (caps 0) l (caps 1) m hl hcaps.1.2.1 hcaps.2.1 he))
theorem piers_law {K : Type} : ∀ (H : Heap) (avs : List Value) (ds : List (DataW K)), Still H → ReadsAll Try.prog H Try.f3.params.toList avs ds → Call Try.prog 3 avs H fun v _ => v = .bool true :=
  law_of3 (ps := psPR) (by kernel_rfl) piers_small

end Go.Pier.Rd

