import Derived.Test.YthbcmcmmkmoccaaPierKW2
import Derived.KernelRfl
import Derived.Test.YthbcmcmmkmoccaaPierW
import Derived.Test.YthbcmcmmkmoccaaProg
set_option linter.unusedSimpArgs false
set_option linter.unusedVariables false
set_option maxRecDepth 100000
set_option linter.unusedVariables false
set_option linter.unusedSimpArgs false
namespace Go.Pier.Sk
open Go Go.Pier Go.Proofs
def cpJ (m : List Int) (c : Nat) (z : Bool) (x : Nat) (blk : Bool) : LInv :=
  let A : LShape LInv := ⟨Nat, fun j => j ≤ 2 ∧ inL m x j = [], fun j => [(1, ptr0 1), (3, nilS), (4, vi x), (5, vi (m.getD x 0)), (9, ni m.length c), (10, vi m.length), (11, vi x), (16, .agg #[vi 1, vi 2]), (17, vi j)], fun _ => [ros m, .rw (knC (some ⟨0,0,none⟩) m.length c z) none], fun j => 2 - j, fun _ _ => none⟩
  let B : LShape LInv := ⟨Nat, fun j => j ≤ 2 ∧ inL m x j ≠ [], fun j => [(1, ptr0 1), (3, newS 2 ((inL m x j).length / 2)), (4, vi x), (5, vi (m.getD x 0)), (9, ni m.length c), (10, vi m.length), (11, vi x), (16, .agg #[vi 1, vi 2]), (17, vi j)], fun j => [ros m, .rw (knC (some ⟨0,0,none⟩) m.length c z) none, rowP (inL m x j)], fun j => 2 - j, fun _ _ => none⟩
  match blk with
  | false => .mk [A, B] (fun _ b => b) (fun i j => match i, j with | 0, 0 => [fun b => b] | 0, _ => [nsub 2 3] | _, _ => [fun b => b, nsub 2 4])
  | true => .mk [B] (fun _ b => b) (fun _ _ => [fun b => b, nsub 2 4])
def cpI (m : List Int) (c : Nat) (z : Bool) : Nat → Option LInv := inv2 0 (.mk
  [⟨Nat, fun x => x ≤ m.length ∧ caL m x = [], fun x => [(1, ptr0 1), (3, nilS), (9, ni m.length c), (10, vi m.length), (11, vi x)], fun _ => [ros m, .rw (knC (some ⟨0,0,none⟩) m.length c z) none], fun x => m.length - x, fun x => inv2 2 (cpJ m c z x false)⟩,
   ⟨Nat, fun x => x ≤ m.length ∧ caL m x ≠ [], fun x => [(1, ptr0 1), (3, newS 2 ((caL m x).length / 2)), (9, ni m.length c), (10, vi m.length), (11, vi x)], fun x => [ros m, .rw (knC (some ⟨0,0,none⟩) m.length c z) none, rowP (caL m x)], fun x => m.length - x, fun x => inv2 2 (cpJ m c z x true)⟩]
  (fun _ b => b) (fun _ _ => [fun b => b]))
noncomputable def cpE0 : VEnv := { orc := orcIx Try.prog }
noncomputable def cpE : VEnv := { cpE0 with cc := ccIn Try.prog {} [⟨62, Try.f62, fun _ _ _ => none⟩] }
noncomputable def cpV_s0 (m : List Int) (c : Nat) (z : Bool) : List Value := [Value.slice (some (ad0 0)) m.length c, Value.bool z]
noncomputable def cpV_s1 (m : List Int) (c : Nat) (z : Bool) := (List.map (Value.int IntKind.i64) m)
noncomputable def cpV_s2 (m : List Int) (c : Nat) (z : Bool) : Array Value := { toList := [vi (1 : Int), vi (2 : Int)] }
noncomputable def cpV_s3 (m : List Int) (c : Nat) (z : Bool) (x : Nat) (x_1 : Nat) := (↑(BitVec.ofInt (64 : Nat) (m.getD x (0 : Int)) &&& BitVec.ofInt (64 : Nat) (getI [vi (1 : Int), vi (2 : Int)] (↑x_1 : Int).toNat)).toNat : Int)
noncomputable def cpV_s4 (m : List Int) (c : Nat) (z : Bool) (x : Nat) (y : Nat) := (List.map (Value.int IntKind.i64) (inL m x y))
noncomputable def cpV_s5 (m : List Int) (c : Nat) (z : Bool) (x : Nat) (x_1 : Nat) := (andP (some ((0 : Nat) + (2 : Nat) ≤ (2 : Nat) ∧ true = true)) ((inL m x x_1).length / (2 : Nat) + (1 : Nat) ≤ (1099511627776 : Nat) ∧ ((2 : Nat) * ((inL m x x_1).length / (2 : Nat) + (1 : Nat)) + (256 : Nat)) * (16 : Nat) ≤ (281474976710656 : Nat) ∧ (2 : Nat) = (2 : Nat) ∧ (List.map (Value.int IntKind.i64) (inL m x x_1)).length = (inL m x x_1).length / (2 : Nat) * (2 : Nat)))
noncomputable def cpV_s6 (m : List Int) (c : Nat) (z : Bool) := (List.map (nmap1 (nsub (2 : Nat) (4 : Nat))) (cpV_s1 m c z))
noncomputable def cpV_s7 (m : List Int) (c : Nat) (z : Bool) := (andP (some ((0 : Nat) + (2 : Nat) ≤ (2 : Nat) ∧ true = true)) ((1 : Nat) ≤ (1099511627776 : Nat) ∧ (4128 : Nat) ≤ (281474976710656 : Nat) ∧ (2 : Nat) = (2 : Nat) ∧ (0 : Nat) = (0 : Nat) ∧ (0 : Nat) < (1 : Nat)))
noncomputable def cpV_s8 (m : List Int) (c : Nat) (z : Bool) (x : Nat) (y : Nat) := (AObj.rw (cpV_s4 m c z x y) (some (2 : Nat)))
noncomputable def cpV_s9 (m : List Int) (c : Nat) (z : Bool) (x_1 : Nat) := (getI [vi (1 : Int), vi (2 : Int)] (↑x_1 : Int).toNat)
noncomputable def cpV_s10 (m : List Int) (c : Nat) (z : Bool) (x : Nat) (y : Nat) := ((inL m x y).length / (2 : Nat))
noncomputable def cpV :=
fun (m : List Int) (c : Nat) (z : Bool) ↦ ((∃ (y : Nat), Ob (y ≤ m.length ∧ caL m y = []) ∧ (Ob (AObj.ro (cpV_s1 m c z) = AObj.ro (List.map (nmap1 fun (b : Nat) ↦ b) (cpV_s1 m c z)) ∧ AObj.sc (2 : Nat) (AObj.ro (cpV_s1 m c z)) = true) ∧ Ob (AObj.rw (cpV_s0 m c z) none = AObj.rw (cpV_s0 m c z) none ∧ true = true) ∧ True) ∧ Ob (ptr0 1 = ptr0 1) ∧ Ob (Value.slice none (0 : Nat) (0 : Nat) = Value.slice none (0 : Nat) (0 : Nat)) ∧ Ob (Value.slice (some (ad0 0)) m.length c = Value.slice (some (ad0 0)) m.length c) ∧ Ob ((↑m.length : Int) = (↑m.length : Int)) ∧ Ob ((0 : Int) = (↑y : Int)) ∧ True) ∨ ∃ (y : Nat), Ob (y ≤ m.length ∧ caL m y ≠ []) ∧ (Ob (AObj.ro (cpV_s1 m c z) = AObj.ro (List.map (nmap1 fun (b : Nat) ↦ b) (cpV_s1 m c z)) ∧ AObj.sc (3 : Nat) (AObj.ro (cpV_s1 m c z)) = true) ∧ Ob (AObj.rw (cpV_s0 m c z) none = AObj.rw (cpV_s0 m c z) none ∧ true = true) ∧ False) ∧ Ob (ptr0 1 = ptr0 1) ∧ Ob (Value.slice none (0 : Nat) (0 : Nat) = Value.slice (some { block := (2 : Nat), off := (0 : Nat), spot := some (0 : Nat) }) ((caL m y).length / (2 : Nat)) (0 : Nat)) ∧ Ob (Value.slice (some (ad0 0)) m.length c = Value.slice (some (ad0 0)) m.length c) ∧ Ob ((↑m.length : Int) = (↑m.length : Int)) ∧ Ob ((0 : Int) = (↑y : Int)) ∧ True) ∧ (∀ (x : Nat), Ob (x ≤ m.length ∧ caL m x = []) → (decide ((↑x : Int) < (↑m.length : Int)) = true → Ob ((0 : Int) ≤ (↑x : Int) ∧ (↑x : Int) < (↑m.length : Int) ∧ true = true) ∧ Ob (IntAt IntKind.i64 (cpV_s1 m c z) ((0 : Nat) + (↑x : Int).toNat * (1 : Nat))) ∧ ((∃ (y : Nat), Ob (y ≤ (2 : Nat) ∧ inL m x y = []) ∧ (Ob (AObj.ro (cpV_s1 m c z) = AObj.ro (List.map (nmap1 fun (b : Nat) ↦ b) (cpV_s1 m c z)) ∧ AObj.sc (2 : Nat) (AObj.ro (cpV_s1 m c z)) = true) ∧ Ob (AObj.rw (cpV_s0 m c z) none = AObj.rw (cpV_s0 m c z) none ∧ true = true) ∧ True) ∧ Ob (ptr0 1 = ptr0 1) ∧ Ob (Value.slice none (0 : Nat) (0 : Nat) = Value.slice none (0 : Nat) (0 : Nat)) ∧ Ob ((↑x : Int) = (↑x : Int)) ∧ Ob (getI (cpV_s1 m c z) ((0 : Nat) + (↑x : Int).toNat * (1 : Nat)) = m.getD x (0 : Int)) ∧ Ob (Value.slice (some (ad0 0)) m.length c = Value.slice (some (ad0 0)) m.length c) ∧ Ob ((↑m.length : Int) = (↑m.length : Int)) ∧ Ob ((↑x : Int) = (↑x : Int)) ∧ Ob (Value.agg (cpV_s2 m c z) = Value.agg (cpV_s2 m c z)) ∧ Ob ((0 : Int) = (↑y : Int)) ∧ True) ∨ ∃ (y : Nat), Ob (y ≤ (2 : Nat) ∧ inL m x y ≠ []) ∧ (Ob (AObj.ro (cpV_s1 m c z) = AObj.ro (List.map (nmap1 fun (b : Nat) ↦ b) (cpV_s1 m c z)) ∧ AObj.sc (3 : Nat) (AObj.ro (cpV_s1 m c z)) = true) ∧ Ob (AObj.rw (cpV_s0 m c z) none = AObj.rw (cpV_s0 m c z) none ∧ true = true) ∧ False) ∧ Ob (ptr0 1 = ptr0 1) ∧ Ob (Value.slice none (0 : Nat) (0 : Nat) = Value.slice (some { block := (2 : Nat), off := (0 : Nat), spot := some (0 : Nat) }) (cpV_s10 m c z x y) (0 : Nat)) ∧ Ob ((↑x : Int) = (↑x : Int)) ∧ Ob (getI (cpV_s1 m c z) ((0 : Nat) + (↑x : Int).toNat * (1 : Nat)) = m.getD x (0 : Int)) ∧ Ob (Value.slice (some (ad0 0)) m.length c = Value.slice (some (ad0 0)) m.length c) ∧ Ob ((↑m.length : Int) = (↑m.length : Int)) ∧ Ob ((↑x : Int) = (↑x : Int)) ∧ Ob (Value.agg (cpV_s2 m c z) = Value.agg (cpV_s2 m c z)) ∧ Ob ((0 : Int) = (↑y : Int)) ∧ True) ∧ (∀ (x_1 : Nat), Ob (x_1 ≤ (2 : Nat) ∧ inL m x x_1 = []) → (decide ((↑x_1 : Int) < (2 : Int)) = true → Ob (aIndex Try.prog (100 : Nat) (Value.agg (cpV_s2 m c z)) (vi (↑x_1 : Int)) = some (vi (cpV_s9 m c z x_1))) ∧ ((IntKind.i64.wrap (cpV_s3 m c z x x_1) != (0 : Int)) = true → Ob (cpV_s7 m c z) ∧ ((∃ (y : Nat), Ob (y ≤ (2 : Nat) ∧ inL m x y = []) ∧ Ob ((2 : Nat) - y < (2 : Nat) - x_1) ∧ (Ob (AObj.ro (cpV_s1 m c z) = AObj.ro (List.map (nmap1 fun (b : Nat) ↦ b) (cpV_s1 m c z)) ∧ AObj.sc (2 : Nat) (AObj.ro (cpV_s1 m c z)) = true) ∧ Ob (AObj.rw (cpV_s0 m c z) none = AObj.rw (cpV_s0 m c z) none ∧ true = true) ∧ True) ∧ Ob (ptr0 1 = ptr0 1) ∧ Ob (Value.slice (some { block := (3 : Nat), off := (0 : Nat), spot := some (0 : Nat) }) (1 : Nat) (0 : Nat) = Value.slice none (0 : Nat) (0 : Nat)) ∧ Ob ((↑x : Int) = (↑x : Int)) ∧ Ob (m.getD x (0 : Int) = m.getD x (0 : Int)) ∧ Ob (Value.slice (some (ad0 0)) m.length c = Value.slice (some (ad0 0)) m.length c) ∧ Ob ((↑m.length : Int) = (↑m.length : Int)) ∧ Ob ((↑x : Int) = (↑x : Int)) ∧ Ob (Value.agg (cpV_s2 m c z) = Value.agg (cpV_s2 m c z)) ∧ Ob (IntKind.i64.wrap ((↑x_1 : Int) + (1 : Int)) = (↑y : Int)) ∧ True) ∨ ∃ (y : Nat), Ob (y ≤ (2 : Nat) ∧ inL m x y ≠ []) ∧ Ob ((2 : Nat) - y < (2 : Nat) - x_1) ∧ (Ob (AObj.ro (cpV_s1 m c z) = AObj.ro (List.map (nmap1 (nsub (2 : Nat) (3 : Nat))) (cpV_s1 m c z)) ∧ AObj.sc (3 : Nat) (AObj.ro (cpV_s1 m c z)) = true) ∧ Ob (AObj.rw (cpV_s0 m c z) none = AObj.rw (cpV_s0 m c z) none ∧ true = true) ∧ Ob (AObj.rw [vi (↑x : Int), vi (cpV_s9 m c z x_1)] (some (2 : Nat)) = AObj.rw (List.map (nmap1 (nsub (2 : Nat) (3 : Nat))) (cpV_s4 m c z x y)) (some (2 : Nat)) ∧ AObj.sc (3 : Nat) (cpV_s8 m c z x y) = true) ∧ True) ∧ Ob (ptr0 1 = ptr0 1) ∧ Ob (Value.slice (some { block := (3 : Nat), off := (0 : Nat), spot := some (0 : Nat) }) (1 : Nat) (0 : Nat) = Value.slice (some { block := (3 : Nat), off := (0 : Nat), spot := some (0 : Nat) }) (cpV_s10 m c z x y) (0 : Nat)) ∧ Ob ((↑x : Int) = (↑x : Int)) ∧ Ob (m.getD x (0 : Int) = m.getD x (0 : Int)) ∧ Ob (Value.slice (some (ad0 0)) m.length c = Value.slice (some (ad0 0)) m.length c) ∧ Ob ((↑m.length : Int) = (↑m.length : Int)) ∧ Ob ((↑x : Int) = (↑x : Int)) ∧ Ob (Value.agg (cpV_s2 m c z) = Value.agg (cpV_s2 m c z)) ∧ Ob (IntKind.i64.wrap ((↑x_1 : Int) + (1 : Int)) = (↑y : Int)) ∧ True)) ∧ ((IntKind.i64.wrap (cpV_s3 m c z x x_1) != (0 : Int)) = false → (∃ (y : Nat), Ob (y ≤ (2 : Nat) ∧ inL m x y = []) ∧ Ob ((2 : Nat) - y < (2 : Nat) - x_1) ∧ (Ob (AObj.ro (cpV_s1 m c z) = AObj.ro (List.map (nmap1 fun (b : Nat) ↦ b) (cpV_s1 m c z)) ∧ AObj.sc (2 : Nat) (AObj.ro (cpV_s1 m c z)) = true) ∧ Ob (AObj.rw (cpV_s0 m c z) none = AObj.rw (cpV_s0 m c z) none ∧ true = true) ∧ True) ∧ Ob (ptr0 1 = ptr0 1) ∧ Ob (Value.slice none (0 : Nat) (0 : Nat) = Value.slice none (0 : Nat) (0 : Nat)) ∧ Ob ((↑x : Int) = (↑x : Int)) ∧ Ob (m.getD x (0 : Int) = m.getD x (0 : Int)) ∧ Ob (Value.slice (some (ad0 0)) m.length c = Value.slice (some (ad0 0)) m.length c) ∧ Ob ((↑m.length : Int) = (↑m.length : Int)) ∧ Ob ((↑x : Int) = (↑x : Int)) ∧ Ob (Value.agg (cpV_s2 m c z) = Value.agg (cpV_s2 m c z)) ∧ Ob (IntKind.i64.wrap ((↑x_1 : Int) + (1 : Int)) = (↑y : Int)) ∧ True) ∨ ∃ (y : Nat), Ob (y ≤ (2 : Nat) ∧ inL m x y ≠ []) ∧ Ob ((2 : Nat) - y < (2 : Nat) - x_1) ∧ (Ob (AObj.ro (cpV_s1 m c z) = AObj.ro (List.map (nmap1 (nsub (2 : Nat) (3 : Nat))) (cpV_s1 m c z)) ∧ AObj.sc (3 : Nat) (AObj.ro (cpV_s1 m c z)) = true) ∧ Ob (AObj.rw (cpV_s0 m c z) none = AObj.rw (cpV_s0 m c z) none ∧ true = true) ∧ False) ∧ Ob (ptr0 1 = ptr0 1) ∧ Ob (Value.slice none (0 : Nat) (0 : Nat) = Value.slice (some { block := (3 : Nat), off := (0 : Nat), spot := some (0 : Nat) }) (cpV_s10 m c z x y) (0 : Nat)) ∧ Ob ((↑x : Int) = (↑x : Int)) ∧ Ob (m.getD x (0 : Int) = m.getD x (0 : Int)) ∧ Ob (Value.slice (some (ad0 0)) m.length c = Value.slice (some (ad0 0)) m.length c) ∧ Ob ((↑m.length : Int) = (↑m.length : Int)) ∧ Ob ((↑x : Int) = (↑x : Int)) ∧ Ob (Value.agg (cpV_s2 m c z) = Value.agg (cpV_s2 m c z)) ∧ Ob (IntKind.i64.wrap ((↑x_1 : Int) + (1 : Int)) = (↑y : Int)) ∧ True)) ∧ (decide ((↑x_1 : Int) < (2 : Int)) = false → (∃ (y : Nat), Ob (y ≤ m.length ∧ caL m y = []) ∧ Ob (m.length - y < m.length - x) ∧ (Ob (AObj.ro (cpV_s1 m c z) = AObj.ro (List.map (nmap1 fun (b : Nat) ↦ b) (cpV_s1 m c z)) ∧ AObj.sc (2 : Nat) (AObj.ro (cpV_s1 m c z)) = true) ∧ Ob (AObj.rw (cpV_s0 m c z) none = AObj.rw (cpV_s0 m c z) none ∧ true = true) ∧ True) ∧ Ob (ptr0 1 = ptr0 1) ∧ Ob (Value.slice none (0 : Nat) (0 : Nat) = Value.slice none (0 : Nat) (0 : Nat)) ∧ Ob (Value.slice (some (ad0 0)) m.length c = Value.slice (some (ad0 0)) m.length c) ∧ Ob ((↑m.length : Int) = (↑m.length : Int)) ∧ Ob (IntKind.i64.wrap ((↑x : Int) + (1 : Int)) = (↑y : Int)) ∧ True) ∨ ∃ (y : Nat), Ob (y ≤ m.length ∧ caL m y ≠ []) ∧ Ob (m.length - y < m.length - x) ∧ (Ob (AObj.ro (cpV_s1 m c z) = AObj.ro (List.map (nmap1 fun (b : Nat) ↦ b) (cpV_s1 m c z)) ∧ AObj.sc (3 : Nat) (AObj.ro (cpV_s1 m c z)) = true) ∧ Ob (AObj.rw (cpV_s0 m c z) none = AObj.rw (cpV_s0 m c z) none ∧ true = true) ∧ False) ∧ Ob (ptr0 1 = ptr0 1) ∧ Ob (Value.slice none (0 : Nat) (0 : Nat) = Value.slice (some { block := (2 : Nat), off := (0 : Nat), spot := some (0 : Nat) }) ((caL m y).length / (2 : Nat)) (0 : Nat)) ∧ Ob (Value.slice (some (ad0 0)) m.length c = Value.slice (some (ad0 0)) m.length c) ∧ Ob ((↑m.length : Int) = (↑m.length : Int)) ∧ Ob (IntKind.i64.wrap ((↑x : Int) + (1 : Int)) = (↑y : Int)) ∧ True)) ∧ ∀ (x_1 : Nat), Ob (x_1 ≤ (2 : Nat) ∧ inL m x x_1 ≠ []) → (decide ((↑x_1 : Int) < (2 : Int)) = true → Ob (aIndex Try.prog (100 : Nat) (Value.agg (cpV_s2 m c z)) (vi (↑x_1 : Int)) = some (vi (cpV_s9 m c z x_1))) ∧ ((IntKind.i64.wrap (cpV_s3 m c z x x_1) != (0 : Int)) = true → Ob (cpV_s5 m c z x x_1) ∧ (((∃ (y : Nat), Ob (y ≤ (2 : Nat) ∧ inL m x y = []) ∧ Ob ((2 : Nat) - y < (2 : Nat) - x_1) ∧ (Ob (AObj.ro (cpV_s1 m c z) = AObj.ro (List.map (nmap1 fun (b : Nat) ↦ b) (cpV_s1 m c z)) ∧ AObj.sc (2 : Nat) (AObj.ro (cpV_s1 m c z)) = true) ∧ Ob (AObj.rw (cpV_s0 m c z) none = AObj.rw (cpV_s0 m c z) none ∧ true = true) ∧ True) ∧ Ob (ptr0 1 = ptr0 1) ∧ Ob (Value.slice (some { block := (4 : Nat), off := (0 : Nat), spot := some (0 : Nat) }) ((inL m x x_1).length / (2 : Nat) + (1 : Nat)) (0 : Nat) = Value.slice none (0 : Nat) (0 : Nat)) ∧ Ob ((↑x : Int) = (↑x : Int)) ∧ Ob (m.getD x (0 : Int) = m.getD x (0 : Int)) ∧ Ob (Value.slice (some (ad0 0)) m.length c = Value.slice (some (ad0 0)) m.length c) ∧ Ob ((↑m.length : Int) = (↑m.length : Int)) ∧ Ob ((↑x : Int) = (↑x : Int)) ∧ Ob (Value.agg (cpV_s2 m c z) = Value.agg (cpV_s2 m c z)) ∧ Ob (IntKind.i64.wrap ((↑x_1 : Int) + (1 : Int)) = (↑y : Int)) ∧ True) ∨ ∃ (y : Nat), Ob (y ≤ (2 : Nat) ∧ inL m x y = []) ∧ Ob ((2 : Nat) - y < (2 : Nat) - x_1) ∧ (Ob (AObj.ro (cpV_s1 m c z) = AObj.ro (cpV_s6 m c z) ∧ AObj.sc (2 : Nat) (AObj.ro (cpV_s1 m c z)) = true) ∧ Ob (AObj.rw (cpV_s0 m c z) none = AObj.rw (cpV_s0 m c z) none ∧ true = true) ∧ True) ∧ Ob (ptr0 1 = ptr0 1) ∧ Ob (Value.slice (some { block := (4 : Nat), off := (0 : Nat), spot := some (0 : Nat) }) ((inL m x x_1).length / (2 : Nat) + (1 : Nat)) (0 : Nat) = Value.slice none (0 : Nat) (0 : Nat)) ∧ Ob ((↑x : Int) = (↑x : Int)) ∧ Ob (m.getD x (0 : Int) = m.getD x (0 : Int)) ∧ Ob (Value.slice (some (ad0 0)) m.length c = Value.slice (some (ad0 0)) m.length c) ∧ Ob ((↑m.length : Int) = (↑m.length : Int)) ∧ Ob ((↑x : Int) = (↑x : Int)) ∧ Ob (Value.agg (cpV_s2 m c z) = Value.agg (cpV_s2 m c z)) ∧ Ob (IntKind.i64.wrap ((↑x_1 : Int) + (1 : Int)) = (↑y : Int)) ∧ True) ∨ (∃ (y : Nat), Ob (y ≤ (2 : Nat) ∧ inL m x y ≠ []) ∧ Ob ((2 : Nat) - y < (2 : Nat) - x_1) ∧ (Ob (AObj.ro (cpV_s1 m c z) = AObj.ro (List.map (nmap1 fun (b : Nat) ↦ b) (cpV_s1 m c z)) ∧ AObj.sc (3 : Nat) (AObj.ro (cpV_s1 m c z)) = true) ∧ Ob (AObj.rw (cpV_s0 m c z) none = AObj.rw (cpV_s0 m c z) none ∧ true = true) ∧ Ob (AObj.gone = AObj.rw (List.map (nmap1 fun (b : Nat) ↦ b) (cpV_s4 m c z x y)) (some (2 : Nat)) ∧ AObj.sc (3 : Nat) (cpV_s8 m c z x y) = true) ∧ True) ∧ Ob (ptr0 1 = ptr0 1) ∧ Ob (Value.slice (some { block := (4 : Nat), off := (0 : Nat), spot := some (0 : Nat) }) ((inL m x x_1).length / (2 : Nat) + (1 : Nat)) (0 : Nat) = Value.slice (some { block := (2 : Nat), off := (0 : Nat), spot := some (0 : Nat) }) (cpV_s10 m c z x y) (0 : Nat)) ∧ Ob ((↑x : Int) = (↑x : Int)) ∧ Ob (m.getD x (0 : Int) = m.getD x (0 : Int)) ∧ Ob (Value.slice (some (ad0 0)) m.length c = Value.slice (some (ad0 0)) m.length c) ∧ Ob ((↑m.length : Int) = (↑m.length : Int)) ∧ Ob ((↑x : Int) = (↑x : Int)) ∧ Ob (Value.agg (cpV_s2 m c z) = Value.agg (cpV_s2 m c z)) ∧ Ob (IntKind.i64.wrap ((↑x_1 : Int) + (1 : Int)) = (↑y : Int)) ∧ True) ∨ ∃ (y : Nat), Ob (y ≤ (2 : Nat) ∧ inL m x y ≠ []) ∧ Ob ((2 : Nat) - y < (2 : Nat) - x_1) ∧ (Ob (AObj.ro (cpV_s1 m c z) = AObj.ro (cpV_s6 m c z) ∧ AObj.sc (3 : Nat) (AObj.ro (cpV_s1 m c z)) = true) ∧ Ob (AObj.rw (cpV_s0 m c z) none = AObj.rw (cpV_s0 m c z) none ∧ true = true) ∧ Ob (AObj.rw (List.map (Value.int IntKind.i64) (inL m x x_1) ++ [vi (↑x : Int), vi (cpV_s9 m c z x_1)]) (some (2 : Nat)) = AObj.rw (List.map (nmap1 (nsub (2 : Nat) (4 : Nat))) (cpV_s4 m c z x y)) (some (2 : Nat)) ∧ AObj.sc (3 : Nat) (cpV_s8 m c z x y) = true) ∧ True) ∧ Ob (ptr0 1 = ptr0 1) ∧ Ob (Value.slice (some { block := (4 : Nat), off := (0 : Nat), spot := some (0 : Nat) }) ((inL m x x_1).length / (2 : Nat) + (1 : Nat)) (0 : Nat) = Value.slice (some { block := (4 : Nat), off := (0 : Nat), spot := some (0 : Nat) }) (cpV_s10 m c z x y) (0 : Nat)) ∧ Ob ((↑x : Int) = (↑x : Int)) ∧ Ob (m.getD x (0 : Int) = m.getD x (0 : Int)) ∧ Ob (Value.slice (some (ad0 0)) m.length c = Value.slice (some (ad0 0)) m.length c) ∧ Ob ((↑m.length : Int) = (↑m.length : Int)) ∧ Ob ((↑x : Int) = (↑x : Int)) ∧ Ob (Value.agg (cpV_s2 m c z) = Value.agg (cpV_s2 m c z)) ∧ Ob (IntKind.i64.wrap ((↑x_1 : Int) + (1 : Int)) = (↑y : Int)) ∧ True)) ∧ ((IntKind.i64.wrap (cpV_s3 m c z x x_1) != (0 : Int)) = false → ((∃ (y : Nat), Ob (y ≤ (2 : Nat) ∧ inL m x y = []) ∧ Ob ((2 : Nat) - y < (2 : Nat) - x_1) ∧ (Ob (AObj.ro (cpV_s1 m c z) = AObj.ro (List.map (nmap1 fun (b : Nat) ↦ b) (cpV_s1 m c z)) ∧ AObj.sc (2 : Nat) (AObj.ro (cpV_s1 m c z)) = true) ∧ Ob (AObj.rw (cpV_s0 m c z) none = AObj.rw (cpV_s0 m c z) none ∧ true = true) ∧ True) ∧ Ob (ptr0 1 = ptr0 1) ∧ Ob (Value.slice (some { block := (2 : Nat), off := (0 : Nat), spot := some (0 : Nat) }) ((inL m x x_1).length / (2 : Nat)) (0 : Nat) = Value.slice none (0 : Nat) (0 : Nat)) ∧ Ob ((↑x : Int) = (↑x : Int)) ∧ Ob (m.getD x (0 : Int) = m.getD x (0 : Int)) ∧ Ob (Value.slice (some (ad0 0)) m.length c = Value.slice (some (ad0 0)) m.length c) ∧ Ob ((↑m.length : Int) = (↑m.length : Int)) ∧ Ob ((↑x : Int) = (↑x : Int)) ∧ Ob (Value.agg (cpV_s2 m c z) = Value.agg (cpV_s2 m c z)) ∧ Ob (IntKind.i64.wrap ((↑x_1 : Int) + (1 : Int)) = (↑y : Int)) ∧ True) ∨ ∃ (y : Nat), Ob (y ≤ (2 : Nat) ∧ inL m x y = []) ∧ Ob ((2 : Nat) - y < (2 : Nat) - x_1) ∧ (Ob (AObj.ro (cpV_s1 m c z) = AObj.ro (cpV_s6 m c z) ∧ AObj.sc (2 : Nat) (AObj.ro (cpV_s1 m c z)) = true) ∧ Ob (AObj.rw (cpV_s0 m c z) none = AObj.rw (cpV_s0 m c z) none ∧ true = true) ∧ True) ∧ Ob (ptr0 1 = ptr0 1) ∧ Ob (Value.slice (some { block := (2 : Nat), off := (0 : Nat), spot := some (0 : Nat) }) ((inL m x x_1).length / (2 : Nat)) (0 : Nat) = Value.slice none (0 : Nat) (0 : Nat)) ∧ Ob ((↑x : Int) = (↑x : Int)) ∧ Ob (m.getD x (0 : Int) = m.getD x (0 : Int)) ∧ Ob (Value.slice (some (ad0 0)) m.length c = Value.slice (some (ad0 0)) m.length c) ∧ Ob ((↑m.length : Int) = (↑m.length : Int)) ∧ Ob ((↑x : Int) = (↑x : Int)) ∧ Ob (Value.agg (cpV_s2 m c z) = Value.agg (cpV_s2 m c z)) ∧ Ob (IntKind.i64.wrap ((↑x_1 : Int) + (1 : Int)) = (↑y : Int)) ∧ True) ∨ (∃ (y : Nat), Ob (y ≤ (2 : Nat) ∧ inL m x y ≠ []) ∧ Ob ((2 : Nat) - y < (2 : Nat) - x_1) ∧ (Ob (AObj.ro (cpV_s1 m c z) = AObj.ro (List.map (nmap1 fun (b : Nat) ↦ b) (cpV_s1 m c z)) ∧ AObj.sc (3 : Nat) (AObj.ro (cpV_s1 m c z)) = true) ∧ Ob (AObj.rw (cpV_s0 m c z) none = AObj.rw (cpV_s0 m c z) none ∧ true = true) ∧ Ob (AObj.rw (List.map (Value.int IntKind.i64) (inL m x x_1)) (some (2 : Nat)) = AObj.rw (List.map (nmap1 fun (b : Nat) ↦ b) (cpV_s4 m c z x y)) (some (2 : Nat)) ∧ AObj.sc (3 : Nat) (cpV_s8 m c z x y) = true) ∧ True) ∧ Ob (ptr0 1 = ptr0 1) ∧ Ob (Value.slice (some { block := (2 : Nat), off := (0 : Nat), spot := some (0 : Nat) }) ((inL m x x_1).length / (2 : Nat)) (0 : Nat) = Value.slice (some { block := (2 : Nat), off := (0 : Nat), spot := some (0 : Nat) }) (cpV_s10 m c z x y) (0 : Nat)) ∧ Ob ((↑x : Int) = (↑x : Int)) ∧ Ob (m.getD x (0 : Int) = m.getD x (0 : Int)) ∧ Ob (Value.slice (some (ad0 0)) m.length c = Value.slice (some (ad0 0)) m.length c) ∧ Ob ((↑m.length : Int) = (↑m.length : Int)) ∧ Ob ((↑x : Int) = (↑x : Int)) ∧ Ob (Value.agg (cpV_s2 m c z) = Value.agg (cpV_s2 m c z)) ∧ Ob (IntKind.i64.wrap ((↑x_1 : Int) + (1 : Int)) = (↑y : Int)) ∧ True) ∨ ∃ (y : Nat), Ob (y ≤ (2 : Nat) ∧ inL m x y ≠ []) ∧ Ob ((2 : Nat) - y < (2 : Nat) - x_1) ∧ (Ob (AObj.ro (cpV_s1 m c z) = AObj.ro (cpV_s6 m c z) ∧ AObj.sc (3 : Nat) (AObj.ro (cpV_s1 m c z)) = true) ∧ Ob (AObj.rw (cpV_s0 m c z) none = AObj.rw (cpV_s0 m c z) none ∧ true = true) ∧ False) ∧ Ob (ptr0 1 = ptr0 1) ∧ Ob (Value.slice (some { block := (2 : Nat), off := (0 : Nat), spot := some (0 : Nat) }) ((inL m x x_1).length / (2 : Nat)) (0 : Nat) = Value.slice (some { block := (4 : Nat), off := (0 : Nat), spot := some (0 : Nat) }) (cpV_s10 m c z x y) (0 : Nat)) ∧ Ob ((↑x : Int) = (↑x : Int)) ∧ Ob (m.getD x (0 : Int) = m.getD x (0 : Int)) ∧ Ob (Value.slice (some (ad0 0)) m.length c = Value.slice (some (ad0 0)) m.length c) ∧ Ob ((↑m.length : Int) = (↑m.length : Int)) ∧ Ob ((↑x : Int) = (↑x : Int)) ∧ Ob (Value.agg (cpV_s2 m c z) = Value.agg (cpV_s2 m c z)) ∧ Ob (IntKind.i64.wrap ((↑x_1 : Int) + (1 : Int)) = (↑y : Int)) ∧ True)) ∧ (decide ((↑x_1 : Int) < (2 : Int)) = false → (∃ (y : Nat), Ob (y ≤ m.length ∧ caL m y = []) ∧ Ob (m.length - y < m.length - x) ∧ (Ob (AObj.ro (cpV_s1 m c z) = AObj.ro (List.map (nmap1 fun (b : Nat) ↦ b) (cpV_s1 m c z)) ∧ AObj.sc (2 : Nat) (AObj.ro (cpV_s1 m c z)) = true) ∧ Ob (AObj.rw (cpV_s0 m c z) none = AObj.rw (cpV_s0 m c z) none ∧ true = true) ∧ True) ∧ Ob (ptr0 1 = ptr0 1) ∧ Ob (Value.slice (some { block := (2 : Nat), off := (0 : Nat), spot := some (0 : Nat) }) ((inL m x x_1).length / (2 : Nat)) (0 : Nat) = Value.slice none (0 : Nat) (0 : Nat)) ∧ Ob (Value.slice (some (ad0 0)) m.length c = Value.slice (some (ad0 0)) m.length c) ∧ Ob ((↑m.length : Int) = (↑m.length : Int)) ∧ Ob (IntKind.i64.wrap ((↑x : Int) + (1 : Int)) = (↑y : Int)) ∧ True) ∨ ∃ (y : Nat), Ob (y ≤ m.length ∧ caL m y ≠ []) ∧ Ob (m.length - y < m.length - x) ∧ (Ob (AObj.ro (cpV_s1 m c z) = AObj.ro (List.map (nmap1 fun (b : Nat) ↦ b) (cpV_s1 m c z)) ∧ AObj.sc (3 : Nat) (AObj.ro (cpV_s1 m c z)) = true) ∧ Ob (AObj.rw (cpV_s0 m c z) none = AObj.rw (cpV_s0 m c z) none ∧ true = true) ∧ Ob (AObj.rw (List.map (Value.int IntKind.i64) (inL m x x_1)) (some (2 : Nat)) = AObj.rw (List.map (nmap1 fun (b : Nat) ↦ b) (List.map (Value.int IntKind.i64) (caL m y))) (some (2 : Nat)) ∧ AObj.sc (3 : Nat) (AObj.rw (List.map (Value.int IntKind.i64) (caL m y)) (some (2 : Nat))) = true) ∧ True) ∧ Ob (ptr0 1 = ptr0 1) ∧ Ob (Value.slice (some { block := (2 : Nat), off := (0 : Nat), spot := some (0 : Nat) }) ((inL m x x_1).length / (2 : Nat)) (0 : Nat) = Value.slice (some { block := (2 : Nat), off := (0 : Nat), spot := some (0 : Nat) }) ((caL m y).length / (2 : Nat)) (0 : Nat)) ∧ Ob (Value.slice (some (ad0 0)) m.length c = Value.slice (some (ad0 0)) m.length c) ∧ Ob ((↑m.length : Int) = (↑m.length : Int)) ∧ Ob (IntKind.i64.wrap ((↑x : Int) + (1 : Int)) = (↑y : Int)) ∧ True)) ∧ (decide ((↑x : Int) < (↑m.length : Int)) = false → Ob (some (Value.bool z) = some (Value.bool z)) ∧ (z = true → Ob ((0 : Nat) + (2 : Nat) ≤ (2 : Nat)) ∧ Ob (cpV_s7 m c z) ∧ True ∧ Ob (finK (allL m z) m (Value.slice (some { block := (4 : Nat), off := (0 : Nat), spot := some (0 : Nat) }) (1 : Nat) (0 : Nat)) [AObj.ro (cpV_s1 m c z), AObj.rw (cpV_s0 m c z) none, AObj.rw [vi (-1 : Int), vi (0 : Int)] none, AObj.rw [vi (-1 : Int), vi (0 : Int)] none, AObj.rw [vi (-1 : Int), vi (0 : Int)] (some (2 : Nat))])) ∧ (z = false → True ∧ Ob (finK (allL m z) m (Value.slice none (0 : Nat) (0 : Nat)) [AObj.ro (cpV_s1 m c z), AObj.rw (cpV_s0 m c z) none])))) ∧ ∀ (x : Nat), Ob (x ≤ m.length ∧ caL m x ≠ []) → (decide ((↑x : Int) < (↑m.length : Int)) = true → Ob ((0 : Int) ≤ (↑x : Int) ∧ (↑x : Int) < (↑m.length : Int) ∧ true = true) ∧ Ob (IntAt IntKind.i64 (cpV_s1 m c z) ((0 : Nat) + (↑x : Int).toNat * (1 : Nat))) ∧ (∃ (y : Nat), Ob (y ≤ (2 : Nat) ∧ inL m x y ≠ []) ∧ (Ob (AObj.ro (cpV_s1 m c z) = AObj.ro (List.map (nmap1 fun (b : Nat) ↦ b) (cpV_s1 m c z)) ∧ AObj.sc (3 : Nat) (AObj.ro (cpV_s1 m c z)) = true) ∧ Ob (AObj.rw (cpV_s0 m c z) none = AObj.rw (cpV_s0 m c z) none ∧ true = true) ∧ Ob (AObj.rw (List.map (Value.int IntKind.i64) (caL m x)) (some (2 : Nat)) = AObj.rw (List.map (nmap1 fun (b : Nat) ↦ b) (cpV_s4 m c z x y)) (some (2 : Nat)) ∧ AObj.sc (3 : Nat) (cpV_s8 m c z x y) = true) ∧ True) ∧ Ob (ptr0 1 = ptr0 1) ∧ Ob (Value.slice (some { block := (2 : Nat), off := (0 : Nat), spot := some (0 : Nat) }) ((caL m x).length / (2 : Nat)) (0 : Nat) = Value.slice (some { block := (2 : Nat), off := (0 : Nat), spot := some (0 : Nat) }) (cpV_s10 m c z x y) (0 : Nat)) ∧ Ob ((↑x : Int) = (↑x : Int)) ∧ Ob (getI (cpV_s1 m c z) ((0 : Nat) + (↑x : Int).toNat * (1 : Nat)) = m.getD x (0 : Int)) ∧ Ob (Value.slice (some (ad0 0)) m.length c = Value.slice (some (ad0 0)) m.length c) ∧ Ob ((↑m.length : Int) = (↑m.length : Int)) ∧ Ob ((↑x : Int) = (↑x : Int)) ∧ Ob (Value.agg (cpV_s2 m c z) = Value.agg (cpV_s2 m c z)) ∧ Ob ((0 : Int) = (↑y : Int)) ∧ True) ∧ ∀ (x_1 : Nat), Ob (x_1 ≤ (2 : Nat) ∧ inL m x x_1 ≠ []) → (decide ((↑x_1 : Int) < (2 : Int)) = true → Ob (aIndex Try.prog (100 : Nat) (Value.agg (cpV_s2 m c z)) (vi (↑x_1 : Int)) = some (vi (cpV_s9 m c z x_1))) ∧ ((IntKind.i64.wrap (cpV_s3 m c z x x_1) != (0 : Int)) = true → Ob (cpV_s5 m c z x x_1) ∧ ((∃ (y : Nat), Ob (y ≤ (2 : Nat) ∧ inL m x y ≠ []) ∧ Ob ((2 : Nat) - y < (2 : Nat) - x_1) ∧ (Ob (AObj.ro (cpV_s1 m c z) = AObj.ro (List.map (nmap1 fun (b : Nat) ↦ b) (cpV_s1 m c z)) ∧ AObj.sc (3 : Nat) (AObj.ro (cpV_s1 m c z)) = true) ∧ Ob (AObj.rw (cpV_s0 m c z) none = AObj.rw (cpV_s0 m c z) none ∧ true = true) ∧ Ob (AObj.gone = AObj.rw (List.map (nmap1 fun (b : Nat) ↦ b) (cpV_s4 m c z x y)) (some (2 : Nat)) ∧ AObj.sc (3 : Nat) (cpV_s8 m c z x y) = true) ∧ True) ∧ Ob (ptr0 1 = ptr0 1) ∧ Ob (Value.slice (some { block := (4 : Nat), off := (0 : Nat), spot := some (0 : Nat) }) ((inL m x x_1).length / (2 : Nat) + (1 : Nat)) (0 : Nat) = Value.slice (some { block := (2 : Nat), off := (0 : Nat), spot := some (0 : Nat) }) (cpV_s10 m c z x y) (0 : Nat)) ∧ Ob ((↑x : Int) = (↑x : Int)) ∧ Ob (m.getD x (0 : Int) = m.getD x (0 : Int)) ∧ Ob (Value.slice (some (ad0 0)) m.length c = Value.slice (some (ad0 0)) m.length c) ∧ Ob ((↑m.length : Int) = (↑m.length : Int)) ∧ Ob ((↑x : Int) = (↑x : Int)) ∧ Ob (Value.agg (cpV_s2 m c z) = Value.agg (cpV_s2 m c z)) ∧ Ob (IntKind.i64.wrap ((↑x_1 : Int) + (1 : Int)) = (↑y : Int)) ∧ True) ∨ ∃ (y : Nat), Ob (y ≤ (2 : Nat) ∧ inL m x y ≠ []) ∧ Ob ((2 : Nat) - y < (2 : Nat) - x_1) ∧ (Ob (AObj.ro (cpV_s1 m c z) = AObj.ro (cpV_s6 m c z) ∧ AObj.sc (3 : Nat) (AObj.ro (cpV_s1 m c z)) = true) ∧ Ob (AObj.rw (cpV_s0 m c z) none = AObj.rw (cpV_s0 m c z) none ∧ true = true) ∧ Ob (AObj.rw (List.map (Value.int IntKind.i64) (inL m x x_1) ++ [vi (↑x : Int), vi (cpV_s9 m c z x_1)]) (some (2 : Nat)) = AObj.rw (List.map (nmap1 (nsub (2 : Nat) (4 : Nat))) (cpV_s4 m c z x y)) (some (2 : Nat)) ∧ AObj.sc (3 : Nat) (cpV_s8 m c z x y) = true) ∧ True) ∧ Ob (ptr0 1 = ptr0 1) ∧ Ob (Value.slice (some { block := (4 : Nat), off := (0 : Nat), spot := some (0 : Nat) }) ((inL m x x_1).length / (2 : Nat) + (1 : Nat)) (0 : Nat) = Value.slice (some { block := (4 : Nat), off := (0 : Nat), spot := some (0 : Nat) }) (cpV_s10 m c z x y) (0 : Nat)) ∧ Ob ((↑x : Int) = (↑x : Int)) ∧ Ob (m.getD x (0 : Int) = m.getD x (0 : Int)) ∧ Ob (Value.slice (some (ad0 0)) m.length c = Value.slice (some (ad0 0)) m.length c) ∧ Ob ((↑m.length : Int) = (↑m.length : Int)) ∧ Ob ((↑x : Int) = (↑x : Int)) ∧ Ob (Value.agg (cpV_s2 m c z) = Value.agg (cpV_s2 m c z)) ∧ Ob (IntKind.i64.wrap ((↑x_1 : Int) + (1 : Int)) = (↑y : Int)) ∧ True)) ∧ ((IntKind.i64.wrap (cpV_s3 m c z x x_1) != (0 : Int)) = false → (∃ (y : Nat), Ob (y ≤ (2 : Nat) ∧ inL m x y ≠ []) ∧ Ob ((2 : Nat) - y < (2 : Nat) - x_1) ∧ (Ob (AObj.ro (cpV_s1 m c z) = AObj.ro (List.map (nmap1 fun (b : Nat) ↦ b) (cpV_s1 m c z)) ∧ AObj.sc (3 : Nat) (AObj.ro (cpV_s1 m c z)) = true) ∧ Ob (AObj.rw (cpV_s0 m c z) none = AObj.rw (cpV_s0 m c z) none ∧ true = true) ∧ Ob (AObj.rw (List.map (Value.int IntKind.i64) (inL m x x_1)) (some (2 : Nat)) = AObj.rw (List.map (nmap1 fun (b : Nat) ↦ b) (cpV_s4 m c z x y)) (some (2 : Nat)) ∧ AObj.sc (3 : Nat) (cpV_s8 m c z x y) = true) ∧ True) ∧ Ob (ptr0 1 = ptr0 1) ∧ Ob (Value.slice (some { block := (2 : Nat), off := (0 : Nat), spot := some (0 : Nat) }) ((inL m x x_1).length / (2 : Nat)) (0 : Nat) = Value.slice (some { block := (2 : Nat), off := (0 : Nat), spot := some (0 : Nat) }) (cpV_s10 m c z x y) (0 : Nat)) ∧ Ob ((↑x : Int) = (↑x : Int)) ∧ Ob (m.getD x (0 : Int) = m.getD x (0 : Int)) ∧ Ob (Value.slice (some (ad0 0)) m.length c = Value.slice (some (ad0 0)) m.length c) ∧ Ob ((↑m.length : Int) = (↑m.length : Int)) ∧ Ob ((↑x : Int) = (↑x : Int)) ∧ Ob (Value.agg (cpV_s2 m c z) = Value.agg (cpV_s2 m c z)) ∧ Ob (IntKind.i64.wrap ((↑x_1 : Int) + (1 : Int)) = (↑y : Int)) ∧ True) ∨ ∃ (y : Nat), Ob (y ≤ (2 : Nat) ∧ inL m x y ≠ []) ∧ Ob ((2 : Nat) - y < (2 : Nat) - x_1) ∧ (Ob (AObj.ro (cpV_s1 m c z) = AObj.ro (cpV_s6 m c z) ∧ AObj.sc (3 : Nat) (AObj.ro (cpV_s1 m c z)) = true) ∧ Ob (AObj.rw (cpV_s0 m c z) none = AObj.rw (cpV_s0 m c z) none ∧ true = true) ∧ False) ∧ Ob (ptr0 1 = ptr0 1) ∧ Ob (Value.slice (some { block := (2 : Nat), off := (0 : Nat), spot := some (0 : Nat) }) ((inL m x x_1).length / (2 : Nat)) (0 : Nat) = Value.slice (some { block := (4 : Nat), off := (0 : Nat), spot := some (0 : Nat) }) (cpV_s10 m c z x y) (0 : Nat)) ∧ Ob ((↑x : Int) = (↑x : Int)) ∧ Ob (m.getD x (0 : Int) = m.getD x (0 : Int)) ∧ Ob (Value.slice (some (ad0 0)) m.length c = Value.slice (some (ad0 0)) m.length c) ∧ Ob ((↑m.length : Int) = (↑m.length : Int)) ∧ Ob ((↑x : Int) = (↑x : Int)) ∧ Ob (Value.agg (cpV_s2 m c z) = Value.agg (cpV_s2 m c z)) ∧ Ob (IntKind.i64.wrap ((↑x_1 : Int) + (1 : Int)) = (↑y : Int)) ∧ True)) ∧ (decide ((↑x_1 : Int) < (2 : Int)) = false → (∃ (y : Nat), Ob (y ≤ m.length ∧ caL m y = []) ∧ Ob (m.length - y < m.length - x) ∧ (Ob (AObj.ro (cpV_s1 m c z) = AObj.ro (List.map (nmap1 fun (b : Nat) ↦ b) (cpV_s1 m c z)) ∧ AObj.sc (2 : Nat) (AObj.ro (cpV_s1 m c z)) = true) ∧ Ob (AObj.rw (cpV_s0 m c z) none = AObj.rw (cpV_s0 m c z) none ∧ true = true) ∧ True) ∧ Ob (ptr0 1 = ptr0 1) ∧ Ob (Value.slice (some { block := (2 : Nat), off := (0 : Nat), spot := some (0 : Nat) }) ((inL m x x_1).length / (2 : Nat)) (0 : Nat) = Value.slice none (0 : Nat) (0 : Nat)) ∧ Ob (Value.slice (some (ad0 0)) m.length c = Value.slice (some (ad0 0)) m.length c) ∧ Ob ((↑m.length : Int) = (↑m.length : Int)) ∧ Ob (IntKind.i64.wrap ((↑x : Int) + (1 : Int)) = (↑y : Int)) ∧ True) ∨ ∃ (y : Nat), Ob (y ≤ m.length ∧ caL m y ≠ []) ∧ Ob (m.length - y < m.length - x) ∧ (Ob (AObj.ro (cpV_s1 m c z) = AObj.ro (List.map (nmap1 fun (b : Nat) ↦ b) (cpV_s1 m c z)) ∧ AObj.sc (3 : Nat) (AObj.ro (cpV_s1 m c z)) = true) ∧ Ob (AObj.rw (cpV_s0 m c z) none = AObj.rw (cpV_s0 m c z) none ∧ true = true) ∧ Ob (AObj.rw (List.map (Value.int IntKind.i64) (inL m x x_1)) (some (2 : Nat)) = AObj.rw (List.map (nmap1 fun (b : Nat) ↦ b) (List.map (Value.int IntKind.i64) (caL m y))) (some (2 : Nat)) ∧ AObj.sc (3 : Nat) (AObj.rw (List.map (Value.int IntKind.i64) (caL m y)) (some (2 : Nat))) = true) ∧ True) ∧ Ob (ptr0 1 = ptr0 1) ∧ Ob (Value.slice (some { block := (2 : Nat), off := (0 : Nat), spot := some (0 : Nat) }) ((inL m x x_1).length / (2 : Nat)) (0 : Nat) = Value.slice (some { block := (2 : Nat), off := (0 : Nat), spot := some (0 : Nat) }) ((caL m y).length / (2 : Nat)) (0 : Nat)) ∧ Ob (Value.slice (some (ad0 0)) m.length c = Value.slice (some (ad0 0)) m.length c) ∧ Ob ((↑m.length : Int) = (↑m.length : Int)) ∧ Ob (IntKind.i64.wrap ((↑x : Int) + (1 : Int)) = (↑y : Int)) ∧ True)) ∧ (decide ((↑x : Int) < (↑m.length : Int)) = false → Ob (some (Value.bool z) = some (Value.bool z)) ∧ (z = true → Ob ((0 : Nat) + (2 : Nat) ≤ (2 : Nat)) ∧ Ob (andP (some ((0 : Nat) + (2 : Nat) ≤ (2 : Nat) ∧ true = true)) ((caL m x).length / (2 : Nat) + (1 : Nat) ≤ (1099511627776 : Nat) ∧ ((2 : Nat) * ((caL m x).length / (2 : Nat) + (1 : Nat)) + (256 : Nat)) * (16 : Nat) ≤ (281474976710656 : Nat) ∧ (2 : Nat) = (2 : Nat) ∧ (List.map (Value.int IntKind.i64) (caL m x)).length = (caL m x).length / (2 : Nat) * (2 : Nat))) ∧ True ∧ Ob (finK (allL m z) m (Value.slice (some { block := (5 : Nat), off := (0 : Nat), spot := some (0 : Nat) }) ((caL m x).length / (2 : Nat) + (1 : Nat)) (0 : Nat)) [AObj.ro (cpV_s1 m c z), AObj.rw (cpV_s0 m c z) none, AObj.gone, AObj.rw [vi (-1 : Int), vi (0 : Int)] none, AObj.rw [vi (-1 : Int), vi (0 : Int)] none, AObj.rw (List.map (Value.int IntKind.i64) (caL m x) ++ [vi (-1 : Int), vi (0 : Int)]) (some (2 : Nat))])) ∧ (z = false → True ∧ Ob (finK (allL m z) m (Value.slice (some { block := (2 : Nat), off := (0 : Nat), spot := some (0 : Nat) }) ((caL m x).length / (2 : Nat)) (0 : Nat)) [AObj.ro (cpV_s1 m c z), AObj.rw (cpV_s0 m c z) none, AObj.rw (List.map (Value.int IntKind.i64) (caL m x)) (some (2 : Nat))])))
theorem cpV_eq : cpV = fun (m : List Int) (c : Nat) (z : Bool) => vc Try.prog cpE 1 39 true (cpI m c z) cpB [] (argFr 0 [knV (some ⟨0,0,none⟩) m.length c z]) [ros m] (retK Try.prog Try.f35 (finK (allL m z) m)) := by kernel_rfl
theorem getK {j : Nat} (h : j < 2) : getI [vi 1, vi 2] j = ((j + 1 : Nat) : Int) := by
  rcases j with _ | _ | j <;> first | rfl | omega
theorem ixK {j : Nat} (h : j < 2) : aIndex Try.prog 100 (.agg ⟨[vi 1, vi 2]⟩) (vi j) = some (vi (getI [vi 1, vi 2] j)) := by
  rcases j with _ | _ | j
  · kernel_rfl
  · kernel_rfl
  · omega
theorem cpV_ok (m : List Int) (c : Nat) (z : Bool) (hm : m.length ≤ 1000) : cpV m c z := by
  unfold cpV cpV_s10 cpV_s9 cpV_s8 cpV_s7 cpV_s6 cpV_s5 cpV_s4 cpV_s3 cpV_s2 cpV_s1 cpV_s0
  simp only [SS, reduceCtorEq, Arg.list, Arg.num, Arg.flag, intOf, andP, Nat.reduceLeDiff, Nat.reduceAdd, Nat.reduceMul, Nat.reduceLT, rowP]
  have hca : ∀ x, (caL m x).length % 2 = 0 ∧ (caL m x).length ≤ 4 * x := ca_len
  have hin : ∀ x j, (inL m x j).length % 2 = 0 ∧ (inL m x j).length ≤ 4 * x + 2 * j := fun x j => in_len j
  have rnd : ∀ x, x < m.length → ∀ j, j ≤ 2 ∧ ¬ inL m x j = [] → ((j : Int) < 2 → aIndex Try.prog 100 (.agg ⟨[vi 1, vi 2]⟩) (vi j) = some (vi (getI [vi 1, vi 2] j)) ∧
      (¬ IntKind.i64.wrap ((BitVec.ofInt 64 (m.getD x 0) &&& BitVec.ofInt 64 (getI [vi 1, vi 2] j)).toNat) = 0 → ((inL m x j).length / 2 ≤ 1099511627775 ∧ (2 * ((inL m x j).length / 2 + 1) + 256) * 16 ≤ 281474976710656 ∧ (inL m x j).length = (inL m x j).length / 2 * 2) ∧
        ∃ y, (y ≤ 2 ∧ ¬ inL m x y = []) ∧ 2 - y < 2 - j ∧ List.map (Value.int .i64) (inL m x j) ++ [vi x, vi (getI [vi 1, vi 2] j)] = List.map (Value.int .i64) (inL m x y) ∧ (inL m x j).length / 2 + 1 = (inL m x y).length / 2 ∧ IntKind.i64.wrap ((j : Int) + 1) = (y : Int)) ∧
      (IntKind.i64.wrap ((BitVec.ofInt 64 (m.getD x 0) &&& BitVec.ofInt 64 (getI [vi 1, vi 2] j)).toNat) = 0 →
        ∃ y, (y ≤ 2 ∧ ¬ inL m x y = []) ∧ 2 - y < 2 - j ∧ List.map (Value.int .i64) (inL m x j) = List.map (Value.int .i64) (inL m x y) ∧ (inL m x j).length / 2 = (inL m x y).length / 2 ∧ IntKind.i64.wrap ((j : Int) + 1) = (y : Int))) ∧
      (¬ (j : Int) < 2 → ∃ y, (y ≤ m.length ∧ ¬ caL m y = []) ∧ m.length - y < m.length - x ∧ List.map (Value.int .i64) (inL m x j) = List.map (Value.int .i64) (caL m y) ∧ (inL m x j).length / 2 = (caL m y).length / 2 ∧ IntKind.i64.wrap ((x : Int) + 1) = (y : Int)) := by
    intro x hx j ⟨hj, hne⟩
    have hl := hin x j
    refine ⟨fun h1 => ⟨ixK (by omega), ?_, ?_⟩, fun h1 => ?_⟩
    · rw [getK (show j < 2 by omega)]
      intro h2
      refine ⟨by omega, j + 1, ⟨by omega, ?_⟩, by omega, ?_, ?_, wrap_succ (n := 2) (by omega) (by omega)⟩
      · rw [in_yes h2]; exact List.append_ne_nil_of_right_ne_nil _ (by simp)
      · rw [in_yes h2, snoc_map]
      · rw [in_yes h2, List.length_append]; simp only [List.length_cons, List.length_nil]; omega
    · rw [getK (show j < 2 by omega)]
      intro h2
      refine ⟨j + 1, ⟨by omega, ?_⟩, by omega, ?_, ?_, wrap_succ (n := 2) (by omega) (by omega)⟩
      · rw [in_no h2]; exact hne
      · rw [in_no h2]
      · rw [in_no h2]
    · have e : j = 2 := by omega
      subst e
      exact ⟨x + 1, ⟨by omega, hne⟩, by omega, rfl, rfl, wrap_succ (n := m.length) hx (by omega)⟩
  refine ⟨⟨0, ⟨by omega, rfl⟩, rfl⟩, fun x ⟨hx, hc⟩ => ⟨fun h1 => ⟨by omega, by omega, ⟨0, ⟨by omega, hc⟩, rfl⟩, fun j ⟨hj, he⟩ => ⟨fun h2 => ⟨ixK (by omega), ?_, ?_⟩, fun h2 => ?_⟩, rnd x (by omega)⟩, fun h1 => ?_⟩, fun x ⟨hx, hc⟩ => ⟨fun h1 => ⟨by omega, by omega, ⟨0, ⟨by omega, hc⟩, rfl, rfl, rfl⟩, rnd x (by omega)⟩, fun h1 => ?_⟩⟩
  · rw [getK (show j < 2 by omega)]
    intro h3
    refine ⟨j + 1, ⟨by omega, ?_⟩, by omega, ?_, ?_, wrap_succ (n := 2) (by omega) (by omega)⟩
    · rw [in_yes h3]; exact List.append_ne_nil_of_right_ne_nil _ (by simp)
    · rw [in_yes h3, he]; rfl
    · rw [in_yes h3, he]; simp
  · rw [getK (show j < 2 by omega)]
    intro h3
    refine ⟨j + 1, ⟨by omega, ?_⟩, by omega, wrap_succ (n := 2) (by omega) (by omega)⟩
    rw [in_no h3]; exact he
  · have e : j = 2 := by omega
    subst e
    exact ⟨x + 1, ⟨by omega, he⟩, by omega, wrap_succ (n := m.length) (by omega) (by omega)⟩
  · have e : x = m.length := by omega
    subst e
    refine ⟨fun hz => ?_, fun hz => ?_⟩
    · rw [hz, all_yes, hc]
      exact ⟨fun k => by simp at k, fun _ => ⟨4, by omega, rfl, rfl, rfl⟩⟩
    · rw [hz, all_no, hc]
      exact ⟨fun _ => rfl, fun k => absurd rfl k⟩
  · have e : x = m.length := by omega
    subst e
    have hl := hca m.length
    refine ⟨fun hz => ⟨by omega, ?_⟩, fun hz => ?_⟩
    · rw [hz, all_yes]
      refine ⟨fun k => by simp at k, fun _ => ⟨5, by omega, ?_, rfl, ?_⟩⟩
      · rw [List.length_append]
        show Value.slice _ _ _ = Value.slice _ _ _
        congr 1
        simp only [List.length_cons, List.length_nil]; omega
      · rw [snoc_map]; rfl
    · rw [hz, all_no]
      exact ⟨fun k => absurd k hc, fun _ => ⟨2, by omega, rfl, rfl, rfl⟩⟩
end Go.Pier.Sk
set_option maxRecDepth 100000
set_option linter.unusedVariables false
set_option linter.unusedSimpArgs false
namespace Go.Pier.Sk
open Go Go.Pier Go.Proofs
noncomputable def wiB : Code := Try.f37.body.getD .skip
def wiI (a b : Int) (l : List Int) (ad : Option Addr) (c : Nat) (H : Heap) : Nat → Option LInv := invOf 0 (LInv.one Nat (fun i => i ≤ l.length ∧ ∀ j, j < i → a ≤ l.getD j 0 ∧ l.getD j 0 ≤ b) (fun i => [(0, vi a), (1, vi b), (9, .slice ad l.length c), (10, vi l.length), (11, vi i)]) (fun _ => H) (fun i => l.length - i))
def wiF (a b : Int) (l : List Int) : Bool := decide (∀ x ∈ l, a ≤ x ∧ x ≤ b)
noncomputable def wiV :=
fun (a b : Int) (l : List Int) (c : Nat) ↦ (∃ (y : Nat), Ob (y ≤ l.length ∧ ∀ (j : Nat), j < y → a ≤ l.getD j (0 : Int) ∧ l.getD j (0 : Int) ≤ b) ∧ (Ob (AObj.ro (List.map (Value.int IntKind.i64) l) = AObj.ro (List.map (nmap1 fun (b : Nat) ↦ b) (List.map (Value.int IntKind.i64) l)) ∧ AObj.sc (1 : Nat) (AObj.ro (List.map (Value.int IntKind.i64) l)) = true) ∧ True) ∧ Ob (a = a) ∧ Ob (b = b) ∧ Ob (Value.slice (some (ad0 0)) l.length c = Value.slice (some (ad0 0)) l.length c) ∧ Ob ((↑l.length : Int) = (↑l.length : Int)) ∧ Ob ((0 : Int) = (↑y : Int)) ∧ True) ∧ ∀ (x : Nat), Ob (x ≤ l.length ∧ ∀ (j : Nat), j < x → a ≤ l.getD j (0 : Int) ∧ l.getD j (0 : Int) ≤ b) → (decide ((↑x : Int) < (↑l.length : Int)) = true → Ob ((0 : Int) ≤ (↑x : Int) ∧ (↑x : Int) < (↑l.length : Int) ∧ true = true) ∧ Ob (IntAt IntKind.i64 (List.map (Value.int IntKind.i64) l) ((0 : Nat) + (↑x : Int).toNat * (1 : Nat))) ∧ (decide (getI (List.map (Value.int IntKind.i64) l) ((0 : Nat) + (↑x : Int).toNat * (1 : Nat)) < a) = false → (decide (b < getI (List.map (Value.int IntKind.i64) l) ((0 : Nat) + (↑x : Int).toNat * (1 : Nat))) = true → True ∧ Ob (Value.bool false = Value.bool (wiF a b l))) ∧ (decide (b < getI (List.map (Value.int IntKind.i64) l) ((0 : Nat) + (↑x : Int).toNat * (1 : Nat))) = false → ∃ (y : Nat), Ob (y ≤ l.length ∧ ∀ (j : Nat), j < y → a ≤ l.getD j (0 : Int) ∧ l.getD j (0 : Int) ≤ b) ∧ Ob (l.length - y < l.length - x) ∧ (Ob (AObj.ro (List.map (Value.int IntKind.i64) l) = AObj.ro (List.map (nmap1 fun (b : Nat) ↦ b) (List.map (Value.int IntKind.i64) l)) ∧ AObj.sc (1 : Nat) (AObj.ro (List.map (Value.int IntKind.i64) l)) = true) ∧ True) ∧ Ob (a = a) ∧ Ob (b = b) ∧ Ob (Value.slice (some (ad0 0)) l.length c = Value.slice (some (ad0 0)) l.length c) ∧ Ob ((↑l.length : Int) = (↑l.length : Int)) ∧ Ob (IntKind.i64.wrap ((↑x : Int) + (1 : Int)) = (↑y : Int)) ∧ True)) ∧ (decide (getI (List.map (Value.int IntKind.i64) l) ((0 : Nat) + (↑x : Int).toNat * (1 : Nat)) < a) = true → True ∧ Ob (Value.bool false = Value.bool (wiF a b l)))) ∧ (decide ((↑x : Int) < (↑l.length : Int)) = false → True ∧ Ob (Value.bool true = Value.bool (wiF a b l)))
theorem wiV_eq : wiV = fun (a b : Int) (l : List Int) (c : Nat) => vc Try.prog {} 1 24 true (wiI a b l (some ⟨0,0,none⟩) c [ros l]) wiB [] (argFr 0 [vi a, vi b, .slice (some ⟨0,0,none⟩) l.length c]) [ros l] (retK Try.prog Try.f37 (fun v _ => v = .bool (wiF a b l))) := by kernel_rfl
noncomputable def wiN :=
fun (a b : Int) ↦ (∃ (y : Nat), Ob (y ≤ (0 : Nat) ∧ ∀ (j : Nat), j < y → a ≤ ([] : List Int).getD j (0 : Int) ∧ ([] : List Int).getD j (0 : Int) ≤ b) ∧ True ∧ Ob (a = a) ∧ Ob (b = b) ∧ Ob (Value.slice none (0 : Nat) (0 : Nat) = Value.slice none (0 : Nat) (0 : Nat)) ∧ Ob ((↑(0 : Nat) : Int) = (↑(0 : Nat) : Int)) ∧ Ob ((0 : Int) = (↑y : Int)) ∧ True) ∧ ∀ (x : Nat), Ob (x ≤ (0 : Nat) ∧ ∀ (j : Nat), j < x → a ≤ ([] : List Int).getD j (0 : Int) ∧ ([] : List Int).getD j (0 : Int) ≤ b) → (decide ((↑x : Int) < (↑(0 : Nat) : Int)) = true → False) ∧ (decide ((↑x : Int) < (↑(0 : Nat) : Int)) = false → True ∧ Ob (Value.bool true = Value.bool true))
theorem wiN_eq : wiN = fun (a b : Int) => vc Try.prog {} 0 24 true (wiI a b [] none 0 []) wiB [] (argFr 0 [vi a, vi b, .slice none 0 0]) [] (retK Try.prog Try.f37 (fun v _ => v = .bool true)) := by kernel_rfl
noncomputable def wiH :=
fun (a b : Int) (s : Option Nat) (c : Nat) ↦ (∃ (y : Nat), Ob (y ≤ (0 : Nat) ∧ ∀ (j : Nat), j < y → a ≤ ([] : List Int).getD j (0 : Int) ∧ ([] : List Int).getD j (0 : Int) ≤ b) ∧ True ∧ Ob (a = a) ∧ Ob (b = b) ∧ Ob (Value.slice (some { block := (0 : Nat), off := (0 : Nat), spot := s }) (0 : Nat) c = Value.slice (some { block := (0 : Nat), off := (0 : Nat), spot := s }) (0 : Nat) c) ∧ Ob ((↑(0 : Nat) : Int) = (↑(0 : Nat) : Int)) ∧ Ob ((0 : Int) = (↑y : Int)) ∧ True) ∧ ∀ (x : Nat), Ob (x ≤ (0 : Nat) ∧ ∀ (j : Nat), j < x → a ≤ ([] : List Int).getD j (0 : Int) ∧ ([] : List Int).getD j (0 : Int) ≤ b) → (decide ((↑x : Int) < (↑(0 : Nat) : Int)) = true → Ob ((0 : Int) ≤ (↑x : Int) ∧ (↑x : Int) < (↑(0 : Nat) : Int) ∧ std { block := (0 : Nat), off := (0 : Nat), spot := s } c = true) ∧ False) ∧ (decide ((↑x : Int) < (↑(0 : Nat) : Int)) = false → True ∧ Ob (Value.bool true = Value.bool true))
theorem wiH_eq : wiH = fun (a b : Int) (s : Option Nat) (c : Nat) => vc Try.prog {} 1 24 true (wiI a b [] (some ⟨0,0,s⟩) c [.gone]) wiB [] (argFr 0 [vi a, vi b, .slice (some ⟨0,0,s⟩) 0 c]) [.gone] (retK Try.prog Try.f37 (fun v _ => v = .bool true)) := by kernel_rfl
theorem wiV_ok (a b : Int) (l : List Int) (c : Nat) (hl : l.length ≤ 1000000) : wiV a b l c := by
  unfold wiV
  simp only [ob_iff, map_nmap_int, sc_ro_int, getI_map, intAt_map, true_and, and_true, eq_self, Int.toNat_natCast, Nat.zero_add, Nat.mul_one, decide_eq_true_eq, decide_eq_false_iff_not, Value.bool.injEq]
  refine ⟨⟨0, ⟨by omega, fun j hj => by omega⟩, rfl⟩, fun x ⟨hx, hj⟩ => ⟨fun h1 => ⟨by omega, by omega, fun h2 => ⟨fun h3 => ?_, fun h3 => ⟨x + 1, ⟨by omega, fun j h4 => ?_⟩, by omega, ?_⟩⟩, fun h2 => ?_⟩, fun h1 => ?_⟩⟩
  · symm; rw [wiF, decide_eq_false_iff_not]; intro h4; have := h4 _ (ints_mem (l := l) (i := x) (by omega)); omega
  · by_cases e : j = x
    · subst e; omega
    · exact hj j (by omega)
  · rw [wrap_in (by omega) (by omega)]; rfl
  · symm; rw [wiF, decide_eq_false_iff_not]; intro h4; have := h4 _ (ints_mem (l := l) (i := x) (by omega)); omega
  · symm; rw [wiF, decide_eq_true_eq]; exact ints_all (by omega) hj
theorem wiN_ok (a b : Int) : wiN a b := by
  unfold wiN
  simp only [ob_iff, true_and, and_true, eq_self, decide_eq_true_eq, decide_eq_false_iff_not]
  exact ⟨⟨0, ⟨by omega, fun j hj => by omega⟩, rfl⟩, fun x _ => ⟨fun h => by omega, fun _ => trivial⟩⟩
theorem wiH_ok (a b : Int) (s : Option Nat) (c : Nat) : wiH a b s c := by
  unfold wiH
  simp only [ob_iff, true_and, and_true, eq_self, decide_eq_true_eq, decide_eq_false_iff_not]
  exact ⟨⟨0, ⟨by omega, fun j hj => by omega⟩, rfl⟩, fun x _ => ⟨fun h => by omega, fun _ => trivial⟩⟩
def wiS (r : List Arg) : Prop × Value := match r with
  | [a, b, l] => (l.list.length ≤ 1000000, .bool (wiF a.num b.num l.list))
  | _ => (False, undef)
theorem wiG_ok : ∀ args H φ v H' l, pureG [.int .i64, .int .i64, .ints .i64] wiS args H = some (φ, v, H', l) → Asks φ → Call Try.prog 37 args H (fun v' H2 => v' = v ∧ H2 = H') ∧ Kept H H' l :=
  pureG_ok fun r hk hs => match r, hk with
    | [_, _, _], ⟨⟨a, rfl⟩, ⟨b, rfl⟩, hl, _⟩ => ⟨rfl, fun caps => by
      rcases hl with rfl | ⟨s, rfl⟩ | ⟨l, rfl⟩
      · exact Call.ofVc (VOk.ofCt CtOk.none) mixed (c := wiB) Try.func37 (by kernel_rfl) (cast (congrFun (congrFun wiN_eq a) b) (wiN_ok a b))
      · exact Call.ofVc (VOk.ofCt CtOk.none) mixed (c := wiB) Try.func37 (by kernel_rfl) (cast (congrFun (congrFun (congrFun (congrFun wiH_eq a) b) s) _) (wiH_ok a b s _))
      · exact Call.ofVc (VOk.ofCt CtOk.none) mixed (c := wiB) Try.func37 (by kernel_rfl) (cast (congrFun (congrFun (congrFun (congrFun wiV_eq a) b) l) _) (wiV_ok a b l _ hs))⟩
end Go.Pier.Sk
set_option maxRecDepth 100000
set_option linter.unusedVariables false
set_option linter.unusedSimpArgs false
namespace Go.Pier.Sk
open Go Go.Pier Go.Proofs
abbrev psK : List K3 := [.agg [.rows [.i .i64] false, .bool]]
def okM : Leaf → Prop
  | .view cs k _ => cs = (intsOf cs).map (.int .i64) ∧ cs.length = k ∧ k ≤ 1000
  | _ => True
def caC (f0 : Nat) : Cc := fun f args H => match Nat.beq f f0 with
  | true => match to3 H psK args with
    | some (φ, [.agg [.view cs n r, .plain (.bool z)]]) => some fun Q => Asks φ ∧ okM (.view cs n r) ∧ (allL (intsOf cs) z = [] → Q nilS H) ∧ (allL (intsOf cs) z ≠ [] → Q (newS H.length ((allL (intsOf cs) z).length / 2)) (H ++ [rowP (allL (intsOf cs) z)]))
    | _ => none
  | false => none
noncomputable def errK (m : List Int) (z : Bool) : Int := if m.length < 1 ∨ 12 < m.length then 6 else if dB (∀ x ∈ m, 0 ≤ x ∧ x ≤ 3) = false then 3 else if dB (allL m z = []) = true then 5 else 0
noncomputable def ckB : Code := Try.f9.body.getD .skip
noncomputable def rkB : Code := Try.f10.body.getD .skip
noncomputable def ckE : VEnv := { ct := Ct.none.add 37 (pureG [.int .i64, .int .i64, .ints .i64] wiS), cc := caC 35 }
noncomputable def rkE : VEnv := { cc := caC 36 }
def boxK (n c : Nat) (z : Bool) : AObj := .rw (knC (some ⟨0,0,none⟩) n c z) none
def rkI (m : List Int) (c : Nat) (z : Bool) : Nat → Option LInv := invOf 0 (LInv.one Nat (fun i => i ≤ m.length ∧ (∀ j, j < i → 0 ≤ m.getD j 0 ∧ m.getD j 0 ≤ 3) ∧ 1 ≤ m.length ∧ m.length ≤ 12) (fun i => [(1, ptr0 1), (2, vi 0), (3, vi i)]) (fun _ => [ros m, boxK m.length c z]) (fun i => m.length - i))
noncomputable def ckV_s0 (m : List Int) (c : Nat) (z : Bool) := (intsOf (List.map (Value.int IntKind.i64) m))
noncomputable def ckV :=
fun (m : List Int) (c : Nat) (z : Bool) ↦ Ob (([vi (↑m.length : Int)] = [vi (intOf (vi (↑m.length : Int)))] ∧ (0 : Nat) + (1 : Nat) ≤ (1 : Nat) ∧ true = true) ∧ (1 : Nat) ≤ (1000000 : Nat)) ∧ ((!wiF (Arg.plain (vi (1 : Int))).num (Arg.plain (vi (12 : Int))).num [intOf (vi (↑m.length : Int))]) = true → True ∧ Ob (vi (6 : Int) = vi (errK m z))) ∧ ((!wiF (Arg.plain (vi (1 : Int))).num (Arg.plain (vi (12 : Int))).num [intOf (vi (↑m.length : Int))]) = false → Ob ((List.take m.length (List.drop (0 : Nat) (List.map (Value.int IntKind.i64) m)) = List.map (Value.int IntKind.i64) (List.take m.length (List.drop (0 : Nat) (ckV_s0 m c z))) ∧ (0 : Nat) + m.length ≤ (List.map (Value.int IntKind.i64) m).length ∧ true = true) ∧ (Arg.ints IntKind.i64 (List.take m.length (List.drop (0 : Nat) (ckV_s0 m c z)))).list.length ≤ (1000000 : Nat)) ∧ ((!wiF (Arg.plain (vi (0 : Int))).num (Arg.plain (vi (3 : Int))).num (Arg.ints IntKind.i64 (List.take m.length (List.drop (0 : Nat) (ckV_s0 m c z)))).list) = true → True ∧ Ob (vi (3 : Int) = vi (errK m z))) ∧ ((!wiF (Arg.plain (vi (0 : Int))).num (Arg.plain (vi (3 : Int))).num (Arg.ints IntKind.i64 (List.take m.length (List.drop (0 : Nat) (ckV_s0 m c z)))).list) = false → (true = true ∧ (List.map (Value.int IntKind.i64) m).all (sc1 (0 : Nat)) = true) ∧ (List.map (Value.int IntKind.i64) m = List.map (Value.int IntKind.i64) (ckV_s0 m c z) ∧ (List.map (Value.int IntKind.i64) m).length = m.length ∧ m.length.le (1000 : Nat)) ∧ (allL (ckV_s0 m c z) z = [] → (true = true → True ∧ Ob (vi (5 : Int) = vi (errK m z))) ∧ (true = false → True ∧ Ob (vi (0 : Int) = vi (errK m z)))) ∧ ((allL (ckV_s0 m c z) z = [] → False) → (((↑((allL (ckV_s0 m c z) z).length / (2 : Nat)) : Int) == (0 : Int)) = true → True ∧ Ob (vi (5 : Int) = vi (errK m z))) ∧ (((↑((allL (ckV_s0 m c z) z).length / (2 : Nat)) : Int) == (0 : Int)) = false → True ∧ Ob (vi (0 : Int) = vi (errK m z))))))
theorem ckV_eq : ckV = fun (m : List Int) (c : Nat) (z : Bool) => vc Try.prog ckE 1 17 true (fun _ => none) ckB [] (argFr 0 [knV (some ⟨0,0,none⟩) m.length c z]) [ros m] (retK Try.prog Try.f9 (fun v _ => v = vi (errK m z))) := by kernel_rfl
noncomputable def ckN :=
fun (z : Bool) ↦ Ob (([vi (↑(0 : Nat) : Int)] = [vi (intOf (vi (↑(0 : Nat) : Int)))] ∧ (0 : Nat) + (1 : Nat) ≤ (1 : Nat) ∧ true = true) ∧ (1 : Nat) ≤ (1000000 : Nat)) ∧ ((!false) = true → True ∧ Ob (vi (6 : Int) = vi (6 : Int))) ∧ ((!false) = false → Ob ((0 : Nat) ≤ (1000000 : Nat)) ∧ (false = true → True ∧ Ob (vi (3 : Int) = vi (6 : Int))) ∧ (false = false → False))
theorem ckN_eq : ckN = fun (z : Bool) => vc Try.prog ckE 0 17 true (fun _ => none) ckB [] (argFr 0 [knV none 0 0 z]) [] (retK Try.prog Try.f9 (fun v _ => v = vi 6)) := by kernel_rfl
noncomputable def ckH :=
fun (c : Nat) (s : Option Nat) (z : Bool) ↦ Ob (([vi (↑(0 : Nat) : Int)] = [vi (intOf (vi (↑(0 : Nat) : Int)))] ∧ (0 : Nat) + (1 : Nat) ≤ (1 : Nat) ∧ true = true) ∧ (1 : Nat) ≤ (1000000 : Nat)) ∧ ((!false) = true → True ∧ Ob (vi (6 : Int) = vi (6 : Int))) ∧ ((!false) = false → Ob ((0 : Nat) ≤ (1000000 : Nat)) ∧ ((!true) = true → True ∧ Ob (vi (3 : Int) = vi (6 : Int))) ∧ ((!true) = false → False))
theorem ckH_eq : ckH = fun (c : Nat) (s : Option Nat) (z : Bool) => vc Try.prog ckE 1 17 true (fun _ => none) ckB [] (argFr 0 [knV (some ⟨0,0,s⟩) 0 c z]) [.gone] (retK Try.prog Try.f9 (fun v _ => v = vi 6)) := by kernel_rfl
noncomputable def rkV_s0 (m : List Int) (c : Nat) (z : Bool) := (List.map (Value.int IntKind.i64) m)
noncomputable def rkV :=
fun (m : List Int) (c : Nat) (z : Bool) ↦ (decide ((↑m.length : Int) < (1 : Int)) = false → (decide ((12 : Int) < (↑m.length : Int)) = true → True ∧ Ob (vi (6 : Int) = vi (errK m z))) ∧ (decide ((12 : Int) < (↑m.length : Int)) = false → (∃ (y : Nat), Ob (y ≤ m.length ∧ (∀ (j : Nat), j < y → (0 : Int) ≤ m.getD j (0 : Int) ∧ m.getD j (0 : Int) ≤ (3 : Int)) ∧ (1 : Nat) ≤ m.length ∧ m.length ≤ (12 : Nat)) ∧ (Ob (AObj.ro (rkV_s0 m c z) = AObj.ro (List.map (nmap1 fun (b : Nat) ↦ b) (rkV_s0 m c z)) ∧ AObj.sc (2 : Nat) (AObj.ro (rkV_s0 m c z)) = true) ∧ Ob (AObj.rw [Value.slice (some (ad0 0)) m.length c, Value.bool z] none = AObj.rw [Value.slice (some (ad0 0)) m.length c, Value.bool z] none ∧ true = true) ∧ True) ∧ Ob (ptr0 1 = ptr0 1) ∧ Ob ((0 : Int) = (0 : Int)) ∧ Ob ((0 : Int) = (↑y : Int)) ∧ True) ∧ ∀ (x : Nat), Ob (x ≤ m.length ∧ (∀ (j : Nat), j < x → (0 : Int) ≤ m.getD j (0 : Int) ∧ m.getD j (0 : Int) ≤ (3 : Int)) ∧ (1 : Nat) ≤ m.length ∧ m.length ≤ (12 : Nat)) → (decide ((↑x : Int) < (↑m.length : Int)) = true → Ob ((0 : Int) ≤ (↑x : Int) ∧ (↑x : Int) < (↑m.length : Int) ∧ true = true) ∧ Ob (IntAt IntKind.i64 (rkV_s0 m c z) ((0 : Nat) + (↑x : Int).toNat * (1 : Nat))) ∧ (decide (getI (rkV_s0 m c z) ((0 : Nat) + (↑x : Int).toNat * (1 : Nat)) < (0 : Int)) = false → Ob ((0 : Int) ≤ (↑x : Int) ∧ (↑x : Int) < (↑m.length : Int) ∧ true = true) ∧ Ob (IntAt IntKind.i64 (rkV_s0 m c z) ((0 : Nat) + (↑x : Int).toNat * (1 : Nat))) ∧ (decide ((3 : Int) < getI (rkV_s0 m c z) ((0 : Nat) + (↑x : Int).toNat * (1 : Nat))) = true → True ∧ Ob (vi (3 : Int) = vi (errK m z))) ∧ (decide ((3 : Int) < getI (rkV_s0 m c z) ((0 : Nat) + (↑x : Int).toNat * (1 : Nat))) = false → ∃ (y : Nat), Ob (y ≤ m.length ∧ (∀ (j : Nat), j < y → (0 : Int) ≤ m.getD j (0 : Int) ∧ m.getD j (0 : Int) ≤ (3 : Int)) ∧ (1 : Nat) ≤ m.length ∧ m.length ≤ (12 : Nat)) ∧ Ob (m.length - y < m.length - x) ∧ (Ob (AObj.ro (rkV_s0 m c z) = AObj.ro (List.map (nmap1 fun (b : Nat) ↦ b) (rkV_s0 m c z)) ∧ AObj.sc (2 : Nat) (AObj.ro (rkV_s0 m c z)) = true) ∧ Ob (AObj.rw [Value.slice (some (ad0 0)) m.length c, Value.bool z] none = AObj.rw [Value.slice (some (ad0 0)) m.length c, Value.bool z] none ∧ true = true) ∧ True) ∧ Ob (ptr0 1 = ptr0 1) ∧ Ob ((0 : Int) = (0 : Int)) ∧ Ob (IntKind.i64.wrap ((↑x : Int) + (1 : Int)) = (↑y : Int)) ∧ True)) ∧ (decide (getI (rkV_s0 m c z) ((0 : Nat) + (↑x : Int).toNat * (1 : Nat)) < (0 : Int)) = true → True ∧ Ob (vi (3 : Int) = vi (errK m z)))) ∧ (decide ((↑x : Int) < (↑m.length : Int)) = false → (true = true ∧ (rkV_s0 m c z).all (sc1 (0 : Nat)) = true) ∧ (List.map (Value.int IntKind.i64) m = List.map (Value.int IntKind.i64) (intsOf (rkV_s0 m c z)) ∧ (rkV_s0 m c z).length = m.length ∧ m.length.le (1000 : Nat)) ∧ (allL (intsOf (rkV_s0 m c z)) z = [] → (true = true → True ∧ Ob (vi (5 : Int) = vi (errK m z))) ∧ (true = false → True ∧ Ob (vi (0 : Int) = vi (errK m z)))) ∧ ((allL (intsOf (rkV_s0 m c z)) z = [] → False) → (((↑((allL (intsOf (rkV_s0 m c z)) z).length / (2 : Nat)) : Int) == (0 : Int)) = true → True ∧ Ob (vi (5 : Int) = vi (errK m z))) ∧ (((↑((allL (intsOf (rkV_s0 m c z)) z).length / (2 : Nat)) : Int) == (0 : Int)) = false → True ∧ Ob (vi (0 : Int) = vi (errK m z))))))) ∧ (decide ((↑m.length : Int) < (1 : Int)) = true → True ∧ Ob (vi (6 : Int) = vi (errK m z)))
theorem rkV_eq : rkV = fun (m : List Int) (c : Nat) (z : Bool) => vc Try.prog rkE 1 39 true (rkI m c z) rkB [] (argFr 0 [knV (some ⟨0,0,none⟩) m.length c z]) [ros m] (retK Try.prog Try.f10 (fun v _ => v = vi (errK m z))) := by kernel_rfl
noncomputable def rkN :=
fun (z : Bool) ↦ (true = false → (false = true → True ∧ Ob (vi (6 : Int) = vi (6 : Int))) ∧ (false = false → False)) ∧ (true = true → True ∧ Ob (vi (6 : Int) = vi (6 : Int)))
theorem rkN_eq : rkN = fun (z : Bool) => vc Try.prog rkE 0 39 true (fun _ => none) rkB [] (argFr 0 [knV none 0 0 z]) [] (retK Try.prog Try.f10 (fun v _ => v = vi 6)) := by kernel_rfl
noncomputable def rkH :=
fun (c : Nat) (s : Option Nat) (z : Bool) ↦ (true = false → (false = true → True ∧ Ob (vi (6 : Int) = vi (6 : Int))) ∧ (false = false → False)) ∧ (true = true → True ∧ Ob (vi (6 : Int) = vi (6 : Int)))
theorem rkH_eq : rkH = fun (c : Nat) (s : Option Nat) (z : Bool) => vc Try.prog rkE 1 39 true (fun _ => none) rkB [] (argFr 0 [knV (some ⟨0,0,s⟩) 0 c z]) [.gone] (retK Try.prog Try.f10 (fun v _ => v = vi 6)) := by kernel_rfl
theorem flat_ints {k : IntKind} {l : List Int} : Flat (l.map (.int k)) := all_sc_int
theorem okM_ints {l : List Int} {r : Bool} (h2 : l.length ≤ 1000) : okM (.view (l.map (.int .i64)) l.length r) := ⟨by rw [intsOf_map], by rw [List.length_map], h2⟩
theorem errK_6 {m : List Int} {z : Bool} (h : m.length < 1 ∨ 12 < m.length) : errK m z = 6 := by rw [errK, if_pos h]
theorem errK_3 {m : List Int} {z : Bool} (h : 1 ≤ m.length ∧ m.length ≤ 12) (h2 : ¬ ∀ x ∈ m, 0 ≤ x ∧ x ≤ 3) : errK m z = 3 := by rw [errK, if_neg (by omega), if_pos (dB_false h2).symm]
theorem errK_5 {m : List Int} {z : Bool} (h : 1 ≤ m.length ∧ m.length ≤ 12) (h2 : ∀ x ∈ m, 0 ≤ x ∧ x ≤ 3) (h3 : allL m z = []) : errK m z = 5 := by
  rw [errK, if_neg (by omega), if_neg (by rw [← dB_true h2]; exact Bool.noConfusion), if_pos (dB_true h3).symm]
theorem errK_0 {m : List Int} {z : Bool} (h : 1 ≤ m.length ∧ m.length ≤ 12) (h2 : ∀ x ∈ m, 0 ≤ x ∧ x ≤ 3) (h3 : ¬ allL m z = []) : errK m z = 0 := by
  rw [errK, if_neg (by omega), if_neg (by rw [← dB_true h2]; exact Bool.noConfusion), if_neg (by rw [← dB_false h3]; exact Bool.noConfusion)]
theorem wiF_one {a b p : Int} : wiF a b [p] = decide (a ≤ p ∧ p ≤ b) := by simp [wiF]
theorem all_len {m : List Int} {z : Bool} : (allL m z).length % 2 = 0 := by
  have h := (ca_len (m := m) m.length).1
  unfold allL
  cases z <;> simp <;> omega
theorem all_half {m : List Int} {z : Bool} (h : ¬ allL m z = []) : 0 < (allL m z).length / 2 := by
  have h1 := all_len (m := m) (z := z)
  have h2 : 0 < (allL m z).length := List.length_pos_iff.2 h
  omega
theorem wiF_false {a b : Int} {l : List Int} (h : wiF a b l = false) : ¬ ∀ x ∈ l, a ≤ x ∧ x ≤ b := by rw [wiF, decide_eq_false_iff_not] at h; exact h
theorem wiF_true {a b : Int} {l : List Int} (h : wiF a b l = true) : ∀ x ∈ l, a ≤ x ∧ x ≤ b := by rw [wiF, decide_eq_true_eq] at h; exact h
theorem ckV_ok (m : List Int) (c : Nat) (z : Bool) (hm : m.length ≤ 1000) : ckV m c z := by
  unfold ckV ckV_s0
  simp only [SS, reduceCtorEq, Arg.list, Arg.num, Arg.flag, intOf, andP, Nat.reduceLeDiff, Nat.reduceAdd, Nat.reduceMul, Nat.reduceLT, Asks, wiF_one]
  refine ⟨fun h => (errK_6 (by omega)).symm, fun h => ⟨by omega, fun h1 => (errK_3 (by omega) (wiF_false h1)).symm, fun h1 => ⟨flat_ints, hm, fun h2 => (errK_5 (by omega) (wiF_true h1) h2).symm, fun h2 => ⟨fun h3 => ?_, fun _ => (errK_0 (by omega) (wiF_true h1) h2).symm⟩⟩⟩⟩
  have := all_half h2
  omega
theorem rkV_ok (m : List Int) (c : Nat) (z : Bool) (hm : m.length ≤ 1000) : rkV m c z := by
  unfold rkV rkV_s0
  simp only [SS, reduceCtorEq, Arg.list, Arg.num, Arg.flag, intOf, andP, Nat.reduceLeDiff, Nat.reduceAdd, Nat.reduceMul, Nat.reduceLT, Asks]
  have no : ∀ x, x < m.length → (1 ≤ m.length ∧ m.length ≤ 12) → ¬ (0 ≤ m.getD x 0 ∧ m.getD x 0 ≤ 3) → 3 = errK m z := fun x hx hb h => (errK_3 hb fun k => h (k _ (ints_mem hx))).symm
  refine ⟨fun h1 => ⟨fun h2 => (errK_6 (by omega)).symm, fun h2 => ⟨⟨0, ⟨by omega, all_none, by omega, by omega⟩, rfl⟩, fun x ⟨hx, hj, hb⟩ => ⟨fun h3 => ⟨by omega, by omega, fun h4 => ⟨by omega, by omega, fun h5 => no x (by omega) hb (by omega), fun h5 => ⟨x + 1, ⟨by omega, all_snoc hj (by omega), hb⟩, by omega, wrap_succ (n := m.length) (by omega) (by omega)⟩⟩, fun h4 => no x (by omega) hb (by omega)⟩, fun h3 => ?_⟩⟩⟩, fun h1 => (errK_6 (by omega)).symm⟩
  have hall : ∀ x ∈ m, 0 ≤ x ∧ x ≤ 3 := ints_all (i := x) (by omega) hj
  refine ⟨flat_ints, hm, fun h4 => (errK_5 hb hall h4).symm, fun h4 => ⟨fun h5 => ?_, fun _ => (errK_0 hb hall h4).symm⟩⟩
  have := all_half h4
  omega
theorem ckN_ok (z : Bool) : ckN z := by
  unfold ckN
  simp only [SS, reduceCtorEq, Arg.list, Arg.num, Arg.flag, intOf, andP, Nat.reduceLeDiff, Nat.reduceAdd, Nat.reduceMul, Nat.reduceLT, wiF_one]
theorem rkN_ok (z : Bool) : rkN z := by
  unfold rkN
  simp only [SS, reduceCtorEq, Arg.list, Arg.num, Arg.flag, intOf, andP, Nat.reduceLeDiff, Nat.reduceAdd, Nat.reduceMul, Nat.reduceLT, wiF_one]
theorem ckH_ok (c : Nat) (s : Option Nat) (z : Bool) : ckH c s z := by
  unfold ckH
  simp only [SS, reduceCtorEq, Arg.list, Arg.num, Arg.flag, intOf, andP, Nat.reduceLeDiff, Nat.reduceAdd, Nat.reduceMul, Nat.reduceLT, wiF_one]
theorem rkH_ok (c : Nat) (s : Option Nat) (z : Bool) : rkH c s z := by
  unfold rkH
  simp only [SS, reduceCtorEq, Arg.list, Arg.num, Arg.flag, intOf, andP, Nat.reduceLeDiff, Nat.reduceAdd, Nat.reduceMul, Nat.reduceLT, wiF_one]
theorem kinds_kn {ps : List K3} {q : Bool} (hp : ps = [.agg [.rows [.i .i64] q, .bool]]) {r : List Arg3} (h : kinds3 ps r) : ∃ lf z, r = [.agg [lf, .plain (.bool z)]] ∧ (lf = .plain (.slice none 0 0) ∨ (∃ s, lf = .hole s) ∨ ∃ cs n, lf = .view cs n q) := by
  subst hp
  match r, h with
  | [.agg [x, y]], ⟨⟨h1, h2, _⟩, _⟩ =>
    obtain ⟨z, rfl⟩ := h2
    exact ⟨x, z, rfl, h1⟩
theorem view_ros {ds : List Value} {k : Nat} {q : Bool} (h : okM (.view ds k q)) : (intsOf ds).length = k ∧ AObj.ro ds = ros (intsOf ds) := ⟨by rw [intsOf, List.length_map]; exact h.2.1, by show AObj.ro ds = .ro ((intsOf ds).map (.int .i64)); rw [← h.1]⟩
def CaCalls (f : FuncId) : Prop := ∀ m c z, m.length ≤ 1000 → Call Try.prog f [knV (some ⟨0,0,none⟩) m.length c z] [ros m] (finK (allL m z) m)
theorem row_plain {l : List Int} : plainNew [rowP l] := fun j o h => by
  cases j with
  | zero => cases h; exact .inr ⟨_, _, rfl, all_sc_int⟩
  | succ j => simp at h
theorem new_alike {b c k : Nat} {ρ ρ' : Ren} (h : Alike 1 ρ b ρ' c) : ren ρ (newS b k) = ren ρ' (newS c k) := newSlice_alike (n := 0) h
theorem caC_ok {f0 : FuncId} (C : CaCalls f0) : CcOk Try.prog (caC f0) := fun f args H T h Q hT => by
  unfold caC at h
  split at h <;> try (cases h; done)
  rename_i hf
  obtain rfl := Nat.eq_of_beq_eq_true hf
  split at h <;> cases h
  rename_i φ cs n r z ht
  obtain ⟨h1, h2, h3, h4⟩ := hT
  have hr := to3_ok ht h1
  obtain ⟨e1, e2⟩ := view_ros h2
  have hc : ∀ caps : Nat → Nat, Call Try.prog f (canon3 caps 0 [.agg [.view cs n r, .plain (.bool z)]]) (canonH3 [.agg [.view cs n r, .plain (.bool z)]]) (finK (allL (intsOf cs) z) (intsOf cs)) := fun caps => by
    have k := C (intsOf cs) (caps 0) z (by rw [e1]; exact h2.2.2)
    rw [e1] at k
    show Call Try.prog f _ [AObj.ro cs] _
    rw [e2]
    exact k
  by_cases he : allL (intsOf cs) z = []
  · refine (Call.of3 (v0 := nilS) (fun caps _ => (hc caps).mono fun v H' hk => hk.1 he) rfl hr).mono fun v H' hv => ?_
    obtain ⟨rfl, rfl⟩ := hv
    exact h3 he
  · refine (Call.of3New (mk := fun b => newS b ((allL (intsOf cs) z).length / 2)) (N := [rowP (allL (intsOf cs) z)]) (fun caps _ => ?_) row_plain (fun ρ b ρ' c ha => new_alike ha) ?_ hr).mono fun v H' hv => ?_
    · have hH : canonH3 [.agg [.view cs n r, .plain (.bool z)]] = [ros (intsOf cs)] := by show [AObj.ro cs] = _; rw [e2]
      rw [hH]
      have k := hc caps
      rw [hH] at k
      refine Call.anew (k.mono fun v H' hk => ?_)
      obtain ⟨b, hb, rfl, g0, g1⟩ := hk.2 he
      refine ⟨nsub 1 b, newS 1 _, [ros (intsOf cs), rowP (allL (intsOf cs) z)], ⟨by simp, fun b' hb' => ?_, fun b' o ho => ?_, fun b1 b2 o h1 h2 _ _ _ he => ?_, fun b' o ho => ?_⟩, ?_, ?_, rfl, rfl⟩
      · have : b' = 0 := by simp at hb'; omega
        subst this; rfl
      · right
        rcases b' with _ | _ | b'
        · cases ho
          rw [show nsub 1 b 0 = 0 from rfl, g0]
          simp only [omap, ros, map_nmap_int]
        · cases ho
          rw [show nsub 1 b (0 + 1) = b from rfl, g1]
          simp only [omap, rowP, map_nmap_int]
        · simp at ho
      · simp at h1 h2
        rcases b1 with _ | _ | b1 <;> rcases b2 with _ | _ | b2 <;> first | rfl | omega | (simp [nsub, Nat.beq] at he; omega)
      · rcases b' with _ | _ | b'
        · cases ho; exact sc_ro_int
        · cases ho; exact sc_rw_int
        · simp at ho
      · simp [nmap, nmap2, nmap1, nmap0, newS, am, nsub, Nat.beq]
      · simp [sc, sc2, sc1, sc0, newS]
    · simp [sc, sc2, sc1, sc0, newS]
    · obtain ⟨rfl, rfl⟩ := hv
      exact h4 he
theorem ref_cases : CaCalls 36 := fun m c z hm => by
  have h := coV_ok m c z hm
  rw [coV_eq] at h
  exact Call.ofVc E0_ok mixed (c := coB) (inv := coI m c z) Try.func36 (by kernel_rfl) h
theorem cpE_ok : VOk Try.prog cpE := ⟨CtOk.none, ccIn_ok E0_ok mixed (inl_one Try.func62), E0_ok.yc, orcIx_ok⟩
theorem pack_cases : CaCalls 35 := fun m c z hm => by
  have h := cpV_ok m c z hm
  rw [cpV_eq] at h
  exact Call.ofVc cpE_ok mixed (c := cpB) (inv := cpI m c z) Try.func35 (by kernel_rfl) h
noncomputable def knS : List Arg3 → Option (Prop × Value)
  | [.agg [.view cs n r, .plain (.bool z)]] => some (okM (.view cs n r), vi (errK (intsOf cs) z))
  | [.agg [_, .plain (.bool _)]] => some (True, vi 6)
  | _ => none
theorem knS_ok {f : FuncId} (hV : ∀ m c z, m.length ≤ 1000 → Call Try.prog f [knV (some ⟨0,0,none⟩) m.length c z] [ros m] fun v _ => v = vi (errK m z)) (hN : ∀ z, Call Try.prog f [knV none 0 0 z] [] fun v _ => v = vi 6)
    (hH : ∀ c s z, Call Try.prog f [knV (some ⟨0,0,s⟩) 0 c z] [.gone] fun v _ => v = vi 6) :
    ∀ args H φ v H' l, pure3 psK knS args H = some (φ, v, H', l) → Asks φ → Call Try.prog f args H (fun v' H2 => v' = v ∧ H2 = H') ∧ Kept H H' l :=
  pure3_ok fun r ψ v hk hs hψ => by
    obtain ⟨lf, z, rfl, hl⟩ := kinds_kn rfl hk
    rcases hl with rfl | ⟨s, rfl⟩ | ⟨cs, n, rfl⟩ <;> cases hs <;> refine ⟨rfl, fun caps _ => ?_⟩
    · exact hN z
    · exact hH (caps 0) s z
    · obtain ⟨e1, e2⟩ := view_ros hψ
      have k := hV (intsOf cs) (caps 0) z (by rw [e1]; exact hψ.2.2)
      rw [e1] at k
      show Call Try.prog f _ [AObj.ro cs] _
      rw [e2]
      exact k
theorem ckE_ok : VOk Try.prog ckE := ⟨CtOk.none.add wiG_ok, caC_ok pack_cases, E0_ok.yc, E0_ok.orc⟩
theorem rkE_ok : VOk Try.prog rkE := ⟨CtOk.none, caC_ok ref_cases, E0_ok.yc, E0_ok.orc⟩
theorem ckG_ok : ∀ args H φ v H' l, pure3 psK knS args H = some (φ, v, H', l) → Asks φ → Call Try.prog 9 args H (fun v' H2 => v' = v ∧ H2 = H') ∧ Kept H H' l :=
  knS_ok (fun m c z h => Call.ofVc ckE_ok mixed (c := ckB) Try.func9 (by kernel_rfl) (cast (congrFun (congrFun (congrFun ckV_eq m) c) z) (ckV_ok m c z h)))
    (fun z => Call.ofVc ckE_ok mixed (c := ckB) Try.func9 (by kernel_rfl) (cast (congrFun ckN_eq z) (ckN_ok z)))
    (fun c s z => Call.ofVc ckE_ok mixed (c := ckB) Try.func9 (by kernel_rfl) (cast (congrFun (congrFun (congrFun ckH_eq c) s) z) (ckH_ok c s z)))
theorem rkG_ok : ∀ args H φ v H' l, pure3 psK knS args H = some (φ, v, H', l) → Asks φ → Call Try.prog 10 args H (fun v' H2 => v' = v ∧ H2 = H') ∧ Kept H H' l :=
  knS_ok (fun m c z h => Call.ofVc rkE_ok mixed (c := rkB) (inv := rkI m c z) Try.func10 (by kernel_rfl) (cast (congrFun (congrFun (congrFun rkV_eq m) c) z) (rkV_ok m c z h)))
    (fun z => Call.ofVc rkE_ok mixed (c := rkB) Try.func10 (by kernel_rfl) (cast (congrFun rkN_eq z) (rkN_ok z)))
    (fun c s z => Call.ofVc rkE_ok mixed (c := rkB) Try.func10 (by kernel_rfl) (cast (congrFun (congrFun (congrFun rkH_eq c) s) z) (rkH_ok c s z)))
end Go.Pier.Sk
namespace Go.Pier
open Go
variable {P : Program} {H : Heap}
structure MapC where
  f : FuncId
  args : List Value
  es : List MapEntry
  ck : Nat
  v : Value
  es2 : List MapEntry
  ck2 : Nat
def entB (es : List MapEntry) : Bool := es.all fun e => sc2 0 e.key && sc2 0 e.val
def MapC.plain (p : MapC) : Bool := p.args.all (sc 0) && (sc 0 p.v && (entB p.es && entB p.es2))
def MapC.Ok (P : Program) (p : MapC) : Prop := Call P p.f (.map (some 0) :: p.args) [.map p.es p.ck] (fun v' H2 => v' = p.v ∧ H2 = [.map p.es2 p.ck2]) ∧ p.plain = true
theorem MapC.ok_ev {p : MapC} {tbl : Tbl} (ht : TblOk P tbl) {n : Nat} (h : (gcFun (evFunT P (evCT P tbl n none)) p.f (.map (some 0) :: p.args) [.map p.es p.ck]).map (fun r => (r.1, r.2.1)) = some (p.v, [.map p.es2 p.ck2])) (hp : p.plain = true) : p.Ok P := by
  rw [Option.map_eq_some_iff] at h
  obtain ⟨⟨v, H2, l⟩, h1, h2⟩ := h
  cases h2
  exact ⟨(ExactC.ok_ev (p := ⟨p.f, .map (some 0) :: p.args, [.map p.es p.ck], p.v, [.map p.es2 p.ck2], l⟩) ht h1).1, hp⟩
theorem canonA2_vals {caps : Nat → Nat} : ∀ {l : List Value} {i : Nat}, canonA2 caps i (l.map Arg2.val) = l
  | [], _ => rfl
  | v :: l, i => by rw [List.map_cons, canonA2, canonA2_vals]
theorem canonH2_vals : ∀ {l : List Value}, canonH2 (l.map Arg2.val) = []
  | [] => rfl
  | v :: l => by rw [List.map_cons, canonH2, canonH2_vals]
theorem read_vals {σ : Nat → Nat} {B : List Nat} {m : Nat} : ∀ {l : List Value}, l.all (sc 0) = true → ReadA2 H σ B m (l.map Arg2.val) l
  | [], _ => trivial
  | v :: l, h => by
    rw [List.all_cons, Bool.and_eq_true] at h
    exact ⟨(nmap_closed h.1).symm, sc_mono (Nat.zero_le _) h.1, read_vals h.2⟩
theorem omap_ent {σ : Nat → Nat} {es : List MapEntry} {ck : Nat} (h : entB es = true) : omap σ (.map es ck) = .map es ck := by
  simp only [omap]
  have : (es.map fun e => { e with val := nmap2 σ e.val }) = es.map id := List.map_congr_left fun e he => by
    have := List.all_eq_true.1 h e he
    rw [Bool.and_eq_true] at this
    simp only [nmap2_closed this.2, id]
  rw [this, List.map_id]
theorem sc2_up {n : Nat} {v : Value} (h : sc2 0 v = true) : sc2 n v = true := sc2_mono (Nat.zero_le n) h
theorem sc_ent {n : Nat} {es : List MapEntry} {ck : Nat} (h : entB es = true) : AObj.sc n (.map es ck) = true := by
  simp only [AObj.sc]
  refine List.all_eq_true.2 fun e he => ?_
  have := List.all_eq_true.1 h e he
  rw [Bool.and_eq_true] at this ⊢
  exact ⟨this.1, sc2_up this.2⟩
theorem MapC.call {p : MapC} (h : p.Ok P) {r : Nat} (hr : H[r]? = some (.map p.es p.ck)) :
    Call P p.f (.map (some r) :: p.args) H (fun v' H2 => v' = p.v ∧ H2 = H.set r (.map p.es2 p.ck2)) ∧ Kept H (H.set r (.map p.es2 p.ck2)) [r] := by
  obtain ⟨h, hp⟩ := h
  unfold MapC.plain at hp
  simp only [Bool.and_eq_true] at hp
  obtain ⟨h1, h2, h3, h4⟩ := hp
  have hlt := (List.getElem?_eq_some_iff.1 hr).1
  have := Call.frameL (P := P) (f := p.f) (H := H) (Et := [.map p.es p.ck]) (Ft := [.map p.es2 p.ck2]) (N := []) (L := [r]) (ags := .val (.map (some 0)) :: p.args.map Arg2.val) (vs := .map (some r) :: p.args) (v := p.v) rfl rfl (by simp)
    (fun b hb => by rw [List.mem_singleton.1 hb]; exact hlt)
    (fun c o hc => by
      cases c with
      | zero => cases hc; rw [omap_ent h3]; exact hr
      | succ c => simp at hc)
    (fun o ho => by rw [List.mem_singleton.1 ho]; exact ⟨rfl, sc_ent h3⟩)
    ⟨by simp [nmap, nmap2, nmap1, nmap0], by simp [sc, sc2, sc1, sc0], read_vals h1⟩
    (fun caps => by rw [canonA2, canonA2_vals, canonH2, canonH2_vals]; exact h)
    (fun o ho => by
      rw [List.append_nil] at ho
      rw [List.mem_singleton.1 ho]
      simp only [AObj.nm]
      refine List.all_eq_true.2 fun e he => ?_
      have := List.all_eq_true.1 h4 e he
      rw [Bool.and_eq_true] at this
      exact nm2_closed this.2)
    (fun o ho => by cases ho)
    (nm_closed h2)
    (fun o ho => by
      rw [List.append_nil] at ho
      rw [List.mem_singleton.1 ho, omap_ent h4]
      exact sc_ent h4)
    (by rw [nmap_closed h2]; exact sc_mono (Nat.zero_le _) h2)
  rw [nmap_closed h2, List.map_singleton, omap_ent h4, List.map_nil, List.append_nil] at this
  exact this
def mapFind : List MapC → FuncId → List Value → Nat → List MapEntry → Nat → Heap → Option (Value × Heap × List Nat)
  | [], _, _, _, _, _, _ => none
  | p :: l, f, avs, r, es, ck, H => match Nat.beq p.f f && (listB veq p.args avs && oeq (.map p.es p.ck) (.map es ck)) with
    | true => some (p.v, H.set r (.map p.es2 p.ck2), [r])
    | false => mapFind l f avs r es ck H
theorem mapFind_ok {f : FuncId} {avs : List Value} {r : Nat} {es : List MapEntry} {ck : Nat} {v : Value} {H' : Heap} {lg : List Nat} (hr : H[r]? = some (.map es ck)) : ∀ {l : List MapC}, (∀ p ∈ l, p.Ok P) → mapFind l f avs r es ck H = some (v, H', lg) →
    Call P f (.map (some r) :: avs) H (fun v' H2 => v' = v ∧ H2 = H') ∧ Kept H H' lg
  | [], _, h => by cases h
  | p :: l, hl, h => by
    unfold mapFind at h
    split at h
    · rename_i hc
      cases h
      simp only [Bool.and_eq_true] at hc
      obtain ⟨h1, h2, h3⟩ := hc
      obtain rfl := Nat.eq_of_beq_eq_true h1
      obtain rfl := listB_eq (fun _ _ => veq_eq) h2
      have := oeq_eq h3
      exact MapC.call (hl p List.mem_cons_self) (by rw [hr, this])
    · exact mapFind_ok hr (fun q hq => hl q (List.mem_cons_of_mem _ hq)) h
def mapTbl (l : List MapC) (tbl : Tbl) : Tbl := fun f => match (l.any fun p => Nat.beq p.f f) with
  | true => some fun args H => match args with
    | .map (some r) :: avs => match H[r]? with
      | some (.map es ck) => match mapFind l f avs r es ck H with
        | some q => some q
        | none => match tbl f with
          | some g => g args H
          | none => none
      | _ => none
    | _ => none
  | false => tbl f
theorem mapTbl_ok {l : List MapC} {tbl : Tbl} (hl : ∀ p ∈ l, p.Ok P) (ht : TblOk P tbl) : TblOk P (mapTbl l tbl) := by
  intro f g hg args H v H' lg h
  unfold mapTbl at hg
  split at hg
  · cases hg
    simp only at h
    split at h <;> try (cases h; done)
    rename_i r avs
    split at h <;> try (cases h; done)
    rename_i es ck hr
    split at h
    · rename_i q hq
      cases h
      exact mapFind_ok hr hl hq
    · split at h
      · rename_i g2 hg2
        exact ht f g2 hg2 _ H v H' lg h
      · cases h
  · exact ht f g hg args H v H' lg h
end Go.Pier
namespace Go.Pier
open Go
variable {P : Program} {H : Heap}
structure FrmC where
  f : FuncId
  args : List Value
  E : Heap
  v : Value
  F : Heap
  N : Heap
def tt' : Nat → Bool := fun _ => true
def FrmC.chk (p : FrmC) : Bool := Nat.beq p.F.length p.E.length && (p.E.all (fun o => o.wr && o.sc p.E.length) && (p.args.all (sc p.E.length) && ((p.F ++ p.N).all (fun o => o.nm tt') && (p.N.all (fun o => !o.isRo) && nm tt' p.v))))
def FrmC.Ok (P : Program) (p : FrmC) : Prop := Call P p.f p.args p.E (fun v' F' => v' = p.v ∧ F' = p.F ++ p.N) ∧ p.chk = true
theorem FrmC.ok_ev {p : FrmC} {tbl : Tbl} (ht : TblOk P tbl) {n : Nat} (h : (gcFun (evFunT P (evCT P tbl n none)) p.f p.args p.E).map (fun r => (r.1, r.2.1)) = some (p.v, p.F ++ p.N)) (hp : p.chk = true) : p.Ok P := by
  rw [Option.map_eq_some_iff] at h
  obtain ⟨⟨v, H2, l⟩, h1, h2⟩ := h
  cases h2
  exact ⟨(ExactC.ok_ev (p := ⟨p.f, p.args, p.E, p.v, p.F ++ p.N, l⟩) ht h1).1, hp⟩
def valNames : Value → List Nat
  | .slice (some a) _ _ => [a.block]
  | .pointer (some a) => [a.block]
  | .agg cs => cs.toList.flatMap fun | .slice (some a) _ _ => [a.block] | .pointer (some a) => [a.block] | _ => []
  | _ => []
def dedup : List Nat → List Nat → List Nat
  | acc, [] => acc.reverse
  | acc, b :: r => match acc.any (Nat.beq b) with
    | true => dedup acc r
    | false => dedup (b :: acc) r
def frmNames (args : List Value) (H : Heap) : List Nat :=
  let L := args.flatMap valNames
  dedup [] (L ++ L.flatMap fun (b : Nat) => match H[b]? with
    | some (AObj.rw cs _) => cs.flatMap fun (v : Value) => match v with | .map (some r) => [r] | v => valNames v
    | _ => [])
def objsB (σ : Nat → Nat) (H : Heap) : List Nat → Heap → Bool
  | [], [] => true
  | b :: L, o :: E => (match H[b]? with | some o' => oeq o' (omap σ o) | none => false) && objsB σ H L E
  | _, _ => false
theorem objsB_ok {σ : Nat → Nat} : ∀ {L : List Nat} {E : Heap}, objsB σ H L E = true → ∀ (c : Nat) (o : AObj), E[c]? = some o → H[L.getD c 0]? = some (omap σ o)
  | [], [], _, c, o, h => by simp at h
  | [], _ :: _, h, _, _, _ => by cases h
  | _ :: _, [], h, _, _, _ => by cases h
  | b :: L, o' :: E, h, c, o, hc => by
    simp only [objsB, Bool.and_eq_true] at h
    cases c with
    | zero =>
      simp only [List.getElem?_cons_zero, Option.some.injEq] at hc
      subst hc
      have h1 := h.1
      split at h1
      · rename_i o2 ho; rw [show (b :: L).getD 0 0 = b from rfl, ho, oeq_eq h1]
      · cases h1
    | succ c =>
      simp only [List.getElem?_cons_succ] at hc
      exact objsB_ok h.2 c o hc
def FrmC.go (p : FrmC) (args : List Value) (H : Heap) : Option (Value × Heap × List Nat) :=
  let L := frmNames args H
  let τ := nameL L p.E.length H.length
  match Nat.beq L.length p.E.length && (nodupB L && (allB (fun b => Nat.blt b H.length) L && (listB veq (p.args.map (nmap fun c => L.getD c 0)) args && (objsB (fun c => L.getD c 0) H L p.E &&
      (((p.F ++ p.N).all fun o => (omap τ o).sc (H.length + p.N.length)) && sc (H.length + p.N.length) (nmap τ p.v)))))) with
  | true => some (nmap τ p.v, setL H L (p.F.map (omap τ)) ++ p.N.map (omap τ), L)
  | false => none
theorem any_nm {m e : Nat} (he : e = m) : (fun d => decide (d < m) || decide (e ≤ d)) = tt' := by
  subst he
  funext d
  simp only [tt', Bool.or_eq_true, decide_eq_true_eq]
  by_cases h : d < e
  · simp [h]
  · simp [h]; omega
theorem read_sc {σ : Nat → Nat} {B : List Nat} {m : Nat} : ∀ {l : List Value}, l.all (sc m) = true → ReadA2 H σ B m (l.map Arg2.val) (l.map (nmap σ))
  | [], _ => trivial
  | v :: l, h => by
    rw [List.all_cons, Bool.and_eq_true] at h
    exact ⟨rfl, h.1, read_sc h.2⟩
theorem FrmC.go_ok {p : FrmC} (h : p.Ok P) {args : List Value} {v : Value} {H' : Heap} {l : List Nat} (hg : p.go args H = some (v, H', l)) : Call P p.f args H (fun v' H2 => v' = v ∧ H2 = H') ∧ Kept H H' l := by
  obtain ⟨hcall, hc⟩ := h
  unfold FrmC.chk at hc
  simp only [Bool.and_eq_true, List.all_eq_true, Bool.not_eq_true'] at hc
  obtain ⟨c1, c2, c3, c4, c5, c6⟩ := hc
  have c1 := Nat.eq_of_beq_eq_true c1
  unfold FrmC.go at hg
  dsimp only at hg
  split at hg <;> cases hg
  rename_i hk
  simp only [Bool.and_eq_true, List.all_eq_true] at hk
  obtain ⟨k1, k2, k3, k4, k5, k6, k7⟩ := hk
  have k1 := Nat.eq_of_beq_eq_true k1
  have ka := listB_eq (fun _ _ => veq_eq) k4
  have e0 : canonH2 (p.args.map Arg2.val) = [] := canonH2_vals
  have := Call.frameL (P := P) (f := p.f) (H := H) (Et := p.E) (Ft := p.F) (N := p.N) (L := frmNames args H) (ags := p.args.map Arg2.val) (vs := args) (v := p.v) k1 c1 (nodupB_ok k2)
    (fun b hb => by have := allB_ok k3 b hb; rw [Nat.blt_eq] at this; exact this)
    (objsB_ok k5) (fun o ho => by have := c2 o ho; simpa using this)
    (by
      have := read_sc (H := H) (σ := fun c => (frmNames args H).getD c 0) (B := frmNames args H) (List.all_eq_true.2 c3)
      rw [ka] at this; exact this)
    (fun caps => by rw [canonA2_vals, e0, List.append_nil, List.append_nil]; exact hcall)
    (fun o ho => by rw [e0, List.append_nil, any_nm rfl]; exact c4 o ho)
    c5
    (by rw [e0, List.append_nil, any_nm rfl]; exact c6)
    (fun o ho => by rw [e0, List.append_nil]; exact k6 o ho)
    (by rw [e0, List.append_nil]; exact k7)
  rw [e0, List.append_nil] at this
  exact this
def frmFind : List FrmC → FuncId → List Value → Heap → Option (Value × Heap × List Nat)
  | [], _, _, _ => none
  | p :: l, f, args, H => match Nat.beq p.f f with
    | true => match p.go args H with
      | some q => some q
      | none => frmFind l f args H
    | false => frmFind l f args H
theorem frmFind_ok {f : FuncId} {args : List Value} {v : Value} {H' : Heap} {lg : List Nat} : ∀ {l : List FrmC}, (∀ p ∈ l, p.Ok P) → frmFind l f args H = some (v, H', lg) → Call P f args H (fun v' H2 => v' = v ∧ H2 = H') ∧ Kept H H' lg
  | [], _, h => by cases h
  | p :: l, hl, h => by
    unfold frmFind at h
    split at h
    · rename_i hf
      obtain rfl := Nat.eq_of_beq_eq_true hf
      split at h
      · rename_i hq
        cases h
        exact FrmC.go_ok (hl p List.mem_cons_self) hq
      · exact frmFind_ok (fun q hq => hl q (List.mem_cons_of_mem _ hq)) h
    · exact frmFind_ok (fun q hq => hl q (List.mem_cons_of_mem _ hq)) h
def frmTbl (l : List FrmC) (tbl : Tbl) : Tbl := fun f => match (l.any fun p => Nat.beq p.f f) with
  | true => some fun args H => match frmFind l f args H with
    | some q => some q
    | none => match tbl f with
      | some g => g args H
      | none => none
  | false => tbl f
theorem frmTbl_ok {l : List FrmC} {tbl : Tbl} (hl : ∀ p ∈ l, p.Ok P) (ht : TblOk P tbl) : TblOk P (frmTbl l tbl) := by
  intro f g hg args H v H' lg h
  unfold frmTbl at hg
  split at hg
  · cases hg
    simp only at h
    split at h
    · rename_i hq
      cases h
      exact frmFind_ok hl hq
    · split at h <;> try (cases h; done)
      rename_i g hg
      exact ht f g hg args H v H' lg h
  · exact ht f g hg args H v H' lg h
end Go.Pier
namespace Go.Pier.SlgK
open Go Go.Pier Go.Proofs
def vi (n : Int) : Value := .int .i64 n
noncomputable def t0 : Tbl := fun _ => none
theorem t0_ok : TblOk Try.prog t0 := tblOk_none
end Go.Pier.SlgK
