import Derived.Test.YtinkmgacaoohnaaPierMN5
import Derived.KernelRfl
set_option linter.unusedSimpArgs false
set_option linter.unusedVariables false
set_option maxRecDepth 100000
set_option linter.unusedVariables false
set_option linter.unusedSimpArgs false
namespace Go.Pier.Lg
open Go Go.Pier Go.Proofs
theorem err0 {n : Nat} {l : List Int} (hn : 1 ≤ n ∧ n ≤ 8) (hl : l.length ≤ 12) (hb : ∀ x ∈ l, 0 ≤ x ∧ x < (n : Int)) : errD n l = 0 := by
  unfold errD
  rw [if_neg (by omega), if_pos]
  rw [wiF, decide_eq_true_eq]
  intro x hx
  have := hb x hx
  omega
theorem dz_bd {n : Nat} {l : List Int} (hn : 1 ≤ n) : ∀ x ∈ dropped n l, 0 ≤ x ∧ x < (n : Int) := fun x hx => by
  unfold dropped at hx
  obtain ⟨y, _, rfl⟩ := List.mem_map.1 hx
  exact ⟨Int.emod_nonneg _ (by omega), Int.emod_lt_of_pos _ (by omega)⟩
theorem dz_len {n : Int} {l : List Int} : (dropped n l).length = min 12 l.length := by simp [dropped]
abbrev isTrue (v : Value) (_ : Heap) : Prop := v = .bool true
theorem zero_nil : ZeroOk none 0 := .inl ⟨rfl, rfl⟩
theorem zero_hole {b : Nat} {s : Option Nat} {c : Nat} : ZeroOk (some ⟨b, 0, s⟩) c := .inr ⟨b, s, rfl⟩
end Go.Pier.Lg
