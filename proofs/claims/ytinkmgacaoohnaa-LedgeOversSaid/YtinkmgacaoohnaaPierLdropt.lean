import Derived.Test.YtinkmgacaoohnaaPierMO5
import Derived.KernelRfl
set_option linter.unusedSimpArgs false
set_option linter.unusedVariables false
set_option maxRecDepth 100000
set_option linter.unusedVariables false
set_option linter.unusedSimpArgs false
namespace Go.Pier.Lg
open Go Go.Pier Go.Proofs
theorem err0 {n : Nat} {l : List Int} (hn : 1≤n∧n≤8) (hl : l.length≤12) (hb : ∀ x ∈ l,0≤x∧x < (n : Int)) : errD n l = 0 := by
 unfold errD
 rw [if_neg (by omega),if_pos]
 rw [wiF,decide_eq_true_eq]
 intro x hx
 have := hb x hx
 omega
abbrev isTrue (v : Value) (_ : Heap) : Prop := v = .bool true
end Go.Pier.Lg
