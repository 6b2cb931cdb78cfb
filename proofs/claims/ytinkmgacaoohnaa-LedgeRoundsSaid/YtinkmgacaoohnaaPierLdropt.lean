import Derived.Test.YtinkmgacaoohnaaPierMR5
import Derived.KernelRfl
set_option linter.unusedSimpArgs false
set_option linter.unusedVariables false
set_option maxRecDepth 100000
set_option linter.unusedVariables false
set_option linter.unusedSimpArgs false
namespace Go.Pier.Lg
open Go Go.Pier Go.Proofs
abbrev isTrue (v : Value) (_ : Heap) : Prop := v = .bool true
end Go.Pier.Lg
