import Derived.Test.YtinkmgacaoohnaaPierMS4
set_option linter.unusedSimpArgs false
set_option linter.unusedVariables false
namespace Go.Pier
open Go
variable {P : Program} {H : Heap} {f : FuncId}
end Go.Pier
