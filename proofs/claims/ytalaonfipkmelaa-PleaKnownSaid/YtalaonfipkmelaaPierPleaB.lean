import Derived.Test.YtalaonfipkmelaaPierPC6
set_option linter.unusedSimpArgs false
set_option linter.unusedVariables false
namespace Go.Pier.PleaK
open Go Go.Pier Go.Proofs
def works : PureC := ⟨18, [], [], .bool true⟩
theorem works_ok : works.Ok Try.prog := PureC.ok_ev (n := 20000) eet_ok (by kernel_rfl) (by kernel_rfl)
end Go.Pier.PleaK
