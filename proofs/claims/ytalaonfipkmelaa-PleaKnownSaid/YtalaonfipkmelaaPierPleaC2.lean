import Derived.Test.YtalaonfipkmelaaPierPC2
import Derived.Test.YtalaonfipkmelaaPierPC4
set_option linter.unusedSimpArgs false
set_option linter.unusedVariables false
namespace Go.Pier.PleaK
open Go Go.Pier Go.Proofs
def cc2 : FrmC := ⟨27, [.agg #[vi (7), .slice (some ⟨0, 0, none⟩) 2 2, .slice (some ⟨1, 0, none⟩) 5 5], vi (3)], h2, .tuple #[vi (2), vi (0)], h2, []⟩
theorem cck2 : cc2.Ok Try.prog := FrmC.ok_ev (n := 20000) ddt_ok (by kernel_rfl) (by kernel_rfl)
end Go.Pier.PleaK
