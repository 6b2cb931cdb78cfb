import Derived.Test.YtbhpfkfedannjaaPierKM9
set_option linter.unusedSimpArgs false
set_option linter.unusedVariables false
namespace Go.Pier.RoundK
open Go Go.Pier Go.Proofs
def works : PureC := ⟨18,[],[],.bool true⟩
theorem works_ok : works.Ok Try.prog := PureC.ok_ev (n := 20000) et_ok (by kernel_rfl) (by kernel_rfl)
noncomputable def tw : Tbl := pureTbl [18] [works] t0
end Go.Pier.RoundK
