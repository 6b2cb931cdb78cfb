import Derived.Test.YtdpfcahcnjcmiaaPierMA3
set_option linter.unusedSimpArgs false
set_option linter.unusedVariables false
namespace Go.Pier.SlugK
open Go Go.Pier Go.Proofs
theorem ek2 : e2.Ok Try.prog := ExactC.ok_ev (n := 20000) mt_ok (by kernel_rfl)
theorem ek8 : e8.Ok Try.prog := ExactC.ok_ev (n := 20000) mt_ok (by kernel_rfl)
theorem ek14 : e14.Ok Try.prog := ExactC.ok_ev (n := 20000) mt_ok (by kernel_rfl)
end Go.Pier.SlugK
