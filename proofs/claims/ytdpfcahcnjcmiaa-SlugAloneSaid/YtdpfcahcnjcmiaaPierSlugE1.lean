import Derived.Test.YtdpfcahcnjcmiaaPierMA3
set_option linter.unusedSimpArgs false
set_option linter.unusedVariables false
namespace Go.Pier.SlugK
open Go Go.Pier Go.Proofs
theorem ek1 : e1.Ok Try.prog := ExactC.ok_ev (n := 20000) mt_ok (by kernel_rfl)
theorem ek7 : e7.Ok Try.prog := ExactC.ok_ev (n := 20000) mt_ok (by kernel_rfl)
theorem ek13 : e13.Ok Try.prog := ExactC.ok_ev (n := 20000) mt_ok (by kernel_rfl)
end Go.Pier.SlugK
