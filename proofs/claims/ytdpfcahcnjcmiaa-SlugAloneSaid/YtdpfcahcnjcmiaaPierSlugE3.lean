import Derived.Test.YtdpfcahcnjcmiaaPierMA3
set_option linter.unusedSimpArgs false
set_option linter.unusedVariables false
namespace Go.Pier.SlugK
open Go Go.Pier Go.Proofs
theorem ek3 : e3.Ok Try.prog := ExactC.ok_ev (n := 20000) mt_ok (by kernel_rfl)
theorem ek9 : e9.Ok Try.prog := ExactC.ok_ev (n := 20000) mt_ok (by kernel_rfl)
theorem ek15 : e15.Ok Try.prog := ExactC.ok_ev (n := 20000) mt_ok (by kernel_rfl)
end Go.Pier.SlugK
