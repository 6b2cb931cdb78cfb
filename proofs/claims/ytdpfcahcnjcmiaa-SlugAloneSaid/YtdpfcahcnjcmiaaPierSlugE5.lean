import Derived.Test.YtdpfcahcnjcmiaaPierMA3
import Derived.Test.YtdpfcahcnjcmiaaPierMA4
set_option linter.unusedSimpArgs false
set_option linter.unusedVariables false
namespace Go.Pier.SlugK
open Go Go.Pier Go.Proofs
theorem ek5 : e5.Ok Try.prog := ExactC.ok_ev (n := 20000) mt_ok (by kernel_rfl)
theorem ek11 : e11.Ok Try.prog := ExactC.ok_ev (n := 20000) mt_ok (by kernel_rfl)
theorem ek17 : e17.Ok Try.prog := ExactC.ok_ev (n := 20000) ft_ok (by kernel_rfl)
end Go.Pier.SlugK
