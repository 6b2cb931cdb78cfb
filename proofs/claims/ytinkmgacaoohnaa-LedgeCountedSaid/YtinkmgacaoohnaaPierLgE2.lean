/-
  Pier: PierLgE2.
-/
import Derived.Test.YtinkmgacaoohnaaPierLgEH
set_option linter.unusedSimpArgs false
set_option linter.unusedVariables false
/-
  Pier: calls over a whole heap.
-/
namespace Go.Pier.Lg
open Go Go.Pier Go.Proofs

theorem ek2 : e2.Ok Try.prog := ExactC.ok_ev (n := 20000) tl_ok (by kernel_rfl)
theorem ek6 : e6.Ok Try.prog := ExactC.ok_ev (n := 20000) tl_ok (by kernel_rfl)
theorem ek10 : e10.Ok Try.prog := ExactC.ok_ev (n := 20000) tl_ok (by kernel_rfl)
theorem ek14 : e14.Ok Try.prog := ExactC.ok_ev (n := 20000) tl_ok (by kernel_rfl)

end Go.Pier.Lg

