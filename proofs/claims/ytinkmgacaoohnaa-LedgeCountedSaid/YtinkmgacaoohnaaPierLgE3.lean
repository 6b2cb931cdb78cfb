/-
  Pier: PierLgE3.
-/
import Derived.Test.YtinkmgacaoohnaaPierLgEH
set_option linter.unusedSimpArgs false
set_option linter.unusedVariables false
/-
  Pier: calls over a whole heap.
-/
namespace Go.Pier.Lg
open Go Go.Pier Go.Proofs

theorem ek3 : e3.Ok Try.prog := ExactC.ok_ev (n := 20000) tl_ok (by kernel_rfl)
theorem ek7 : e7.Ok Try.prog := ExactC.ok_ev (n := 20000) tl_ok (by kernel_rfl)
theorem ek11 : e11.Ok Try.prog := ExactC.ok_ev (n := 20000) tl_ok (by kernel_rfl)
theorem ek15 : e15.Ok Try.prog := ExactC.ok_ev (n := 20000) tl_ok (by kernel_rfl)

end Go.Pier.Lg

