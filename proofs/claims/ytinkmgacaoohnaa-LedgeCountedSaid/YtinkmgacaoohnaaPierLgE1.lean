/-
  Pier: PierLgE1.
-/
import Derived.Test.YtinkmgacaoohnaaPierLgEH
set_option linter.unusedSimpArgs false
set_option linter.unusedVariables false
/-
  Pier: calls over a whole heap.
-/
namespace Go.Pier.Lg
open Go Go.Pier Go.Proofs

theorem ek1 : e1.Ok Try.prog := ExactC.ok_ev (n := 20000) tl_ok (by kernel_rfl)
theorem ek5 : e5.Ok Try.prog := ExactC.ok_ev (n := 20000) tl_ok (by kernel_rfl)
theorem ek9 : e9.Ok Try.prog := ExactC.ok_ev (n := 20000) tl_ok (by kernel_rfl)
theorem ek13 : e13.Ok Try.prog := ExactC.ok_ev (n := 20000) tl_ok (by kernel_rfl)
theorem ek17 : e17.Ok Try.prog := ExactC.ok_ev (n := 20000) tl_ok (by kernel_rfl)

end Go.Pier.Lg

