/-
  Pier: PierLgE0.
-/
import Derived.Test.YtinkmgacaoohnaaPierLgEH
set_option linter.unusedSimpArgs false
set_option linter.unusedVariables false
/-
  Pier: calls over a whole heap.
-/
namespace Go.Pier.Lg
open Go Go.Pier Go.Proofs

theorem ek0 : e0.Ok Try.prog := ExactC.ok_ev (n := 20000) tl_ok (by kernel_rfl)
theorem ek4 : e4.Ok Try.prog := ExactC.ok_ev (n := 20000) tl_ok (by kernel_rfl)
theorem ek8 : e8.Ok Try.prog := ExactC.ok_ev (n := 20000) tl_ok (by kernel_rfl)
theorem ek12 : e12.Ok Try.prog := ExactC.ok_ev (n := 20000) tl_ok (by kernel_rfl)
theorem ek16 : e16.Ok Try.prog := ExactC.ok_ev (n := 20000) tl_ok (by kernel_rfl)

end Go.Pier.Lg

