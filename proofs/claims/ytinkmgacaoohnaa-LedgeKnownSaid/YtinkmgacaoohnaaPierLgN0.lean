/-
  Pier: PierLgN0.
-/
import Derived.Test.YtinkmgacaoohnaaPierLgNH
/-
  Pier: calls over a whole heap.
-/
namespace Go.Pier.Lg
open Go Go.Pier Go.Proofs

theorem nk0 : n0.Ok Try.prog := ExactC.ok_ev (n := 20000) tw_ok (by kernel_rfl)
theorem nk4 : n4.Ok Try.prog := ExactC.ok_ev (n := 20000) tw_ok (by kernel_rfl)
theorem nk8 : n8.Ok Try.prog := ExactC.ok_ev (n := 20000) tw_ok (by kernel_rfl)
theorem nk12 : n12.Ok Try.prog := ExactC.ok_ev (n := 20000) tw_ok (by kernel_rfl)

end Go.Pier.Lg

