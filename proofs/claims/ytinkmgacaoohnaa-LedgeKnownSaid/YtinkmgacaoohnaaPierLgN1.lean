/-
  Pier: PierLgN1.
-/
import Derived.Test.YtinkmgacaoohnaaPierLgNH
/-
  Pier: calls over a whole heap.
-/
namespace Go.Pier.Lg
open Go Go.Pier Go.Proofs

theorem nk1 : n1.Ok Try.prog := ExactC.ok_ev (n := 20000) tw_ok (by kernel_rfl)
theorem nk5 : n5.Ok Try.prog := ExactC.ok_ev (n := 20000) tw_ok (by kernel_rfl)
theorem nk9 : n9.Ok Try.prog := ExactC.ok_ev (n := 20000) tw_ok (by kernel_rfl)

end Go.Pier.Lg

