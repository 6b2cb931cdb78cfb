/-
  Pier: PierLgN3.
-/
import Derived.Test.YtinkmgacaoohnaaPierLgNH
/-
  Pier: calls over a whole heap.
-/
namespace Go.Pier.Lg
open Go Go.Pier Go.Proofs

theorem nk3 : n3.Ok Try.prog := ExactC.ok_ev (n := 20000) tw_ok (by kernel_rfl)
theorem nk7 : n7.Ok Try.prog := ExactC.ok_ev (n := 20000) tw_ok (by kernel_rfl)
theorem nk11 : n11.Ok Try.prog := ExactC.ok_ev (n := 20000) tw_ok (by kernel_rfl)

end Go.Pier.Lg

