/-
  Pier: calls over a whole heap.
-/
import Derived.Test.YthojbpelnfdgcacPierWheelEH
namespace Go.Pier.WheelK
open Go Go.Pier Go.Proofs

theorem ek0 : e0.Ok Try.prog := ExactC.ok_ev (n := 20000) tc_ok (by kernel_rfl)
theorem ek8 : e8.Ok Try.prog := ExactC.ok_ev (n := 20000) tc_ok (by kernel_rfl)
theorem ek16 : e16.Ok Try.prog := ExactC.ok_ev (n := 20000) tc_ok (by kernel_rfl)

end Go.Pier.WheelK
