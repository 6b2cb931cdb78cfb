/-
  Pier: calls over a whole heap.
-/
import Derived.Test.YthojbpelnfdgcacPierWheelEH
namespace Go.Pier.WheelK
open Go Go.Pier Go.Proofs

theorem ek5 : e5.Ok Try.prog := ExactC.ok_ev (n := 20000) tc_ok (by kernel_rfl)
theorem ek13 : e13.Ok Try.prog := ExactC.ok_ev (n := 20000) tc_ok (by kernel_rfl)

end Go.Pier.WheelK
