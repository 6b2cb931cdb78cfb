/-
  Pier: calls over a whole heap.
-/
import Derived.Test.YthojbpelnfdgcacPierWheelEH
namespace Go.Pier.WheelK
open Go Go.Pier Go.Proofs

theorem ek7 : e7.Ok Try.prog := ExactC.ok_ev (n := 20000) tc_ok (by kernel_rfl)
theorem ek15 : e15.Ok Try.prog := ExactC.ok_ev (n := 20000) tc_ok (by kernel_rfl)

end Go.Pier.WheelK
