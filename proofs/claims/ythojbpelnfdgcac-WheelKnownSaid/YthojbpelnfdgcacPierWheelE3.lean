/-
  Pier: calls over a whole heap.
-/
import Derived.Test.YthojbpelnfdgcacPierWheelEH
namespace Go.Pier.WheelK
open Go Go.Pier Go.Proofs

theorem ek3 : e3.Ok Try.prog := ExactC.ok_ev (n := 20000) tc_ok (by kernel_rfl)
theorem ek11 : e11.Ok Try.prog := ExactC.ok_ev (n := 20000) tc_ok (by kernel_rfl)
theorem ek19 : e19.Ok Try.prog := ExactC.ok_ev (n := 20000) tc_ok (by kernel_rfl)

end Go.Pier.WheelK
