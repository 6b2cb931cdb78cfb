/-
  Pier: calls over a whole heap.
-/
import Derived.Test.YthojbpelnfdgcacPierWheelEH
namespace Go.Pier.WheelK
open Go Go.Pier Go.Proofs

theorem ek1 : e1.Ok Try.prog := ExactC.ok_ev (n := 20000) tc_ok (by kernel_rfl)
theorem ek9 : e9.Ok Try.prog := ExactC.ok_ev (n := 20000) tc_ok (by kernel_rfl)
theorem ek17 : e17.Ok Try.prog := ExactC.ok_ev (n := 20000) tc_ok (by kernel_rfl)

end Go.Pier.WheelK
