/-
  Pier: calls over a whole heap.
-/
import Derived.Test.YthojbpelnfdgcacPierWheelNH
namespace Go.Pier.WheelK
open Go Go.Pier Go.Proofs

theorem nk4 : n4.Ok Try.prog := ExactC.ok_ev (n := 20000) tw_ok (by kernel_rfl)
theorem nk10 : n10.Ok Try.prog := ExactC.ok_ev (n := 20000) tw_ok (by kernel_rfl)

end Go.Pier.WheelK
