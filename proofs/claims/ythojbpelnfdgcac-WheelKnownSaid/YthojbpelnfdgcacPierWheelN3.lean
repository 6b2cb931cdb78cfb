/-
  Pier: calls over a whole heap.
-/
import Derived.Test.YthojbpelnfdgcacPierWheelNH
namespace Go.Pier.WheelK
open Go Go.Pier Go.Proofs

theorem nk3 : n3.Ok Try.prog := ExactC.ok_ev (n := 20000) tw_ok (by kernel_rfl)
theorem nk9 : n9.Ok Try.prog := ExactC.ok_ev (n := 20000) tw_ok (by kernel_rfl)

end Go.Pier.WheelK
