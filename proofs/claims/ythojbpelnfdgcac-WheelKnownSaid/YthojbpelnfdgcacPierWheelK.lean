/-
  Pier: the examples of package wheel.
-/
import Derived.Test.YthojbpelnfdgcacPierWheelNJ
namespace Go.Pier.WheelK
open Go Go.Pier Go.Proofs

def known : PureC := ⟨4, [], [], .bool true⟩
theorem known_ok : known.Ok Try.prog := PureC.ok_ev (n := 20000) nt_ok (by kernel_rfl) (by kernel_rfl)

end Go.Pier.WheelK
