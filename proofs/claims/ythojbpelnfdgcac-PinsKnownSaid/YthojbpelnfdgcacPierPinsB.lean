/-
  Pier: the works function of package pins.
-/
import Derived.Test.YthojbpelnfdgcacPierPinsE
namespace Go.Pier.PinsK
open Go Go.Pier Go.Proofs

def works : PureC := ⟨18, [], [], .bool true⟩
theorem works_ok : works.Ok Try.prog := PureC.ok_ev (n := 20000) et_ok (by kernel_rfl) (by kernel_rfl)

end Go.Pier.PinsK
