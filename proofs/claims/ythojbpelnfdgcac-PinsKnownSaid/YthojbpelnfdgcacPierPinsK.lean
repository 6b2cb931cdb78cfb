/-
  Pier: the examples of package pins.
-/
import Derived.Test.YthojbpelnfdgcacPierPinsB
namespace Go.Pier.PinsK
open Go Go.Pier Go.Proofs

noncomputable def tw : Tbl := pureTbl [18] [works] tc
theorem tw_ok : TblOk Try.prog tw := pureTbl_ok (by intro p hp; rw [List.mem_singleton] at hp; rw [hp]; exact works_ok) tc_ok
def known : PureC := ⟨3, [], [], .bool true⟩
theorem known_ok : known.Ok Try.prog := PureC.ok_ev (n := 20000) tw_ok (by kernel_rfl) (by kernel_rfl)

end Go.Pier.PinsK
