import Derived.Test.YthbcmcmmkmoccaaPierSlgD0
import Derived.Test.YthbcmcmmkmoccaaPierSlgD1
import Derived.Test.YthbcmcmmkmoccaaPierSlgD2
import Derived.Test.YthbcmcmmkmoccaaPierSlgD3
set_option linter.unusedSimpArgs false
set_option linter.unusedVariables false
namespace Go.Pier.SlgK
open Go Go.Pier Go.Proofs
def ds : List FrmC := [d0, d1, d2, d3, d4, d5, d6, d7, d8, d9, d10, d11, d12, d13, d14, d15, d16, d17, d18, d19, d20, d21, d22, d23, d24, d25, d26, d27, d28, d29, d30, d31, d32, d33, d34, d35, d36, d37, d38, d39, d40, d41, d42, d43, d44, d45, d46]
theorem ds_ok : ∀ p ∈ ds, p.Ok Try.prog := by
  intro p hp
  simp only [ds, List.mem_cons, List.not_mem_nil, or_false] at hp
  rcases hp with rfl | rfl | rfl | rfl | rfl | rfl | rfl | rfl | rfl | rfl | rfl | rfl | rfl | rfl | rfl | rfl | rfl | rfl | rfl | rfl | rfl | rfl | rfl | rfl | rfl | rfl | rfl | rfl | rfl | rfl | rfl | rfl | rfl | rfl | rfl | rfl | rfl | rfl | rfl | rfl | rfl | rfl | rfl | rfl | rfl | rfl | rfl
  · exact dk0
  · exact dk1
  · exact dk2
  · exact dk3
  · exact dk4
  · exact dk5
  · exact dk6
  · exact dk7
  · exact dk8
  · exact dk9
  · exact dk10
  · exact dk11
  · exact dk12
  · exact dk13
  · exact dk14
  · exact dk15
  · exact dk16
  · exact dk17
  · exact dk18
  · exact dk19
  · exact dk20
  · exact dk21
  · exact dk22
  · exact dk23
  · exact dk24
  · exact dk25
  · exact dk26
  · exact dk27
  · exact dk28
  · exact dk29
  · exact dk30
  · exact dk31
  · exact dk32
  · exact dk33
  · exact dk34
  · exact dk35
  · exact dk36
  · exact dk37
  · exact dk38
  · exact dk39
  · exact dk40
  · exact dk41
  · exact dk42
  · exact dk43
  · exact dk44
  · exact dk45
  · exact dk46
noncomputable def dt : Tbl := frmTbl ds mt
theorem dt_ok : TblOk Try.prog dt := frmTbl_ok ds_ok mt_ok
end Go.Pier.SlgK
