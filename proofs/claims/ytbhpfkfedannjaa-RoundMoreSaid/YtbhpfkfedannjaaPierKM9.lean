import Derived.Test.YtbhpfkfedannjaaPierRoundE0
import Derived.Test.YtbhpfkfedannjaaPierRoundE1
import Derived.Test.YtbhpfkfedannjaaPierRoundE2
import Derived.Test.YtbhpfkfedannjaaPierRoundE3
import Derived.Test.YtbhpfkfedannjaaPierRoundE4
import Derived.Test.YtbhpfkfedannjaaPierRoundE5
set_option linter.unusedSimpArgs false
set_option linter.unusedVariables false
namespace Go.Pier.RoundK
open Go Go.Pier Go.Proofs
def es : List FrmC := [e0,e1,e2,e3,e4,e5,e6,e7,e8,e9,e10,e11,e12,e13,e14,e15,e16,e17,e18,e19,e20,e21,e22,e23,e24,e25]
theorem es_ok : ∀ p ∈ es,p.Ok Try.prog := by
 intro p hp
 simp only [es,List.mem_cons,List.not_mem_nil,or_false] at hp
 rcases hp with rfl | rfl | rfl | rfl | rfl | rfl | rfl | rfl | rfl | rfl | rfl | rfl | rfl | rfl | rfl | rfl | rfl | rfl | rfl | rfl | rfl | rfl | rfl | rfl | rfl | rfl
 · exact ek0
 · exact ek1
 · exact ek2
 · exact ek3
 · exact ek4
 · exact ek5
 · exact ek6
 · exact ek7
 · exact ek8
 · exact ek9
 · exact ek10
 · exact ek11
 · exact ek12
 · exact ek13
 · exact ek14
 · exact ek15
 · exact ek16
 · exact ek17
 · exact ek18
 · exact ek19
 · exact ek20
 · exact ek21
 · exact ek22
 · exact ek23
 · exact ek24
 · exact ek25
noncomputable def et : Tbl := frmTbl es dt
theorem et_ok : TblOk Try.prog et := frmTbl_ok es_ok dt_ok
end Go.Pier.RoundK
