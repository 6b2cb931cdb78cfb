import Derived.Test.YthhfdfgfpjjceaaPierBoxE0
import Derived.Test.YthhfdfgfpjjceaaPierBoxE1
import Derived.Test.YthhfdfgfpjjceaaPierBoxE2
import Derived.Test.YthhfdfgfpjjceaaPierBoxE3
import Derived.Test.YthhfdfgfpjjceaaPierBoxE4
import Derived.Test.YthhfdfgfpjjceaaPierBoxE5
set_option linter.unusedSimpArgs false
set_option linter.unusedVariables false
namespace Go.Pier.BoxK
open Go Go.Pier Go.Proofs
def es : List FrmC := [e0, e1, e2, e3, e4, e5, e6, e7, e8, e9, e10, e11, e12, e13, e14, e15, e16, e17, e18, e19, e20, e21, e22, e23, e24, e25, e26, e27, e28, e29, e30]
theorem es_ok : ∀ p ∈ es, p.Ok Try.prog := by
  intro p hp
  simp only [es, List.mem_cons, List.not_mem_nil, or_false] at hp
  rcases hp with rfl | rfl | rfl | rfl | rfl | rfl | rfl | rfl | rfl | rfl | rfl | rfl | rfl | rfl | rfl | rfl | rfl | rfl | rfl | rfl | rfl | rfl | rfl | rfl | rfl | rfl | rfl | rfl | rfl | rfl | rfl
  · exact ek0
  · exact ek1
  · exact ek2
  · exact ek3
  · exact ek4
  · exact ek5
  · exact ek6
  · exact ek7
  · exact ek8
  · exact ek9
  · exact ek10
  · exact ek11
  · exact ek12
  · exact ek13
  · exact ek14
  · exact ek15
  · exact ek16
  · exact ek17
  · exact ek18
  · exact ek19
  · exact ek20
  · exact ek21
  · exact ek22
  · exact ek23
  · exact ek24
  · exact ek25
  · exact ek26
  · exact ek27
  · exact ek28
  · exact ek29
  · exact ek30
noncomputable def et : Tbl := frmTbl es ct
theorem et_ok : TblOk Try.prog et := frmTbl_ok es_ok ct_ok
end Go.Pier.BoxK
namespace Go.Pier.BoxK
open Go Go.Pier Go.Proofs
def works : PureC := ⟨17, [], [], .bool true⟩
theorem works_ok : works.Ok Try.prog := PureC.ok_ev (n := 20000) et_ok (by kernel_rfl) (by kernel_rfl)
end Go.Pier.BoxK
namespace Go.Pier.BoxK
open Go Go.Pier Go.Proofs
noncomputable def tk : Tbl := pureTbl [17] [works] et
theorem tk_ok : TblOk Try.prog tk := pureTbl_ok (by intro p hp; rw [List.mem_singleton] at hp; rw [hp]; exact works_ok) et_ok
def known : PureC := ⟨15, [], [], .bool true⟩
theorem known_ok : known.Ok Try.prog := PureC.ok_ev (n := 20000) tk_ok (by kernel_rfl) (by kernel_rfl)
end Go.Pier.BoxK
