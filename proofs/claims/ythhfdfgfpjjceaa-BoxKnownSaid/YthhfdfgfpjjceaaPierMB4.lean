import Derived.Test.YthhfdfgfpjjceaaPierBoxC0
import Derived.Test.YthhfdfgfpjjceaaPierBoxC1
import Derived.Test.YthhfdfgfpjjceaaPierBoxC2
import Derived.Test.YthhfdfgfpjjceaaPierBoxC3
set_option linter.unusedSimpArgs false
set_option linter.unusedVariables false
namespace Go.Pier.BoxK
open Go Go.Pier Go.Proofs
def cs : List FrmC := [c0, c1, c2, c3, c4, c5, c6, c7, c8, c9, c10, c11, c12, c13, c14, c15, c16, c17, c18, c19, c20]
theorem cs_ok : ∀ p ∈ cs, p.Ok Try.prog := by
  intro p hp
  simp only [cs, List.mem_cons, List.not_mem_nil, or_false] at hp
  rcases hp with rfl | rfl | rfl | rfl | rfl | rfl | rfl | rfl | rfl | rfl | rfl | rfl | rfl | rfl | rfl | rfl | rfl | rfl | rfl | rfl | rfl
  · exact ck0
  · exact ck1
  · exact ck2
  · exact ck3
  · exact ck4
  · exact ck5
  · exact ck6
  · exact ck7
  · exact ck8
  · exact ck9
  · exact ck10
  · exact ck11
  · exact ck12
  · exact ck13
  · exact ck14
  · exact ck15
  · exact ck16
  · exact ck17
  · exact ck18
  · exact ck19
  · exact ck20
noncomputable def ct : Tbl := frmTbl cs st
theorem ct_ok : TblOk Try.prog ct := frmTbl_ok cs_ok st_ok
end Go.Pier.BoxK
