import Derived.Test.YthbcmcmmkmoccaaPierSlgS0
import Derived.Test.YthbcmcmmkmoccaaPierSlgS1
import Derived.Test.YthbcmcmmkmoccaaPierSlgS2
set_option linter.unusedSimpArgs false
set_option linter.unusedVariables false
namespace Go.Pier.SlgK
open Go Go.Pier Go.Proofs
def ss : List FrmC := [s0, s1, s2, s3, s4, s5, s6, s7, s8, s9, s10, s11, s12, s13, s14, s15, s16, s17, s18, s19, s20, s21]
theorem ss_ok : ∀ p ∈ ss, p.Ok Try.prog := by
  intro p hp
  simp only [ss, List.mem_cons, List.not_mem_nil, or_false] at hp
  rcases hp with rfl | rfl | rfl | rfl | rfl | rfl | rfl | rfl | rfl | rfl | rfl | rfl | rfl | rfl | rfl | rfl | rfl | rfl | rfl | rfl | rfl | rfl
  · exact sk0
  · exact sk1
  · exact sk2
  · exact sk3
  · exact sk4
  · exact sk5
  · exact sk6
  · exact sk7
  · exact sk8
  · exact sk9
  · exact sk10
  · exact sk11
  · exact sk12
  · exact sk13
  · exact sk14
  · exact sk15
  · exact sk16
  · exact sk17
  · exact sk18
  · exact sk19
  · exact sk20
  · exact sk21
noncomputable def st : Tbl := frmTbl ss dt
theorem st_ok : TblOk Try.prog st := frmTbl_ok ss_ok dt_ok
end Go.Pier.SlgK
