import Derived.Test.YtbehncpoppoglaaPierKP2
import Derived.Test.YtbehncpoppoglaaPierKP3
set_option linter.unusedSimpArgs false
set_option linter.unusedVariables false
namespace Go.Pier.Fl
open Go Go.Pier Go.Proofs
noncomputable def t0_4 : Tbl := fun _ => none
theorem t0_4_ok : TblOk Try.prog t0_4 := tblOk_none
def ee4 : FrmC := ⟨31,[.slice (some ⟨0,0,none⟩) 3 3,vi (8)],[.rw [vi (1),vi (4),vi (6)] none],.tuple #[.slice (some ⟨7,0,none⟩) 9 9,vi (0)],[.rw [vi (1),vi (4),vi (6)] none],[.gone,.gone,.gone,.gone,.gone,.gone,.rw [vi (0),vi (1),vi (2),vi (3),vi (1),vi (2),vi (1),vi (2),vi (2)] none]⟩
theorem eek4 : ee4.Ok Try.prog := FrmC.ok_ev (n := 20000) t0_4_ok (by kernel_rfl) (by kernel_rfl)
def ee10 : FrmC := ⟨47,[.slice (some ⟨0,0,none⟩) 3 3,.slice (some ⟨1,0,none⟩) 3 3,vi (3)],[.rw [vi (1),vi (4),vi (6)] none,.rw [vi (1),vi (2),vi (1)] none],.tuple #[.slice none 0 0,vi (5)],[.rw [vi (1),vi (4),vi (6)] none,.rw [vi (1),vi (2),vi (1)] none],[]⟩
theorem eek10 : ee10.Ok Try.prog := FrmC.ok_ev (n := 20000) t0_4_ok (by kernel_rfl) (by kernel_rfl)
def ee16 : FrmC := ⟨47,[.slice (some ⟨0,0,none⟩) 3 3,.slice (some ⟨1,0,none⟩) 3 3,vi (8)],[.rw [vi (1),vi (4),vi (6)] none,.rw [vi (1),vi (2),vi (1)] none],.tuple #[.slice (some ⟨10,0,some 0⟩) 3 0,vi (0)],[.rw [vi (1),vi (4),vi (6)] none,.rw [vi (1),vi (2),vi (1)] none],[.gone,.gone,.gone,.gone,.gone,.gone,.gone,.gone,.rw [vi (0),vi (2),vi (0)] (some 1)]⟩
theorem eek16 : ee16.Ok Try.prog := FrmC.ok_ev (n := 20000) t0_4_ok (by kernel_rfl) (by kernel_rfl)
end Go.Pier.Fl
