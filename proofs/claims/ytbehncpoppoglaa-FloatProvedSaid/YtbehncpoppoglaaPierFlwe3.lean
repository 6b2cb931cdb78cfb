import Derived.Test.YtbehncpoppoglaaPierKP2
import Derived.Test.YtbehncpoppoglaaPierKP3
set_option linter.unusedSimpArgs false
set_option linter.unusedVariables false
namespace Go.Pier.Fl
open Go Go.Pier Go.Proofs
noncomputable def t0_3 : Tbl := fun _ => none
theorem t0_3_ok : TblOk Try.prog t0_3 := tblOk_none
def ee3 : FrmC := ⟨26,[.slice (some ⟨0,0,none⟩) 3 3,vi (301)],[.rw [vi (1),vi (4),vi (6)] none],.tuple #[.slice none 0 0,vi (3)],[.rw [vi (1),vi (4),vi (6)] none],[]⟩
theorem eek3 : ee3.Ok Try.prog := FrmC.ok_ev (n := 20000) t0_3_ok (by kernel_rfl) (by kernel_rfl)
def ee9 : FrmC := ⟨47,[.slice (some ⟨0,0,none⟩) 3 3,.slice (some ⟨1,0,none⟩) 3 3,vi (9)],[.rw [vi (1),vi (4),vi (6)] none,.rw [vi (1),vi (2),vi (1)] none],.tuple #[.slice (some ⟨10,0,some 0⟩) 3 0,vi (0)],[.rw [vi (1),vi (4),vi (6)] none,.rw [vi (1),vi (2),vi (1)] none],[.gone,.gone,.gone,.gone,.gone,.gone,.gone,.gone,.rw [vi (1),vi (2),vi (0)] (some 1)]⟩
theorem eek9 : ee9.Ok Try.prog := FrmC.ok_ev (n := 20000) t0_3_ok (by kernel_rfl) (by kernel_rfl)
def ee15 : FrmC := ⟨45,[.slice (some ⟨0,0,none⟩) 2 2,vi (27)],[.rw [vi (5),vi (8)] none],.tuple #[vi (0),vi (0)],[.rw [vi (5),vi (8)] none],[]⟩
theorem eek15 : ee15.Ok Try.prog := FrmC.ok_ev (n := 20000) t0_3_ok (by kernel_rfl) (by kernel_rfl)
end Go.Pier.Fl
