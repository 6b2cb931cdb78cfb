import Derived.Test.YtbehncpoppoglaaPierKP2
import Derived.Test.YtbehncpoppoglaaPierKP3
set_option linter.unusedSimpArgs false
set_option linter.unusedVariables false
namespace Go.Pier.Fl
open Go Go.Pier Go.Proofs
noncomputable def t0_0 : Tbl := fun _ => none
theorem t0_0_ok : TblOk Try.prog t0_0 := tblOk_none
def ee0 : FrmC := ⟨20,[.slice (some ⟨0,0,none⟩) 3 3,.slice (some ⟨1,0,none⟩) 3 3],[.rw [vi (1),vi (4),vi (6)] none,.rw [vi (2),vi (0),vi (1)] none],.tuple #[vi (8),vi (3),vi (0)],[.rw [vi (1),vi (4),vi (6)] none,.rw [vi (2),vi (0),vi (1)] none],[]⟩
theorem eek0 : ee0.Ok Try.prog := FrmC.ok_ev (n := 20000) t0_0_ok (by kernel_rfl) (by kernel_rfl)
def ee6 : FrmC := ⟨33,[.slice (some ⟨0,0,none⟩) 3 3,.slice (some ⟨1,0,none⟩) 5 5],[.rw [vi (1),vi (4),vi (6)] none,.rw [vi (0),vi (1),vi (2),vi (3),vi (2)] none],vi (14),[.rw [vi (1),vi (4),vi (6)] none,.rw [vi (0),vi (1),vi (2),vi (3),vi (2)] none],[]⟩
theorem eek6 : ee6.Ok Try.prog := FrmC.ok_ev (n := 20000) t0_0_ok (by kernel_rfl) (by kernel_rfl)
def ee12 : FrmC := ⟨33,[.slice (some ⟨0,0,none⟩) 3 3,.slice none 0 0],[.rw [vi (1),vi (4),vi (6)] none],vi (6),[.rw [vi (1),vi (4),vi (6)] none],[]⟩
theorem eek12 : ee12.Ok Try.prog := FrmC.ok_ev (n := 20000) t0_0_ok (by kernel_rfl) (by kernel_rfl)
def ee18 : FrmC := ⟨47,[.slice (some ⟨0,0,none⟩) 3 3,.slice (some ⟨1,0,none⟩) 3 3,vi (8)],[.rw [vi (1),vi (4),vi (6)] none,.rw [vi (1),vi (2),vi (21)] none],.tuple #[.slice none 0 0,vi (2)],[.rw [vi (1),vi (4),vi (6)] none,.rw [vi (1),vi (2),vi (21)] none],[]⟩
theorem eek18 : ee18.Ok Try.prog := FrmC.ok_ev (n := 20000) t0_0_ok (by kernel_rfl) (by kernel_rfl)
end Go.Pier.Fl
