import Derived.Test.YtbehncpoppoglaaPierKP2
import Derived.Test.YtbehncpoppoglaaPierKP3
set_option linter.unusedSimpArgs false
set_option linter.unusedVariables false
namespace Go.Pier.Fl
open Go Go.Pier Go.Proofs
noncomputable def t0_5 : Tbl := fun _ => none
theorem t0_5_ok : TblOk Try.prog t0_5 := tblOk_none
def ee5 : FrmC := ⟨33,[.slice (some ⟨0,0,none⟩) 3 3,.slice (some ⟨1,0,none⟩) 5 5],[.rw [vi (1),vi (4),vi (6)] none,.rw [vi (0),vi (1),vi (2),vi (3),vi (1)] none],vi (0),[.rw [vi (1),vi (4),vi (6)] none,.rw [vi (0),vi (1),vi (2),vi (3),vi (1)] none],[]⟩
theorem eek5 : ee5.Ok Try.prog := FrmC.ok_ev (n := 20000) t0_5_ok (by kernel_rfl) (by kernel_rfl)
def ee11 : FrmC := ⟨20,[.slice (some ⟨0,0,none⟩) 3 3,.slice (some ⟨1,0,none⟩) 3 3],[.rw [vi (1),vi (4),vi (6)] none,.rw [vi (0),vi (0),vi (1001)] none],.tuple #[vi (0),vi (0),vi (3)],[.rw [vi (1),vi (4),vi (6)] none,.rw [vi (0),vi (0),vi (1001)] none],[]⟩
theorem eek11 : ee11.Ok Try.prog := FrmC.ok_ev (n := 20000) t0_5_ok (by kernel_rfl) (by kernel_rfl)
def ee17 : FrmC := ⟨47,[.slice (some ⟨0,0,none⟩) 3 3,.slice (some ⟨1,0,none⟩) 2 2,vi (8)],[.rw [vi (1),vi (4),vi (6)] none,.rw [vi (1),vi (2)] none],.tuple #[.slice none 0 0,vi (15)],[.rw [vi (1),vi (4),vi (6)] none,.rw [vi (1),vi (2)] none],[]⟩
theorem eek17 : ee17.Ok Try.prog := FrmC.ok_ev (n := 20000) t0_5_ok (by kernel_rfl) (by kernel_rfl)
end Go.Pier.Fl
