import Derived.Test.YtbehncpoppoglaaPierKP2
import Derived.Test.YtbehncpoppoglaaPierKP3
set_option linter.unusedSimpArgs false
set_option linter.unusedVariables false
namespace Go.Pier.Fl
open Go Go.Pier Go.Proofs
noncomputable def t0_2 : Tbl := fun _ => none
theorem t0_2_ok : TblOk Try.prog t0_2 := tblOk_none
def ee2 : FrmC := ⟨26,[.slice (some ⟨0,0,none⟩) 3 3,vi (8)],[.rw [vi (1),vi (4),vi (6)] none],.tuple #[.slice (some ⟨6,0,some 0⟩) 3 0,vi (0)],[.rw [vi (1),vi (4),vi (6)] none],[.gone,.gone,.gone,.gone,.gone,.rw [vi (0),vi (2),vi (0)] (some 1)]⟩
theorem eek2 : ee2.Ok Try.prog := FrmC.ok_ev (n := 20000) t0_2_ok (by kernel_rfl) (by kernel_rfl)
def ee8 : FrmC := ⟨45,[.slice (some ⟨0,0,none⟩) 3 3,vi (8)],[.rw [vi (1),vi (4),vi (6)] none],.tuple #[vi (4),vi (0)],[.rw [vi (1),vi (4),vi (6)] none],[]⟩
theorem eek8 : ee8.Ok Try.prog := FrmC.ok_ev (n := 20000) t0_2_ok (by kernel_rfl) (by kernel_rfl)
def ee14 : FrmC := ⟨45,[.slice (some ⟨0,0,none⟩) 2 2,vi (40)],[.rw [vi (5),vi (8)] none],.tuple #[vi (2),vi (0)],[.rw [vi (5),vi (8)] none],[]⟩
theorem eek14 : ee14.Ok Try.prog := FrmC.ok_ev (n := 20000) t0_2_ok (by kernel_rfl) (by kernel_rfl)
end Go.Pier.Fl
