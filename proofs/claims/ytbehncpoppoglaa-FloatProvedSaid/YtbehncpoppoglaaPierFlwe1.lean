import Derived.Test.YtbehncpoppoglaaPierKP2
import Derived.Test.YtbehncpoppoglaaPierKP3
set_option linter.unusedSimpArgs false
set_option linter.unusedVariables false
namespace Go.Pier.Fl
open Go Go.Pier Go.Proofs
noncomputable def t0_1 : Tbl := fun _ => none
theorem t0_1_ok : TblOk Try.prog t0_1 := tblOk_none
def ee1 : FrmC := ⟨20,[.slice (some ⟨0,0,none⟩) 3 3,.slice (some ⟨1,0,none⟩) 2 2],[.rw [vi (1),vi (4),vi (6)] none,.rw [vi (1),vi (1)] none],.tuple #[vi (0),vi (0),vi (15)],[.rw [vi (1),vi (4),vi (6)] none,.rw [vi (1),vi (1)] none],[]⟩
theorem eek1 : ee1.Ok Try.prog := FrmC.ok_ev (n := 20000) t0_1_ok (by kernel_rfl) (by kernel_rfl)
def ee7 : FrmC := ⟨28,[.slice (some ⟨0,0,none⟩) 2 2,vi (27)],[.rw [vi (5),vi (8)] none],.tuple #[.slice (some ⟨6,0,some 0⟩) 2 0,vi (3),vi (0)],[.rw [vi (5),vi (8)] none],[.gone,.gone,.gone,.gone,.gone,.rw [vi (0),vi (3)] (some 1)]⟩
theorem eek7 : ee7.Ok Try.prog := FrmC.ok_ev (n := 20000) t0_1_ok (by kernel_rfl) (by kernel_rfl)
def ee13 : FrmC := ⟨28,[.slice (some ⟨0,0,none⟩) 3 3,vi (8)],[.rw [vi (1),vi (4),vi (6)] none],.tuple #[.slice (some ⟨6,0,some 0⟩) 3 0,vi (0),vi (0)],[.rw [vi (1),vi (4),vi (6)] none],[.gone,.gone,.gone,.gone,.gone,.rw [vi (2),vi (0),vi (1)] (some 1)]⟩
theorem eek13 : ee13.Ok Try.prog := FrmC.ok_ev (n := 20000) t0_1_ok (by kernel_rfl) (by kernel_rfl)
end Go.Pier.Fl
