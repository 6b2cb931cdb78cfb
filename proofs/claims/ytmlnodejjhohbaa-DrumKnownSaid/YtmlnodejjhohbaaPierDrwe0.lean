import Derived.Test.YtmlnodejjhohbaaPierKC3
import Derived.Test.YtmlnodejjhohbaaPierKC4
set_option linter.unusedSimpArgs false
set_option linter.unusedVariables false
namespace Go.Pier.Dr
open Go Go.Pier Go.Proofs
noncomputable def t0_0 : Tbl := fun _ => none
theorem t0_0_ok : TblOk Try.prog t0_0 := tblOk_none
def ee0 : FrmC := ⟨18,[.agg #[.slice (some ⟨0,0,none⟩) 3 3,.slice (some ⟨1,0,none⟩) 3 3],vi (10)],[.rw [vi (0),vi (1),vi (1)] none,.rw [vi (0),vi (0),vi (1)] none],.tuple #[.slice (some ⟨24,0,none⟩) 10 10,vi (0)],[.rw [vi (0),vi (1),vi (1)] none,.rw [vi (0),vi (0),vi (1)] none],[.gone,.gone,.gone,.gone,.gone,.gone,.gone,.gone,.gone,.gone,.gone,.gone,.gone,.gone,.gone,.gone,.gone,.gone,.gone,.gone,.gone,.gone,.rw [vi (0),vi (0),vi (1),vi (0),vi (1),vi (1),vi (1),vi (0),vi (0),vi (1)] none]⟩
theorem eek0 : ee0.Ok Try.prog := FrmC.ok_ev (n := 20000) t0_0_ok (by kernel_rfl) (by kernel_rfl)
def ee6 : FrmC := ⟨29,[.slice (some ⟨0,0,none⟩) 7 7],[.rw [vi (0),vi (0),vi (1),vi (0),vi (1),vi (1),vi (1)] none],.tuple #[.slice (some ⟨60,0,some 0⟩) 8 0,vi (0)],[.rw [vi (0),vi (0),vi (1),vi (0),vi (1),vi (1),vi (1)] none],[.gone,.gone,.gone,.gone,.gone,.gone,.gone,.gone,.gone,.gone,.gone,.gone,.gone,.gone,.gone,.gone,.gone,.gone,.gone,.gone,.gone,.gone,.gone,.gone,.gone,.gone,.gone,.gone,.gone,.gone,.gone,.gone,.gone,.gone,.gone,.gone,.gone,.gone,.gone,.gone,.gone,.gone,.gone,.gone,.gone,.gone,.gone,.gone,.gone,.gone,.gone,.gone,.gone,.gone,.gone,.gone,.gone,.gone,.gone,.rw [vi (0),vi (0),vi (0),vi (3),vi (3),vi (3),vi (3),vi (3)] (some 1)]⟩
theorem eek6 : ee6.Ok Try.prog := FrmC.ok_ev (n := 20000) t0_0_ok (by kernel_rfl) (by kernel_rfl)
def ee12 : FrmC := ⟨38,[.slice (some ⟨0,0,none⟩) 7 7,vi (2),.slice (some ⟨1,0,none⟩) 1 1],[.rw [vi (0),vi (0),vi (1),vi (0),vi (1),vi (1),vi (1)] none,.rw [vi (3)] none],vi (14),[.rw [vi (0),vi (0),vi (1),vi (0),vi (1),vi (1),vi (1)] none,.rw [vi (3)] none],[]⟩
theorem eek12 : ee12.Ok Try.prog := FrmC.ok_ev (n := 20000) t0_0_ok (by kernel_rfl) (by kernel_rfl)
def ee18 : FrmC := ⟨38,[.slice (some ⟨0,0,none⟩) 7 7,vi (3),.slice (some ⟨1,0,none⟩) 1 1],[.rw [vi (0),vi (0),vi (1),vi (0),vi (1),vi (1),vi (1)] none,.rw [vi (2)] none],vi (3),[.rw [vi (0),vi (0),vi (1),vi (0),vi (1),vi (1),vi (1)] none,.rw [vi (2)] none],[]⟩
theorem eek18 : ee18.Ok Try.prog := FrmC.ok_ev (n := 20000) t0_0_ok (by kernel_rfl) (by kernel_rfl)
end Go.Pier.Dr
