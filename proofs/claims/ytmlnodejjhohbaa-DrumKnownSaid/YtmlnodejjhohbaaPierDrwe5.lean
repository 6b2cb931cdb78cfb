import Derived.Test.YtmlnodejjhohbaaPierKC3
import Derived.Test.YtmlnodejjhohbaaPierKC4
set_option linter.unusedSimpArgs false
set_option linter.unusedVariables false
namespace Go.Pier.Dr
open Go Go.Pier Go.Proofs
noncomputable def t0_5 : Tbl := fun _ => none
theorem t0_5_ok : TblOk Try.prog t0_5 := tblOk_none
def ee5 : FrmC := ⟨27,[.slice (some ⟨0,0,none⟩) 7 7],[.rw [vi (0),vi (0),vi (1),vi (0),vi (1),vi (1),vi (1)] none],.tuple #[vi (3),vi (0)],[.rw [vi (0),vi (0),vi (1),vi (0),vi (1),vi (1),vi (1)] none],[]⟩
theorem eek5 : ee5.Ok Try.prog := FrmC.ok_ev (n := 20000) t0_5_ok (by kernel_rfl) (by kernel_rfl)
def ee11 : FrmC := ⟨38,[.slice (some ⟨0,0,none⟩) 7 7,vi (2),.slice (some ⟨1,0,none⟩) 1 1],[.rw [vi (0),vi (0),vi (1),vi (0),vi (1),vi (1),vi (1)] none,.rw [vi (2)] none],vi (0),[.rw [vi (0),vi (0),vi (1),vi (0),vi (1),vi (1),vi (1)] none,.rw [vi (2)] none],[]⟩
theorem eek11 : ee11.Ok Try.prog := FrmC.ok_ev (n := 20000) t0_5_ok (by kernel_rfl) (by kernel_rfl)
def ee17 : FrmC := ⟨43,[.agg #[.slice (some ⟨0,0,none⟩) 1 1,.slice (some ⟨1,0,none⟩) 1 1],.agg #[.slice (some ⟨2,0,none⟩) 3 3,.slice (some ⟨3,0,none⟩) 3 3]],[.rw [vi (1)] none,.rw [vi (1)] none,.rw [vi (0),vi (1),vi (1)] none,.rw [vi (0),vi (0),vi (1)] none],.tuple #[.agg #[.slice (some ⟨33,0,none⟩) 4 4,.slice (some ⟨23,0,none⟩) 4 4],vi (0)],[.rw [vi (1)] none,.rw [vi (1)] none,.rw [vi (0),vi (1),vi (1)] none,.rw [vi (0),vi (0),vi (1)] none],[.gone,.gone,.gone,.gone,.gone,.gone,.gone,.gone,.gone,.gone,.gone,.gone,.gone,.gone,.gone,.gone,.gone,.gone,.gone,.rw [vi (1),vi (1),vi (0),vi (1)] none,.gone,.gone,.gone,.gone,.gone,.gone,.gone,.gone,.gone,.rw [vi (1),vi (1),vi (0),vi (1)] none]⟩
theorem eek17 : ee17.Ok Try.prog := FrmC.ok_ev (n := 20000) t0_5_ok (by kernel_rfl) (by kernel_rfl)
end Go.Pier.Dr
