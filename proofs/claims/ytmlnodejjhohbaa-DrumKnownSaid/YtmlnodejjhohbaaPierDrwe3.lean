import Derived.Test.YtmlnodejjhohbaaPierKC3
import Derived.Test.YtmlnodejjhohbaaPierKC4
set_option linter.unusedSimpArgs false
set_option linter.unusedVariables false
namespace Go.Pier.Dr
open Go Go.Pier Go.Proofs
noncomputable def t0_3 : Tbl := fun _ => none
theorem t0_3_ok : TblOk Try.prog t0_3 := tblOk_none
def ee3 : FrmC := ⟨25,[.agg #[.slice (some ⟨0,0,none⟩) 1 1,.slice (some ⟨1,0,none⟩) 1 1],.slice (some ⟨2,0,none⟩) 7 7],[.rw [vi (1)] none,.rw [vi (1)] none,.rw [vi (0),vi (0),vi (1),vi (0),vi (1),vi (1),vi (1)] none],vi (25),[.rw [vi (1)] none,.rw [vi (1)] none,.rw [vi (0),vi (0),vi (1),vi (0),vi (1),vi (1),vi (1)] none],[]⟩
theorem eek3 : ee3.Ok Try.prog := FrmC.ok_ev (n := 20000) t0_3_ok (by kernel_rfl) (by kernel_rfl)
def ee9 : FrmC := ⟨34,[.slice (some ⟨0,0,none⟩) 7 7,vi (3)],[.rw [vi (0),vi (0),vi (1),vi (0),vi (1),vi (1),vi (1)] none],.tuple #[.slice (some ⟨58,7,none⟩) 3 3,vi (0)],[.rw [vi (0),vi (0),vi (1),vi (0),vi (1),vi (1),vi (1)] none],[.gone,.gone,.gone,.gone,.gone,.gone,.gone,.gone,.gone,.gone,.gone,.gone,.gone,.gone,.gone,.gone,.gone,.gone,.gone,.gone,.gone,.gone,.gone,.gone,.gone,.gone,.gone,.gone,.gone,.gone,.gone,.gone,.gone,.gone,.gone,.gone,.gone,.gone,.gone,.gone,.gone,.gone,.gone,.gone,.gone,.gone,.gone,.gone,.gone,.gone,.gone,.gone,.gone,.gone,.gone,.gone,.gone,.rw [vi (0),vi (0),vi (1),vi (0),vi (1),vi (1),vi (1),vi (0),vi (0),vi (1)] none]⟩
theorem eek9 : ee9.Ok Try.prog := FrmC.ok_ev (n := 20000) t0_3_ok (by kernel_rfl) (by kernel_rfl)
def ee15 : FrmC := ⟨41,[.agg #[.slice (some ⟨0,0,none⟩) 3 3,.slice (some ⟨1,0,none⟩) 3 3]],[.rw [vi (0),vi (1),vi (1)] none,.rw [vi (0),vi (0),vi (1)] none],.tuple #[vi (0),vi (7),vi (0)],[.rw [vi (0),vi (1),vi (1)] none,.rw [vi (0),vi (0),vi (1)] none],[]⟩
theorem eek15 : ee15.Ok Try.prog := FrmC.ok_ev (n := 20000) t0_3_ok (by kernel_rfl) (by kernel_rfl)
def ee21 : FrmC := ⟨27,[.slice (some ⟨0,0,none⟩) 3 3],[.rw [vi (0),vi (0),vi (0)] none],.tuple #[vi (0),vi (0)],[.rw [vi (0),vi (0),vi (0)] none],[]⟩
theorem eek21 : ee21.Ok Try.prog := FrmC.ok_ev (n := 20000) t0_3_ok (by kernel_rfl) (by kernel_rfl)
end Go.Pier.Dr
