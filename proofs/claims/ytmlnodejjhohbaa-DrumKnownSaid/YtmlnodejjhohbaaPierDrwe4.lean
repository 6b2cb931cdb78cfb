import Derived.Test.YtmlnodejjhohbaaPierKC3
import Derived.Test.YtmlnodejjhohbaaPierKC4
set_option linter.unusedSimpArgs false
set_option linter.unusedVariables false
namespace Go.Pier.Dr
open Go Go.Pier Go.Proofs
noncomputable def t0_4 : Tbl := fun _ => none
theorem t0_4_ok : TblOk Try.prog t0_4 := tblOk_none
def ee4 : FrmC := ⟨33,[.slice (some ⟨0,0,none⟩) 7 7],[.rw [vi (0),vi (0),vi (1),vi (0),vi (1),vi (1),vi (1)] none],.tuple #[.agg #[.slice (some ⟨35,0,none⟩) 3 3,.slice (some ⟨36,0,none⟩) 3 3],vi (0)],[.rw [vi (0),vi (0),vi (1),vi (0),vi (1),vi (1),vi (1)] none],[.gone,.gone,.gone,.gone,.gone,.gone,.gone,.gone,.gone,.gone,.gone,.gone,.gone,.gone,.gone,.gone,.gone,.gone,.gone,.gone,.gone,.gone,.gone,.gone,.gone,.gone,.gone,.gone,.gone,.gone,.gone,.gone,.gone,.gone,.rw [vi (0),vi (1),vi (1)] none,.rw [vi (0),vi (0),vi (1)] none]⟩
theorem eek4 : ee4.Ok Try.prog := FrmC.ok_ev (n := 20000) t0_4_ok (by kernel_rfl) (by kernel_rfl)
def ee10 : FrmC := ⟨34,[.slice (some ⟨0,0,none⟩) 4 4,vi (1)],[.rw [vi (0),vi (0),vi (1),vi (0)] none],.tuple #[.slice none 0 0,vi (25)],[.rw [vi (0),vi (0),vi (1),vi (0)] none],[]⟩
theorem eek10 : ee10.Ok Try.prog := FrmC.ok_ev (n := 20000) t0_4_ok (by kernel_rfl) (by kernel_rfl)
def ee16 : FrmC := ⟨41,[.agg #[.slice (some ⟨0,0,none⟩) 2 2,.slice (some ⟨1,0,none⟩) 2 2]],[.rw [vi (1),vi (0)] none,.rw [vi (0),vi (1)] none],.tuple #[vi (1),vi (1),vi (0)],[.rw [vi (1),vi (0)] none,.rw [vi (0),vi (1)] none],[]⟩
theorem eek16 : ee16.Ok Try.prog := FrmC.ok_ev (n := 20000) t0_4_ok (by kernel_rfl) (by kernel_rfl)
def ee22 : FrmC := ⟨41,[.agg #[.slice (some ⟨0,0,none⟩) 1 1,.slice (some ⟨1,0,none⟩) 1 1]],[.rw [vi (1)] none,.rw [vi (1)] none],.tuple #[vi (0),vi (1),vi (0)],[.rw [vi (1)] none,.rw [vi (1)] none],[]⟩
theorem eek22 : ee22.Ok Try.prog := FrmC.ok_ev (n := 20000) t0_4_ok (by kernel_rfl) (by kernel_rfl)
end Go.Pier.Dr
