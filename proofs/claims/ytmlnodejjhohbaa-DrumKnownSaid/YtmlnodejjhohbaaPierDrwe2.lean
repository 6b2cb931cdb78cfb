import Derived.Test.YtmlnodejjhohbaaPierKC3
import Derived.Test.YtmlnodejjhohbaaPierKC4
set_option linter.unusedSimpArgs false
set_option linter.unusedVariables false
namespace Go.Pier.Dr
open Go Go.Pier Go.Proofs
noncomputable def t0_2 : Tbl := fun _ => none
theorem t0_2_ok : TblOk Try.prog t0_2 := tblOk_none
def ee2 : FrmC := ⟨25,[.agg #[.slice (some ⟨0,0,none⟩) 3 3,.slice (some ⟨1,0,none⟩) 3 3],.slice (some ⟨2,0,none⟩) 7 7],[.rw [vi (0),vi (1),vi (1)] none,.rw [vi (0),vi (0),vi (1)] none,.rw [vi (0),vi (0),vi (1),vi (0),vi (1),vi (1),vi (1)] none],vi (0),[.rw [vi (0),vi (1),vi (1)] none,.rw [vi (0),vi (0),vi (1)] none,.rw [vi (0),vi (0),vi (1),vi (0),vi (1),vi (1),vi (1)] none],[]⟩
theorem eek2 : ee2.Ok Try.prog := FrmC.ok_ev (n := 20000) t0_2_ok (by kernel_rfl) (by kernel_rfl)
def ee8 : FrmC := ⟨31,[.slice (some ⟨0,0,none⟩) 4 4],[.rw [vi (0),vi (0),vi (1),vi (0)] none],.tuple #[vi (4),vi (0)],[.rw [vi (0),vi (0),vi (1),vi (0)] none],[]⟩
theorem eek8 : ee8.Ok Try.prog := FrmC.ok_ev (n := 20000) t0_2_ok (by kernel_rfl) (by kernel_rfl)
def ee14 : FrmC := ⟨36,[.slice (some ⟨0,0,none⟩) 3 3],[.rw [vi (0),vi (0),vi (0)] none],.tuple #[.slice none 0 0,vi (5)],[.rw [vi (0),vi (0),vi (0)] none],[]⟩
theorem eek14 : ee14.Ok Try.prog := FrmC.ok_ev (n := 20000) t0_2_ok (by kernel_rfl) (by kernel_rfl)
def ee20 : FrmC := ⟨33,[.slice (some ⟨0,0,none⟩) 3 3],[.rw [vi (0),vi (0),vi (0)] none],.tuple #[.agg #[.slice (some ⟨10,0,none⟩) 0 0,.slice (some ⟨11,0,none⟩) 0 0],vi (0)],[.rw [vi (0),vi (0),vi (0)] none],[.gone,.gone,.gone,.gone,.gone,.gone,.gone,.gone,.gone,.rw [] none,.rw [] none]⟩
theorem eek20 : ee20.Ok Try.prog := FrmC.ok_ev (n := 20000) t0_2_ok (by kernel_rfl) (by kernel_rfl)
end Go.Pier.Dr
