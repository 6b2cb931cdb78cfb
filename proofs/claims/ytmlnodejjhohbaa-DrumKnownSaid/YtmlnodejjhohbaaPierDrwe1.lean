import Derived.Test.YtmlnodejjhohbaaPierKC3
import Derived.Test.YtmlnodejjhohbaaPierKC4
set_option linter.unusedSimpArgs false
set_option linter.unusedVariables false
namespace Go.Pier.Dr
open Go Go.Pier Go.Proofs
noncomputable def t0_1 : Tbl := fun _ => none
theorem t0_1_ok : TblOk Try.prog t0_1 := tblOk_none
def ee1 : FrmC := ⟨18,[.agg #[.slice (some ⟨0,0,none⟩) 3 3,.slice (some ⟨1,0,none⟩) 3 3],vi (101)],[.rw [vi (0),vi (1),vi (1)] none,.rw [vi (0),vi (0),vi (1)] none],.tuple #[.slice none 0 0,vi (2)],[.rw [vi (0),vi (1),vi (1)] none,.rw [vi (0),vi (0),vi (1)] none],[]⟩
theorem eek1 : ee1.Ok Try.prog := FrmC.ok_ev (n := 20000) t0_1_ok (by kernel_rfl) (by kernel_rfl)
def ee7 : FrmC := ⟨31,[.slice (some ⟨0,0,none⟩) 7 7],[.rw [vi (0),vi (0),vi (1),vi (0),vi (1),vi (1),vi (1)] none],.tuple #[vi (1),vi (0)],[.rw [vi (0),vi (0),vi (1),vi (0),vi (1),vi (1),vi (1)] none],[]⟩
theorem eek7 : ee7.Ok Try.prog := FrmC.ok_ev (n := 20000) t0_1_ok (by kernel_rfl) (by kernel_rfl)
def ee13 : FrmC := ⟨36,[.slice (some ⟨0,0,none⟩) 7 7],[.rw [vi (0),vi (0),vi (1),vi (0),vi (1),vi (1),vi (1)] none],.tuple #[.slice (some ⟨37,0,some 0⟩) 1 0,vi (0)],[.rw [vi (0),vi (0),vi (1),vi (0),vi (1),vi (1),vi (1)] none],[.gone,.gone,.gone,.gone,.gone,.gone,.gone,.gone,.gone,.gone,.gone,.gone,.gone,.gone,.gone,.gone,.gone,.gone,.gone,.gone,.gone,.gone,.gone,.gone,.gone,.gone,.gone,.gone,.gone,.gone,.gone,.gone,.gone,.gone,.gone,.gone,.rw [vi (2)] (some 1)]⟩
theorem eek13 : ee13.Ok Try.prog := FrmC.ok_ev (n := 20000) t0_1_ok (by kernel_rfl) (by kernel_rfl)
def ee19 : FrmC := ⟨38,[.slice (some ⟨0,0,none⟩) 7 7,vi (2),.slice none 0 0],[.rw [vi (0),vi (0),vi (1),vi (0),vi (1),vi (1),vi (1)] none],vi (14),[.rw [vi (0),vi (0),vi (1),vi (0),vi (1),vi (1),vi (1)] none],[]⟩
theorem eek19 : ee19.Ok Try.prog := FrmC.ok_ev (n := 20000) t0_1_ok (by kernel_rfl) (by kernel_rfl)
end Go.Pier.Dr
