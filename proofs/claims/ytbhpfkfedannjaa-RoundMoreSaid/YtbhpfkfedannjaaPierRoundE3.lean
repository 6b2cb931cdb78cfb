import Derived.Test.YtbhpfkfedannjaaPierKM4
import Derived.Test.YtbhpfkfedannjaaPierKM8
set_option linter.unusedSimpArgs false
set_option linter.unusedVariables false
namespace Go.Pier.RoundK
open Go Go.Pier Go.Proofs
def e3 : FrmC := ⟨19,[.agg #[vi (5),.slice (some ⟨0,0,some 0⟩) 4 0],.slice (some ⟨1,0,none⟩) 4 4],[.rw [vi (2),vi (10),vi (4),vi (9),vi (7),vi (4),vi (10),vi (20)] (some 2),.rw [vi (2),vi (1),vi (0),vi (2)] none],.tuple #[.slice none 0 0,
 vi (2)],[.rw [vi (2),vi (10),vi (4),vi (9),vi (7),vi (4),vi (10),vi (20)] (some 2),.rw [vi (2),vi (1),vi (0),vi (2)] none],[]⟩
theorem ek3 : e3.Ok Try.prog := FrmC.ok_ev (n := 20000) dt_ok (by kernel_rfl) (by kernel_rfl)
def e9 : FrmC := ⟨31,[.agg #[vi (5),.slice (some ⟨0,0,some 0⟩) 4 0],vi (4)],[.rw [vi (2),vi (10),vi (4),vi (9),vi (7),vi (4),vi (10),vi (20)] (some 2)],.tuple #[.agg #[vi (0),vi (0)],vi (2)],[.rw [vi (2),vi (10),vi (4),vi (9),vi (7),vi
 (4),vi (10),vi (20)] (some 2)],[]⟩
theorem ek9 : e9.Ok Try.prog := FrmC.ok_ev (n := 20000) dt_ok (by kernel_rfl) (by kernel_rfl)
def e15 : FrmC := ⟨41,[.agg #[vi (5),.slice (some ⟨0,0,some 0⟩) 4 0]],[.rw [vi (2),vi (6),vi (4),vi (9),vi (7),vi (4),vi (10),vi (20)] (some 2)],.tuple #[.slice (some ⟨94,0,some 0⟩) 2 0,vi (0)],[.rw [vi (2),vi (6),vi (4),vi (9),vi (7),vi
 (4),vi (10),vi (20)] (some 2)],[.gone,.gone,.gone,.gone,.gone,.gone,.gone,.gone,.gone,.gone,.gone,.gone,.gone,.gone,.gone,.gone,.gone,.gone,.gone,.gone,.gone,.gone,.gone,.gone,.gone,.gone,.gone,.gone,.gone,.gone,
 .gone,.gone,.gone,.gone,.gone,.gone,.gone,.gone,.gone,.gone,.gone,.gone,.gone,.gone,.gone,.gone,.gone,.gone,.gone,.gone,.gone,.gone,.gone,.gone,.gone,.gone,.gone,.gone,.gone,.gone,.gone,.gone,.gone,.gone,.gone,
 .gone,.gone,.gone,.gone,.gone,.gone,.gone,.gone,.gone,.gone,.gone,.gone,.gone,.gone,.gone,.gone,.gone,.gone,.gone,.gone,.gone,.gone,.gone,.gone,.gone,.gone,.gone,.gone,.rw [vi (0),vi (2)] (some 1)]⟩
theorem ek15 : e15.Ok Try.prog := FrmC.ok_ev (n := 20000) dt_ok (by kernel_rfl) (by kernel_rfl)
def e21 : FrmC := ⟨31,[.agg #[vi (5),.slice (some ⟨0,0,some 0⟩) 4 0],vi (3)],[.rw [vi (2),vi (10),vi (4),vi (9),vi (7),vi (4),vi (10),vi (20)] (some 2)],.tuple #[.agg #[vi (15),vi (17)],vi (0)],[.rw [vi (2),vi (10),vi (4),vi (9),vi (7),vi
 (4),vi (10),vi (20)] (some 2)],[]⟩
theorem ek21 : e21.Ok Try.prog := FrmC.ok_ev (n := 20000) dt_ok (by kernel_rfl) (by kernel_rfl)
end Go.Pier.RoundK
