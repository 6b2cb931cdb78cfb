import Derived.Test.YtbhpfkfedannjaaPierKM4
import Derived.Test.YtbhpfkfedannjaaPierKM8
set_option linter.unusedSimpArgs false
set_option linter.unusedVariables false
namespace Go.Pier.RoundK
open Go Go.Pier Go.Proofs
def e2 : FrmC := ⟨19,[.agg #[vi (5),.slice (some ⟨0,0,some 0⟩) 4 0],.slice (some ⟨1,0,none⟩) 4 4],[.rw [vi (2),vi (10),vi (4),vi (9),vi (7),vi (4),vi (10),vi (20)] (some 2),.rw [vi (1),vi (0),vi (2),vi (3)] none],.tuple #[.slice none 0 0,
 vi (12)],[.rw [vi (2),vi (10),vi (4),vi (9),vi (7),vi (4),vi (10),vi (20)] (some 2),.rw [vi (1),vi (0),vi (2),vi (3)] none],[]⟩
theorem ek2 : e2.Ok Try.prog := FrmC.ok_ev (n := 20000) dt_ok (by kernel_rfl) (by kernel_rfl)
def e8 : FrmC := ⟨31,[.agg #[vi (5),.slice (some ⟨0,0,some 0⟩) 4 0],vi (1)],[.rw [vi (2),vi (10),vi (4),vi (9),vi (7),vi (4),vi (10),vi (20)] (some 2)],.tuple #[.agg #[vi (1),vi (5)],vi (0)],[.rw [vi (2),vi (10),vi (4),vi (9),vi (7),vi
 (4),vi (10),vi (20)] (some 2)],[]⟩
theorem ek8 : e8.Ok Try.prog := FrmC.ok_ev (n := 20000) dt_ok (by kernel_rfl) (by kernel_rfl)
def e14 : FrmC := ⟨36,[.agg #[vi (5),.slice (some ⟨0,0,some 0⟩) 4 0],.slice (some ⟨1,0,none⟩) 3 3],[.rw [vi (2),vi (10),vi (4),vi (9),vi (7),vi (4),vi (10),vi (20)] (some 2),.rw [.slice (some ⟨2,0,none⟩) 3 3,.slice (some ⟨3,0,none⟩) 3 3,
 .slice (some ⟨4,0,none⟩) 3 3] none,.rw [vi (0),vi (0),vi (-1),vi (2),vi (-1),vi (5)] none,.rw [vi (1),vi (-1),vi (5),vi (4),vi (-1),vi (7)] none,.rw [vi (3),vi (-1),vi (7),vi (-1),vi (-1),vi (16)] none],.tuple #[vi (0),
 vi (14)],[.rw [vi (2),vi (10),vi (4),vi (9),vi (7),vi (4),vi (10),vi (20)] (some 2),.rw [.slice (some ⟨2,0,none⟩) 3 3,.slice (some ⟨3,0,none⟩) 3 3,.slice (some ⟨4,0,none⟩) 3 3] none,.rw [vi (0),vi (0),vi (-1),vi (2),vi
 (-1),vi (5)] none,.rw [vi (1),vi (-1),vi (5),vi (4),vi (-1),vi (7)] none,.rw [vi (3),vi (-1),vi (7),vi (-1),vi (-1),vi (16)] none],[]⟩
theorem ek14 : e14.Ok Try.prog := FrmC.ok_ev (n := 20000) dt_ok (by kernel_rfl) (by kernel_rfl)
def e20 : FrmC := ⟨28,[.agg #[vi (5),.slice (some ⟨0,0,some 0⟩) 4 0]],[.rw [vi (2),vi (6),vi (4),vi (9),vi (7),vi (4),vi (10),vi (20)] (some 2)],.tuple #[vi (0),vi (0)],[.rw [vi (2),vi (6),vi (4),vi (9),vi (7),vi (4),vi (10),vi (20)] (some
 2)],[]⟩
theorem ek20 : e20.Ok Try.prog := FrmC.ok_ev (n := 20000) dt_ok (by kernel_rfl) (by kernel_rfl)
end Go.Pier.RoundK
