import Derived.Test.YtbhpfkfedannjaaPierKM4
import Derived.Test.YtbhpfkfedannjaaPierKM8
set_option linter.unusedSimpArgs false
set_option linter.unusedVariables false
namespace Go.Pier.RoundK
open Go Go.Pier Go.Proofs
def e5 : FrmC := ⟨24,[.agg #[vi (5),.slice (some ⟨0,0,some 0⟩) 4 0]],[.rw [vi (2),vi (6),vi (4),vi (9),vi (7),vi (4),vi (10),vi (20)] (some 2)],.tuple #[vi (0),vi (12)],[.rw [vi (2),vi (6),vi (4),vi (9),vi (7),vi (4),vi (10),vi (20)] (some
 2)],[]⟩
theorem ek5 : e5.Ok Try.prog := FrmC.ok_ev (n := 20000) dt_ok (by kernel_rfl) (by kernel_rfl)
def e11 : FrmC := ⟨33,[.agg #[vi (5),.slice (some ⟨0,0,some 0⟩) 4 0]],[.rw [vi (2),vi (6),vi (4),vi (9),vi (7),vi (4),vi (10),vi (20)] (some 2)],.tuple #[vi (1),vi (0)],[.rw [vi (2),vi (6),vi (4),vi (9),vi (7),vi (4),vi (10),vi (20)] (some
 2)],[]⟩
theorem ek11 : e11.Ok Try.prog := FrmC.ok_ev (n := 20000) dt_ok (by kernel_rfl) (by kernel_rfl)
def e17 : FrmC := ⟨43,[.agg #[vi (5),.slice (some ⟨0,0,some 0⟩) 4 0],.slice (some ⟨1,0,none⟩) 2 2],[.rw [vi (2),vi (6),vi (4),vi (9),vi (7),vi (4),vi (10),vi (20)] (some 2),.rw [vi (0),vi (2)] none],vi (0),[.rw [vi (2),vi (6),vi (4),vi (9),
 vi (7),vi (4),vi (10),vi (20)] (some 2),.rw [vi (0),vi (2)] none],[]⟩
theorem ek17 : e17.Ok Try.prog := FrmC.ok_ev (n := 20000) dt_ok (by kernel_rfl) (by kernel_rfl)
def e23 : FrmC := ⟨36,[.agg #[vi (5),.slice (some ⟨0,0,some 0⟩) 4 0],.slice (some ⟨1,0,none⟩) 3 3],[.rw [vi (2),vi (10),vi (4),vi (9),vi (7),vi (4),vi (10),vi (20)] (some 2),.rw [.slice (some ⟨2,0,none⟩) 3 3,.slice (some ⟨3,0,none⟩) 3 3,
 .slice (some ⟨4,0,none⟩) 3 3] none,.rw [vi (0),vi (0),vi (-1),vi (2),vi (-1),vi (5)] none,.rw [vi (1),vi (-1),vi (5),vi (4),vi (-1),vi (7)] none,.rw [vi (3),vi (-1),vi (7),vi (-1),vi (-1),vi (15)] none],.tuple #[vi (15),
 vi (0)],[.rw [vi (2),vi (10),vi (4),vi (9),vi (7),vi (4),vi (10),vi (20)] (some 2),.rw [.slice (some ⟨2,0,none⟩) 3 3,.slice (some ⟨3,0,none⟩) 3 3,.slice (some ⟨4,0,none⟩) 3 3] none,.rw [vi (0),vi (0),vi (-1),vi (2),vi (-1),
 vi (5)] none,.rw [vi (1),vi (-1),vi (5),vi (4),vi (-1),vi (7)] none,.rw [vi (3),vi (-1),vi (7),vi (-1),vi (-1),vi (15)] none],[]⟩
theorem ek23 : e23.Ok Try.prog := FrmC.ok_ev (n := 20000) dt_ok (by kernel_rfl) (by kernel_rfl)
end Go.Pier.RoundK
