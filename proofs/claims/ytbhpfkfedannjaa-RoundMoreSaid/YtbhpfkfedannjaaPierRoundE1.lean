import Derived.Test.YtbhpfkfedannjaaPierKM4
import Derived.Test.YtbhpfkfedannjaaPierKM8
set_option linter.unusedSimpArgs false
set_option linter.unusedVariables false
namespace Go.Pier.RoundK
open Go Go.Pier Go.Proofs
def e1 : FrmC := ⟨19,[.agg #[vi (5),.slice (some ⟨0,0,some 0⟩) 4 0],.slice (some ⟨1,0,none⟩) 4 4],[.rw [vi (2),vi (10),vi (4),vi (9),vi (7),vi (4),vi (10),vi (20)] (some 2),.rw [vi (0),vi (1),vi (2),vi (3)] none],.tuple #[.slice none 0 0,
 vi (16)],[.rw [vi (2),vi (10),vi (4),vi (9),vi (7),vi (4),vi (10),vi (20)] (some 2),.rw [vi (0),vi (1),vi (2),vi (3)] none],[]⟩
theorem ek1 : e1.Ok Try.prog := FrmC.ok_ev (n := 20000) dt_ok (by kernel_rfl) (by kernel_rfl)
def e7 : FrmC := ⟨28,[.agg #[vi (5),.slice (some ⟨0,0,some 0⟩) 4 0]],[.rw [vi (2),vi (10),vi (4),vi (9),vi (7),vi (4),vi (10),vi (20)] (some 2)],.tuple #[vi (2),vi (0)],[.rw [vi (2),vi (10),vi (4),vi (9),vi (7),vi (4),vi (10),vi (20)] (some
 2)],[]⟩
theorem ek7 : e7.Ok Try.prog := FrmC.ok_ev (n := 20000) dt_ok (by kernel_rfl) (by kernel_rfl)
def e13 : FrmC := ⟨36,[.agg #[vi (5),.slice (some ⟨0,0,some 0⟩) 4 0],.slice (some ⟨1,0,none⟩) 3 3],[.rw [vi (2),vi (10),vi (4),vi (9),vi (7),vi (4),vi (10),vi (20)] (some 2),.rw [.slice (some ⟨2,0,none⟩) 3 3,.slice (some ⟨3,0,none⟩) 3 3,
 .slice (some ⟨4,0,none⟩) 3 3] none,.rw [vi (0),vi (0),vi (-1),vi (2),vi (-1),vi (5)] none,.rw [vi (1),vi (-1),vi (5),vi (4),vi (-1),vi (7)] none,.rw [vi (3),vi (-1),vi (7),vi (-1),vi (-1),vi (14)] none],.tuple #[vi (14),
 vi (0)],[.rw [vi (2),vi (10),vi (4),vi (9),vi (7),vi (4),vi (10),vi (20)] (some 2),.rw [.slice (some ⟨2,0,none⟩) 3 3,.slice (some ⟨3,0,none⟩) 3 3,.slice (some ⟨4,0,none⟩) 3 3] none,.rw [vi (0),vi (0),vi (-1),vi (2),vi (-1),
 vi (5)] none,.rw [vi (1),vi (-1),vi (5),vi (4),vi (-1),vi (7)] none,.rw [vi (3),vi (-1),vi (7),vi (-1),vi (-1),vi (14)] none],[]⟩
theorem ek13 : e13.Ok Try.prog := FrmC.ok_ev (n := 20000) dt_ok (by kernel_rfl) (by kernel_rfl)
def e19 : FrmC := ⟨19,[.agg #[vi (5),.slice (some ⟨0,0,some 0⟩) 4 0],.slice (some ⟨1,0,none⟩) 4 4],[.rw [vi (2),vi (10),vi (4),vi (9),vi (7),vi (4),vi (10),vi (20)] (some 2),.rw [vi (1),vi (2),vi (0),vi (3)] none],.tuple #[.slice (some ⟨6,
 0,none⟩) 4 4,vi (0)],[.rw [vi (2),vi (10),vi (4),vi (9),vi (7),vi (4),vi (10),vi (20)] (some 2),.rw [vi (1),vi (2),vi (0),vi (3)] none],[.gone,.gone,.gone,.gone,.rw [vi (9),vi (1),vi (4),vi (17)] none]⟩
theorem ek19 : e19.Ok Try.prog := FrmC.ok_ev (n := 20000) dt_ok (by kernel_rfl) (by kernel_rfl)
def e25 : FrmC := ⟨43,[.agg #[vi (5),.slice (some ⟨0,0,some 0⟩) 4 0],.slice (some ⟨1,0,none⟩) 2 2],[.rw [vi (2),vi (6),vi (4),vi (9),vi (7),vi (4),vi (10),vi (20)] (some 2),.rw [vi (2),vi (0)] none],vi (2),[.rw [vi (2),vi (6),vi (4),vi (9),
 vi (7),vi (4),vi (10),vi (20)] (some 2),.rw [vi (2),vi (0)] none],[]⟩
theorem ek25 : e25.Ok Try.prog := FrmC.ok_ev (n := 20000) dt_ok (by kernel_rfl) (by kernel_rfl)
end Go.Pier.RoundK
