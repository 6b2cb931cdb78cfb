import Derived.Test.YtbhpfkfedannjaaPierKM4
import Derived.Test.YtbhpfkfedannjaaPierKM8
set_option linter.unusedSimpArgs false
set_option linter.unusedVariables false
namespace Go.Pier.RoundK
open Go Go.Pier Go.Proofs
def e0 : FrmC := ⟨19,[.agg #[vi (5),.slice (some ⟨0,0,some 0⟩) 4 0],.slice (some ⟨1,0,none⟩) 4 4],[.rw [vi (2),vi (10),vi (4),vi (9),vi (7),vi (4),vi (10),vi (20)] (some 2),.rw [vi (2),vi (1),vi (0),vi (3)] none],.tuple #[.slice (some ⟨6,
 0,none⟩) 4 4,vi (0)],[.rw [vi (2),vi (10),vi (4),vi (9),vi (7),vi (4),vi (10),vi (20)] (some 2),.rw [vi (2),vi (1),vi (0),vi (3)] none],[.gone,.gone,.gone,.gone,.rw [vi (7),vi (5),vi (2),vi (15)] none]⟩
theorem ek0 : e0.Ok Try.prog := FrmC.ok_ev (n := 20000) dt_ok (by kernel_rfl) (by kernel_rfl)
def e6 : FrmC := ⟨26,[.agg #[vi (5),.slice (some ⟨0,0,some 0⟩) 4 0]],[.rw [vi (2),vi (10),vi (4),vi (9),vi (7),vi (4),vi (10),vi (20)] (some 2)],.tuple #[.slice (some ⟨38,0,none⟩) 4 4,vi (0)],[.rw [vi (2),vi (10),vi (4),vi (9),vi (7),vi
 (4),vi (10),vi (20)] (some 2)],[.gone,.gone,.gone,.gone,.gone,.gone,.gone,.gone,.gone,.gone,.gone,.gone,.gone,.gone,.gone,.gone,.gone,.gone,.gone,.gone,.gone,.gone,.gone,.gone,.gone,.gone,.gone,.gone,.gone,.gone,
 .gone,.gone,.gone,.gone,.gone,.gone,.gone,.rw [vi (2),vi (1),vi (0),vi (3)] none]⟩
theorem ek6 : e6.Ok Try.prog := FrmC.ok_ev (n := 20000) dt_ok (by kernel_rfl) (by kernel_rfl)
def e12 : FrmC := ⟨38,[.agg #[vi (5),.slice (some ⟨0,0,some 0⟩) 4 0]],[.rw [vi (2),vi (10),vi (4),vi (9),vi (7),vi (4),vi (10),vi (20)] (some 2)],.tuple #[.slice (some ⟨7,0,none⟩) 3 3,vi (0)],[.rw [vi (2),vi (10),vi (4),vi (9),vi (7),vi
 (4),vi (10),vi (20)] (some 2)],[.gone,.gone,.gone,.gone,.gone,.gone,.rw [.slice (some ⟨9,0,none⟩) 3 3,.slice (some ⟨10,0,none⟩) 3 3,.slice (some ⟨11,0,none⟩) 3 3] none,.gone,.rw [vi (0),vi (0),vi (-1),vi (2),vi (-1),vi
 (5)] none,.rw [vi (1),vi (-1),vi (5),vi (4),vi (-1),vi (7)] none,.rw [vi (3),vi (-1),vi (7),vi (-1),vi (-1),vi (15)] none]⟩
theorem ek12 : e12.Ok Try.prog := FrmC.ok_ev (n := 20000) dt_ok (by kernel_rfl) (by kernel_rfl)
def e18 : FrmC := ⟨43,[.agg #[vi (5),.slice (some ⟨0,0,some 0⟩) 4 0],.slice (some ⟨1,0,none⟩) 2 2],[.rw [vi (2),vi (6),vi (4),vi (9),vi (7),vi (4),vi (10),vi (20)] (some 2),.rw [vi (0),vi (1)] none],vi (5),[.rw [vi (2),vi (6),vi (4),vi (9),
 vi (7),vi (4),vi (10),vi (20)] (some 2),.rw [vi (0),vi (1)] none],[]⟩
theorem ek18 : e18.Ok Try.prog := FrmC.ok_ev (n := 20000) dt_ok (by kernel_rfl) (by kernel_rfl)
def e24 : FrmC := ⟨36,[.agg #[vi (5),.slice (some ⟨0,0,some 0⟩) 4 0],.slice (some ⟨1,0,none⟩) 3 3],[.rw [vi (2),vi (10),vi (4),vi (9),vi (7),vi (4),vi (10),vi (20)] (some 2),.rw [.slice (some ⟨2,0,none⟩) 3 3,.slice (some ⟨3,0,none⟩) 3 3,
 .slice (some ⟨4,0,none⟩) 3 3] none,.rw [vi (0),vi (0),vi (-1),vi (3),vi (-1),vi (5)] none,.rw [vi (1),vi (-1),vi (5),vi (4),vi (-1),vi (7)] none,.rw [vi (3),vi (-1),vi (7),vi (-1),vi (-1),vi (15)] none],.tuple #[vi (0),
 vi (14)],[.rw [vi (2),vi (10),vi (4),vi (9),vi (7),vi (4),vi (10),vi (20)] (some 2),.rw [.slice (some ⟨2,0,none⟩) 3 3,.slice (some ⟨3,0,none⟩) 3 3,.slice (some ⟨4,0,none⟩) 3 3] none,.rw [vi (0),vi (0),vi (-1),vi (3),vi
 (-1),vi (5)] none,.rw [vi (1),vi (-1),vi (5),vi (4),vi (-1),vi (7)] none,.rw [vi (3),vi (-1),vi (7),vi (-1),vi (-1),vi (15)] none],[]⟩
theorem ek24 : e24.Ok Try.prog := FrmC.ok_ev (n := 20000) dt_ok (by kernel_rfl) (by kernel_rfl)
end Go.Pier.RoundK
