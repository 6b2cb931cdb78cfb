import Derived.Test.YtbhpfkfedannjaaPierKM4
import Derived.Test.YtbhpfkfedannjaaPierKM8
set_option linter.unusedSimpArgs false
set_option linter.unusedVariables false
namespace Go.Pier.RoundK
open Go Go.Pier Go.Proofs
def e4 : FrmC := ⟨24,[.agg #[vi (5),.slice (some ⟨0,0,some 0⟩) 4 0]],[.rw [vi (2),vi (10),vi (4),vi (9),vi (7),vi (4),vi (10),vi (20)] (some 2)],.tuple #[vi (15),vi (0)],[.rw [vi (2),vi (10),vi (4),vi (9),vi (7),vi (4),vi (10),vi (20)]
 (some 2)],[]⟩
theorem ek4 : e4.Ok Try.prog := FrmC.ok_ev (n := 20000) dt_ok (by kernel_rfl) (by kernel_rfl)
def e10 : FrmC := ⟨33,[.agg #[vi (5),.slice (some ⟨0,0,some 0⟩) 4 0]],[.rw [vi (2),vi (10),vi (4),vi (9),vi (7),vi (4),vi (10),vi (20)] (some 2)],.tuple #[vi (-2),vi (0)],[.rw [vi (2),vi (10),vi (4),vi (9),vi (7),vi (4),vi (10),vi (20)]
 (some 2)],[]⟩
theorem ek10 : e10.Ok Try.prog := FrmC.ok_ev (n := 20000) dt_ok (by kernel_rfl) (by kernel_rfl)
def e16 : FrmC := ⟨41,[.agg #[vi (5),.slice (some ⟨0,0,some 0⟩) 4 0]],[.rw [vi (2),vi (10),vi (4),vi (9),vi (7),vi (4),vi (10),vi (20)] (some 2)],.tuple #[.slice none 0 0,vi (5)],[.rw [vi (2),vi (10),vi (4),vi (9),vi (7),vi (4),vi (10),vi
 (20)] (some 2)],[]⟩
theorem ek16 : e16.Ok Try.prog := FrmC.ok_ev (n := 20000) dt_ok (by kernel_rfl) (by kernel_rfl)
def e22 : FrmC := ⟨31,[.agg #[vi (5),.slice (some ⟨0,0,some 0⟩) 4 0],vi (1)],[.rw [vi (2),vi (6),vi (4),vi (9),vi (7),vi (4),vi (10),vi (20)] (some 2)],.tuple #[.agg #[vi (0),vi (0)],vi (12)],[.rw [vi (2),vi (6),vi (4),vi (9),vi (7),vi (4),
 vi (10),vi (20)] (some 2)],[]⟩
theorem ek22 : e22.Ok Try.prog := FrmC.ok_ev (n := 20000) dt_ok (by kernel_rfl) (by kernel_rfl)
end Go.Pier.RoundK
