import Derived.Test.YtalaonfipkmelaaPierPC2
set_option linter.unusedSimpArgs false
set_option linter.unusedVariables false
namespace Go.Pier.PleaK
open Go Go.Pier Go.Proofs
def ee3 : FrmC := ⟨23, [.agg #[vi (7), .slice (some ⟨0, 0, none⟩) 2 2, .slice (some ⟨1, 0, none⟩) 5 5]], h2, .tuple #[.slice (some ⟨35, 0, some 0⟩) 4 0, vi (0)], h2, [.gone, .gone, .gone, .gone, .gone, .gone, .gone, .gone, .gone, .gone, .gone, .gone, .gone, .gone, .gone, .gone, .gone, .gone, .gone, .gone, .gone, .gone, .gone, .gone, .gone, .gone, .gone, .gone, .rw [vi (0), vi (1), vi (2), vi (3)] (some 1)]⟩
theorem eek3 : ee3.Ok Try.prog := FrmC.ok_ev (n := 20000) t0_ok (by kernel_rfl) (by kernel_rfl)
def ee9 : FrmC := ⟨30, [.agg #[vi (7), .slice (some ⟨0, 0, none⟩) 2 2, .slice (some ⟨1, 0, none⟩) 5 5], .slice (some ⟨2, 0, none⟩) 2 2], h12, .tuple #[.slice (some ⟨26, 0, some 0⟩) 4 0, F, vi (0)], h12, [.gone, .gone, .gone, .gone, .gone, .gone, .gone, .gone, .gone, .gone, .gone, .gone, .gone, .gone, .gone, .gone, .gone, .gone, .rw [vi (0), vi (1), vi (2), vi (3)] (some 1)]⟩
theorem eek9 : ee9.Ok Try.prog := FrmC.ok_ev (n := 20000) t0_ok (by kernel_rfl) (by kernel_rfl)
def ee15 : FrmC := ⟨32, [.agg #[vi (7), .slice (some ⟨0, 0, none⟩) 2 2, .slice (some ⟨1, 0, none⟩) 5 5], vi (1)], h2, .tuple #[.slice none 0 0, vi (0)], h2, []⟩
theorem eek15 : ee15.Ok Try.prog := FrmC.ok_ev (n := 20000) t0_ok (by kernel_rfl) (by kernel_rfl)
def ee21 : FrmC := ⟨40, [.agg #[vi (7), .slice (some ⟨0, 0, none⟩) 2 2, .slice (some ⟨1, 0, none⟩) 5 5]], h2, .tuple #[.slice none 0 0, vi (0)], h2, []⟩
theorem eek21 : ee21.Ok Try.prog := FrmC.ok_ev (n := 20000) t0_ok (by kernel_rfl) (by kernel_rfl)
def ee27 : FrmC := ⟨29, [.slice (some ⟨0, 0, none⟩) 1 1, .slice (some ⟨1, 0, none⟩) 1 1], h13, T, h13, []⟩
theorem eek27 : ee27.Ok Try.prog := FrmC.ok_ev (n := 20000) t0_ok (by kernel_rfl) (by kernel_rfl)
end Go.Pier.PleaK
