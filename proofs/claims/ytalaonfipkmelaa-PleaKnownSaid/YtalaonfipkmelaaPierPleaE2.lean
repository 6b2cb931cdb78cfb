import Derived.Test.YtalaonfipkmelaaPierPC2
set_option linter.unusedSimpArgs false
set_option linter.unusedVariables false
namespace Go.Pier.PleaK
open Go Go.Pier Go.Proofs
def ee2 : FrmC := ⟨21, [.agg #[vi (7), .slice (some ⟨0, 0, none⟩) 2 2, .slice (some ⟨1, 0, none⟩) 5 5], .slice (some ⟨2, 0, none⟩) 2 2], h8, vi (2), h8, []⟩
theorem eek2 : ee2.Ok Try.prog := FrmC.ok_ev (n := 20000) t0_ok (by kernel_rfl) (by kernel_rfl)
def ee8 : FrmC := ⟨30, [.agg #[vi (7), .slice (some ⟨0, 0, none⟩) 2 2, .slice (some ⟨1, 0, none⟩) 5 5], .slice (some ⟨2, 0, none⟩) 2 2], h10, .tuple #[.slice none 0 0, F, vi (11)], h10, []⟩
theorem eek8 : ee8.Ok Try.prog := FrmC.ok_ev (n := 20000) t0_ok (by kernel_rfl) (by kernel_rfl)
def ee14 : FrmC := ⟨32, [.agg #[vi (7), .slice (some ⟨0, 0, none⟩) 2 2, .slice (some ⟨1, 0, none⟩) 5 5], vi (4)], h2, .tuple #[.slice none 0 0, vi (5)], h2, []⟩
theorem eek14 : ee14.Ok Try.prog := FrmC.ok_ev (n := 20000) t0_ok (by kernel_rfl) (by kernel_rfl)
def ee20 : FrmC := ⟨40, [.agg #[vi (7), .slice (some ⟨0, 0, none⟩) 3 3, .slice (some ⟨1, 0, none⟩) 5 5]], h3, .tuple #[.slice (some ⟨37, 0, some 0⟩) 1 0, vi (0)], h3, [.gone, .gone, .gone, .gone, .gone, .gone, .gone, .gone, .gone, .gone, .gone, .gone, .gone, .gone, .gone, .gone, .gone, .gone, .gone, .gone, .gone, .gone, .gone, .gone, .gone, .gone, .gone, .gone, .gone, .gone, .rw [vi (0)] (some 1)]⟩
theorem eek20 : ee20.Ok Try.prog := FrmC.ok_ev (n := 20000) t0_ok (by kernel_rfl) (by kernel_rfl)
def ee26 : FrmC := ⟨29, [.slice (some ⟨0, 0, some 0⟩) 4 0, .slice (some ⟨1, 0, none⟩) 4 4], h11, T, h11, []⟩
theorem eek26 : ee26.Ok Try.prog := FrmC.ok_ev (n := 20000) t0_ok (by kernel_rfl) (by kernel_rfl)
end Go.Pier.PleaK
