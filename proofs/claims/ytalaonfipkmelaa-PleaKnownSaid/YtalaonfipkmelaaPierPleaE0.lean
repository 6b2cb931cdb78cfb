import Derived.Test.YtalaonfipkmelaaPierPC2
set_option linter.unusedSimpArgs false
set_option linter.unusedVariables false
namespace Go.Pier.PleaK
open Go Go.Pier Go.Proofs
def ee0 : FrmC := ⟨21, [.agg #[vi (7), .slice (some ⟨0, 0, none⟩) 2 2, .slice (some ⟨1, 0, none⟩) 5 5], .slice (some ⟨2, 0, none⟩) 5 5], h4, vi (0), h4, []⟩
theorem eek0 : ee0.Ok Try.prog := FrmC.ok_ev (n := 20000) t0_ok (by kernel_rfl) (by kernel_rfl)
def ee6 : FrmC := ⟨30, [.agg #[vi (7), .slice (some ⟨0, 0, none⟩) 3 3, .slice (some ⟨1, 0, none⟩) 5 5], .slice (some ⟨2, 0, none⟩) 2 2], h5, .tuple #[.slice (some ⟨23, 0, some 0⟩) 4 0, T, vi (0)], h5, [.gone, .gone, .gone, .gone, .gone, .gone, .gone, .gone, .gone, .gone, .gone, .gone, .gone, .gone, .gone, .rw [vi (0), vi (1), vi (3), vi (4)] (some 1)]⟩
theorem eek6 : ee6.Ok Try.prog := FrmC.ok_ev (n := 20000) t0_ok (by kernel_rfl) (by kernel_rfl)
def ee12 : FrmC := ⟨31, [.agg #[vi (7), .slice (some ⟨0, 0, none⟩) 3 3, .slice (some ⟨1, 0, none⟩) 5 5], .slice (some ⟨2, 0, none⟩) 2 3], h6, .tuple #[.slice (some ⟨18, 0, some 0⟩) 4 0, T, vi (0)], h6, [.gone, .gone, .gone, .gone, .gone, .gone, .gone, .gone, .gone, .gone, .rw [vi (0), vi (1), vi (3), vi (4)] (some 1)]⟩
theorem eek12 : ee12.Ok Try.prog := FrmC.ok_ev (n := 20000) t0_ok (by kernel_rfl) (by kernel_rfl)
def ee18 : FrmC := ⟨38, [.agg #[vi (7), .slice (some ⟨0, 0, none⟩) 2 2, .slice (some ⟨1, 0, none⟩) 5 5], vi (3)], h2, .tuple #[.slice (some ⟨22, 0, some 0⟩) 2 0, vi (0)], h2, [.gone, .gone, .gone, .gone, .gone, .gone, .gone, .gone, .gone, .gone, .gone, .gone, .gone, .gone, .gone, .rw [vi (0), vi (1)] (some 1)]⟩
theorem eek18 : ee18.Ok Try.prog := FrmC.ok_ev (n := 20000) t0_ok (by kernel_rfl) (by kernel_rfl)
def ee24 : FrmC := ⟨42, [.agg #[vi (7), .slice (some ⟨0, 0, none⟩) 2 2, .slice (some ⟨1, 0, none⟩) 5 5], vi (5)], h2, .tuple #[F, vi (2)], h2, []⟩
theorem eek24 : ee24.Ok Try.prog := FrmC.ok_ev (n := 20000) t0_ok (by kernel_rfl) (by kernel_rfl)
end Go.Pier.PleaK
