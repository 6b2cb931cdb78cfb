import Derived.Test.YtalaonfipkmelaaPierPC2
set_option linter.unusedSimpArgs false
set_option linter.unusedVariables false
namespace Go.Pier.PleaK
open Go Go.Pier Go.Proofs
def ee5 : FrmC := ⟨19, [.agg #[vi (7), .slice (some ⟨0, 0, none⟩) 3 3, .slice (some ⟨1, 0, none⟩) 5 5]], h3, vi (0), h3, []⟩
theorem eek5 : ee5.Ok Try.prog := FrmC.ok_ev (n := 20000) t0_ok (by kernel_rfl) (by kernel_rfl)
def ee11 : FrmC := ⟨30, [.agg #[vi (7), .slice (some ⟨0, 0, none⟩) 2 2, .slice (some ⟨1, 0, none⟩) 5 5], .slice none 0 0], h2, .tuple #[.slice (some ⟨15, 0, some 0⟩) 2 0, F, vi (0)], h2, [.gone, .gone, .gone, .gone, .gone, .gone, .gone, .gone, .rw [vi (0), vi (1)] (some 1)]⟩
theorem eek11 : ee11.Ok Try.prog := FrmC.ok_ev (n := 20000) t0_ok (by kernel_rfl) (by kernel_rfl)
def ee17 : FrmC := ⟨33, [.agg #[vi (7), .slice (some ⟨0, 0, none⟩) 3 3, .slice (some ⟨1, 0, none⟩) 5 5]], h3, .tuple #[.slice (some ⟨31, 0, none⟩) 2 3, vi (0)], h3, [.gone, .gone, .gone, .gone, .gone, .gone, .gone, .gone, .gone, .gone, .gone, .gone, .gone, .gone, .gone, .gone, .gone, .gone, .gone, .gone, .gone, .gone, .gone, .gone, .rw [vi (4), vi (2), vi (0)] none]⟩
theorem eek17 : ee17.Ok Try.prog := FrmC.ok_ev (n := 20000) t0_ok (by kernel_rfl) (by kernel_rfl)
def ee23 : FrmC := ⟨42, [.agg #[vi (7), .slice (some ⟨0, 0, none⟩) 2 2, .slice (some ⟨1, 0, none⟩) 5 5], vi (1)], h2, .tuple #[F, vi (0)], h2, []⟩
theorem eek23 : ee23.Ok Try.prog := FrmC.ok_ev (n := 20000) t0_ok (by kernel_rfl) (by kernel_rfl)
def ee29 : FrmC := ⟨29, [.slice (some ⟨0, 0, some 0⟩) 1 0, .slice (some ⟨1, 0, none⟩) 1 1], h15, T, h15, []⟩
theorem eek29 : ee29.Ok Try.prog := FrmC.ok_ev (n := 20000) t0_ok (by kernel_rfl) (by kernel_rfl)
end Go.Pier.PleaK
