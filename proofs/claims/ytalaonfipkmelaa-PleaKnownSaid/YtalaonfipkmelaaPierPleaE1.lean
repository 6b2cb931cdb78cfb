import Derived.Test.YtalaonfipkmelaaPierPC2
set_option linter.unusedSimpArgs false
set_option linter.unusedVariables false
namespace Go.Pier.PleaK
open Go Go.Pier Go.Proofs
def ee1 : FrmC := ⟨21, [.agg #[vi (7), .slice (some ⟨0, 0, none⟩) 2 2, .slice (some ⟨1, 0, none⟩) 5 5], .slice (some ⟨2, 0, none⟩) 3 3], h7, vi (24), h7, []⟩
theorem eek1 : ee1.Ok Try.prog := FrmC.ok_ev (n := 20000) t0_ok (by kernel_rfl) (by kernel_rfl)
def ee7 : FrmC := ⟨30, [.agg #[vi (7), .slice (some ⟨0, 0, none⟩) 2 2, .slice (some ⟨1, 0, none⟩) 5 5], .slice (some ⟨2, 0, none⟩) 2 2], h8, .tuple #[.slice none 0 0, F, vi (16)], h8, []⟩
theorem eek7 : ee7.Ok Try.prog := FrmC.ok_ev (n := 20000) t0_ok (by kernel_rfl) (by kernel_rfl)
def ee13 : FrmC := ⟨32, [.agg #[vi (7), .slice (some ⟨0, 0, none⟩) 2 2, .slice (some ⟨1, 0, none⟩) 5 5], vi (2)], h2, .tuple #[.slice (some ⟨32, 0, none⟩) 1 1, vi (0)], h2, [.gone, .gone, .gone, .gone, .gone, .gone, .gone, .gone, .gone, .gone, .gone, .gone, .gone, .gone, .gone, .gone, .gone, .gone, .gone, .gone, .gone, .gone, .gone, .gone, .gone, .rw [vi (0)] none]⟩
theorem eek13 : ee13.Ok Try.prog := FrmC.ok_ev (n := 20000) t0_ok (by kernel_rfl) (by kernel_rfl)
def ee19 : FrmC := ⟨38, [.agg #[vi (7), .slice (some ⟨0, 0, none⟩) 2 2, .slice (some ⟨1, 0, none⟩) 5 5], vi (0)], h2, .tuple #[.slice (some ⟨20, 0, some 0⟩) 1 0, vi (0)], h2, [.gone, .gone, .gone, .gone, .gone, .gone, .gone, .gone, .gone, .gone, .gone, .gone, .gone, .rw [vi (0)] (some 1)]⟩
theorem eek19 : ee19.Ok Try.prog := FrmC.ok_ev (n := 20000) t0_ok (by kernel_rfl) (by kernel_rfl)
def ee25 : FrmC := ⟨29, [.slice (some ⟨0, 0, some 0⟩) 4 0, .slice (some ⟨1, 0, none⟩) 4 4], h9, T, h9, []⟩
theorem eek25 : ee25.Ok Try.prog := FrmC.ok_ev (n := 20000) t0_ok (by kernel_rfl) (by kernel_rfl)
end Go.Pier.PleaK
