import Derived.Test.YtalaonfipkmelaaPierPC2
set_option linter.unusedSimpArgs false
set_option linter.unusedVariables false
namespace Go.Pier.PleaK
open Go Go.Pier Go.Proofs
def ee4 : FrmC := ⟨19, [.agg #[vi (7), .slice (some ⟨0, 0, none⟩) 2 2, .slice (some ⟨1, 0, none⟩) 5 5]], h2, vi (0), h2, []⟩
theorem eek4 : ee4.Ok Try.prog := FrmC.ok_ev (n := 20000) t0_ok (by kernel_rfl) (by kernel_rfl)
def ee10 : FrmC := ⟨30, [.agg #[vi (7), .slice (some ⟨0, 0, none⟩) 3 3, .slice (some ⟨1, 0, none⟩) 5 5], .slice (some ⟨2, 0, none⟩) 3 3], h6, .tuple #[.slice none 0 0, F, vi (16)], h6, []⟩
theorem eek10 : ee10.Ok Try.prog := FrmC.ok_ev (n := 20000) t0_ok (by kernel_rfl) (by kernel_rfl)
def ee16 : FrmC := ⟨33, [.agg #[vi (7), .slice (some ⟨0, 0, none⟩) 2 2, .slice (some ⟨1, 0, none⟩) 5 5]], h2, .tuple #[.slice none 0 0, vi (5)], h2, []⟩
theorem eek16 : ee16.Ok Try.prog := FrmC.ok_ev (n := 20000) t0_ok (by kernel_rfl) (by kernel_rfl)
def ee22 : FrmC := ⟨42, [.agg #[vi (7), .slice (some ⟨0, 0, none⟩) 2 2, .slice (some ⟨1, 0, none⟩) 5 5], vi (4)], h2, .tuple #[T, vi (0)], h2, []⟩
theorem eek22 : ee22.Ok Try.prog := FrmC.ok_ev (n := 20000) t0_ok (by kernel_rfl) (by kernel_rfl)
def ee28 : FrmC := ⟨29, [.slice (some ⟨0, 0, some 0⟩) 2 0, .slice (some ⟨1, 0, none⟩) 2 2], h14, T, h14, []⟩
theorem eek28 : ee28.Ok Try.prog := FrmC.ok_ev (n := 20000) t0_ok (by kernel_rfl) (by kernel_rfl)
end Go.Pier.PleaK
