import Derived.Test.YthhfdfgfpjjceaaPierMB2
import Derived.Test.YthhfdfgfpjjceaaPierMB4
set_option linter.unusedSimpArgs false
set_option linter.unusedVariables false
namespace Go.Pier.BoxK
open Go Go.Pier Go.Proofs
def e0 : FrmC := ⟨22, [.agg #[.slice (some ⟨0, 0, none⟩) 2 2, .slice (some ⟨1, 0, none⟩) 3 3], .slice (some ⟨2, 0, none⟩) 2 2], [.rw [vi (0), vi (1), vi (5), vi (7), vi (1), vi (2), vi (2), vi (3)] none, .rw [vi (-7), vi (-6), vi (3), vi (4), vi (0), vi (3)]
  none, .rw [vi (6), vi (2)] none], vi (0), [.rw [vi (0), vi (1), vi (5), vi (7), vi (1), vi (2), vi (2), vi (3)] none, .rw [vi (-7), vi (-6), vi (3), vi (4), vi (0), vi (3)] none, .rw [vi (6), vi (2)] none], []⟩
theorem ek0 : e0.Ok Try.prog := FrmC.ok_ev (n := 20000) ct_ok (by kernel_rfl) (by kernel_rfl)
def e6 : FrmC := ⟨26, [.agg #[.slice (some ⟨0, 0, none⟩) 2 2, .slice (some ⟨1, 0, none⟩) 3 3]], [.rw [vi (0), vi (1), vi (5), vi (7), vi (1), vi (2), vi (2), vi (3)] none, .rw [vi (-7), vi (-6), vi (6), vi (6), vi (0), vi (3)] none], .tuple #[vi (2), .slice
  (some ⟨26, 0, some 0⟩) 2 0, vi (0)], [.rw [vi (0), vi (1), vi (5), vi (7), vi (1), vi (2), vi (2), vi (3)] none, .rw [vi (-7), vi (-6), vi (6), vi (6), vi (0), vi (3)] none], [.gone, .gone, .gone, .gone, .gone, .gone, .gone, .gone, .gone, .gone,
  .gone, .gone, .gone, .gone, .gone, .gone, .gone, .gone, .gone, .gone, .gone, .gone, .gone, .gone, .rw [vi (0), vi (1)] (some 1)]⟩
theorem ek6 : e6.Ok Try.prog := FrmC.ok_ev (n := 20000) ct_ok (by kernel_rfl) (by kernel_rfl)
def e12 : FrmC := ⟨36, [.agg #[.slice (some ⟨0, 0, none⟩) 2 2, .slice (some ⟨1, 0, none⟩) 3 3], .slice (some ⟨2, 0, none⟩) 1 1], [.rw [vi (0), vi (1), vi (5), vi (7), vi (1), vi (2), vi (2), vi (3)] none, .rw [vi (-7), vi (-6), vi (6), vi (6), vi (0), vi (3)]
  none, .rw [vi (3)] none], vi (0), [.rw [vi (0), vi (1), vi (5), vi (7), vi (1), vi (2), vi (2), vi (3)] none, .rw [vi (-7), vi (-6), vi (6), vi (6), vi (0), vi (3)] none, .rw [vi (3)] none], []⟩
theorem ek12 : e12.Ok Try.prog := FrmC.ok_ev (n := 20000) ct_ok (by kernel_rfl) (by kernel_rfl)
def e18 : FrmC := ⟨22, [.agg #[.slice (some ⟨0, 0, none⟩) 2 2, .slice (some ⟨1, 0, none⟩) 3 3], .slice (some ⟨2, 0, none⟩) 1 1], [.rw [vi (0), vi (1), vi (5), vi (7), vi (1), vi (2), vi (2), vi (3)] none, .rw [vi (-7), vi (-6), vi (3), vi (4), vi (0), vi (3)]
  none, .rw [vi (7)] none], vi (15), [.rw [vi (0), vi (1), vi (5), vi (7), vi (1), vi (2), vi (2), vi (3)] none, .rw [vi (-7), vi (-6), vi (3), vi (4), vi (0), vi (3)] none, .rw [vi (7)] none], []⟩
theorem ek18 : e18.Ok Try.prog := FrmC.ok_ev (n := 20000) ct_ok (by kernel_rfl) (by kernel_rfl)
def e24 : FrmC := ⟨28, [.agg #[.slice (some ⟨0, 0, none⟩) 2 2, .slice (some ⟨1, 0, none⟩) 3 3], vi (0)], [.rw [vi (0), vi (1), vi (5), vi (7), vi (1), vi (2), vi (2), vi (3)] none, .rw [vi (-7), vi (-6), vi (6), vi (6), vi (0), vi (3)] none], .tuple #[.agg #[vi
  (0), vi (0)], vi (22)], [.rw [vi (0), vi (1), vi (5), vi (7), vi (1), vi (2), vi (2), vi (3)] none, .rw [vi (-7), vi (-6), vi (6), vi (6), vi (0), vi (3)] none], []⟩
theorem ek24 : e24.Ok Try.prog := FrmC.ok_ev (n := 20000) ct_ok (by kernel_rfl) (by kernel_rfl)
def e30 : FrmC := ⟨34, [.agg #[.slice (some ⟨0, 0, none⟩) 2 2, .slice (some ⟨1, 0, none⟩) 3 3], vi (4)], [.rw [vi (0), vi (1), vi (5), vi (7), vi (1), vi (2), vi (2), vi (3)] none, .rw [vi (-7), vi (-6), vi (3), vi (4), vi (0), vi (3)] none], .tuple #[vi (0),
  vi (0)], [.rw [vi (0), vi (1), vi (5), vi (7), vi (1), vi (2), vi (2), vi (3)] none, .rw [vi (-7), vi (-6), vi (3), vi (4), vi (0), vi (3)] none], []⟩
theorem ek30 : e30.Ok Try.prog := FrmC.ok_ev (n := 20000) ct_ok (by kernel_rfl) (by kernel_rfl)
end Go.Pier.BoxK
