import Derived.Test.YthhfdfgfpjjceaaPierMB2
import Derived.Test.YthhfdfgfpjjceaaPierMB4
set_option linter.unusedSimpArgs false
set_option linter.unusedVariables false
namespace Go.Pier.BoxK
open Go Go.Pier Go.Proofs
def e5 : FrmC := ⟨24, [.agg #[.slice (some ⟨0, 0, none⟩) 2 2, .slice (some ⟨1, 0, none⟩) 3 3], vi (1), .slice (some ⟨2, 0, none⟩) 1 1], [.rw [vi (0), vi (1), vi (5), vi (7), vi (1), vi (2), vi (2), vi (3)] none, .rw [vi (-7), vi (-6), vi (6), vi (6), vi (0),
  vi (3)] none, .rw [vi (1)] none], .tuple #[vi (0), vi (14)], [.rw [vi (0), vi (1), vi (5), vi (7), vi (1), vi (2), vi (2), vi (3)] none, .rw [vi (-7), vi (-6), vi (6), vi (6), vi (0), vi (3)] none, .rw [vi (1)] none], []⟩
theorem ek5 : e5.Ok Try.prog := FrmC.ok_ev (n := 20000) ct_ok (by kernel_rfl) (by kernel_rfl)
def e11 : FrmC := ⟨32, [.agg #[.slice (some ⟨0, 0, none⟩) 2 2, .slice (some ⟨1, 0, none⟩) 3 3]], [.rw [vi (0), vi (1), vi (5), vi (7), vi (1), vi (2), vi (2), vi (3)] none, .rw [vi (-7), vi (-6), vi (6), vi (6), vi (0), vi (3)] none], .tuple #[.slice (some ⟨43,
  0, none⟩) 1 1, vi (0)], [.rw [vi (0), vi (1), vi (5), vi (7), vi (1), vi (2), vi (2), vi (3)] none, .rw [vi (-7), vi (-6), vi (6), vi (6), vi (0), vi (3)] none], [.gone, .gone, .gone, .gone, .gone, .gone, .gone, .gone, .gone, .gone, .gone, .gone,
  .gone, .gone, .gone, .gone, .gone, .gone, .gone, .gone, .gone, .gone, .gone, .gone, .gone, .gone, .gone, .gone, .gone, .gone, .gone, .gone, .gone, .gone, .gone, .gone, .gone, .gone, .gone, .gone, .gone, .rw [vi (1)] none]⟩
theorem ek11 : e11.Ok Try.prog := FrmC.ok_ev (n := 20000) ct_ok (by kernel_rfl) (by kernel_rfl)
def e17 : FrmC := ⟨23, [.agg #[.slice (some ⟨0, 0, none⟩) 2 2, .slice (some ⟨1, 0, none⟩) 3 3], .slice (some ⟨2, 0, none⟩) 2 2], [.rw [vi (0), vi (1), vi (5), vi (7), vi (1), vi (2), vi (2), vi (3)] none, .rw [vi (-7), vi (-6), vi (3), vi (4), vi (0), vi (3)]
  none, .rw [vi (6), vi (2)] none], vi (0), [.rw [vi (0), vi (1), vi (5), vi (7), vi (1), vi (2), vi (2), vi (3)] none, .rw [vi (-7), vi (-6), vi (3), vi (4), vi (0), vi (3)] none, .rw [vi (6), vi (2)] none], []⟩
theorem ek17 : e17.Ok Try.prog := FrmC.ok_ev (n := 20000) ct_ok (by kernel_rfl) (by kernel_rfl)
def e23 : FrmC := ⟨28, [.agg #[.slice (some ⟨0, 0, none⟩) 2 2, .slice (some ⟨1, 0, none⟩) 3 3], vi (1)], [.rw [vi (0), vi (1), vi (5), vi (7), vi (1), vi (2), vi (2), vi (3)] none, .rw [vi (-7), vi (-6), vi (3), vi (4), vi (0), vi (3)] none], .tuple #[.agg #[vi
  (2), vi (3)], vi (0)], [.rw [vi (0), vi (1), vi (5), vi (7), vi (1), vi (2), vi (2), vi (3)] none, .rw [vi (-7), vi (-6), vi (3), vi (4), vi (0), vi (3)] none], []⟩
theorem ek23 : e23.Ok Try.prog := FrmC.ok_ev (n := 20000) ct_ok (by kernel_rfl) (by kernel_rfl)
def e29 : FrmC := ⟨34, [.agg #[.slice (some ⟨0, 0, none⟩) 2 2, .slice (some ⟨1, 0, none⟩) 3 3], vi (1)], [.rw [vi (0), vi (1), vi (5), vi (7), vi (1), vi (2), vi (2), vi (3)] none, .rw [vi (-7), vi (-6), vi (6), vi (6), vi (0), vi (3)] none], .tuple #[vi (1),
  vi (0)], [.rw [vi (0), vi (1), vi (5), vi (7), vi (1), vi (2), vi (2), vi (3)] none, .rw [vi (-7), vi (-6), vi (6), vi (6), vi (0), vi (3)] none], []⟩
theorem ek29 : e29.Ok Try.prog := FrmC.ok_ev (n := 20000) ct_ok (by kernel_rfl) (by kernel_rfl)
end Go.Pier.BoxK
