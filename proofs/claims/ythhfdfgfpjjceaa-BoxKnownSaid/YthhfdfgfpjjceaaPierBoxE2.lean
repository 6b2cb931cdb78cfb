import Derived.Test.YthhfdfgfpjjceaaPierMB2
import Derived.Test.YthhfdfgfpjjceaaPierMB4
set_option linter.unusedSimpArgs false
set_option linter.unusedVariables false
namespace Go.Pier.BoxK
open Go Go.Pier Go.Proofs
def e2 : FrmC := ⟨18, [.agg #[.slice (some ⟨0, 0, none⟩) 2 2, .slice (some ⟨1, 0, none⟩) 3 3]], [.rw [vi (0), vi (1), vi (5), vi (7), vi (1), vi (2), vi (2), vi (3)] none, .rw [vi (-7), vi (-6), vi (3), vi (4), vi (0), vi (3)] none], .tuple #[.slice (some ⟨22,
  0, none⟩) 2 2, vi (0)], [.rw [vi (0), vi (1), vi (5), vi (7), vi (1), vi (2), vi (2), vi (3)] none, .rw [vi (-7), vi (-6), vi (3), vi (4), vi (0), vi (3)] none], [.gone, .gone, .gone, .gone, .gone, .gone, .gone, .gone, .gone, .gone, .gone, .gone,
  .gone, .gone, .gone, .gone, .gone, .gone, .gone, .gone, .rw [vi (6), vi (2)] none]⟩
theorem ek2 : e2.Ok Try.prog := FrmC.ok_ev (n := 20000) ct_ok (by kernel_rfl) (by kernel_rfl)
def e8 : FrmC := ⟨28, [.agg #[.slice (some ⟨0, 0, none⟩) 2 2, .slice (some ⟨1, 0, none⟩) 3 3], vi (0)], [.rw [vi (0), vi (1), vi (5), vi (7), vi (1), vi (2), vi (2), vi (3)] none, .rw [vi (-7), vi (-6), vi (3), vi (4), vi (0), vi (3)] none], .tuple #[.agg #[vi
  (6), vi (7)], vi (0)], [.rw [vi (0), vi (1), vi (5), vi (7), vi (1), vi (2), vi (2), vi (3)] none, .rw [vi (-7), vi (-6), vi (3), vi (4), vi (0), vi (3)] none], []⟩
theorem ek8 : e8.Ok Try.prog := FrmC.ok_ev (n := 20000) ct_ok (by kernel_rfl) (by kernel_rfl)
def e14 : FrmC := ⟨34, [.agg #[.slice (some ⟨0, 0, none⟩) 2 2, .slice (some ⟨1, 0, none⟩) 3 3], vi (0)], [.rw [vi (0), vi (1), vi (5), vi (7), vi (1), vi (2), vi (2), vi (3)] none, .rw [vi (-7), vi (-6), vi (6), vi (6), vi (0), vi (3)] none], .tuple #[vi (0),
  vi (0)], [.rw [vi (0), vi (1), vi (5), vi (7), vi (1), vi (2), vi (2), vi (3)] none, .rw [vi (-7), vi (-6), vi (6), vi (6), vi (0), vi (3)] none], []⟩
theorem ek14 : e14.Ok Try.prog := FrmC.ok_ev (n := 20000) ct_ok (by kernel_rfl) (by kernel_rfl)
def e20 : FrmC := ⟨24, [.agg #[.slice (some ⟨0, 0, none⟩) 2 2, .slice (some ⟨1, 0, none⟩) 3 3], vi (2), .slice (some ⟨2, 0, none⟩) 1 1], [.rw [vi (0), vi (1), vi (5), vi (7), vi (1), vi (2), vi (2), vi (3)] none, .rw [vi (-7), vi (-6), vi (6), vi (6), vi (0),
  vi (3)] none, .rw [vi (0)] none], .tuple #[vi (0), vi (14)], [.rw [vi (0), vi (1), vi (5), vi (7), vi (1), vi (2), vi (2), vi (3)] none, .rw [vi (-7), vi (-6), vi (6), vi (6), vi (0), vi (3)] none, .rw [vi (0)] none], []⟩
theorem ek20 : e20.Ok Try.prog := FrmC.ok_ev (n := 20000) ct_ok (by kernel_rfl) (by kernel_rfl)
def e26 : FrmC := ⟨32, [.agg #[.slice (some ⟨0, 0, none⟩) 2 2, .slice (some ⟨1, 0, none⟩) 3 3]], [.rw [vi (0), vi (1), vi (5), vi (7), vi (1), vi (2), vi (2), vi (3)] none, .rw [vi (-7), vi (-6), vi (3), vi (4), vi (0), vi (3)] none], .tuple #[.slice (some ⟨23,
  0, none⟩) 0 0, vi (0)], [.rw [vi (0), vi (1), vi (5), vi (7), vi (1), vi (2), vi (2), vi (3)] none, .rw [vi (-7), vi (-6), vi (3), vi (4), vi (0), vi (3)] none], [.gone, .gone, .gone, .gone, .gone, .gone, .gone, .gone, .gone, .gone, .gone, .gone,
  .gone, .gone, .gone, .gone, .gone, .gone, .gone, .gone, .gone, .rw [] none]⟩
theorem ek26 : e26.Ok Try.prog := FrmC.ok_ev (n := 20000) ct_ok (by kernel_rfl) (by kernel_rfl)
end Go.Pier.BoxK
