import Derived.Test.YthhfdfgfpjjceaaPierMB2
import Derived.Test.YthhfdfgfpjjceaaPierMB4
set_option linter.unusedSimpArgs false
set_option linter.unusedVariables false
namespace Go.Pier.BoxK
open Go Go.Pier Go.Proofs
def e1 : FrmC := ⟨22, [.agg #[.slice (some ⟨0, 0, none⟩) 2 2, .slice (some ⟨1, 0, none⟩) 3 3], .slice (some ⟨2, 0, none⟩) 2 2], [.rw [vi (0), vi (1), vi (5), vi (7), vi (1), vi (2), vi (2), vi (3)] none, .rw [vi (-7), vi (-6), vi (3), vi (4), vi (0), vi (3)]
  none, .rw [vi (7), vi (2)] none], vi (16), [.rw [vi (0), vi (1), vi (5), vi (7), vi (1), vi (2), vi (2), vi (3)] none, .rw [vi (-7), vi (-6), vi (3), vi (4), vi (0), vi (3)] none, .rw [vi (7), vi (2)] none], []⟩
theorem ek1 : e1.Ok Try.prog := FrmC.ok_ev (n := 20000) ct_ok (by kernel_rfl) (by kernel_rfl)
def e7 : FrmC := ⟨26, [.agg #[.slice (some ⟨0, 0, none⟩) 2 2, .slice (some ⟨1, 0, none⟩) 3 3]], [.rw [vi (0), vi (1), vi (5), vi (7), vi (1), vi (2), vi (2), vi (3)] none, .rw [vi (-7), vi (-6), vi (3), vi (4), vi (0), vi (3)] none], .tuple #[vi (0), .slice
  none 0 0, vi (5)], [.rw [vi (0), vi (1), vi (5), vi (7), vi (1), vi (2), vi (2), vi (3)] none, .rw [vi (-7), vi (-6), vi (3), vi (4), vi (0), vi (3)] none], []⟩
theorem ek7 : e7.Ok Try.prog := FrmC.ok_ev (n := 20000) ct_ok (by kernel_rfl) (by kernel_rfl)
def e13 : FrmC := ⟨36, [.agg #[.slice (some ⟨0, 0, none⟩) 2 2, .slice (some ⟨1, 0, none⟩) 3 3], .slice (some ⟨2, 0, none⟩) 1 1], [.rw [vi (0), vi (1), vi (5), vi (7), vi (1), vi (2), vi (2), vi (3)] none, .rw [vi (-7), vi (-6), vi (6), vi (6), vi (0), vi (3)]
  none, .rw [vi (0)] none], vi (22), [.rw [vi (0), vi (1), vi (5), vi (7), vi (1), vi (2), vi (2), vi (3)] none, .rw [vi (-7), vi (-6), vi (6), vi (6), vi (0), vi (3)] none, .rw [vi (0)] none], []⟩
theorem ek13 : e13.Ok Try.prog := FrmC.ok_ev (n := 20000) ct_ok (by kernel_rfl) (by kernel_rfl)
def e19 : FrmC := ⟨22, [.agg #[.slice (some ⟨0, 0, none⟩) 2 2, .slice (some ⟨1, 0, none⟩) 3 3], .slice (some ⟨2, 0, none⟩) 2 2], [.rw [vi (0), vi (1), vi (5), vi (7), vi (1), vi (2), vi (2), vi (3)] none, .rw [vi (-7), vi (-6), vi (3), vi (4), vi (0), vi (3)]
  none, .rw [vi (101), vi (2)] none], vi (3), [.rw [vi (0), vi (1), vi (5), vi (7), vi (1), vi (2), vi (2), vi (3)] none, .rw [vi (-7), vi (-6), vi (3), vi (4), vi (0), vi (3)] none, .rw [vi (101), vi (2)] none], []⟩
theorem ek19 : e19.Ok Try.prog := FrmC.ok_ev (n := 20000) ct_ok (by kernel_rfl) (by kernel_rfl)
def e25 : FrmC := ⟨30, [.agg #[.slice (some ⟨0, 0, none⟩) 2 2, .slice (some ⟨1, 0, none⟩) 3 3], vi (1)], [.rw [vi (0), vi (1), vi (5), vi (7), vi (1), vi (2), vi (2), vi (3)] none, .rw [vi (-7), vi (-6), vi (3), vi (4), vi (0), vi (3)] none], .tuple #[.agg #[vi
  (3), vi (4)], vi (0)], [.rw [vi (0), vi (1), vi (5), vi (7), vi (1), vi (2), vi (2), vi (3)] none, .rw [vi (-7), vi (-6), vi (3), vi (4), vi (0), vi (3)] none], []⟩
theorem ek25 : e25.Ok Try.prog := FrmC.ok_ev (n := 20000) ct_ok (by kernel_rfl) (by kernel_rfl)
end Go.Pier.BoxK
