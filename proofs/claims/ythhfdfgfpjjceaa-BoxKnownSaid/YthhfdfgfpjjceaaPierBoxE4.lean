import Derived.Test.YthhfdfgfpjjceaaPierMB2
import Derived.Test.YthhfdfgfpjjceaaPierMB4
set_option linter.unusedSimpArgs false
set_option linter.unusedVariables false
namespace Go.Pier.BoxK
open Go Go.Pier Go.Proofs
def e4 : FrmC := ⟨24, [.agg #[.slice (some ⟨0, 0, none⟩) 2 2, .slice (some ⟨1, 0, none⟩) 3 3], vi (2), .slice (some ⟨2, 0, none⟩) 1 1], [.rw [vi (0), vi (1), vi (5), vi (7), vi (1), vi (2), vi (2), vi (3)] none, .rw [vi (-7), vi (-6), vi (6), vi (6), vi (0),
  vi (3)] none, .rw [vi (1)] none], .tuple #[vi (1), vi (0)], [.rw [vi (0), vi (1), vi (5), vi (7), vi (1), vi (2), vi (2), vi (3)] none, .rw [vi (-7), vi (-6), vi (6), vi (6), vi (0), vi (3)] none, .rw [vi (1)] none], []⟩
theorem ek4 : e4.Ok Try.prog := FrmC.ok_ev (n := 20000) ct_ok (by kernel_rfl) (by kernel_rfl)
def e10 : FrmC := ⟨30, [.agg #[.slice (some ⟨0, 0, none⟩) 2 2, .slice (some ⟨1, 0, none⟩) 3 3], vi (2)], [.rw [vi (0), vi (1), vi (5), vi (7), vi (1), vi (2), vi (2), vi (3)] none, .rw [vi (-7), vi (-6), vi (3), vi (4), vi (0), vi (3)] none], .tuple #[.agg #[vi
  (2), vi (3)], vi (0)], [.rw [vi (0), vi (1), vi (5), vi (7), vi (1), vi (2), vi (2), vi (3)] none, .rw [vi (-7), vi (-6), vi (3), vi (4), vi (0), vi (3)] none], []⟩
theorem ek10 : e10.Ok Try.prog := FrmC.ok_ev (n := 20000) ct_ok (by kernel_rfl) (by kernel_rfl)
def e16 : FrmC := ⟨25, [.agg #[.slice (some ⟨0, 0, none⟩) 2 2, .slice (some ⟨1, 0, none⟩) 3 3], vi (2), .slice (some ⟨2, 0, some 0⟩) 2 0], [.rw [vi (0), vi (1), vi (5), vi (7), vi (1), vi (2), vi (2), vi (3)] none, .rw [vi (-7), vi (-6), vi (6), vi (6), vi (0),
  vi (3)] none, .rw [vi (0), vi (1)] (some 1)], .tuple #[vi (1), vi (0)], [.rw [vi (0), vi (1), vi (5), vi (7), vi (1), vi (2), vi (2), vi (3)] none, .rw [vi (-7), vi (-6), vi (6), vi (6), vi (0), vi (3)] none, .rw [vi (0), vi (1)] (some 1)],
  []⟩
theorem ek16 : e16.Ok Try.prog := FrmC.ok_ev (n := 20000) ct_ok (by kernel_rfl) (by kernel_rfl)
def e22 : FrmC := ⟨24, [.agg #[.slice (some ⟨0, 0, none⟩) 2 2, .slice (some ⟨1, 0, none⟩) 3 3], vi (2), .slice (some ⟨2, 0, none⟩) 2 2], [.rw [vi (0), vi (1), vi (5), vi (7), vi (1), vi (2), vi (2), vi (3)] none, .rw [vi (-7), vi (-6), vi (6), vi (6), vi (0),
  vi (3)] none, .rw [vi (1), vi (0)] none], .tuple #[vi (0), vi (3)], [.rw [vi (0), vi (1), vi (5), vi (7), vi (1), vi (2), vi (2), vi (3)] none, .rw [vi (-7), vi (-6), vi (6), vi (6), vi (0), vi (3)] none, .rw [vi (1), vi (0)] none], []⟩
theorem ek22 : e22.Ok Try.prog := FrmC.ok_ev (n := 20000) ct_ok (by kernel_rfl) (by kernel_rfl)
def e28 : FrmC := ⟨36, [.agg #[.slice (some ⟨0, 0, none⟩) 2 2, .slice (some ⟨1, 0, none⟩) 3 3], .slice (some ⟨2, 0, none⟩) 1 1], [.rw [vi (0), vi (1), vi (5), vi (7), vi (1), vi (2), vi (2), vi (3)] none, .rw [vi (-7), vi (-6), vi (6), vi (6), vi (0), vi (3)]
  none, .rw [vi (5)] none], vi (3), [.rw [vi (0), vi (1), vi (5), vi (7), vi (1), vi (2), vi (2), vi (3)] none, .rw [vi (-7), vi (-6), vi (6), vi (6), vi (0), vi (3)] none, .rw [vi (5)] none], []⟩
theorem ek28 : e28.Ok Try.prog := FrmC.ok_ev (n := 20000) ct_ok (by kernel_rfl) (by kernel_rfl)
end Go.Pier.BoxK
