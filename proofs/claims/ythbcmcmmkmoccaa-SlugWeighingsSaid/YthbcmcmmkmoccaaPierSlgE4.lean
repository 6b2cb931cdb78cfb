import Derived.Test.YthbcmcmmkmoccaaPierKW3
import Derived.Test.YthbcmcmmkmoccaaPierKW5
set_option linter.unusedSimpArgs false
set_option linter.unusedVariables false
namespace Go.Pier.SlgK
open Go Go.Pier Go.Proofs
def e4 : FrmC := ⟨16, [.agg #[.slice (some ⟨0, 0, none⟩) 3 3, .bool false], .slice (some ⟨1, 0, none⟩) 2 2], [.rw [vi (1), vi (1), vi (1)] none, .rw [vi (1), vi (-1)] none], vi (15), [.rw [vi (1), vi (1), vi (1)] none, .rw [vi (1), vi (-1)] none], []⟩
theorem ek4 : e4.Ok Try.prog := FrmC.ok_ev (n := 20000) st_ok (by kernel_rfl) (by kernel_rfl)
def e10 : FrmC := ⟨14, [.agg #[.slice (some ⟨0, 0, none⟩) 4 4, .bool true], .slice (some ⟨1, 0, none⟩) 4 4, vi (1)], [.rw [vi (3), vi (3), vi (3), vi (3)] none, .rw [vi (1), vi (-1), vi (0), vi (0)] none], .tuple #[.agg #[.slice (some ⟨36, 0, none⟩) 4 4, .bool
  false], vi (0)], [.rw [vi (3), vi (3), vi (3), vi (3)] none, .rw [vi (1), vi (-1), vi (0), vi (0)] none], [.gone, .gone, .gone, .gone, .gone, .gone, .gone, .gone, .gone, .gone, .gone, .gone, .gone, .gone, .gone, .gone, .gone, .gone, .gone, .gone,
  .gone, .gone, .gone, .gone, .gone, .gone, .gone, .gone, .gone, .gone, .gone, .gone, .gone, .gone, .rw [vi (2), vi (1), vi (0), vi (0)] none]⟩
theorem ek10 : e10.Ok Try.prog := FrmC.ok_ev (n := 20000) st_ok (by kernel_rfl) (by kernel_rfl)
def e16 : FrmC := ⟨28, [.agg #[.slice (some ⟨0, 0, none⟩) 4 4, .bool true], .slice (some ⟨1, 0, none⟩) 1 1, .slice (some ⟨2, 0, none⟩) 1 1], [.rw [vi (3), vi (3), vi (3), vi (3)] none, .rw [.slice (some ⟨3, 0, none⟩) 4 4] none, .rw [vi (1)] none, .rw [vi (1),
  vi (-1), vi (0), vi (0)] none], .tuple #[.slice (some ⟨35, 0, some 0⟩) 2 0, vi (0)], [.rw [vi (3), vi (3), vi (3), vi (3)] none, .rw [.slice (some ⟨3, 0, none⟩) 4 4] none, .rw [vi (1)] none, .rw [vi (1), vi (-1), vi (0), vi (0)] none], [.gone,
  .gone, .gone, .gone, .gone, .gone, .gone, .gone, .gone, .gone, .gone, .gone, .gone, .gone, .gone, .gone, .gone, .gone, .gone, .gone, .gone, .gone, .gone, .gone, .gone, .gone, .gone, .gone, .gone, .gone, .gone, .rw [vi (0), vi (2), vi (1), vi
  (1)] (some 2)]⟩
theorem ek16 : e16.Ok Try.prog := FrmC.ok_ev (n := 20000) st_ok (by kernel_rfl) (by kernel_rfl)
def e22 : FrmC := ⟨16, [.agg #[.slice (some ⟨0, 0, none⟩) 3 3, .bool false], .slice (some ⟨1, 0, none⟩) 3 3], [.rw [vi (3), vi (3), vi (0)] none, .rw [vi (1), vi (0), vi (-1)] none], vi (0), [.rw [vi (3), vi (3), vi (0)] none, .rw [vi (1), vi (0), vi (-1)] none],
  []⟩
theorem ek22 : e22.Ok Try.prog := FrmC.ok_ev (n := 20000) st_ok (by kernel_rfl) (by kernel_rfl)
end Go.Pier.SlgK
