import Derived.Test.YthbcmcmmkmoccaaPierKW3
import Derived.Test.YthbcmcmmkmoccaaPierKW5
set_option linter.unusedSimpArgs false
set_option linter.unusedVariables false
namespace Go.Pier.SlgK
open Go Go.Pier Go.Proofs
def e5 : FrmC := ⟨16, [.agg #[.slice (some ⟨0, 0, none⟩) 3 3, .bool false], .slice (some ⟨1, 0, none⟩) 3 3], [.rw [vi (1), vi (1), vi (1)] none, .rw [vi (1), vi (-1), vi (0)] none], vi (0), [.rw [vi (1), vi (1), vi (1)] none, .rw [vi (1), vi (-1), vi (0)] none],
  []⟩
theorem ek5 : e5.Ok Try.prog := FrmC.ok_ev (n := 20000) st_ok (by kernel_rfl) (by kernel_rfl)
def e11 : FrmC := ⟨16, [.agg #[.slice (some ⟨0, 0, none⟩) 3 3, .bool false], .slice (some ⟨1, 0, none⟩) 3 3], [.rw [vi (1), vi (1), vi (1)] none, .rw [vi (0), vi (0), vi (0)] none], vi (0), [.rw [vi (1), vi (1), vi (1)] none, .rw [vi (0), vi (0), vi (0)] none],
  []⟩
theorem ek11 : e11.Ok Try.prog := FrmC.ok_ev (n := 20000) st_ok (by kernel_rfl) (by kernel_rfl)
def e17 : FrmC := ⟨29, [.agg #[.slice (some ⟨0, 0, none⟩) 4 4, .bool true]], [.rw [vi (3), vi (3), vi (3), vi (3)] none], .tuple #[vi (2), vi (0)], [.rw [vi (3), vi (3), vi (3), vi (3)] none], []⟩
theorem ek17 : e17.Ok Try.prog := FrmC.ok_ev (n := 20000) st_ok (by kernel_rfl) (by kernel_rfl)
def e23 : FrmC := ⟨31, [.agg #[.slice (some ⟨0, 0, none⟩) 3 3, .bool false], .slice (some ⟨1, 0, none⟩) 3 3], [.rw [vi (3), vi (3), vi (0)] none, .rw [vi (1), vi (0), vi (-1)] none], .tuple #[vi (1), vi (0)], [.rw [vi (3), vi (3), vi (0)] none, .rw [vi (1), vi
  (0), vi (-1)] none], []⟩
theorem ek23 : e23.Ok Try.prog := FrmC.ok_ev (n := 20000) st_ok (by kernel_rfl) (by kernel_rfl)
end Go.Pier.SlgK
