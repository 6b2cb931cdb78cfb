import Derived.Test.YthbcmcmmkmoccaaPierKW3
import Derived.Test.YthbcmcmmkmoccaaPierKW5
set_option linter.unusedSimpArgs false
set_option linter.unusedVariables false
namespace Go.Pier.SlgK
open Go Go.Pier Go.Proofs
def e3 : FrmC := ⟨16, [.agg #[.slice (some ⟨0, 0, none⟩) 3 3, .bool false], .slice (some ⟨1, 0, none⟩) 3 3], [.rw [vi (1), vi (1), vi (1)] none, .rw [vi (1), vi (1), vi (0)] none], vi (14), [.rw [vi (1), vi (1), vi (1)] none, .rw [vi (1), vi (1), vi (0)] none],
  []⟩
theorem ek3 : e3.Ok Try.prog := FrmC.ok_ev (n := 20000) st_ok (by kernel_rfl) (by kernel_rfl)
def e9 : FrmC := ⟨16, [.agg #[.slice (some ⟨0, 0, none⟩) 4 4, .bool true], .slice (some ⟨1, 0, none⟩) 4 4], [.rw [vi (3), vi (3), vi (3), vi (3)] none, .rw [vi (1), vi (-1), vi (0), vi (0)] none], vi (0), [.rw [vi (3), vi (3), vi (3), vi (3)] none, .rw [vi (1),
  vi (-1), vi (0), vi (0)] none], []⟩
theorem ek9 : e9.Ok Try.prog := FrmC.ok_ev (n := 20000) st_ok (by kernel_rfl) (by kernel_rfl)
def e15 : FrmC := ⟨27, [.agg #[.slice (some ⟨0, 0, none⟩) 2 2, .bool false], .slice (some ⟨1, 0, none⟩) 1 1], [.rw [vi (3), vi (3)] none, .rw [.slice (some ⟨2, 0, none⟩) 2 2] none, .rw [vi (1), vi (-1)] none], .tuple #[.agg #[vi (0), vi (1)], .agg #[vi (1), vi
  (2)], vi (0)], [.rw [vi (3), vi (3)] none, .rw [.slice (some ⟨2, 0, none⟩) 2 2] none, .rw [vi (1), vi (-1)] none], []⟩
theorem ek15 : e15.Ok Try.prog := FrmC.ok_ev (n := 20000) st_ok (by kernel_rfl) (by kernel_rfl)
def e21 : FrmC := ⟨9, [.agg #[.slice (some ⟨0, 0, none⟩) 3 3, .bool false]], [.rw [vi (3), vi (3), vi (0)] none], vi (0), [.rw [vi (3), vi (3), vi (0)] none], []⟩
theorem ek21 : e21.Ok Try.prog := FrmC.ok_ev (n := 20000) st_ok (by kernel_rfl) (by kernel_rfl)
end Go.Pier.SlgK
