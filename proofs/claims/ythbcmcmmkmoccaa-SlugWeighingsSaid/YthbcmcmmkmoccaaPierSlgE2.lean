import Derived.Test.YthbcmcmmkmoccaaPierKW3
import Derived.Test.YthbcmcmmkmoccaaPierKW5
set_option linter.unusedSimpArgs false
set_option linter.unusedVariables false
namespace Go.Pier.SlgK
open Go Go.Pier Go.Proofs
def e2 : FrmC := ⟨9, [.agg #[.slice (some ⟨0, 0, none⟩) 3 3, .bool false]], [.rw [vi (1), vi (1), vi (1)] none], vi (0), [.rw [vi (1), vi (1), vi (1)] none], []⟩
theorem ek2 : e2.Ok Try.prog := FrmC.ok_ev (n := 20000) st_ok (by kernel_rfl) (by kernel_rfl)
def e8 : FrmC := ⟨9, [.agg #[.slice (some ⟨0, 0, none⟩) 4 4, .bool true]], [.rw [vi (3), vi (3), vi (3), vi (3)] none], vi (0), [.rw [vi (3), vi (3), vi (3), vi (3)] none], []⟩
theorem ek8 : e8.Ok Try.prog := FrmC.ok_ev (n := 20000) st_ok (by kernel_rfl) (by kernel_rfl)
def e14 : FrmC := ⟨25, [.agg #[.slice (some ⟨0, 0, none⟩) 2 2, .bool false], .slice (some ⟨1, 0, none⟩) 1 1], [.rw [vi (3), vi (3)] none, .rw [.slice (some ⟨2, 0, none⟩) 2 2] none, .rw [vi (1), vi (-1)] none], vi (21), [.rw [vi (3), vi (3)] none, .rw [.slice
  (some ⟨2, 0, none⟩) 2 2] none, .rw [vi (1), vi (-1)] none], []⟩
theorem ek14 : e14.Ok Try.prog := FrmC.ok_ev (n := 20000) st_ok (by kernel_rfl) (by kernel_rfl)
def e20 : FrmC := ⟨30, [.agg #[.slice (some ⟨0, 0, none⟩) 2 2, .bool false]], [.rw [vi (3), vi (3)] none], .tuple #[vi (0), vi (21)], [.rw [vi (3), vi (3)] none], []⟩
theorem ek20 : e20.Ok Try.prog := FrmC.ok_ev (n := 20000) st_ok (by kernel_rfl) (by kernel_rfl)
end Go.Pier.SlgK
