import Derived.Test.YthbcmcmmkmoccaaPierKW3
import Derived.Test.YthbcmcmmkmoccaaPierKW5
set_option linter.unusedSimpArgs false
set_option linter.unusedVariables false
namespace Go.Pier.SlgK
open Go Go.Pier Go.Proofs
def e1 : FrmC := ⟨7, [.agg #[.slice (some ⟨0, 0, none⟩) 2 2, .bool false]], [.rw [vi (3), vi (3)] none], .tuple #[.slice (some ⟨10, 0, some 0⟩) 4 0, vi (0)], [.rw [vi (3), vi (3)] none], [.gone, .gone, .gone, .gone, .gone, .gone, .gone, .gone, .gone, .rw [vi
  (0), vi (1), vi (0), vi (2), vi (1), vi (1), vi (1), vi (2)] (some 2)]⟩
theorem ek1 : e1.Ok Try.prog := FrmC.ok_ev (n := 20000) st_ok (by kernel_rfl) (by kernel_rfl)
def e7 : FrmC := ⟨12, [.agg #[.slice (some ⟨0, 0, none⟩) 3 3, .bool false], .slice (some ⟨1, 0, none⟩) 3 3, .agg #[vi (0), vi (2)]], [.rw [vi (1), vi (1), vi (1)] none, .rw [vi (1), vi (-1), vi (0)] none], .tuple #[vi (0), vi (2)], [.rw [vi (1), vi (1), vi (1)]
  none, .rw [vi (1), vi (-1), vi (0)] none], []⟩
theorem ek7 : e7.Ok Try.prog := FrmC.ok_ev (n := 20000) st_ok (by kernel_rfl) (by kernel_rfl)
def e13 : FrmC := ⟨25, [.agg #[.slice (some ⟨0, 0, none⟩) 3 3, .bool false], .slice (some ⟨1, 0, none⟩) 1 1], [.rw [vi (1), vi (1), vi (1)] none, .rw [.slice (some ⟨2, 0, none⟩) 3 3] none, .rw [vi (1), vi (-1), vi (0)] none], vi (0), [.rw [vi (1), vi (1), vi
  (1)] none, .rw [.slice (some ⟨2, 0, none⟩) 3 3] none, .rw [vi (1), vi (-1), vi (0)] none], []⟩
theorem ek13 : e13.Ok Try.prog := FrmC.ok_ev (n := 20000) st_ok (by kernel_rfl) (by kernel_rfl)
def e19 : FrmC := ⟨30, [.agg #[.slice (some ⟨0, 0, none⟩) 3 3, .bool false]], [.rw [vi (1), vi (1), vi (1)] none], .tuple #[vi (1), vi (0)], [.rw [vi (1), vi (1), vi (1)] none], []⟩
theorem ek19 : e19.Ok Try.prog := FrmC.ok_ev (n := 20000) st_ok (by kernel_rfl) (by kernel_rfl)
def e25 : FrmC := ⟨33, [.agg #[.slice (some ⟨0, 0, none⟩) 3 3, .bool false], .slice (some ⟨1, 0, none⟩) 3 3], [.rw [vi (1), vi (1), vi (1)] none, .rw [vi (1), vi (-1), vi (0)] none], .tuple #[vi (0), vi (0)], [.rw [vi (1), vi (1), vi (1)] none, .rw [vi (1), vi
  (-1), vi (0)] none], []⟩
theorem ek25 : e25.Ok Try.prog := FrmC.ok_ev (n := 20000) st_ok (by kernel_rfl) (by kernel_rfl)
end Go.Pier.SlgK
