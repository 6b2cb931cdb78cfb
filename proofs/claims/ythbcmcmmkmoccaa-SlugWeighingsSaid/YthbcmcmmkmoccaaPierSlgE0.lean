import Derived.Test.YthbcmcmmkmoccaaPierKW3
import Derived.Test.YthbcmcmmkmoccaaPierKW5
set_option linter.unusedSimpArgs false
set_option linter.unusedVariables false
namespace Go.Pier.SlgK
open Go Go.Pier Go.Proofs
def e0 : FrmC := ⟨9, [.agg #[.slice (some ⟨0, 0, none⟩) 2 2, .bool false]], [.rw [vi (3), vi (3)] none], vi (0), [.rw [vi (3), vi (3)] none], []⟩
theorem ek0 : e0.Ok Try.prog := FrmC.ok_ev (n := 20000) st_ok (by kernel_rfl) (by kernel_rfl)
def e6 : FrmC := ⟨12, [.agg #[.slice (some ⟨0, 0, none⟩) 3 3, .bool false], .slice (some ⟨1, 0, none⟩) 3 3, .agg #[vi (0), vi (1)]], [.rw [vi (1), vi (1), vi (1)] none, .rw [vi (1), vi (-1), vi (0)] none], .tuple #[vi (-1), vi (0)], [.rw [vi (1), vi (1), vi
  (1)] none, .rw [vi (1), vi (-1), vi (0)] none], []⟩
theorem ek6 : e6.Ok Try.prog := FrmC.ok_ev (n := 20000) st_ok (by kernel_rfl) (by kernel_rfl)
def e12 : FrmC := ⟨14, [.agg #[.slice (some ⟨0, 0, none⟩) 3 3, .bool false], .slice (some ⟨1, 0, none⟩) 3 3, vi (1)], [.rw [vi (1), vi (1), vi (1)] none, .rw [vi (0), vi (0), vi (0)] none], .tuple #[.agg #[.slice none 0 0, .bool false], vi (21)], [.rw [vi (1),
  vi (1), vi (1)] none, .rw [vi (0), vi (0), vi (0)] none], []⟩
theorem ek12 : e12.Ok Try.prog := FrmC.ok_ev (n := 20000) st_ok (by kernel_rfl) (by kernel_rfl)
def e18 : FrmC := ⟨30, [.agg #[.slice (some ⟨0, 0, none⟩) 4 4, .bool true]], [.rw [vi (3), vi (3), vi (3), vi (3)] none], .tuple #[vi (3), vi (0)], [.rw [vi (3), vi (3), vi (3), vi (3)] none], []⟩
theorem ek18 : e18.Ok Try.prog := FrmC.ok_ev (n := 20000) st_ok (by kernel_rfl) (by kernel_rfl)
def e24 : FrmC := ⟨32, [.agg #[.slice (some ⟨0, 0, none⟩) 3 3, .bool false]], [.rw [vi (1), vi (1), vi (1)] none], .tuple #[.slice (some ⟨7, 0, none⟩) 3 3, vi (0)], [.rw [vi (1), vi (1), vi (1)] none], [.gone, .gone, .gone, .gone, .gone, .gone, .rw [vi (1), vi
  (-1), vi (0)] none]⟩
theorem ek24 : e24.Ok Try.prog := FrmC.ok_ev (n := 20000) st_ok (by kernel_rfl) (by kernel_rfl)
end Go.Pier.SlgK
