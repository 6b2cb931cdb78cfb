import Derived.Test.YthbcmcmmkmoccaaPierKW3
import Derived.Test.YthbcmcmmkmoccaaPierKW4
set_option linter.unusedSimpArgs false
set_option linter.unusedVariables false
namespace Go.Pier.SlgK
open Go Go.Pier Go.Proofs
def s2 : FrmC := ⟨57, [.agg #[vi (0), vi (0), vi (0), vi (4), .bool true], .agg #[vi (0), vi (0), vi (0), vi (2), vi (0), vi (0), vi (0), vi (2)]], [], .slice (some ⟨2, 0, none⟩) 3 3, [], [.gone, .gone, .rw [vi (4), vi (0), vi (0), vi (0), .bool true, vi (0),
  vi (2), vi (2), vi (0), .bool false, vi (0), vi (2), vi (2), vi (0), .bool false] none]⟩
theorem sk2 : s2.Ok Try.prog := FrmC.ok_ev (n := 20000) dt_ok (by kernel_rfl) (by kernel_rfl)
def s5 : FrmC := ⟨57, [.agg #[vi (3), vi (0), vi (0), vi (1), .bool true], .agg #[vi (0), vi (0), vi (0), vi (0), vi (0), vi (0), vi (0), vi (0)]], [], .slice (some ⟨2, 0, none⟩) 1 3, [], [.gone, .gone, .rw [vi (3), vi (0), vi (0), vi (1), .bool true, vi (0),
  vi (0), vi (0), vi (0), .bool false, vi (0), vi (0), vi (0), vi (0), .bool false] none]⟩
theorem sk5 : s5.Ok Try.prog := FrmC.ok_ev (n := 20000) dt_ok (by kernel_rfl) (by kernel_rfl)
def s8 : FrmC := ⟨57, [.agg #[vi (2), vi (1), vi (1), vi (0), .bool false], .agg #[vi (1), vi (0), vi (0), vi (0), vi (0), vi (0), vi (1), vi (0)]], [], .slice (some ⟨2, 0, none⟩) 2 3, [], [.gone, .gone, .rw [vi (3), vi (1), vi (0), vi (0), .bool false, vi (3),
  vi (0), vi (1), vi (0), .bool false, vi (0), vi (0), vi (0), vi (0), .bool false] none]⟩
theorem sk8 : s8.Ok Try.prog := FrmC.ok_ev (n := 20000) dt_ok (by kernel_rfl) (by kernel_rfl)
def s11 : FrmC := ⟨57, [.agg #[vi (0), vi (0), vi (0), vi (2), .bool false], .agg #[vi (0), vi (0), vi (0), vi (0), vi (0), vi (0), vi (0), vi (0)]], [], .slice (some ⟨2, 0, none⟩) 1 3, [], [.gone, .gone, .rw [vi (0), vi (0), vi (0), vi (2), .bool false, vi (0),
  vi (0), vi (0), vi (0), .bool false, vi (0), vi (0), vi (0), vi (0), .bool false] none]⟩
theorem sk11 : s11.Ok Try.prog := FrmC.ok_ev (n := 20000) dt_ok (by kernel_rfl) (by kernel_rfl)
def s14 : FrmC := ⟨57, [.agg #[vi (0), vi (1), vi (1), vi (0), .bool false], .agg #[vi (0), vi (0), vi (1), vi (0), vi (0), vi (1), vi (0), vi (0)]], [], .slice (some ⟨2, 0, none⟩) 1 3, [], [.gone, .gone, .rw [vi (0), vi (1), vi (1), vi (0), .bool false, vi (0),
  vi (0), vi (0), vi (0), .bool false, vi (0), vi (0), vi (0), vi (0), .bool false] none]⟩
theorem sk14 : s14.Ok Try.prog := FrmC.ok_ev (n := 20000) dt_ok (by kernel_rfl) (by kernel_rfl)
def s17 : FrmC := ⟨57, [.agg #[vi (2), vi (0), vi (0), vi (1), .bool false], .agg #[vi (0), vi (0), vi (0), vi (0), vi (0), vi (0), vi (0), vi (0)]], [], .slice (some ⟨2, 0, none⟩) 1 3, [], [.gone, .gone, .rw [vi (2), vi (0), vi (0), vi (1), .bool false, vi (0),
  vi (0), vi (0), vi (0), .bool false, vi (0), vi (0), vi (0), vi (0), .bool false] none]⟩
theorem sk17 : s17.Ok Try.prog := FrmC.ok_ev (n := 20000) dt_ok (by kernel_rfl) (by kernel_rfl)
def s20 : FrmC := ⟨61, [.agg #[.slice (some ⟨0, 0, none⟩) 3 3, .bool false]], [.rw [vi (0), vi (0), vi (1)] none], vi (0), [.rw [vi (0), vi (0), vi (1)] none], []⟩
theorem sk20 : s20.Ok Try.prog := FrmC.ok_ev (n := 20000) dt_ok (by kernel_rfl) (by kernel_rfl)
end Go.Pier.SlgK
