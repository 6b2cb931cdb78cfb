import Derived.Test.YthbcmcmmkmoccaaPierKW3
import Derived.Test.YthbcmcmmkmoccaaPierKW4
set_option linter.unusedSimpArgs false
set_option linter.unusedVariables false
namespace Go.Pier.SlgK
open Go Go.Pier Go.Proofs
def s1 : FrmC := ⟨57, [.agg #[vi (0), vi (0), vi (0), vi (4), .bool true], .agg #[vi (0), vi (0), vi (0), vi (1), vi (0), vi (0), vi (0), vi (1)]], [], .slice (some ⟨2, 0, none⟩) 3 3, [], [.gone, .gone, .rw [vi (2), vi (0), vi (0), vi (2), .bool true, vi (2),
  vi (1), vi (1), vi (0), .bool false, vi (2), vi (1), vi (1), vi (0), .bool false] none]⟩
theorem sk1 : s1.Ok Try.prog := FrmC.ok_ev (n := 20000) dt_ok (by kernel_rfl) (by kernel_rfl)
def s4 : FrmC := ⟨57, [.agg #[vi (2), vi (0), vi (0), vi (2), .bool true], .agg #[vi (1), vi (0), vi (0), vi (0), vi (0), vi (0), vi (0), vi (1)]], [], .slice (some ⟨2, 0, none⟩) 3 3, [], [.gone, .gone, .rw [vi (3), vi (0), vi (0), vi (1), .bool true, vi (3),
  vi (1), vi (0), vi (0), .bool false, vi (3), vi (0), vi (1), vi (0), .bool false] none]⟩
theorem sk4 : s4.Ok Try.prog := FrmC.ok_ev (n := 20000) dt_ok (by kernel_rfl) (by kernel_rfl)
def s7 : FrmC := ⟨57, [.agg #[vi (2), vi (1), vi (1), vi (0), .bool false], .agg #[vi (0), vi (0), vi (0), vi (0), vi (0), vi (0), vi (0), vi (0)]], [], .slice (some ⟨2, 0, none⟩) 1 3, [], [.gone, .gone, .rw [vi (2), vi (1), vi (1), vi (0), .bool false, vi (0),
  vi (0), vi (0), vi (0), .bool false, vi (0), vi (0), vi (0), vi (0), .bool false] none]⟩
theorem sk7 : s7.Ok Try.prog := FrmC.ok_ev (n := 20000) dt_ok (by kernel_rfl) (by kernel_rfl)
def s10 : FrmC := ⟨57, [.agg #[vi (0), vi (3), vi (0), vi (0), .bool false], .agg #[vi (0), vi (1), vi (0), vi (0), vi (0), vi (1), vi (0), vi (0)]], [], .slice (some ⟨2, 0, none⟩) 3 3, [], [.gone, .gone, .rw [vi (2), vi (1), vi (0), vi (0), .bool false, vi (2),
  vi (1), vi (0), vi (0), .bool false, vi (2), vi (1), vi (0), vi (0), .bool false] none]⟩
theorem sk10 : s10.Ok Try.prog := FrmC.ok_ev (n := 20000) dt_ok (by kernel_rfl) (by kernel_rfl)
def s13 : FrmC := ⟨57, [.agg #[vi (0), vi (1), vi (1), vi (0), .bool false], .agg #[vi (0), vi (0), vi (0), vi (0), vi (0), vi (0), vi (0), vi (0)]], [], .slice (some ⟨2, 0, none⟩) 1 3, [], [.gone, .gone, .rw [vi (0), vi (1), vi (1), vi (0), .bool false, vi (0),
  vi (0), vi (0), vi (0), .bool false, vi (0), vi (0), vi (0), vi (0), .bool false] none]⟩
theorem sk13 : s13.Ok Try.prog := FrmC.ok_ev (n := 20000) dt_ok (by kernel_rfl) (by kernel_rfl)
def s16 : FrmC := ⟨57, [.agg #[vi (1), vi (0), vi (0), vi (2), .bool false], .agg #[vi (0), vi (0), vi (0), vi (1), vi (1), vi (0), vi (0), vi (0)]], [], .slice (some ⟨2, 0, none⟩) 3 3, [], [.gone, .gone, .rw [vi (2), vi (0), vi (0), vi (1), .bool false, vi (2),
  vi (0), vi (1), vi (0), .bool false, vi (2), vi (1), vi (0), vi (0), .bool false] none]⟩
theorem sk16 : s16.Ok Try.prog := FrmC.ok_ev (n := 20000) dt_ok (by kernel_rfl) (by kernel_rfl)
def s19 : FrmC := ⟨61, [.agg #[.slice (some ⟨0, 0, none⟩) 3 3, .bool false]], [.rw [vi (1), vi (0), vi (0)] none], vi (0), [.rw [vi (1), vi (0), vi (0)] none], []⟩
theorem sk19 : s19.Ok Try.prog := FrmC.ok_ev (n := 20000) dt_ok (by kernel_rfl) (by kernel_rfl)
end Go.Pier.SlgK
