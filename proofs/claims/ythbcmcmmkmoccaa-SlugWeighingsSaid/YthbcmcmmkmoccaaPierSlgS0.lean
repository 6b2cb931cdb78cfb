import Derived.Test.YthbcmcmmkmoccaaPierKW3
import Derived.Test.YthbcmcmmkmoccaaPierKW4
set_option linter.unusedSimpArgs false
set_option linter.unusedVariables false
namespace Go.Pier.SlgK
open Go Go.Pier Go.Proofs
def s0 : FrmC := ⟨57, [.agg #[vi (0), vi (0), vi (0), vi (4), .bool true], .agg #[vi (0), vi (0), vi (0), vi (0), vi (0), vi (0), vi (0), vi (0)]], [], .slice (some ⟨2, 0, none⟩) 1 3, [], [.gone, .gone, .rw [vi (0), vi (0), vi (0), vi (4), .bool true, vi (0),
  vi (0), vi (0), vi (0), .bool false, vi (0), vi (0), vi (0), vi (0), .bool false] none]⟩
theorem sk0 : s0.Ok Try.prog := FrmC.ok_ev (n := 20000) dt_ok (by kernel_rfl) (by kernel_rfl)
def s3 : FrmC := ⟨57, [.agg #[vi (2), vi (0), vi (0), vi (2), .bool true], .agg #[vi (0), vi (0), vi (0), vi (0), vi (0), vi (0), vi (0), vi (0)]], [], .slice (some ⟨2, 0, none⟩) 1 3, [], [.gone, .gone, .rw [vi (2), vi (0), vi (0), vi (2), .bool true, vi (0),
  vi (0), vi (0), vi (0), .bool false, vi (0), vi (0), vi (0), vi (0), .bool false] none]⟩
theorem sk3 : s3.Ok Try.prog := FrmC.ok_ev (n := 20000) dt_ok (by kernel_rfl) (by kernel_rfl)
def s6 : FrmC := ⟨57, [.agg #[vi (3), vi (0), vi (0), vi (1), .bool true], .agg #[vi (1), vi (0), vi (0), vi (0), vi (0), vi (0), vi (0), vi (1)]], [], .slice (some ⟨2, 0, none⟩) 3 3, [], [.gone, .gone, .rw [vi (4), vi (0), vi (0), vi (0), .bool true, vi (3),
  vi (1), vi (0), vi (0), .bool false, vi (3), vi (0), vi (1), vi (0), .bool false] none]⟩
theorem sk6 : s6.Ok Try.prog := FrmC.ok_ev (n := 20000) dt_ok (by kernel_rfl) (by kernel_rfl)
def s9 : FrmC := ⟨57, [.agg #[vi (0), vi (3), vi (0), vi (0), .bool false], .agg #[vi (0), vi (0), vi (0), vi (0), vi (0), vi (0), vi (0), vi (0)]], [], .slice (some ⟨2, 0, none⟩) 1 3, [], [.gone, .gone, .rw [vi (0), vi (3), vi (0), vi (0), .bool false, vi (0),
  vi (0), vi (0), vi (0), .bool false, vi (0), vi (0), vi (0), vi (0), .bool false] none]⟩
theorem sk9 : s9.Ok Try.prog := FrmC.ok_ev (n := 20000) dt_ok (by kernel_rfl) (by kernel_rfl)
def s12 : FrmC := ⟨57, [.agg #[vi (0), vi (0), vi (0), vi (2), .bool false], .agg #[vi (0), vi (0), vi (0), vi (1), vi (0), vi (0), vi (0), vi (1)]], [], .slice (some ⟨2, 0, none⟩) 2 3, [], [.gone, .gone, .rw [vi (0), vi (1), vi (1), vi (0), .bool false, vi (0),
  vi (1), vi (1), vi (0), .bool false, vi (0), vi (0), vi (0), vi (0), .bool false] none]⟩
theorem sk12 : s12.Ok Try.prog := FrmC.ok_ev (n := 20000) dt_ok (by kernel_rfl) (by kernel_rfl)
def s15 : FrmC := ⟨57, [.agg #[vi (0), vi (1), vi (1), vi (0), .bool false], .agg #[vi (0), vi (1), vi (0), vi (0), vi (0), vi (0), vi (1), vi (0)]], [], .slice (some ⟨2, 0, none⟩) 1 3, [], [.gone, .gone, .rw [vi (0), vi (1), vi (1), vi (0), .bool false, vi (0),
  vi (0), vi (0), vi (0), .bool false, vi (0), vi (0), vi (0), vi (0), .bool false] none]⟩
theorem sk15 : s15.Ok Try.prog := FrmC.ok_ev (n := 20000) dt_ok (by kernel_rfl) (by kernel_rfl)
def s18 : FrmC := ⟨57, [.agg #[vi (2), vi (0), vi (0), vi (1), .bool false], .agg #[vi (1), vi (0), vi (0), vi (0), vi (0), vi (0), vi (0), vi (1)]], [], .slice (some ⟨2, 0, none⟩) 2 3, [], [.gone, .gone, .rw [vi (2), vi (1), vi (0), vi (0), .bool false, vi (2),
  vi (0), vi (1), vi (0), .bool false, vi (0), vi (0), vi (0), vi (0), .bool false] none]⟩
theorem sk18 : s18.Ok Try.prog := FrmC.ok_ev (n := 20000) dt_ok (by kernel_rfl) (by kernel_rfl)
def s21 : FrmC := ⟨61, [.agg #[.slice (some ⟨0, 0, none⟩) 3 3, .bool false]], [.rw [vi (0), vi (1), vi (0)] none], vi (0), [.rw [vi (0), vi (1), vi (0)] none], []⟩
theorem sk21 : s21.Ok Try.prog := FrmC.ok_ev (n := 20000) dt_ok (by kernel_rfl) (by kernel_rfl)
end Go.Pier.SlgK
