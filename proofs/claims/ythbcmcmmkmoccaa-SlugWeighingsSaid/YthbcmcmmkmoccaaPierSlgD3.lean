import Derived.Test.YthbcmcmmkmoccaaPierKW3
import Derived.Test.YthbcmcmmkmoccaaPierSlgM
set_option linter.unusedSimpArgs false
set_option linter.unusedVariables false
namespace Go.Pier.SlgK
open Go Go.Pier Go.Proofs
def d3 : FrmC := ⟨70, [.agg #[vi (0), vi (0), vi (0), vi (4), .bool true], .agg #[vi (0), vi (0), vi (0), vi (1), vi (0), vi (0), vi (0), vi (1)]], [], .agg #[vi (2), vi (0), vi (0), vi (2), .bool true], [], []⟩
theorem dk3 : d3.Ok Try.prog := FrmC.ok_ev (n := 20000) mt_ok (by kernel_rfl) (by kernel_rfl)
def d7 : FrmC := ⟨70, [.agg #[vi (2), vi (0), vi (0), vi (2), .bool true], .agg #[vi (0), vi (0), vi (0), vi (0), vi (0), vi (0), vi (0), vi (0)]], [], .agg #[vi (2), vi (0), vi (0), vi (2), .bool true], [], []⟩
theorem dk7 : d7.Ok Try.prog := FrmC.ok_ev (n := 20000) mt_ok (by kernel_rfl) (by kernel_rfl)
def d11 : FrmC := ⟨71, [.agg #[vi (2), vi (0), vi (0), vi (2), .bool true], .agg #[vi (0), vi (0), vi (0), vi (1)], .agg #[vi (1), vi (0), vi (0), vi (0)]], [], .agg #[vi (3), vi (0), vi (1), vi (0), .bool false], [], []⟩
theorem dk11 : d11.Ok Try.prog := FrmC.ok_ev (n := 20000) mt_ok (by kernel_rfl) (by kernel_rfl)
def d15 : FrmC := ⟨71, [.agg #[vi (3), vi (0), vi (0), vi (1), .bool true], .agg #[vi (1), vi (0), vi (0), vi (0)], .agg #[vi (0), vi (0), vi (0), vi (1)]], [], .agg #[vi (3), vi (1), vi (0), vi (0), .bool false], [], []⟩
theorem dk15 : d15.Ok Try.prog := FrmC.ok_ev (n := 20000) mt_ok (by kernel_rfl) (by kernel_rfl)
def d19 : FrmC := ⟨70, [.agg #[vi (2), vi (1), vi (1), vi (0), .bool false], .agg #[vi (1), vi (0), vi (0), vi (0), vi (0), vi (0), vi (1), vi (0)]], [], .agg #[vi (3), vi (1), vi (0), vi (0), .bool false], [], []⟩
theorem dk19 : d19.Ok Try.prog := FrmC.ok_ev (n := 20000) mt_ok (by kernel_rfl) (by kernel_rfl)
def d23 : FrmC := ⟨70, [.agg #[vi (0), vi (3), vi (0), vi (0), .bool false], .agg #[vi (0), vi (0), vi (0), vi (0), vi (0), vi (0), vi (0), vi (0)]], [], .agg #[vi (0), vi (3), vi (0), vi (0), .bool false], [], []⟩
theorem dk23 : d23.Ok Try.prog := FrmC.ok_ev (n := 20000) mt_ok (by kernel_rfl) (by kernel_rfl)
def d27 : FrmC := ⟨53, [.agg #[.slice (some ⟨0, 0, none⟩) 2 2, .bool false]], [.rw [vi (3), vi (3)] none], .agg #[vi (0), vi (0), vi (0), vi (2), .bool false], [.rw [vi (3), vi (3)] none], []⟩
theorem dk27 : d27.Ok Try.prog := FrmC.ok_ev (n := 20000) mt_ok (by kernel_rfl) (by kernel_rfl)
def d31 : FrmC := ⟨71, [.agg #[vi (0), vi (0), vi (0), vi (2), .bool false], .agg #[vi (0), vi (0), vi (0), vi (1)], .agg #[vi (0), vi (0), vi (0), vi (1)]], [], .agg #[vi (0), vi (1), vi (1), vi (0), .bool false], [], []⟩
theorem dk31 : d31.Ok Try.prog := FrmC.ok_ev (n := 20000) mt_ok (by kernel_rfl) (by kernel_rfl)
def d35 : FrmC := ⟨71, [.agg #[vi (0), vi (1), vi (1), vi (0), .bool false], .agg #[vi (0), vi (0), vi (1), vi (0)], .agg #[vi (0), vi (1), vi (0), vi (0)]], [], .agg #[vi (0), vi (1), vi (1), vi (0), .bool false], [], []⟩
theorem dk35 : d35.Ok Try.prog := FrmC.ok_ev (n := 20000) mt_ok (by kernel_rfl) (by kernel_rfl)
def d39 : FrmC := ⟨70, [.agg #[vi (1), vi (0), vi (0), vi (2), .bool false], .agg #[vi (0), vi (0), vi (0), vi (1), vi (1), vi (0), vi (0), vi (0)]], [], .agg #[vi (2), vi (0), vi (0), vi (1), .bool false], [], []⟩
theorem dk39 : d39.Ok Try.prog := FrmC.ok_ev (n := 20000) mt_ok (by kernel_rfl) (by kernel_rfl)
def d43 : FrmC := ⟨71, [.agg #[vi (2), vi (0), vi (0), vi (1), .bool false], .agg #[vi (0), vi (0), vi (0), vi (0)], .agg #[vi (0), vi (0), vi (0), vi (0)]], [], .agg #[vi (3), vi (0), vi (0), vi (0), .bool false], [], []⟩
theorem dk43 : d43.Ok Try.prog := FrmC.ok_ev (n := 20000) mt_ok (by kernel_rfl) (by kernel_rfl)
end Go.Pier.SlgK
