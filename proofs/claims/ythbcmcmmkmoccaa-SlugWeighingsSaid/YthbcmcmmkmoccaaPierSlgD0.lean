import Derived.Test.YthbcmcmmkmoccaaPierKW3
import Derived.Test.YthbcmcmmkmoccaaPierSlgM
set_option linter.unusedSimpArgs false
set_option linter.unusedVariables false
namespace Go.Pier.SlgK
open Go Go.Pier Go.Proofs
def d0 : FrmC := ⟨53, [.agg #[.slice (some ⟨0, 0, none⟩) 4 4, .bool true]], [.rw [vi (3), vi (3), vi (3), vi (3)] none], .agg #[vi (0), vi (0), vi (0), vi (4), .bool true], [.rw [vi (3), vi (3), vi (3), vi (3)] none], []⟩
theorem dk0 : d0.Ok Try.prog := FrmC.ok_ev (n := 20000) mt_ok (by kernel_rfl) (by kernel_rfl)
def d4 : FrmC := ⟨71, [.agg #[vi (0), vi (0), vi (0), vi (4), .bool true], .agg #[vi (0), vi (0), vi (0), vi (1)], .agg #[vi (0), vi (0), vi (0), vi (1)]], [], .agg #[vi (2), vi (1), vi (1), vi (0), .bool false], [], []⟩
theorem dk4 : d4.Ok Try.prog := FrmC.ok_ev (n := 20000) mt_ok (by kernel_rfl) (by kernel_rfl)
def d8 : FrmC := ⟨71, [.agg #[vi (2), vi (0), vi (0), vi (2), .bool true], .agg #[vi (0), vi (0), vi (0), vi (0)], .agg #[vi (0), vi (0), vi (0), vi (0)]], [], .agg #[vi (4), vi (0), vi (0), vi (0), .bool false], [], []⟩
theorem dk8 : d8.Ok Try.prog := FrmC.ok_ev (n := 20000) mt_ok (by kernel_rfl) (by kernel_rfl)
def d12 : FrmC := ⟨70, [.agg #[vi (3), vi (0), vi (0), vi (1), .bool true], .agg #[vi (0), vi (0), vi (0), vi (0), vi (0), vi (0), vi (0), vi (0)]], [], .agg #[vi (3), vi (0), vi (0), vi (1), .bool true], [], []⟩
theorem dk12 : d12.Ok Try.prog := FrmC.ok_ev (n := 20000) mt_ok (by kernel_rfl) (by kernel_rfl)
def d16 : FrmC := ⟨71, [.agg #[vi (3), vi (0), vi (0), vi (1), .bool true], .agg #[vi (0), vi (0), vi (0), vi (1)], .agg #[vi (1), vi (0), vi (0), vi (0)]], [], .agg #[vi (3), vi (0), vi (1), vi (0), .bool false], [], []⟩
theorem dk16 : d16.Ok Try.prog := FrmC.ok_ev (n := 20000) mt_ok (by kernel_rfl) (by kernel_rfl)
def d20 : FrmC := ⟨71, [.agg #[vi (2), vi (1), vi (1), vi (0), .bool false], .agg #[vi (1), vi (0), vi (0), vi (0)], .agg #[vi (0), vi (0), vi (1), vi (0)]], [], .agg #[vi (4), vi (0), vi (0), vi (0), .bool false], [], []⟩
theorem dk20 : d20.Ok Try.prog := FrmC.ok_ev (n := 20000) mt_ok (by kernel_rfl) (by kernel_rfl)
def d24 : FrmC := ⟨71, [.agg #[vi (0), vi (3), vi (0), vi (0), .bool false], .agg #[vi (0), vi (0), vi (0), vi (0)], .agg #[vi (0), vi (0), vi (0), vi (0)]], [], .agg #[vi (3), vi (0), vi (0), vi (0), .bool false], [], []⟩
theorem dk24 : d24.Ok Try.prog := FrmC.ok_ev (n := 20000) mt_ok (by kernel_rfl) (by kernel_rfl)
def d28 : FrmC := ⟨70, [.agg #[vi (0), vi (0), vi (0), vi (2), .bool false], .agg #[vi (0), vi (0), vi (0), vi (0), vi (0), vi (0), vi (0), vi (0)]], [], .agg #[vi (0), vi (0), vi (0), vi (2), .bool false], [], []⟩
theorem dk28 : d28.Ok Try.prog := FrmC.ok_ev (n := 20000) mt_ok (by kernel_rfl) (by kernel_rfl)
def d32 : FrmC := ⟨70, [.agg #[vi (0), vi (1), vi (1), vi (0), .bool false], .agg #[vi (0), vi (0), vi (0), vi (0), vi (0), vi (0), vi (0), vi (0)]], [], .agg #[vi (0), vi (1), vi (1), vi (0), .bool false], [], []⟩
theorem dk32 : d32.Ok Try.prog := FrmC.ok_ev (n := 20000) mt_ok (by kernel_rfl) (by kernel_rfl)
def d36 : FrmC := ⟨71, [.agg #[vi (0), vi (1), vi (1), vi (0), .bool false], .agg #[vi (0), vi (1), vi (0), vi (0)], .agg #[vi (0), vi (0), vi (1), vi (0)]], [], .agg #[vi (2), vi (0), vi (0), vi (0), .bool false], [], []⟩
theorem dk36 : d36.Ok Try.prog := FrmC.ok_ev (n := 20000) mt_ok (by kernel_rfl) (by kernel_rfl)
def d40 : FrmC := ⟨71, [.agg #[vi (1), vi (0), vi (0), vi (2), .bool false], .agg #[vi (0), vi (0), vi (0), vi (1)], .agg #[vi (1), vi (0), vi (0), vi (0)]], [], .agg #[vi (2), vi (0), vi (1), vi (0), .bool false], [], []⟩
theorem dk40 : d40.Ok Try.prog := FrmC.ok_ev (n := 20000) mt_ok (by kernel_rfl) (by kernel_rfl)
def d44 : FrmC := ⟨70, [.agg #[vi (2), vi (0), vi (0), vi (1), .bool false], .agg #[vi (1), vi (0), vi (0), vi (0), vi (0), vi (0), vi (0), vi (1)]], [], .agg #[vi (3), vi (0), vi (0), vi (0), .bool false], [], []⟩
theorem dk44 : d44.Ok Try.prog := FrmC.ok_ev (n := 20000) mt_ok (by kernel_rfl) (by kernel_rfl)
end Go.Pier.SlgK
