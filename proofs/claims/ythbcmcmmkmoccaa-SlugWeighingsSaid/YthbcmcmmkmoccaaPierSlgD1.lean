import Derived.Test.YthbcmcmmkmoccaaPierKW3
import Derived.Test.YthbcmcmmkmoccaaPierSlgM
set_option linter.unusedSimpArgs false
set_option linter.unusedVariables false
namespace Go.Pier.SlgK
open Go Go.Pier Go.Proofs
def d1 : FrmC := ⟨70, [.agg #[vi (0), vi (0), vi (0), vi (4), .bool true], .agg #[vi (0), vi (0), vi (0), vi (0), vi (0), vi (0), vi (0), vi (0)]], [], .agg #[vi (0), vi (0), vi (0), vi (4), .bool true], [], []⟩
theorem dk1 : d1.Ok Try.prog := FrmC.ok_ev (n := 20000) mt_ok (by kernel_rfl) (by kernel_rfl)
def d5 : FrmC := ⟨70, [.agg #[vi (0), vi (0), vi (0), vi (4), .bool true], .agg #[vi (0), vi (0), vi (0), vi (2), vi (0), vi (0), vi (0), vi (2)]], [], .agg #[vi (4), vi (0), vi (0), vi (0), .bool true], [], []⟩
theorem dk5 : d5.Ok Try.prog := FrmC.ok_ev (n := 20000) mt_ok (by kernel_rfl) (by kernel_rfl)
def d9 : FrmC := ⟨70, [.agg #[vi (2), vi (0), vi (0), vi (2), .bool true], .agg #[vi (1), vi (0), vi (0), vi (0), vi (0), vi (0), vi (0), vi (1)]], [], .agg #[vi (3), vi (0), vi (0), vi (1), .bool true], [], []⟩
theorem dk9 : d9.Ok Try.prog := FrmC.ok_ev (n := 20000) mt_ok (by kernel_rfl) (by kernel_rfl)
def d13 : FrmC := ⟨71, [.agg #[vi (3), vi (0), vi (0), vi (1), .bool true], .agg #[vi (0), vi (0), vi (0), vi (0)], .agg #[vi (0), vi (0), vi (0), vi (0)]], [], .agg #[vi (4), vi (0), vi (0), vi (0), .bool false], [], []⟩
theorem dk13 : d13.Ok Try.prog := FrmC.ok_ev (n := 20000) mt_ok (by kernel_rfl) (by kernel_rfl)
def d17 : FrmC := ⟨70, [.agg #[vi (2), vi (1), vi (1), vi (0), .bool false], .agg #[vi (0), vi (0), vi (0), vi (0), vi (0), vi (0), vi (0), vi (0)]], [], .agg #[vi (2), vi (1), vi (1), vi (0), .bool false], [], []⟩
theorem dk17 : d17.Ok Try.prog := FrmC.ok_ev (n := 20000) mt_ok (by kernel_rfl) (by kernel_rfl)
def d21 : FrmC := ⟨71, [.agg #[vi (2), vi (1), vi (1), vi (0), .bool false], .agg #[vi (0), vi (0), vi (1), vi (0)], .agg #[vi (1), vi (0), vi (0), vi (0)]], [], .agg #[vi (3), vi (0), vi (1), vi (0), .bool false], [], []⟩
theorem dk21 : d21.Ok Try.prog := FrmC.ok_ev (n := 20000) mt_ok (by kernel_rfl) (by kernel_rfl)
def d25 : FrmC := ⟨70, [.agg #[vi (0), vi (3), vi (0), vi (0), .bool false], .agg #[vi (0), vi (1), vi (0), vi (0), vi (0), vi (1), vi (0), vi (0)]], [], .agg #[vi (2), vi (1), vi (0), vi (0), .bool false], [], []⟩
theorem dk25 : d25.Ok Try.prog := FrmC.ok_ev (n := 20000) mt_ok (by kernel_rfl) (by kernel_rfl)
def d29 : FrmC := ⟨71, [.agg #[vi (0), vi (0), vi (0), vi (2), .bool false], .agg #[vi (0), vi (0), vi (0), vi (0)], .agg #[vi (0), vi (0), vi (0), vi (0)]], [], .agg #[vi (2), vi (0), vi (0), vi (0), .bool false], [], []⟩
theorem dk29 : d29.Ok Try.prog := FrmC.ok_ev (n := 20000) mt_ok (by kernel_rfl) (by kernel_rfl)
def d33 : FrmC := ⟨71, [.agg #[vi (0), vi (1), vi (1), vi (0), .bool false], .agg #[vi (0), vi (0), vi (0), vi (0)], .agg #[vi (0), vi (0), vi (0), vi (0)]], [], .agg #[vi (2), vi (0), vi (0), vi (0), .bool false], [], []⟩
theorem dk33 : d33.Ok Try.prog := FrmC.ok_ev (n := 20000) mt_ok (by kernel_rfl) (by kernel_rfl)
def d37 : FrmC := ⟨70, [.agg #[vi (0), vi (1), vi (1), vi (0), .bool false], .agg #[vi (0), vi (1), vi (0), vi (0), vi (0), vi (0), vi (1), vi (0)]], [], .agg #[vi (2), vi (0), vi (0), vi (0), .bool false], [], []⟩
theorem dk37 : d37.Ok Try.prog := FrmC.ok_ev (n := 20000) mt_ok (by kernel_rfl) (by kernel_rfl)
def d41 : FrmC := ⟨71, [.agg #[vi (1), vi (0), vi (0), vi (2), .bool false], .agg #[vi (1), vi (0), vi (0), vi (0)], .agg #[vi (0), vi (0), vi (0), vi (1)]], [], .agg #[vi (2), vi (1), vi (0), vi (0), .bool false], [], []⟩
theorem dk41 : d41.Ok Try.prog := FrmC.ok_ev (n := 20000) mt_ok (by kernel_rfl) (by kernel_rfl)
def d45 : FrmC := ⟨71, [.agg #[vi (2), vi (0), vi (0), vi (1), .bool false], .agg #[vi (1), vi (0), vi (0), vi (0)], .agg #[vi (0), vi (0), vi (0), vi (1)]], [], .agg #[vi (2), vi (1), vi (0), vi (0), .bool false], [], []⟩
theorem dk45 : d45.Ok Try.prog := FrmC.ok_ev (n := 20000) mt_ok (by kernel_rfl) (by kernel_rfl)
end Go.Pier.SlgK
