import Derived.Test.YthbcmcmmkmoccaaPierKW3
import Derived.Test.YthbcmcmmkmoccaaPierSlgM
set_option linter.unusedSimpArgs false
set_option linter.unusedVariables false
namespace Go.Pier.SlgK
open Go Go.Pier Go.Proofs
def d2 : FrmC := ⟨71, [.agg #[vi (0), vi (0), vi (0), vi (4), .bool true], .agg #[vi (0), vi (0), vi (0), vi (0)], .agg #[vi (0), vi (0), vi (0), vi (0)]], [], .agg #[vi (4), vi (0), vi (0), vi (0), .bool false], [], []⟩
theorem dk2 : d2.Ok Try.prog := FrmC.ok_ev (n := 20000) mt_ok (by kernel_rfl) (by kernel_rfl)
def d6 : FrmC := ⟨71, [.agg #[vi (0), vi (0), vi (0), vi (4), .bool true], .agg #[vi (0), vi (0), vi (0), vi (2)], .agg #[vi (0), vi (0), vi (0), vi (2)]], [], .agg #[vi (0), vi (2), vi (2), vi (0), .bool false], [], []⟩
theorem dk6 : d6.Ok Try.prog := FrmC.ok_ev (n := 20000) mt_ok (by kernel_rfl) (by kernel_rfl)
def d10 : FrmC := ⟨71, [.agg #[vi (2), vi (0), vi (0), vi (2), .bool true], .agg #[vi (1), vi (0), vi (0), vi (0)], .agg #[vi (0), vi (0), vi (0), vi (1)]], [], .agg #[vi (3), vi (1), vi (0), vi (0), .bool false], [], []⟩
theorem dk10 : d10.Ok Try.prog := FrmC.ok_ev (n := 20000) mt_ok (by kernel_rfl) (by kernel_rfl)
def d14 : FrmC := ⟨70, [.agg #[vi (3), vi (0), vi (0), vi (1), .bool true], .agg #[vi (1), vi (0), vi (0), vi (0), vi (0), vi (0), vi (0), vi (1)]], [], .agg #[vi (4), vi (0), vi (0), vi (0), .bool true], [], []⟩
theorem dk14 : d14.Ok Try.prog := FrmC.ok_ev (n := 20000) mt_ok (by kernel_rfl) (by kernel_rfl)
def d18 : FrmC := ⟨71, [.agg #[vi (2), vi (1), vi (1), vi (0), .bool false], .agg #[vi (0), vi (0), vi (0), vi (0)], .agg #[vi (0), vi (0), vi (0), vi (0)]], [], .agg #[vi (4), vi (0), vi (0), vi (0), .bool false], [], []⟩
theorem dk18 : d18.Ok Try.prog := FrmC.ok_ev (n := 20000) mt_ok (by kernel_rfl) (by kernel_rfl)
def d22 : FrmC := ⟨53, [.agg #[.slice (some ⟨0, 0, none⟩) 3 3, .bool false]], [.rw [vi (1), vi (1), vi (1)] none], .agg #[vi (0), vi (3), vi (0), vi (0), .bool false], [.rw [vi (1), vi (1), vi (1)] none], []⟩
theorem dk22 : d22.Ok Try.prog := FrmC.ok_ev (n := 20000) mt_ok (by kernel_rfl) (by kernel_rfl)
def d26 : FrmC := ⟨71, [.agg #[vi (0), vi (3), vi (0), vi (0), .bool false], .agg #[vi (0), vi (1), vi (0), vi (0)], .agg #[vi (0), vi (1), vi (0), vi (0)]], [], .agg #[vi (2), vi (1), vi (0), vi (0), .bool false], [], []⟩
theorem dk26 : d26.Ok Try.prog := FrmC.ok_ev (n := 20000) mt_ok (by kernel_rfl) (by kernel_rfl)
def d30 : FrmC := ⟨70, [.agg #[vi (0), vi (0), vi (0), vi (2), .bool false], .agg #[vi (0), vi (0), vi (0), vi (1), vi (0), vi (0), vi (0), vi (1)]], [], .agg #[vi (2), vi (0), vi (0), vi (0), .bool false], [], []⟩
theorem dk30 : d30.Ok Try.prog := FrmC.ok_ev (n := 20000) mt_ok (by kernel_rfl) (by kernel_rfl)
def d34 : FrmC := ⟨70, [.agg #[vi (0), vi (1), vi (1), vi (0), .bool false], .agg #[vi (0), vi (0), vi (1), vi (0), vi (0), vi (1), vi (0), vi (0)]], [], .agg #[vi (2), vi (0), vi (0), vi (0), .bool false], [], []⟩
theorem dk34 : d34.Ok Try.prog := FrmC.ok_ev (n := 20000) mt_ok (by kernel_rfl) (by kernel_rfl)
def d38 : FrmC := ⟨53, [.agg #[.slice (some ⟨0, 0, none⟩) 3 3, .bool false]], [.rw [vi (3), vi (3), vi (0)] none], .agg #[vi (1), vi (0), vi (0), vi (2), .bool false], [.rw [vi (3), vi (3), vi (0)] none], []⟩
theorem dk38 : d38.Ok Try.prog := FrmC.ok_ev (n := 20000) mt_ok (by kernel_rfl) (by kernel_rfl)
def d42 : FrmC := ⟨70, [.agg #[vi (2), vi (0), vi (0), vi (1), .bool false], .agg #[vi (0), vi (0), vi (0), vi (0), vi (0), vi (0), vi (0), vi (0)]], [], .agg #[vi (2), vi (0), vi (0), vi (1), .bool false], [], []⟩
theorem dk42 : d42.Ok Try.prog := FrmC.ok_ev (n := 20000) mt_ok (by kernel_rfl) (by kernel_rfl)
def d46 : FrmC := ⟨71, [.agg #[vi (2), vi (0), vi (0), vi (1), .bool false], .agg #[vi (0), vi (0), vi (0), vi (1)], .agg #[vi (1), vi (0), vi (0), vi (0)]], [], .agg #[vi (2), vi (0), vi (1), vi (0), .bool false], [], []⟩
theorem dk46 : d46.Ok Try.prog := FrmC.ok_ev (n := 20000) mt_ok (by kernel_rfl) (by kernel_rfl)
end Go.Pier.SlgK
