import Derived.Test.YtdpfcahcnjcmiaaPierMA2
import Derived.Test.YtdpfcahcnjcmiaaPierSlugAH0
set_option linter.unusedSimpArgs false
set_option linter.unusedVariables false
namespace Go.Pier.SlugK
open Go Go.Pier Go.Proofs
def mb14 : MapC := ⟨92, [.agg #[vi (6), vi (0), vi (3), vi (0), .bool false], vi (1)], [⟨.agg #[vi (0), vi (0), vi (9), vi (0), .bool false], vi (2), 0⟩], 1, .bool true, [⟨.agg #[vi (0), vi (0), vi (9), vi (0), .bool false], vi (2), 0⟩, ⟨.agg #[vi (6), vi (0), vi (3), vi (0), .bool false], vi (1), 1⟩], 2⟩
theorem mbk14 : mb14.Ok Try.prog := MapC.ok_ev (n := 20000) (mapTbl_ok mbo14 ts_ok) (by kernel_rfl) (by kernel_rfl)
def mbl15 : List MapC := mb14 :: mbl14
theorem mbo15 : ∀ p ∈ mbl15, p.Ok Try.prog := fun p h => (List.mem_cons.1 h).elim (fun e => e ▸ mbk14) (mbo14 p)
def mb15 : MapC := ⟨92, [.agg #[vi (0), vi (0), vi (9), vi (0), .bool false], vi (2)], [], 0, .bool true, [⟨.agg #[vi (0), vi (0), vi (9), vi (0), .bool false], vi (2), 0⟩, ⟨.agg #[vi (6), vi (0), vi (3), vi (0), .bool false], vi (1), 1⟩], 2⟩
theorem mbk15 : mb15.Ok Try.prog := MapC.ok_ev (n := 20000) (mapTbl_ok mbo15 ts_ok) (by kernel_rfl) (by kernel_rfl)
def mbl16 : List MapC := mb15 :: mbl15
theorem mbo16 : ∀ p ∈ mbl16, p.Ok Try.prog := fun p h => (List.mem_cons.1 h).elim (fun e => e ▸ mbk15) (mbo15 p)
def mb16 : MapC := ⟨92, [.agg #[vi (7), vi (0), vi (3), vi (0), .bool false], vi (1)], [⟨.agg #[vi (0), vi (0), vi (10), vi (0), .bool false], vi (3), 0⟩, ⟨.agg #[vi (2), vi (0), vi (8), vi (0), .bool false], vi (2), 1⟩], 2, .bool true, [⟨.agg #[vi (0), vi (0), vi (10), vi (0), .bool false], vi (3), 0⟩, ⟨.agg #[vi (2), vi (0), vi (8), vi (0), .bool false], vi (2), 1⟩, ⟨.agg #[vi (7), vi (0), vi (3), vi (0), .bool false], vi (1), 2⟩], 3⟩
theorem mbk16 : mb16.Ok Try.prog := MapC.ok_ev (n := 20000) (mapTbl_ok mbo16 ts_ok) (by kernel_rfl) (by kernel_rfl)
def mbl17 : List MapC := mb16 :: mbl16
theorem mbo17 : ∀ p ∈ mbl17, p.Ok Try.prog := fun p h => (List.mem_cons.1 h).elim (fun e => e ▸ mbk16) (mbo16 p)
def mb17 : MapC := ⟨92, [.agg #[vi (8), vi (0), vi (2), vi (0), .bool false], vi (1)], [⟨.agg #[vi (0), vi (0), vi (10), vi (0), .bool false], vi (3), 0⟩, ⟨.agg #[vi (2), vi (0), vi (8), vi (0), .bool false], vi (2), 1⟩, ⟨.agg #[vi (7), vi (0), vi (3), vi (0), .bool false], vi (1), 2⟩], 3, .bool true, [⟨.agg #[vi (0), vi (0), vi (10), vi (0), .bool false], vi (3), 0⟩, ⟨.agg #[vi (2), vi (0), vi (8), vi (0), .bool false], vi (2), 1⟩, ⟨.agg #[vi (7), vi (0), vi (3), vi (0), .bool false], vi (1), 2⟩, ⟨.agg #[vi (8), vi (0), vi (2), vi (0), .bool false], vi (1), 3⟩], 4⟩
theorem mbk17 : mb17.Ok Try.prog := MapC.ok_ev (n := 20000) (mapTbl_ok mbo17 ts_ok) (by kernel_rfl) (by kernel_rfl)
def mbl18 : List MapC := mb17 :: mbl17
theorem mbo18 : ∀ p ∈ mbl18, p.Ok Try.prog := fun p h => (List.mem_cons.1 h).elim (fun e => e ▸ mbk17) (mbo17 p)
def mb18 : MapC := ⟨92, [.agg #[vi (2), vi (0), vi (8), vi (0), .bool false], vi (2)], [⟨.agg #[vi (0), vi (0), vi (10), vi (0), .bool false], vi (3), 0⟩], 1, .bool true, [⟨.agg #[vi (0), vi (0), vi (10), vi (0), .bool false], vi (3), 0⟩, ⟨.agg #[vi (2), vi (0), vi (8), vi (0), .bool false], vi (2), 1⟩, ⟨.agg #[vi (7), vi (0), vi (3), vi (0), .bool false], vi (1), 2⟩, ⟨.agg #[vi (8), vi (0), vi (2), vi (0), .bool false], vi (1), 3⟩], 4⟩
theorem mbk18 : mb18.Ok Try.prog := MapC.ok_ev (n := 20000) (mapTbl_ok mbo18 ts_ok) (by kernel_rfl) (by kernel_rfl)
def mbl19 : List MapC := mb18 :: mbl18
theorem mbo19 : ∀ p ∈ mbl19, p.Ok Try.prog := fun p h => (List.mem_cons.1 h).elim (fun e => e ▸ mbk18) (mbo18 p)
def mb19 : MapC := ⟨92, [.agg #[vi (0), vi (0), vi (10), vi (0), .bool false], vi (3)], [], 0, .bool true, [⟨.agg #[vi (0), vi (0), vi (10), vi (0), .bool false], vi (3), 0⟩, ⟨.agg #[vi (2), vi (0), vi (8), vi (0), .bool false], vi (2), 1⟩, ⟨.agg #[vi (7), vi (0), vi (3), vi (0), .bool false], vi (1), 2⟩, ⟨.agg #[vi (8), vi (0), vi (2), vi (0), .bool false], vi (1), 3⟩], 4⟩
theorem mbk19 : mb19.Ok Try.prog := MapC.ok_ev (n := 20000) (mapTbl_ok mbo19 ts_ok) (by kernel_rfl) (by kernel_rfl)
def mbl20 : List MapC := mb19 :: mbl19
theorem mbo20 : ∀ p ∈ mbl20, p.Ok Try.prog := fun p h => (List.mem_cons.1 h).elim (fun e => e ▸ mbk19) (mbo19 p)
def mb20 : MapC := ⟨92, [.agg #[vi (8), vi (0), vi (3), vi (0), .bool false], vi (1)], [⟨.agg #[vi (0), vi (0), vi (11), vi (0), .bool false], vi (3), 0⟩, ⟨.agg #[vi (2), vi (0), vi (9), vi (0), .bool false], vi (2), 1⟩], 2, .bool true, [⟨.agg #[vi (0), vi (0), vi (11), vi (0), .bool false], vi (3), 0⟩, ⟨.agg #[vi (2), vi (0), vi (9), vi (0), .bool false], vi (2), 1⟩, ⟨.agg #[vi (8), vi (0), vi (3), vi (0), .bool false], vi (1), 2⟩], 3⟩
theorem mbk20 : mb20.Ok Try.prog := MapC.ok_ev (n := 20000) (mapTbl_ok mbo20 ts_ok) (by kernel_rfl) (by kernel_rfl)
def mbl21 : List MapC := mb20 :: mbl20
theorem mbo21 : ∀ p ∈ mbl21, p.Ok Try.prog := fun p h => (List.mem_cons.1 h).elim (fun e => e ▸ mbk20) (mbo20 p)
end Go.Pier.SlugK
