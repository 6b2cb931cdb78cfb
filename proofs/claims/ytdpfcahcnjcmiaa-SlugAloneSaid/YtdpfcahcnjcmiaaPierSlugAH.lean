import Derived.Test.YtdpfcahcnjcmiaaPierMA2
import Derived.Test.YtdpfcahcnjcmiaaPierSlugAH1
set_option linter.unusedSimpArgs false
set_option linter.unusedVariables false
namespace Go.Pier.SlugK
open Go Go.Pier Go.Proofs
def mb21 : MapC := ⟨92, [.agg #[vi (2), vi (0), vi (9), vi (0), .bool false], vi (2)], [⟨.agg #[vi (0), vi (0), vi (11), vi (0), .bool false], vi (3), 0⟩], 1, .bool true, [⟨.agg #[vi (0), vi (0), vi (11), vi (0), .bool false], vi (3), 0⟩, ⟨.agg #[vi (2), vi (0), vi (9), vi (0), .bool false], vi (2), 1⟩, ⟨.agg #[vi (8), vi (0), vi (3), vi (0), .bool false], vi (1), 2⟩], 3⟩
theorem mbk21 : mb21.Ok Try.prog := MapC.ok_ev (n := 20000) (mapTbl_ok mbo21 ts_ok) (by kernel_rfl) (by kernel_rfl)
def mbl22 : List MapC := mb21 :: mbl21
theorem mbo22 : ∀ p ∈ mbl22, p.Ok Try.prog := fun p h => (List.mem_cons.1 h).elim (fun e => e ▸ mbk21) (mbo21 p)
def mb22 : MapC := ⟨92, [.agg #[vi (0), vi (0), vi (11), vi (0), .bool false], vi (3)], [], 0, .bool true, [⟨.agg #[vi (0), vi (0), vi (11), vi (0), .bool false], vi (3), 0⟩, ⟨.agg #[vi (2), vi (0), vi (9), vi (0), .bool false], vi (2), 1⟩, ⟨.agg #[vi (8), vi (0), vi (3), vi (0), .bool false], vi (1), 2⟩], 3⟩
theorem mbk22 : mb22.Ok Try.prog := MapC.ok_ev (n := 20000) (mapTbl_ok mbo22 ts_ok) (by kernel_rfl) (by kernel_rfl)
def mbl23 : List MapC := mb22 :: mbl22
theorem mbo23 : ∀ p ∈ mbl23, p.Ok Try.prog := fun p h => (List.mem_cons.1 h).elim (fun e => e ▸ mbk22) (mbo22 p)
def mb23 : MapC := ⟨92, [.agg #[vi (9), vi (0), vi (3), vi (0), .bool false], vi (1)], [⟨.agg #[vi (0), vi (0), vi (12), vi (0), .bool false], vi (3), 0⟩, ⟨.agg #[vi (4), vi (0), vi (8), vi (0), .bool false], vi (2), 1⟩], 2, .bool true, [⟨.agg #[vi (0), vi (0), vi (12), vi (0), .bool false], vi (3), 0⟩, ⟨.agg #[vi (4), vi (0), vi (8), vi (0), .bool false], vi (2), 1⟩, ⟨.agg #[vi (9), vi (0), vi (3), vi (0), .bool false], vi (1), 2⟩], 3⟩
theorem mbk23 : mb23.Ok Try.prog := MapC.ok_ev (n := 20000) (mapTbl_ok mbo23 ts_ok) (by kernel_rfl) (by kernel_rfl)
def mbl24 : List MapC := mb23 :: mbl23
theorem mbo24 : ∀ p ∈ mbl24, p.Ok Try.prog := fun p h => (List.mem_cons.1 h).elim (fun e => e ▸ mbk23) (mbo23 p)
def mb24 : MapC := ⟨92, [.agg #[vi (10), vi (0), vi (2), vi (0), .bool false], vi (1)], [⟨.agg #[vi (0), vi (0), vi (12), vi (0), .bool false], vi (3), 0⟩, ⟨.agg #[vi (4), vi (0), vi (8), vi (0), .bool false], vi (2), 1⟩, ⟨.agg #[vi (9), vi (0), vi (3), vi (0), .bool false], vi (1), 2⟩], 3, .bool true, [⟨.agg #[vi (0), vi (0), vi (12), vi (0), .bool false], vi (3), 0⟩, ⟨.agg #[vi (4), vi (0), vi (8), vi (0), .bool false], vi (2), 1⟩, ⟨.agg #[vi (9), vi (0), vi (3), vi (0), .bool false], vi (1), 2⟩, ⟨.agg #[vi (10), vi (0), vi (2), vi (0), .bool false], vi (1), 3⟩], 4⟩
theorem mbk24 : mb24.Ok Try.prog := MapC.ok_ev (n := 20000) (mapTbl_ok mbo24 ts_ok) (by kernel_rfl) (by kernel_rfl)
def mbl25 : List MapC := mb24 :: mbl24
theorem mbo25 : ∀ p ∈ mbl25, p.Ok Try.prog := fun p h => (List.mem_cons.1 h).elim (fun e => e ▸ mbk24) (mbo24 p)
def mb25 : MapC := ⟨92, [.agg #[vi (4), vi (0), vi (8), vi (0), .bool false], vi (2)], [⟨.agg #[vi (0), vi (0), vi (12), vi (0), .bool false], vi (3), 0⟩], 1, .bool true, [⟨.agg #[vi (0), vi (0), vi (12), vi (0), .bool false], vi (3), 0⟩, ⟨.agg #[vi (4), vi (0), vi (8), vi (0), .bool false], vi (2), 1⟩, ⟨.agg #[vi (9), vi (0), vi (3), vi (0), .bool false], vi (1), 2⟩, ⟨.agg #[vi (10), vi (0), vi (2), vi (0), .bool false], vi (1), 3⟩], 4⟩
theorem mbk25 : mb25.Ok Try.prog := MapC.ok_ev (n := 20000) (mapTbl_ok mbo25 ts_ok) (by kernel_rfl) (by kernel_rfl)
def mbl26 : List MapC := mb25 :: mbl25
theorem mbo26 : ∀ p ∈ mbl26, p.Ok Try.prog := fun p h => (List.mem_cons.1 h).elim (fun e => e ▸ mbk25) (mbo25 p)
def mb26 : MapC := ⟨92, [.agg #[vi (0), vi (0), vi (12), vi (0), .bool false], vi (3)], [], 0, .bool true, [⟨.agg #[vi (0), vi (0), vi (12), vi (0), .bool false], vi (3), 0⟩, ⟨.agg #[vi (4), vi (0), vi (8), vi (0), .bool false], vi (2), 1⟩, ⟨.agg #[vi (9), vi (0), vi (3), vi (0), .bool false], vi (1), 2⟩, ⟨.agg #[vi (10), vi (0), vi (2), vi (0), .bool false], vi (1), 3⟩], 4⟩
theorem mbk26 : mb26.Ok Try.prog := MapC.ok_ev (n := 20000) (mapTbl_ok mbo26 ts_ok) (by kernel_rfl) (by kernel_rfl)
def mbl27 : List MapC := mb26 :: mbl26
theorem mbo27 : ∀ p ∈ mbl27, p.Ok Try.prog := fun p h => (List.mem_cons.1 h).elim (fun e => e ▸ mbk26) (mbo26 p)
noncomputable def mbt : Tbl := mapTbl mbl27 ts
theorem mbt_ok : TblOk Try.prog mbt := mapTbl_ok mbo27 ts_ok
end Go.Pier.SlugK
