import Derived.Test.YtdpfcahcnjcmiaaPierMA2
import Derived.Test.YtdpfcahcnjcmiaaPierSlugAL1
set_option linter.unusedSimpArgs false
set_option linter.unusedVariables false
namespace Go.Pier.SlugK
open Go Go.Pier Go.Proofs
def ma21 : MapC := ⟨92, [.agg #[vi (2), vi (9), vi (0), vi (0), .bool false], vi (2)], [⟨.agg #[vi (0), vi (11), vi (0), vi (0), .bool false], vi (3), 0⟩], 1, .bool true, [⟨.agg #[vi (0), vi (11), vi (0), vi (0), .bool false], vi (3), 0⟩, ⟨.agg #[vi (2), vi (9), vi (0), vi (0), .bool false], vi (2), 1⟩, ⟨.agg #[vi (8), vi (3), vi (0), vi (0), .bool false], vi (1), 2⟩], 3⟩
theorem mak21 : ma21.Ok Try.prog := MapC.ok_ev (n := 20000) (mapTbl_ok mao21 ts_ok) (by kernel_rfl) (by kernel_rfl)
def mal22 : List MapC := ma21 :: mal21
theorem mao22 : ∀ p ∈ mal22, p.Ok Try.prog := fun p h => (List.mem_cons.1 h).elim (fun e => e ▸ mak21) (mao21 p)
def ma22 : MapC := ⟨92, [.agg #[vi (0), vi (11), vi (0), vi (0), .bool false], vi (3)], [], 0, .bool true, [⟨.agg #[vi (0), vi (11), vi (0), vi (0), .bool false], vi (3), 0⟩, ⟨.agg #[vi (2), vi (9), vi (0), vi (0), .bool false], vi (2), 1⟩, ⟨.agg #[vi (8), vi (3), vi (0), vi (0), .bool false], vi (1), 2⟩], 3⟩
theorem mak22 : ma22.Ok Try.prog := MapC.ok_ev (n := 20000) (mapTbl_ok mao22 ts_ok) (by kernel_rfl) (by kernel_rfl)
def mal23 : List MapC := ma22 :: mal22
theorem mao23 : ∀ p ∈ mal23, p.Ok Try.prog := fun p h => (List.mem_cons.1 h).elim (fun e => e ▸ mak22) (mao22 p)
def ma23 : MapC := ⟨92, [.agg #[vi (9), vi (3), vi (0), vi (0), .bool false], vi (1)], [⟨.agg #[vi (0), vi (12), vi (0), vi (0), .bool false], vi (3), 0⟩, ⟨.agg #[vi (4), vi (8), vi (0), vi (0), .bool false], vi (2), 1⟩], 2, .bool true, [⟨.agg #[vi (0), vi (12), vi (0), vi (0), .bool false], vi (3), 0⟩, ⟨.agg #[vi (4), vi (8), vi (0), vi (0), .bool false], vi (2), 1⟩, ⟨.agg #[vi (9), vi (3), vi (0), vi (0), .bool false], vi (1), 2⟩], 3⟩
theorem mak23 : ma23.Ok Try.prog := MapC.ok_ev (n := 20000) (mapTbl_ok mao23 ts_ok) (by kernel_rfl) (by kernel_rfl)
def mal24 : List MapC := ma23 :: mal23
theorem mao24 : ∀ p ∈ mal24, p.Ok Try.prog := fun p h => (List.mem_cons.1 h).elim (fun e => e ▸ mak23) (mao23 p)
def ma24 : MapC := ⟨92, [.agg #[vi (10), vi (2), vi (0), vi (0), .bool false], vi (1)], [⟨.agg #[vi (0), vi (12), vi (0), vi (0), .bool false], vi (3), 0⟩, ⟨.agg #[vi (4), vi (8), vi (0), vi (0), .bool false], vi (2), 1⟩, ⟨.agg #[vi (9), vi (3), vi (0), vi (0), .bool false], vi (1), 2⟩], 3, .bool true, [⟨.agg #[vi (0), vi (12), vi (0), vi (0), .bool false], vi (3), 0⟩, ⟨.agg #[vi (4), vi (8), vi (0), vi (0), .bool false], vi (2), 1⟩, ⟨.agg #[vi (9), vi (3), vi (0), vi (0), .bool false], vi (1), 2⟩, ⟨.agg #[vi (10), vi (2), vi (0), vi (0), .bool false], vi (1), 3⟩], 4⟩
theorem mak24 : ma24.Ok Try.prog := MapC.ok_ev (n := 20000) (mapTbl_ok mao24 ts_ok) (by kernel_rfl) (by kernel_rfl)
def mal25 : List MapC := ma24 :: mal24
theorem mao25 : ∀ p ∈ mal25, p.Ok Try.prog := fun p h => (List.mem_cons.1 h).elim (fun e => e ▸ mak24) (mao24 p)
def ma25 : MapC := ⟨92, [.agg #[vi (4), vi (8), vi (0), vi (0), .bool false], vi (2)], [⟨.agg #[vi (0), vi (12), vi (0), vi (0), .bool false], vi (3), 0⟩], 1, .bool true, [⟨.agg #[vi (0), vi (12), vi (0), vi (0), .bool false], vi (3), 0⟩, ⟨.agg #[vi (4), vi (8), vi (0), vi (0), .bool false], vi (2), 1⟩, ⟨.agg #[vi (9), vi (3), vi (0), vi (0), .bool false], vi (1), 2⟩, ⟨.agg #[vi (10), vi (2), vi (0), vi (0), .bool false], vi (1), 3⟩], 4⟩
theorem mak25 : ma25.Ok Try.prog := MapC.ok_ev (n := 20000) (mapTbl_ok mao25 ts_ok) (by kernel_rfl) (by kernel_rfl)
def mal26 : List MapC := ma25 :: mal25
theorem mao26 : ∀ p ∈ mal26, p.Ok Try.prog := fun p h => (List.mem_cons.1 h).elim (fun e => e ▸ mak25) (mao25 p)
def ma26 : MapC := ⟨92, [.agg #[vi (0), vi (12), vi (0), vi (0), .bool false], vi (3)], [], 0, .bool true, [⟨.agg #[vi (0), vi (12), vi (0), vi (0), .bool false], vi (3), 0⟩, ⟨.agg #[vi (4), vi (8), vi (0), vi (0), .bool false], vi (2), 1⟩, ⟨.agg #[vi (9), vi (3), vi (0), vi (0), .bool false], vi (1), 2⟩, ⟨.agg #[vi (10), vi (2), vi (0), vi (0), .bool false], vi (1), 3⟩], 4⟩
theorem mak26 : ma26.Ok Try.prog := MapC.ok_ev (n := 20000) (mapTbl_ok mao26 ts_ok) (by kernel_rfl) (by kernel_rfl)
def mal27 : List MapC := ma26 :: mal26
theorem mao27 : ∀ p ∈ mal27, p.Ok Try.prog := fun p h => (List.mem_cons.1 h).elim (fun e => e ▸ mak26) (mao26 p)
noncomputable def mat : Tbl := mapTbl mal27 ts
theorem mat_ok : TblOk Try.prog mat := mapTbl_ok mao27 ts_ok
end Go.Pier.SlugK
