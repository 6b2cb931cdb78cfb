import Derived.Test.YtdpfcahcnjcmiaaPierMA2
import Derived.Test.YtdpfcahcnjcmiaaPierSlugAL0
set_option linter.unusedSimpArgs false
set_option linter.unusedVariables false
namespace Go.Pier.SlugK
open Go Go.Pier Go.Proofs
def ma14 : MapC := ⟨92, [.agg #[vi (6), vi (3), vi (0), vi (0), .bool false], vi (1)], [⟨.agg #[vi (0), vi (9), vi (0), vi (0), .bool false], vi (2), 0⟩], 1, .bool true, [⟨.agg #[vi (0), vi (9), vi (0), vi (0), .bool false], vi (2), 0⟩, ⟨.agg #[vi (6), vi (3), vi (0), vi (0), .bool false], vi (1), 1⟩], 2⟩
theorem mak14 : ma14.Ok Try.prog := MapC.ok_ev (n := 20000) (mapTbl_ok mao14 ts_ok) (by kernel_rfl) (by kernel_rfl)
def mal15 : List MapC := ma14 :: mal14
theorem mao15 : ∀ p ∈ mal15, p.Ok Try.prog := fun p h => (List.mem_cons.1 h).elim (fun e => e ▸ mak14) (mao14 p)
def ma15 : MapC := ⟨92, [.agg #[vi (0), vi (9), vi (0), vi (0), .bool false], vi (2)], [], 0, .bool true, [⟨.agg #[vi (0), vi (9), vi (0), vi (0), .bool false], vi (2), 0⟩, ⟨.agg #[vi (6), vi (3), vi (0), vi (0), .bool false], vi (1), 1⟩], 2⟩
theorem mak15 : ma15.Ok Try.prog := MapC.ok_ev (n := 20000) (mapTbl_ok mao15 ts_ok) (by kernel_rfl) (by kernel_rfl)
def mal16 : List MapC := ma15 :: mal15
theorem mao16 : ∀ p ∈ mal16, p.Ok Try.prog := fun p h => (List.mem_cons.1 h).elim (fun e => e ▸ mak15) (mao15 p)
def ma16 : MapC := ⟨92, [.agg #[vi (7), vi (3), vi (0), vi (0), .bool false], vi (1)], [⟨.agg #[vi (0), vi (10), vi (0), vi (0), .bool false], vi (3), 0⟩, ⟨.agg #[vi (2), vi (8), vi (0), vi (0), .bool false], vi (2), 1⟩], 2, .bool true, [⟨.agg #[vi (0), vi (10), vi (0), vi (0), .bool false], vi (3), 0⟩, ⟨.agg #[vi (2), vi (8), vi (0), vi (0), .bool false], vi (2), 1⟩, ⟨.agg #[vi (7), vi (3), vi (0), vi (0), .bool false], vi (1), 2⟩], 3⟩
theorem mak16 : ma16.Ok Try.prog := MapC.ok_ev (n := 20000) (mapTbl_ok mao16 ts_ok) (by kernel_rfl) (by kernel_rfl)
def mal17 : List MapC := ma16 :: mal16
theorem mao17 : ∀ p ∈ mal17, p.Ok Try.prog := fun p h => (List.mem_cons.1 h).elim (fun e => e ▸ mak16) (mao16 p)
def ma17 : MapC := ⟨92, [.agg #[vi (8), vi (2), vi (0), vi (0), .bool false], vi (1)], [⟨.agg #[vi (0), vi (10), vi (0), vi (0), .bool false], vi (3), 0⟩, ⟨.agg #[vi (2), vi (8), vi (0), vi (0), .bool false], vi (2), 1⟩, ⟨.agg #[vi (7), vi (3), vi (0), vi (0), .bool false], vi (1), 2⟩], 3, .bool true, [⟨.agg #[vi (0), vi (10), vi (0), vi (0), .bool false], vi (3), 0⟩, ⟨.agg #[vi (2), vi (8), vi (0), vi (0), .bool false], vi (2), 1⟩, ⟨.agg #[vi (7), vi (3), vi (0), vi (0), .bool false], vi (1), 2⟩, ⟨.agg #[vi (8), vi (2), vi (0), vi (0), .bool false], vi (1), 3⟩], 4⟩
theorem mak17 : ma17.Ok Try.prog := MapC.ok_ev (n := 20000) (mapTbl_ok mao17 ts_ok) (by kernel_rfl) (by kernel_rfl)
def mal18 : List MapC := ma17 :: mal17
theorem mao18 : ∀ p ∈ mal18, p.Ok Try.prog := fun p h => (List.mem_cons.1 h).elim (fun e => e ▸ mak17) (mao17 p)
def ma18 : MapC := ⟨92, [.agg #[vi (2), vi (8), vi (0), vi (0), .bool false], vi (2)], [⟨.agg #[vi (0), vi (10), vi (0), vi (0), .bool false], vi (3), 0⟩], 1, .bool true, [⟨.agg #[vi (0), vi (10), vi (0), vi (0), .bool false], vi (3), 0⟩, ⟨.agg #[vi (2), vi (8), vi (0), vi (0), .bool false], vi (2), 1⟩, ⟨.agg #[vi (7), vi (3), vi (0), vi (0), .bool false], vi (1), 2⟩, ⟨.agg #[vi (8), vi (2), vi (0), vi (0), .bool false], vi (1), 3⟩], 4⟩
theorem mak18 : ma18.Ok Try.prog := MapC.ok_ev (n := 20000) (mapTbl_ok mao18 ts_ok) (by kernel_rfl) (by kernel_rfl)
def mal19 : List MapC := ma18 :: mal18
theorem mao19 : ∀ p ∈ mal19, p.Ok Try.prog := fun p h => (List.mem_cons.1 h).elim (fun e => e ▸ mak18) (mao18 p)
def ma19 : MapC := ⟨92, [.agg #[vi (0), vi (10), vi (0), vi (0), .bool false], vi (3)], [], 0, .bool true, [⟨.agg #[vi (0), vi (10), vi (0), vi (0), .bool false], vi (3), 0⟩, ⟨.agg #[vi (2), vi (8), vi (0), vi (0), .bool false], vi (2), 1⟩, ⟨.agg #[vi (7), vi (3), vi (0), vi (0), .bool false], vi (1), 2⟩, ⟨.agg #[vi (8), vi (2), vi (0), vi (0), .bool false], vi (1), 3⟩], 4⟩
theorem mak19 : ma19.Ok Try.prog := MapC.ok_ev (n := 20000) (mapTbl_ok mao19 ts_ok) (by kernel_rfl) (by kernel_rfl)
def mal20 : List MapC := ma19 :: mal19
theorem mao20 : ∀ p ∈ mal20, p.Ok Try.prog := fun p h => (List.mem_cons.1 h).elim (fun e => e ▸ mak19) (mao19 p)
def ma20 : MapC := ⟨92, [.agg #[vi (8), vi (3), vi (0), vi (0), .bool false], vi (1)], [⟨.agg #[vi (0), vi (11), vi (0), vi (0), .bool false], vi (3), 0⟩, ⟨.agg #[vi (2), vi (9), vi (0), vi (0), .bool false], vi (2), 1⟩], 2, .bool true, [⟨.agg #[vi (0), vi (11), vi (0), vi (0), .bool false], vi (3), 0⟩, ⟨.agg #[vi (2), vi (9), vi (0), vi (0), .bool false], vi (2), 1⟩, ⟨.agg #[vi (8), vi (3), vi (0), vi (0), .bool false], vi (1), 2⟩], 3⟩
theorem mak20 : ma20.Ok Try.prog := MapC.ok_ev (n := 20000) (mapTbl_ok mao20 ts_ok) (by kernel_rfl) (by kernel_rfl)
def mal21 : List MapC := ma20 :: mal20
theorem mao21 : ∀ p ∈ mal21, p.Ok Try.prog := fun p h => (List.mem_cons.1 h).elim (fun e => e ▸ mak20) (mao20 p)
end Go.Pier.SlugK
