import Derived.Test.YtdpfcahcnjcmiaaPierMA2
import Derived.Test.YtdpfcahcnjcmiaaPierMA5
set_option linter.unusedSimpArgs false
set_option linter.unusedVariables false
namespace Go.Pier.SlugK
open Go Go.Pier Go.Proofs
def mal0 : List MapC := []
theorem mao0 : ∀ p ∈ mal0, p.Ok Try.prog := fun p h => by cases h
def ma0 : MapC := ⟨92, [.agg #[vi (0), vi (3), vi (0), vi (0), .bool false], vi (1)], [], 0, .bool true, [⟨.agg #[vi (0), vi (3), vi (0), vi (0), .bool false], vi (1), 0⟩], 1⟩
theorem mak0 : ma0.Ok Try.prog := MapC.ok_ev (n := 20000) (mapTbl_ok mao0 ts_ok) (by kernel_rfl) (by kernel_rfl)
def mal1 : List MapC := ma0 :: mal0
theorem mao1 : ∀ p ∈ mal1, p.Ok Try.prog := fun p h => (List.mem_cons.1 h).elim (fun e => e ▸ mak0) (mao0 p)
def ma1 : MapC := ⟨92, [.agg #[vi (0), vi (2), vi (0), vi (0), .bool false], vi (1)], [], 0, .bool true, [⟨.agg #[vi (0), vi (2), vi (0), vi (0), .bool false], vi (1), 0⟩], 1⟩
theorem mak1 : ma1.Ok Try.prog := MapC.ok_ev (n := 20000) (mapTbl_ok mao1 ts_ok) (by kernel_rfl) (by kernel_rfl)
def mal2 : List MapC := ma1 :: mal1
theorem mao2 : ∀ p ∈ mal2, p.Ok Try.prog := fun p h => (List.mem_cons.1 h).elim (fun e => e ▸ mak1) (mao1 p)
def ma2 : MapC := ⟨92, [.agg #[vi (2), vi (2), vi (0), vi (0), .bool false], vi (1)], [⟨.agg #[vi (0), vi (4), vi (0), vi (0), .bool false], vi (2), 0⟩], 1, .bool true, [⟨.agg #[vi (0), vi (4), vi (0), vi (0), .bool false], vi (2), 0⟩, ⟨.agg #[vi (2), vi (2), vi (0), vi (0), .bool false], vi (1), 1⟩], 2⟩
theorem mak2 : ma2.Ok Try.prog := MapC.ok_ev (n := 20000) (mapTbl_ok mao2 ts_ok) (by kernel_rfl) (by kernel_rfl)
def mal3 : List MapC := ma2 :: mal2
theorem mao3 : ∀ p ∈ mal3, p.Ok Try.prog := fun p h => (List.mem_cons.1 h).elim (fun e => e ▸ mak2) (mao2 p)
def ma3 : MapC := ⟨92, [.agg #[vi (0), vi (4), vi (0), vi (0), .bool false], vi (2)], [], 0, .bool true, [⟨.agg #[vi (0), vi (4), vi (0), vi (0), .bool false], vi (2), 0⟩, ⟨.agg #[vi (2), vi (2), vi (0), vi (0), .bool false], vi (1), 1⟩], 2⟩
theorem mak3 : ma3.Ok Try.prog := MapC.ok_ev (n := 20000) (mapTbl_ok mao3 ts_ok) (by kernel_rfl) (by kernel_rfl)
def mal4 : List MapC := ma3 :: mal3
theorem mao4 : ∀ p ∈ mal4, p.Ok Try.prog := fun p h => (List.mem_cons.1 h).elim (fun e => e ▸ mak3) (mao3 p)
def ma4 : MapC := ⟨92, [.agg #[vi (2), vi (3), vi (0), vi (0), .bool false], vi (1)], [⟨.agg #[vi (0), vi (5), vi (0), vi (0), .bool false], vi (2), 0⟩], 1, .bool true, [⟨.agg #[vi (0), vi (5), vi (0), vi (0), .bool false], vi (2), 0⟩, ⟨.agg #[vi (2), vi (3), vi (0), vi (0), .bool false], vi (1), 1⟩], 2⟩
theorem mak4 : ma4.Ok Try.prog := MapC.ok_ev (n := 20000) (mapTbl_ok mao4 ts_ok) (by kernel_rfl) (by kernel_rfl)
def mal5 : List MapC := ma4 :: mal4
theorem mao5 : ∀ p ∈ mal5, p.Ok Try.prog := fun p h => (List.mem_cons.1 h).elim (fun e => e ▸ mak4) (mao4 p)
def ma5 : MapC := ⟨92, [.agg #[vi (0), vi (5), vi (0), vi (0), .bool false], vi (2)], [], 0, .bool true, [⟨.agg #[vi (0), vi (5), vi (0), vi (0), .bool false], vi (2), 0⟩, ⟨.agg #[vi (2), vi (3), vi (0), vi (0), .bool false], vi (1), 1⟩], 2⟩
theorem mak5 : ma5.Ok Try.prog := MapC.ok_ev (n := 20000) (mapTbl_ok mao5 ts_ok) (by kernel_rfl) (by kernel_rfl)
def mal6 : List MapC := ma5 :: mal5
theorem mao6 : ∀ p ∈ mal6, p.Ok Try.prog := fun p h => (List.mem_cons.1 h).elim (fun e => e ▸ mak5) (mao5 p)
def ma6 : MapC := ⟨92, [.agg #[vi (4), vi (2), vi (0), vi (0), .bool false], vi (1)], [⟨.agg #[vi (0), vi (6), vi (0), vi (0), .bool false], vi (2), 0⟩], 1, .bool true, [⟨.agg #[vi (0), vi (6), vi (0), vi (0), .bool false], vi (2), 0⟩, ⟨.agg #[vi (4), vi (2), vi (0), vi (0), .bool false], vi (1), 1⟩], 2⟩
theorem mak6 : ma6.Ok Try.prog := MapC.ok_ev (n := 20000) (mapTbl_ok mao6 ts_ok) (by kernel_rfl) (by kernel_rfl)
def mal7 : List MapC := ma6 :: mal6
theorem mao7 : ∀ p ∈ mal7, p.Ok Try.prog := fun p h => (List.mem_cons.1 h).elim (fun e => e ▸ mak6) (mao6 p)
def ma7 : MapC := ⟨92, [.agg #[vi (0), vi (6), vi (0), vi (0), .bool false], vi (2)], [], 0, .bool true, [⟨.agg #[vi (0), vi (6), vi (0), vi (0), .bool false], vi (2), 0⟩, ⟨.agg #[vi (4), vi (2), vi (0), vi (0), .bool false], vi (1), 1⟩], 2⟩
theorem mak7 : ma7.Ok Try.prog := MapC.ok_ev (n := 20000) (mapTbl_ok mao7 ts_ok) (by kernel_rfl) (by kernel_rfl)
def mal8 : List MapC := ma7 :: mal7
theorem mao8 : ∀ p ∈ mal8, p.Ok Try.prog := fun p h => (List.mem_cons.1 h).elim (fun e => e ▸ mak7) (mao7 p)
def ma8 : MapC := ⟨92, [.agg #[vi (4), vi (3), vi (0), vi (0), .bool false], vi (1)], [⟨.agg #[vi (0), vi (7), vi (0), vi (0), .bool false], vi (2), 0⟩], 1, .bool true, [⟨.agg #[vi (0), vi (7), vi (0), vi (0), .bool false], vi (2), 0⟩, ⟨.agg #[vi (4), vi (3), vi (0), vi (0), .bool false], vi (1), 1⟩], 2⟩
theorem mak8 : ma8.Ok Try.prog := MapC.ok_ev (n := 20000) (mapTbl_ok mao8 ts_ok) (by kernel_rfl) (by kernel_rfl)
def mal9 : List MapC := ma8 :: mal8
theorem mao9 : ∀ p ∈ mal9, p.Ok Try.prog := fun p h => (List.mem_cons.1 h).elim (fun e => e ▸ mak8) (mao8 p)
def ma9 : MapC := ⟨92, [.agg #[vi (5), vi (2), vi (0), vi (0), .bool false], vi (1)], [⟨.agg #[vi (0), vi (7), vi (0), vi (0), .bool false], vi (2), 0⟩, ⟨.agg #[vi (4), vi (3), vi (0), vi (0), .bool false], vi (1), 1⟩], 2, .bool true, [⟨.agg #[vi (0), vi (7), vi (0), vi (0), .bool false], vi (2), 0⟩, ⟨.agg #[vi (4), vi (3), vi (0), vi (0), .bool false], vi (1), 1⟩, ⟨.agg #[vi (5), vi (2), vi (0), vi (0), .bool false], vi (1), 2⟩], 3⟩
theorem mak9 : ma9.Ok Try.prog := MapC.ok_ev (n := 20000) (mapTbl_ok mao9 ts_ok) (by kernel_rfl) (by kernel_rfl)
def mal10 : List MapC := ma9 :: mal9
theorem mao10 : ∀ p ∈ mal10, p.Ok Try.prog := fun p h => (List.mem_cons.1 h).elim (fun e => e ▸ mak9) (mao9 p)
def ma10 : MapC := ⟨92, [.agg #[vi (0), vi (7), vi (0), vi (0), .bool false], vi (2)], [], 0, .bool true, [⟨.agg #[vi (0), vi (7), vi (0), vi (0), .bool false], vi (2), 0⟩, ⟨.agg #[vi (4), vi (3), vi (0), vi (0), .bool false], vi (1), 1⟩, ⟨.agg #[vi (5), vi (2), vi (0), vi (0), .bool false], vi (1), 2⟩], 3⟩
theorem mak10 : ma10.Ok Try.prog := MapC.ok_ev (n := 20000) (mapTbl_ok mao10 ts_ok) (by kernel_rfl) (by kernel_rfl)
def mal11 : List MapC := ma10 :: mal10
theorem mao11 : ∀ p ∈ mal11, p.Ok Try.prog := fun p h => (List.mem_cons.1 h).elim (fun e => e ▸ mak10) (mao10 p)
def ma11 : MapC := ⟨92, [.agg #[vi (6), vi (2), vi (0), vi (0), .bool false], vi (1)], [⟨.agg #[vi (0), vi (8), vi (0), vi (0), .bool false], vi (2), 0⟩], 1, .bool true, [⟨.agg #[vi (0), vi (8), vi (0), vi (0), .bool false], vi (2), 0⟩, ⟨.agg #[vi (6), vi (2), vi (0), vi (0), .bool false], vi (1), 1⟩], 2⟩
theorem mak11 : ma11.Ok Try.prog := MapC.ok_ev (n := 20000) (mapTbl_ok mao11 ts_ok) (by kernel_rfl) (by kernel_rfl)
def mal12 : List MapC := ma11 :: mal11
theorem mao12 : ∀ p ∈ mal12, p.Ok Try.prog := fun p h => (List.mem_cons.1 h).elim (fun e => e ▸ mak11) (mao11 p)
def ma12 : MapC := ⟨92, [.agg #[vi (5), vi (3), vi (0), vi (0), .bool false], vi (1)], [⟨.agg #[vi (0), vi (8), vi (0), vi (0), .bool false], vi (2), 0⟩, ⟨.agg #[vi (6), vi (2), vi (0), vi (0), .bool false], vi (1), 1⟩], 2, .bool true, [⟨.agg #[vi (0), vi (8), vi (0), vi (0), .bool false], vi (2), 0⟩, ⟨.agg #[vi (6), vi (2), vi (0), vi (0), .bool false], vi (1), 1⟩, ⟨.agg #[vi (5), vi (3), vi (0), vi (0), .bool false], vi (1), 2⟩], 3⟩
theorem mak12 : ma12.Ok Try.prog := MapC.ok_ev (n := 20000) (mapTbl_ok mao12 ts_ok) (by kernel_rfl) (by kernel_rfl)
def mal13 : List MapC := ma12 :: mal12
theorem mao13 : ∀ p ∈ mal13, p.Ok Try.prog := fun p h => (List.mem_cons.1 h).elim (fun e => e ▸ mak12) (mao12 p)
def ma13 : MapC := ⟨92, [.agg #[vi (0), vi (8), vi (0), vi (0), .bool false], vi (2)], [], 0, .bool true, [⟨.agg #[vi (0), vi (8), vi (0), vi (0), .bool false], vi (2), 0⟩, ⟨.agg #[vi (6), vi (2), vi (0), vi (0), .bool false], vi (1), 1⟩, ⟨.agg #[vi (5), vi (3), vi (0), vi (0), .bool false], vi (1), 2⟩], 3⟩
theorem mak13 : ma13.Ok Try.prog := MapC.ok_ev (n := 20000) (mapTbl_ok mao13 ts_ok) (by kernel_rfl) (by kernel_rfl)
def mal14 : List MapC := ma13 :: mal13
theorem mao14 : ∀ p ∈ mal14, p.Ok Try.prog := fun p h => (List.mem_cons.1 h).elim (fun e => e ▸ mak13) (mao13 p)
end Go.Pier.SlugK
