import Derived.Test.YtdpfcahcnjcmiaaPierMA2
import Derived.Test.YtdpfcahcnjcmiaaPierMA5
set_option linter.unusedSimpArgs false
set_option linter.unusedVariables false
namespace Go.Pier.SlugK
open Go Go.Pier Go.Proofs
def mbl0 : List MapC := []
theorem mbo0 : ∀ p ∈ mbl0, p.Ok Try.prog := fun p h => by cases h
def mb0 : MapC := ⟨92, [.agg #[vi (0), vi (0), vi (2), vi (0), .bool false], vi (1)], [], 0, .bool true, [⟨.agg #[vi (0), vi (0), vi (2), vi (0), .bool false], vi (1), 0⟩], 1⟩
theorem mbk0 : mb0.Ok Try.prog := MapC.ok_ev (n := 20000) (mapTbl_ok mbo0 ts_ok) (by kernel_rfl) (by kernel_rfl)
def mbl1 : List MapC := mb0 :: mbl0
theorem mbo1 : ∀ p ∈ mbl1, p.Ok Try.prog := fun p h => (List.mem_cons.1 h).elim (fun e => e ▸ mbk0) (mbo0 p)
def mb1 : MapC := ⟨92, [.agg #[vi (0), vi (0), vi (3), vi (0), .bool false], vi (1)], [], 0, .bool true, [⟨.agg #[vi (0), vi (0), vi (3), vi (0), .bool false], vi (1), 0⟩], 1⟩
theorem mbk1 : mb1.Ok Try.prog := MapC.ok_ev (n := 20000) (mapTbl_ok mbo1 ts_ok) (by kernel_rfl) (by kernel_rfl)
def mbl2 : List MapC := mb1 :: mbl1
theorem mbo2 : ∀ p ∈ mbl2, p.Ok Try.prog := fun p h => (List.mem_cons.1 h).elim (fun e => e ▸ mbk1) (mbo1 p)
def mb2 : MapC := ⟨92, [.agg #[vi (2), vi (0), vi (2), vi (0), .bool false], vi (1)], [⟨.agg #[vi (0), vi (0), vi (4), vi (0), .bool false], vi (2), 0⟩], 1, .bool true, [⟨.agg #[vi (0), vi (0), vi (4), vi (0), .bool false], vi (2), 0⟩, ⟨.agg #[vi (2), vi (0), vi (2), vi (0), .bool false], vi (1), 1⟩], 2⟩
theorem mbk2 : mb2.Ok Try.prog := MapC.ok_ev (n := 20000) (mapTbl_ok mbo2 ts_ok) (by kernel_rfl) (by kernel_rfl)
def mbl3 : List MapC := mb2 :: mbl2
theorem mbo3 : ∀ p ∈ mbl3, p.Ok Try.prog := fun p h => (List.mem_cons.1 h).elim (fun e => e ▸ mbk2) (mbo2 p)
def mb3 : MapC := ⟨92, [.agg #[vi (0), vi (0), vi (4), vi (0), .bool false], vi (2)], [], 0, .bool true, [⟨.agg #[vi (0), vi (0), vi (4), vi (0), .bool false], vi (2), 0⟩, ⟨.agg #[vi (2), vi (0), vi (2), vi (0), .bool false], vi (1), 1⟩], 2⟩
theorem mbk3 : mb3.Ok Try.prog := MapC.ok_ev (n := 20000) (mapTbl_ok mbo3 ts_ok) (by kernel_rfl) (by kernel_rfl)
def mbl4 : List MapC := mb3 :: mbl3
theorem mbo4 : ∀ p ∈ mbl4, p.Ok Try.prog := fun p h => (List.mem_cons.1 h).elim (fun e => e ▸ mbk3) (mbo3 p)
def mb4 : MapC := ⟨92, [.agg #[vi (2), vi (0), vi (3), vi (0), .bool false], vi (1)], [⟨.agg #[vi (0), vi (0), vi (5), vi (0), .bool false], vi (2), 0⟩], 1, .bool true, [⟨.agg #[vi (0), vi (0), vi (5), vi (0), .bool false], vi (2), 0⟩, ⟨.agg #[vi (2), vi (0), vi (3), vi (0), .bool false], vi (1), 1⟩], 2⟩
theorem mbk4 : mb4.Ok Try.prog := MapC.ok_ev (n := 20000) (mapTbl_ok mbo4 ts_ok) (by kernel_rfl) (by kernel_rfl)
def mbl5 : List MapC := mb4 :: mbl4
theorem mbo5 : ∀ p ∈ mbl5, p.Ok Try.prog := fun p h => (List.mem_cons.1 h).elim (fun e => e ▸ mbk4) (mbo4 p)
def mb5 : MapC := ⟨92, [.agg #[vi (0), vi (0), vi (5), vi (0), .bool false], vi (2)], [], 0, .bool true, [⟨.agg #[vi (0), vi (0), vi (5), vi (0), .bool false], vi (2), 0⟩, ⟨.agg #[vi (2), vi (0), vi (3), vi (0), .bool false], vi (1), 1⟩], 2⟩
theorem mbk5 : mb5.Ok Try.prog := MapC.ok_ev (n := 20000) (mapTbl_ok mbo5 ts_ok) (by kernel_rfl) (by kernel_rfl)
def mbl6 : List MapC := mb5 :: mbl5
theorem mbo6 : ∀ p ∈ mbl6, p.Ok Try.prog := fun p h => (List.mem_cons.1 h).elim (fun e => e ▸ mbk5) (mbo5 p)
def mb6 : MapC := ⟨92, [.agg #[vi (4), vi (0), vi (2), vi (0), .bool false], vi (1)], [⟨.agg #[vi (0), vi (0), vi (6), vi (0), .bool false], vi (2), 0⟩], 1, .bool true, [⟨.agg #[vi (0), vi (0), vi (6), vi (0), .bool false], vi (2), 0⟩, ⟨.agg #[vi (4), vi (0), vi (2), vi (0), .bool false], vi (1), 1⟩], 2⟩
theorem mbk6 : mb6.Ok Try.prog := MapC.ok_ev (n := 20000) (mapTbl_ok mbo6 ts_ok) (by kernel_rfl) (by kernel_rfl)
def mbl7 : List MapC := mb6 :: mbl6
theorem mbo7 : ∀ p ∈ mbl7, p.Ok Try.prog := fun p h => (List.mem_cons.1 h).elim (fun e => e ▸ mbk6) (mbo6 p)
def mb7 : MapC := ⟨92, [.agg #[vi (0), vi (0), vi (6), vi (0), .bool false], vi (2)], [], 0, .bool true, [⟨.agg #[vi (0), vi (0), vi (6), vi (0), .bool false], vi (2), 0⟩, ⟨.agg #[vi (4), vi (0), vi (2), vi (0), .bool false], vi (1), 1⟩], 2⟩
theorem mbk7 : mb7.Ok Try.prog := MapC.ok_ev (n := 20000) (mapTbl_ok mbo7 ts_ok) (by kernel_rfl) (by kernel_rfl)
def mbl8 : List MapC := mb7 :: mbl7
theorem mbo8 : ∀ p ∈ mbl8, p.Ok Try.prog := fun p h => (List.mem_cons.1 h).elim (fun e => e ▸ mbk7) (mbo7 p)
def mb8 : MapC := ⟨92, [.agg #[vi (4), vi (0), vi (3), vi (0), .bool false], vi (1)], [⟨.agg #[vi (0), vi (0), vi (7), vi (0), .bool false], vi (2), 0⟩], 1, .bool true, [⟨.agg #[vi (0), vi (0), vi (7), vi (0), .bool false], vi (2), 0⟩, ⟨.agg #[vi (4), vi (0), vi (3), vi (0), .bool false], vi (1), 1⟩], 2⟩
theorem mbk8 : mb8.Ok Try.prog := MapC.ok_ev (n := 20000) (mapTbl_ok mbo8 ts_ok) (by kernel_rfl) (by kernel_rfl)
def mbl9 : List MapC := mb8 :: mbl8
theorem mbo9 : ∀ p ∈ mbl9, p.Ok Try.prog := fun p h => (List.mem_cons.1 h).elim (fun e => e ▸ mbk8) (mbo8 p)
def mb9 : MapC := ⟨92, [.agg #[vi (5), vi (0), vi (2), vi (0), .bool false], vi (1)], [⟨.agg #[vi (0), vi (0), vi (7), vi (0), .bool false], vi (2), 0⟩, ⟨.agg #[vi (4), vi (0), vi (3), vi (0), .bool false], vi (1), 1⟩], 2, .bool true, [⟨.agg #[vi (0), vi (0), vi (7), vi (0), .bool false], vi (2), 0⟩, ⟨.agg #[vi (4), vi (0), vi (3), vi (0), .bool false], vi (1), 1⟩, ⟨.agg #[vi (5), vi (0), vi (2), vi (0), .bool false], vi (1), 2⟩], 3⟩
theorem mbk9 : mb9.Ok Try.prog := MapC.ok_ev (n := 20000) (mapTbl_ok mbo9 ts_ok) (by kernel_rfl) (by kernel_rfl)
def mbl10 : List MapC := mb9 :: mbl9
theorem mbo10 : ∀ p ∈ mbl10, p.Ok Try.prog := fun p h => (List.mem_cons.1 h).elim (fun e => e ▸ mbk9) (mbo9 p)
def mb10 : MapC := ⟨92, [.agg #[vi (0), vi (0), vi (7), vi (0), .bool false], vi (2)], [], 0, .bool true, [⟨.agg #[vi (0), vi (0), vi (7), vi (0), .bool false], vi (2), 0⟩, ⟨.agg #[vi (4), vi (0), vi (3), vi (0), .bool false], vi (1), 1⟩, ⟨.agg #[vi (5), vi (0), vi (2), vi (0), .bool false], vi (1), 2⟩], 3⟩
theorem mbk10 : mb10.Ok Try.prog := MapC.ok_ev (n := 20000) (mapTbl_ok mbo10 ts_ok) (by kernel_rfl) (by kernel_rfl)
def mbl11 : List MapC := mb10 :: mbl10
theorem mbo11 : ∀ p ∈ mbl11, p.Ok Try.prog := fun p h => (List.mem_cons.1 h).elim (fun e => e ▸ mbk10) (mbo10 p)
def mb11 : MapC := ⟨92, [.agg #[vi (6), vi (0), vi (2), vi (0), .bool false], vi (1)], [⟨.agg #[vi (0), vi (0), vi (8), vi (0), .bool false], vi (2), 0⟩], 1, .bool true, [⟨.agg #[vi (0), vi (0), vi (8), vi (0), .bool false], vi (2), 0⟩, ⟨.agg #[vi (6), vi (0), vi (2), vi (0), .bool false], vi (1), 1⟩], 2⟩
theorem mbk11 : mb11.Ok Try.prog := MapC.ok_ev (n := 20000) (mapTbl_ok mbo11 ts_ok) (by kernel_rfl) (by kernel_rfl)
def mbl12 : List MapC := mb11 :: mbl11
theorem mbo12 : ∀ p ∈ mbl12, p.Ok Try.prog := fun p h => (List.mem_cons.1 h).elim (fun e => e ▸ mbk11) (mbo11 p)
def mb12 : MapC := ⟨92, [.agg #[vi (5), vi (0), vi (3), vi (0), .bool false], vi (1)], [⟨.agg #[vi (0), vi (0), vi (8), vi (0), .bool false], vi (2), 0⟩, ⟨.agg #[vi (6), vi (0), vi (2), vi (0), .bool false], vi (1), 1⟩], 2, .bool true, [⟨.agg #[vi (0), vi (0), vi (8), vi (0), .bool false], vi (2), 0⟩, ⟨.agg #[vi (6), vi (0), vi (2), vi (0), .bool false], vi (1), 1⟩, ⟨.agg #[vi (5), vi (0), vi (3), vi (0), .bool false], vi (1), 2⟩], 3⟩
theorem mbk12 : mb12.Ok Try.prog := MapC.ok_ev (n := 20000) (mapTbl_ok mbo12 ts_ok) (by kernel_rfl) (by kernel_rfl)
def mbl13 : List MapC := mb12 :: mbl12
theorem mbo13 : ∀ p ∈ mbl13, p.Ok Try.prog := fun p h => (List.mem_cons.1 h).elim (fun e => e ▸ mbk12) (mbo12 p)
def mb13 : MapC := ⟨92, [.agg #[vi (0), vi (0), vi (8), vi (0), .bool false], vi (2)], [], 0, .bool true, [⟨.agg #[vi (0), vi (0), vi (8), vi (0), .bool false], vi (2), 0⟩, ⟨.agg #[vi (6), vi (0), vi (2), vi (0), .bool false], vi (1), 1⟩, ⟨.agg #[vi (5), vi (0), vi (3), vi (0), .bool false], vi (1), 2⟩], 3⟩
theorem mbk13 : mb13.Ok Try.prog := MapC.ok_ev (n := 20000) (mapTbl_ok mbo13 ts_ok) (by kernel_rfl) (by kernel_rfl)
def mbl14 : List MapC := mb13 :: mbl13
theorem mbo14 : ∀ p ∈ mbl14, p.Ok Try.prog := fun p h => (List.mem_cons.1 h).elim (fun e => e ▸ mbk13) (mbo13 p)
end Go.Pier.SlugK
