import Derived.Test.YthbcmcmmkmoccaaPierKW3
set_option linter.unusedSimpArgs false
set_option linter.unusedVariables false
namespace Go.Pier.SlgK
open Go Go.Pier Go.Proofs
def ml0 : List MapC := []
theorem mo0 : ∀ p ∈ ml0, p.Ok Try.prog := fun p h => by cases h
def m0 : MapC := ⟨69, [.agg #[vi (2), vi (0), vi (0), vi (1), .bool false], vi (1)], [⟨.agg #[vi (1), vi (0), vi (0), vi (2), .bool false], vi (2), 0⟩], 1, .bool true, [⟨.agg #[vi (1), vi (0), vi (0), vi (2), .bool false], vi (2), 0⟩, ⟨.agg #[vi (2), vi (0), vi (0), vi (1), .bool false], vi (1), 1⟩], 2⟩
theorem mk0 : m0.Ok Try.prog := MapC.ok_ev (n := 20000) (mapTbl_ok mo0 t0_ok) (by kernel_rfl) (by kernel_rfl)
def ml1 : List MapC := m0 :: ml0
theorem mo1 : ∀ p ∈ ml1, p.Ok Try.prog := fun p h => (List.mem_cons.1 h).elim (fun e => e ▸ mk0) (mo0 p)
def m1 : MapC := ⟨69, [.agg #[vi (1), vi (0), vi (0), vi (2), .bool false], vi (2)], [], 0, .bool true, [⟨.agg #[vi (1), vi (0), vi (0), vi (2), .bool false], vi (2), 0⟩, ⟨.agg #[vi (2), vi (0), vi (0), vi (1), .bool false], vi (1), 1⟩], 2⟩
theorem mk1 : m1.Ok Try.prog := MapC.ok_ev (n := 20000) (mapTbl_ok mo1 t0_ok) (by kernel_rfl) (by kernel_rfl)
def ml2 : List MapC := m1 :: ml1
theorem mo2 : ∀ p ∈ ml2, p.Ok Try.prog := fun p h => (List.mem_cons.1 h).elim (fun e => e ▸ mk1) (mo1 p)
def m2 : MapC := ⟨69, [.agg #[vi (1), vi (1), vi (1), vi (0), .bool false], vi (1)], [], 0, .bool true, [⟨.agg #[vi (1), vi (1), vi (1), vi (0), .bool false], vi (1), 0⟩], 1⟩
theorem mk2 : m2.Ok Try.prog := MapC.ok_ev (n := 20000) (mapTbl_ok mo2 t0_ok) (by kernel_rfl) (by kernel_rfl)
def ml3 : List MapC := m2 :: ml2
theorem mo3 : ∀ p ∈ ml3, p.Ok Try.prog := fun p h => (List.mem_cons.1 h).elim (fun e => e ▸ mk2) (mo2 p)
def m3 : MapC := ⟨69, [.agg #[vi (0), vi (1), vi (1), vi (0), .bool false], vi (1)], [⟨.agg #[vi (0), vi (0), vi (0), vi (2), .bool false], vi (2), 0⟩], 1, .bool false, [⟨.agg #[vi (0), vi (0), vi (0), vi (2), .bool false], vi (2), 0⟩], 2⟩
theorem mk3 : m3.Ok Try.prog := MapC.ok_ev (n := 20000) (mapTbl_ok mo3 t0_ok) (by kernel_rfl) (by kernel_rfl)
def ml4 : List MapC := m3 :: ml3
theorem mo4 : ∀ p ∈ ml4, p.Ok Try.prog := fun p h => (List.mem_cons.1 h).elim (fun e => e ▸ mk3) (mo3 p)
def m4 : MapC := ⟨69, [.agg #[vi (0), vi (0), vi (0), vi (2), .bool false], vi (2)], [], 0, .bool false, [⟨.agg #[vi (0), vi (1), vi (1), vi (0), .bool false], vi (25), 2⟩], 3⟩
theorem mk4 : m4.Ok Try.prog := MapC.ok_ev (n := 20000) (mapTbl_ok mo4 t0_ok) (by kernel_rfl) (by kernel_rfl)
def ml5 : List MapC := m4 :: ml4
theorem mo5 : ∀ p ∈ ml5, p.Ok Try.prog := fun p h => (List.mem_cons.1 h).elim (fun e => e ▸ mk4) (mo4 p)
def m5 : MapC := ⟨69, [.agg #[vi (0), vi (0), vi (0), vi (2), .bool false], vi (3)], [⟨.agg #[vi (0), vi (1), vi (1), vi (0), .bool false], vi (25), 2⟩], 3, .bool false, [⟨.agg #[vi (0), vi (1), vi (1), vi (0), .bool false], vi (25), 2⟩], 4⟩
theorem mk5 : m5.Ok Try.prog := MapC.ok_ev (n := 20000) (mapTbl_ok mo5 t0_ok) (by kernel_rfl) (by kernel_rfl)
def ml6 : List MapC := m5 :: ml5
theorem mo6 : ∀ p ∈ ml6, p.Ok Try.prog := fun p h => (List.mem_cons.1 h).elim (fun e => e ▸ mk5) (mo5 p)
def m6 : MapC := ⟨69, [.agg #[vi (0), vi (0), vi (0), vi (4), .bool true], vi (2)], [], 0, .bool false, [], 1⟩
theorem mk6 : m6.Ok Try.prog := MapC.ok_ev (n := 20000) (mapTbl_ok mo6 t0_ok) (by kernel_rfl) (by kernel_rfl)
def ml7 : List MapC := m6 :: ml6
theorem mo7 : ∀ p ∈ ml7, p.Ok Try.prog := fun p h => (List.mem_cons.1 h).elim (fun e => e ▸ mk6) (mo6 p)
def m7 : MapC := ⟨69, [.agg #[vi (3), vi (0), vi (0), vi (1), .bool true], vi (1)], [⟨.agg #[vi (0), vi (0), vi (0), vi (4), .bool true], vi (3), 1⟩, ⟨.agg #[vi (2), vi (0), vi (0), vi (2), .bool true], vi (2), 2⟩], 3, .bool true, [⟨.agg #[vi (0), vi (0), vi (0), vi (4), .bool true], vi (3), 1⟩, ⟨.agg #[vi (2), vi (0), vi (0), vi (2), .bool true], vi (2), 2⟩, ⟨.agg #[vi (3), vi (0), vi (0), vi (1), .bool true], vi (1), 3⟩], 4⟩
theorem mk7 : m7.Ok Try.prog := MapC.ok_ev (n := 20000) (mapTbl_ok mo7 t0_ok) (by kernel_rfl) (by kernel_rfl)
def ml8 : List MapC := m7 :: ml7
theorem mo8 : ∀ p ∈ ml8, p.Ok Try.prog := fun p h => (List.mem_cons.1 h).elim (fun e => e ▸ mk7) (mo7 p)
def m8 : MapC := ⟨69, [.agg #[vi (2), vi (0), vi (0), vi (2), .bool true], vi (2)], [⟨.agg #[vi (0), vi (0), vi (0), vi (4), .bool true], vi (3), 1⟩], 2, .bool true, [⟨.agg #[vi (0), vi (0), vi (0), vi (4), .bool true], vi (3), 1⟩, ⟨.agg #[vi (2), vi (0), vi (0), vi (2), .bool true], vi (2), 2⟩, ⟨.agg #[vi (3), vi (0), vi (0), vi (1), .bool true], vi (1), 3⟩], 4⟩
theorem mk8 : m8.Ok Try.prog := MapC.ok_ev (n := 20000) (mapTbl_ok mo8 t0_ok) (by kernel_rfl) (by kernel_rfl)
def ml9 : List MapC := m8 :: ml8
theorem mo9 : ∀ p ∈ ml9, p.Ok Try.prog := fun p h => (List.mem_cons.1 h).elim (fun e => e ▸ mk8) (mo8 p)
def m9 : MapC := ⟨69, [.agg #[vi (2), vi (1), vi (1), vi (0), .bool false], vi (1)], [⟨.agg #[vi (0), vi (0), vi (0), vi (4), .bool true], vi (3), 1⟩, ⟨.agg #[vi (2), vi (0), vi (0), vi (2), .bool true], vi (2), 2⟩, ⟨.agg #[vi (3), vi (0), vi (0), vi (1), .bool true], vi (1), 3⟩], 4, .bool true, [⟨.agg #[vi (0), vi (0), vi (0), vi (4), .bool true], vi (3), 1⟩, ⟨.agg #[vi (2), vi (0), vi (0), vi (2), .bool true], vi (2), 2⟩, ⟨.agg #[vi (3), vi (0), vi (0), vi (1), .bool true], vi (1), 3⟩, ⟨.agg #[vi (2), vi (1), vi (1), vi (0), .bool false], vi (1), 4⟩], 5⟩
theorem mk9 : m9.Ok Try.prog := MapC.ok_ev (n := 20000) (mapTbl_ok mo9 t0_ok) (by kernel_rfl) (by kernel_rfl)
def ml10 : List MapC := m9 :: ml9
theorem mo10 : ∀ p ∈ ml10, p.Ok Try.prog := fun p h => (List.mem_cons.1 h).elim (fun e => e ▸ mk9) (mo9 p)
def m10 : MapC := ⟨69, [.agg #[vi (0), vi (0), vi (0), vi (4), .bool true], vi (3)], [], 1, .bool true, [⟨.agg #[vi (0), vi (0), vi (0), vi (4), .bool true], vi (3), 1⟩, ⟨.agg #[vi (2), vi (0), vi (0), vi (2), .bool true], vi (2), 2⟩, ⟨.agg #[vi (3), vi (0), vi (0), vi (1), .bool true], vi (1), 3⟩, ⟨.agg #[vi (2), vi (1), vi (1), vi (0), .bool false], vi (1), 4⟩], 5⟩
theorem mk10 : m10.Ok Try.prog := MapC.ok_ev (n := 20000) (mapTbl_ok mo10 t0_ok) (by kernel_rfl) (by kernel_rfl)
def ml11 : List MapC := m10 :: ml10
theorem mo11 : ∀ p ∈ ml11, p.Ok Try.prog := fun p h => (List.mem_cons.1 h).elim (fun e => e ▸ mk10) (mo10 p)
def m11 : MapC := ⟨69, [.agg #[vi (0), vi (3), vi (0), vi (0), .bool false], vi (1)], [], 0, .bool true, [⟨.agg #[vi (0), vi (3), vi (0), vi (0), .bool false], vi (1), 0⟩], 1⟩
theorem mk11 : m11.Ok Try.prog := MapC.ok_ev (n := 20000) (mapTbl_ok mo11 t0_ok) (by kernel_rfl) (by kernel_rfl)
def ml12 : List MapC := m11 :: ml11
theorem mo12 : ∀ p ∈ ml12, p.Ok Try.prog := fun p h => (List.mem_cons.1 h).elim (fun e => e ▸ mk11) (mo11 p)
def m12 : MapC := ⟨69, [.agg #[vi (2), vi (0), vi (0), vi (1), .bool false], vi (1)], [], 0, .bool true, [⟨.agg #[vi (2), vi (0), vi (0), vi (1), .bool false], vi (1), 0⟩], 1⟩
theorem mk12 : m12.Ok Try.prog := MapC.ok_ev (n := 20000) (mapTbl_ok mo12 t0_ok) (by kernel_rfl) (by kernel_rfl)
def ml13 : List MapC := m12 :: ml12
theorem mo13 : ∀ p ∈ ml13, p.Ok Try.prog := fun p h => (List.mem_cons.1 h).elim (fun e => e ▸ mk12) (mo12 p)
noncomputable def mt : Tbl := mapTbl ml13 t0
theorem mt_ok : TblOk Try.prog mt := mapTbl_ok mo13 t0_ok
end Go.Pier.SlgK
