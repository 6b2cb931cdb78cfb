/-
  Pier: calls of functions that change nothing, over the blocks that they read.
-/
import Derived.Test.YthojbpelnfdgcacPierLead
import Derived.Test.YthojbpelnfdgcacPierW
namespace Go.Pier.PinsK
open Go Go.Pier Go.Proofs

def vi (n : Int) : Value := .int .i64 n
noncomputable def t0 : Tbl := fun _ => none
noncomputable def tb : Tbl := fun f => match Nat.beq f 121 with | true => some (Lead.lead t0 5000) | false => none
theorem t0_ok : TblOk Try.prog t0 := tblOk_none
theorem tb_ok : TblOk Try.prog tb := by
  intro f g hg args H v H' l h
  unfold tb at hg
  split at hg
  · rename_i hf
    cases hg
    rw [Nat.eq_of_beq_eq_true hf]
    exact Lead.lead_ok t0_ok h
  · cases hg
def hp0 : Heap := [.gone, .rw [vi (5)] none, .rw [vi (3), vi (8)] none, .rw [.slice (some ⟨1, 0, none⟩) 1 1, .slice (some ⟨2, 0, none⟩) 2 2] none, .rw [vi (2), vi (0), vi (6)] none]
def p0 : PureC := ⟨17, [.agg #[.slice (some ⟨3, 0, none⟩) 2 2, .slice (some ⟨4, 0, none⟩) 3 3]], hp0, vi (0)⟩
theorem k0 : p0.Ok Try.prog := PureC.ok_ev (n := 5000) tb_ok (by kernel_rfl) (by kernel_rfl)
def p1 : PureC := ⟨88, [.agg #[.slice (some ⟨3, 0, none⟩) 2 2, .slice (some ⟨4, 0, none⟩) 3 3, vi (-1)]], hp0, vi (264)⟩
theorem k1 : p1.Ok Try.prog := PureC.ok_ev (n := 5000) tb_ok (by kernel_rfl) (by kernel_rfl)
def p2 : PureC := ⟨88, [.agg #[.slice (some ⟨3, 0, none⟩) 2 2, .slice (some ⟨4, 0, none⟩) 3 3, vi (0)]], hp0, vi (310)⟩
theorem k2 : p2.Ok Try.prog := PureC.ok_ev (n := 5000) tb_ok (by kernel_rfl) (by kernel_rfl)
def p3 : PureC := ⟨88, [.agg #[.slice (some ⟨3, 0, none⟩) 2 2, .slice (some ⟨4, 0, none⟩) 3 3, vi (1)]], hp0, vi (372)⟩
theorem k3 : p3.Ok Try.prog := PureC.ok_ev (n := 5000) tb_ok (by kernel_rfl) (by kernel_rfl)
def p4 : PureC := ⟨88, [.agg #[.slice (some ⟨3, 0, none⟩) 2 2, .slice (some ⟨4, 0, none⟩) 3 3, vi (2)]], hp0, vi (450)⟩
theorem k4 : p4.Ok Try.prog := PureC.ok_ev (n := 5000) tb_ok (by kernel_rfl) (by kernel_rfl)
def p5 : PureC := ⟨88, [.agg #[.slice (some ⟨3, 0, none⟩) 2 2, .slice (some ⟨4, 0, none⟩) 3 3, vi (3)]], hp0, vi (496)⟩
theorem k5 : p5.Ok Try.prog := PureC.ok_ev (n := 5000) tb_ok (by kernel_rfl) (by kernel_rfl)
def p6 : PureC := ⟨88, [.agg #[.slice (some ⟨3, 0, none⟩) 2 2, .slice (some ⟨4, 0, none⟩) 3 3, vi (4)]], hp0, vi (546)⟩
theorem k6 : p6.Ok Try.prog := PureC.ok_ev (n := 5000) tb_ok (by kernel_rfl) (by kernel_rfl)
def p7 : PureC := ⟨89, [.agg #[.slice (some ⟨3, 0, none⟩) 2 2, .slice (some ⟨4, 0, none⟩) 3 3, vi (-1)]], hp0, vi (100)⟩
theorem k7 : p7.Ok Try.prog := PureC.ok_ev (n := 5000) tb_ok (by kernel_rfl) (by kernel_rfl)
def p8 : PureC := ⟨89, [.agg #[.slice (some ⟨3, 0, none⟩) 2 2, .slice (some ⟨4, 0, none⟩) 3 3, vi (0)]], hp0, vi (100)⟩
theorem k8 : p8.Ok Try.prog := PureC.ok_ev (n := 5000) tb_ok (by kernel_rfl) (by kernel_rfl)
def p9 : PureC := ⟨89, [.agg #[.slice (some ⟨3, 0, none⟩) 2 2, .slice (some ⟨4, 0, none⟩) 3 3, vi (1)]], hp0, vi (100)⟩
theorem k9 : p9.Ok Try.prog := PureC.ok_ev (n := 5000) tb_ok (by kernel_rfl) (by kernel_rfl)
def p10 : PureC := ⟨89, [.agg #[.slice (some ⟨3, 0, none⟩) 2 2, .slice (some ⟨4, 0, none⟩) 3 3, vi (2)]], hp0, vi (100)⟩
theorem k10 : p10.Ok Try.prog := PureC.ok_ev (n := 5000) tb_ok (by kernel_rfl) (by kernel_rfl)
def p11 : PureC := ⟨89, [.agg #[.slice (some ⟨3, 0, none⟩) 2 2, .slice (some ⟨4, 0, none⟩) 3 3, vi (3)]], hp0, vi (100)⟩
theorem k11 : p11.Ok Try.prog := PureC.ok_ev (n := 5000) tb_ok (by kernel_rfl) (by kernel_rfl)
def p12 : PureC := ⟨89, [.agg #[.slice (some ⟨3, 0, none⟩) 2 2, .slice (some ⟨4, 0, none⟩) 3 3, vi (4)]], hp0, vi (100)⟩
theorem k12 : p12.Ok Try.prog := PureC.ok_ev (n := 5000) tb_ok (by kernel_rfl) (by kernel_rfl)
def p13 : PureC := ⟨92, [.agg #[.slice (some ⟨3, 0, none⟩) 2 2, .slice (some ⟨4, 0, none⟩) 3 3, vi (-1)], vi (1)], hp0, .bool true⟩
theorem k13 : p13.Ok Try.prog := PureC.ok_ev (n := 5000) tb_ok (by kernel_rfl) (by kernel_rfl)
def p14 : PureC := ⟨92, [.agg #[.slice (some ⟨3, 0, none⟩) 2 2, .slice (some ⟨4, 0, none⟩) 3 3, vi (-5)], vi (1)], hp0, .bool false⟩
theorem k14 : p14.Ok Try.prog := PureC.ok_ev (n := 5000) tb_ok (by kernel_rfl) (by kernel_rfl)
def p15 : PureC := ⟨92, [.agg #[.slice (some ⟨3, 0, none⟩) 2 2, .slice (some ⟨4, 0, none⟩) 3 3, vi (0)], vi (1)], hp0, .bool true⟩
theorem k15 : p15.Ok Try.prog := PureC.ok_ev (n := 5000) tb_ok (by kernel_rfl) (by kernel_rfl)
def p16 : PureC := ⟨92, [.agg #[.slice (some ⟨3, 0, none⟩) 2 2, .slice (some ⟨4, 0, none⟩) 3 3, vi (1)], vi (1)], hp0, .bool true⟩
theorem k16 : p16.Ok Try.prog := PureC.ok_ev (n := 5000) tb_ok (by kernel_rfl) (by kernel_rfl)
def p17 : PureC := ⟨92, [.agg #[.slice (some ⟨3, 0, none⟩) 2 2, .slice (some ⟨4, 0, none⟩) 3 3, vi (2)], vi (1)], hp0, .bool true⟩
theorem k17 : p17.Ok Try.prog := PureC.ok_ev (n := 5000) tb_ok (by kernel_rfl) (by kernel_rfl)
def p18 : PureC := ⟨92, [.agg #[.slice (some ⟨3, 0, none⟩) 2 2, .slice (some ⟨4, 0, none⟩) 3 3, vi (3)], vi (1)], hp0, .bool true⟩
theorem k18 : p18.Ok Try.prog := PureC.ok_ev (n := 5000) tb_ok (by kernel_rfl) (by kernel_rfl)
def p19 : PureC := ⟨92, [.agg #[.slice (some ⟨3, 0, none⟩) 2 2, .slice (some ⟨4, 0, none⟩) 3 3, vi (4)], vi (1)], hp0, .bool true⟩
theorem k19 : p19.Ok Try.prog := PureC.ok_ev (n := 5000) tb_ok (by kernel_rfl) (by kernel_rfl)
def p20 : PureC := ⟨92, [.agg #[.slice (some ⟨3, 0, none⟩) 2 2, .slice (some ⟨4, 0, none⟩) 3 3, vi (5)], vi (1)], hp0, .bool false⟩
theorem k20 : p20.Ok Try.prog := PureC.ok_ev (n := 5000) tb_ok (by kernel_rfl) (by kernel_rfl)
def ps : List PureC := [p0, p1, p2, p3, p4, p5, p6, p7, p8, p9, p10, p11, p12, p13, p14, p15, p16, p17, p18, p19, p20]
theorem ps_ok : ∀ p ∈ ps, p.Ok Try.prog := by
  intro p hp
  simp only [ps, List.mem_cons, List.not_mem_nil, or_false] at hp
  rcases hp with rfl | rfl | rfl | rfl | rfl | rfl | rfl | rfl | rfl | rfl | rfl | rfl | rfl | rfl | rfl | rfl | rfl | rfl | rfl | rfl | rfl
  · exact k0
  · exact k1
  · exact k2
  · exact k3
  · exact k4
  · exact k5
  · exact k6
  · exact k7
  · exact k8
  · exact k9
  · exact k10
  · exact k11
  · exact k12
  · exact k13
  · exact k14
  · exact k15
  · exact k16
  · exact k17
  · exact k18
  · exact k19
  · exact k20
noncomputable def tp : Tbl := pureTbl [17,92,88,89] ps tb
theorem tp_ok : TblOk Try.prog tp := pureTbl_ok ps_ok tb_ok

end Go.Pier.PinsK
