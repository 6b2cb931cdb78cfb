/-
  Pier: calls of functions that change nothing, over the blocks that they read.
-/
import Derived.Test.YthojbpelnfdgcacPierPinsA
namespace Go.Pier.PinsK
open Go Go.Pier Go.Proofs

def ch0 : Heap := [.gone, .rw [vi (5)] none, .rw [vi (3), vi (8)] none, .rw [.slice (some ⟨1, 0, none⟩) 1 1, .slice (some ⟨2, 0, none⟩) 2 2] none, .rw [vi (2), vi (0), vi (6)] none, .gone, .rw [vi (-1), vi (5)] none, .rw [vi (1)] none]
def ch1 : Heap := [.gone, .rw [vi (5)] none, .rw [vi (3), vi (8)] none, .rw [.slice (some ⟨1, 0, none⟩) 1 1, .slice (some ⟨2, 0, none⟩) 2 2] none, .rw [vi (2), vi (0), vi (6)] none, .gone, .gone, .gone, .gone, .rw [vi (-5), vi (-5)] none, .rw [vi (1)] none]
def ch2 : Heap := [.gone, .rw [vi (5)] none, .rw [vi (3), vi (8)] none, .rw [.slice (some ⟨1, 0, none⟩) 1 1, .slice (some ⟨2, 0, none⟩) 2 2] none, .rw [vi (2), vi (0), vi (6)] none]
def c0 : PureC := ⟨41, [.agg #[.slice (some ⟨3, 0, none⟩) 2 2, .slice (some ⟨4, 0, none⟩) 3 3], .agg #[.slice (some ⟨6, 0, none⟩) 1 1, .slice (some ⟨7, 0, none⟩) 1 1]], ch0, vi (0)⟩
theorem ck0 : c0.Ok Try.prog := PureC.ok_ev (n := 5000) tp_ok (by kernel_rfl) (by kernel_rfl)
def c1 : PureC := ⟨41, [.agg #[.slice (some ⟨3, 0, none⟩) 2 2, .slice (some ⟨4, 0, none⟩) 3 3], .agg #[.slice (some ⟨9, 0, none⟩) 1 1, .slice (some ⟨10, 0, none⟩) 1 1]], ch1, vi (0)⟩
theorem ck1 : c1.Ok Try.prog := PureC.ok_ev (n := 5000) tp_ok (by kernel_rfl) (by kernel_rfl)
def c2 : PureC := ⟨44, [.agg #[.slice (some ⟨3, 0, none⟩) 2 2, .slice (some ⟨4, 0, none⟩) 3 3, vi (-1)], .agg #[.slice (some ⟨6, 0, none⟩) 1 1, .slice (some ⟨7, 0, none⟩) 1 1], vi (0)], ch0, .bool true⟩
theorem ck2 : c2.Ok Try.prog := PureC.ok_ev (n := 5000) tp_ok (by kernel_rfl) (by kernel_rfl)
def c3 : PureC := ⟨44, [.agg #[.slice (some ⟨3, 0, none⟩) 2 2, .slice (some ⟨4, 0, none⟩) 3 3, vi (-1)], .agg #[.slice (some ⟨6, 0, none⟩) 1 1, .slice (some ⟨7, 0, none⟩) 1 1], vi (1)], ch0, .bool true⟩
theorem ck3 : c3.Ok Try.prog := PureC.ok_ev (n := 5000) tp_ok (by kernel_rfl) (by kernel_rfl)
def c4 : PureC := ⟨44, [.agg #[.slice (some ⟨3, 0, none⟩) 2 2, .slice (some ⟨4, 0, none⟩) 3 3, vi (-1)], .agg #[.slice (some ⟨9, 0, none⟩) 1 1, .slice (some ⟨10, 0, none⟩) 1 1], vi (0)], ch1, .bool false⟩
theorem ck4 : c4.Ok Try.prog := PureC.ok_ev (n := 5000) tp_ok (by kernel_rfl) (by kernel_rfl)
def c5 : PureC := ⟨44, [.agg #[.slice (some ⟨3, 0, none⟩) 2 2, .slice (some ⟨4, 0, none⟩) 3 3, vi (-2)], .agg #[.slice (some ⟨6, 0, none⟩) 1 1, .slice (some ⟨7, 0, none⟩) 1 1], vi (0)], ch0, .bool false⟩
theorem ck5 : c5.Ok Try.prog := PureC.ok_ev (n := 5000) tp_ok (by kernel_rfl) (by kernel_rfl)
def c6 : PureC := ⟨44, [.agg #[.slice (some ⟨3, 0, none⟩) 2 2, .slice (some ⟨4, 0, none⟩) 3 3, vi (-2)], .agg #[.slice (some ⟨9, 0, none⟩) 1 1, .slice (some ⟨10, 0, none⟩) 1 1], vi (0)], ch1, .bool false⟩
theorem ck6 : c6.Ok Try.prog := PureC.ok_ev (n := 5000) tp_ok (by kernel_rfl) (by kernel_rfl)
def c7 : PureC := ⟨44, [.agg #[.slice (some ⟨3, 0, none⟩) 2 2, .slice (some ⟨4, 0, none⟩) 3 3, vi (-3)], .agg #[.slice (some ⟨6, 0, none⟩) 1 1, .slice (some ⟨7, 0, none⟩) 1 1], vi (0)], ch0, .bool false⟩
theorem ck7 : c7.Ok Try.prog := PureC.ok_ev (n := 5000) tp_ok (by kernel_rfl) (by kernel_rfl)
def c8 : PureC := ⟨44, [.agg #[.slice (some ⟨3, 0, none⟩) 2 2, .slice (some ⟨4, 0, none⟩) 3 3, vi (-3)], .agg #[.slice (some ⟨9, 0, none⟩) 1 1, .slice (some ⟨10, 0, none⟩) 1 1], vi (0)], ch1, .bool false⟩
theorem ck8 : c8.Ok Try.prog := PureC.ok_ev (n := 5000) tp_ok (by kernel_rfl) (by kernel_rfl)
def c9 : PureC := ⟨44, [.agg #[.slice (some ⟨3, 0, none⟩) 2 2, .slice (some ⟨4, 0, none⟩) 3 3, vi (-4)], .agg #[.slice (some ⟨6, 0, none⟩) 1 1, .slice (some ⟨7, 0, none⟩) 1 1], vi (0)], ch0, .bool false⟩
theorem ck9 : c9.Ok Try.prog := PureC.ok_ev (n := 5000) tp_ok (by kernel_rfl) (by kernel_rfl)
def c10 : PureC := ⟨44, [.agg #[.slice (some ⟨3, 0, none⟩) 2 2, .slice (some ⟨4, 0, none⟩) 3 3, vi (-4)], .agg #[.slice (some ⟨9, 0, none⟩) 1 1, .slice (some ⟨10, 0, none⟩) 1 1], vi (0)], ch1, .bool false⟩
theorem ck10 : c10.Ok Try.prog := PureC.ok_ev (n := 5000) tp_ok (by kernel_rfl) (by kernel_rfl)
def c11 : PureC := ⟨44, [.agg #[.slice (some ⟨3, 0, none⟩) 2 2, .slice (some ⟨4, 0, none⟩) 3 3, vi (-5)], .agg #[.slice (some ⟨6, 0, none⟩) 1 1, .slice (some ⟨7, 0, none⟩) 1 1], vi (0)], ch0, .bool false⟩
theorem ck11 : c11.Ok Try.prog := PureC.ok_ev (n := 5000) tp_ok (by kernel_rfl) (by kernel_rfl)
def c12 : PureC := ⟨44, [.agg #[.slice (some ⟨3, 0, none⟩) 2 2, .slice (some ⟨4, 0, none⟩) 3 3, vi (-5)], .agg #[.slice (some ⟨9, 0, none⟩) 1 1, .slice (some ⟨10, 0, none⟩) 1 1], vi (0)], ch1, .bool true⟩
theorem ck12 : c12.Ok Try.prog := PureC.ok_ev (n := 5000) tp_ok (by kernel_rfl) (by kernel_rfl)
def c13 : PureC := ⟨44, [.agg #[.slice (some ⟨3, 0, none⟩) 2 2, .slice (some ⟨4, 0, none⟩) 3 3, vi (-5)], .agg #[.slice (some ⟨9, 0, none⟩) 1 1, .slice (some ⟨10, 0, none⟩) 1 1], vi (1)], ch1, .bool false⟩
theorem ck13 : c13.Ok Try.prog := PureC.ok_ev (n := 5000) tp_ok (by kernel_rfl) (by kernel_rfl)
def c14 : PureC := ⟨44, [.agg #[.slice (some ⟨3, 0, none⟩) 2 2, .slice (some ⟨4, 0, none⟩) 3 3, vi (0)], .agg #[.slice (some ⟨6, 0, none⟩) 1 1, .slice (some ⟨7, 0, none⟩) 1 1], vi (0)], ch0, .bool true⟩
theorem ck14 : c14.Ok Try.prog := PureC.ok_ev (n := 5000) tp_ok (by kernel_rfl) (by kernel_rfl)
def c15 : PureC := ⟨44, [.agg #[.slice (some ⟨3, 0, none⟩) 2 2, .slice (some ⟨4, 0, none⟩) 3 3, vi (0)], .agg #[.slice (some ⟨6, 0, none⟩) 1 1, .slice (some ⟨7, 0, none⟩) 1 1], vi (1)], ch0, .bool true⟩
theorem ck15 : c15.Ok Try.prog := PureC.ok_ev (n := 5000) tp_ok (by kernel_rfl) (by kernel_rfl)
def c16 : PureC := ⟨44, [.agg #[.slice (some ⟨3, 0, none⟩) 2 2, .slice (some ⟨4, 0, none⟩) 3 3, vi (0)], .agg #[.slice (some ⟨9, 0, none⟩) 1 1, .slice (some ⟨10, 0, none⟩) 1 1], vi (0)], ch1, .bool false⟩
theorem ck16 : c16.Ok Try.prog := PureC.ok_ev (n := 5000) tp_ok (by kernel_rfl) (by kernel_rfl)
def c17 : PureC := ⟨44, [.agg #[.slice (some ⟨3, 0, none⟩) 2 2, .slice (some ⟨4, 0, none⟩) 3 3, vi (1)], .agg #[.slice (some ⟨6, 0, none⟩) 1 1, .slice (some ⟨7, 0, none⟩) 1 1], vi (0)], ch0, .bool true⟩
theorem ck17 : c17.Ok Try.prog := PureC.ok_ev (n := 5000) tp_ok (by kernel_rfl) (by kernel_rfl)
def c18 : PureC := ⟨44, [.agg #[.slice (some ⟨3, 0, none⟩) 2 2, .slice (some ⟨4, 0, none⟩) 3 3, vi (1)], .agg #[.slice (some ⟨6, 0, none⟩) 1 1, .slice (some ⟨7, 0, none⟩) 1 1], vi (1)], ch0, .bool true⟩
theorem ck18 : c18.Ok Try.prog := PureC.ok_ev (n := 5000) tp_ok (by kernel_rfl) (by kernel_rfl)
def c19 : PureC := ⟨44, [.agg #[.slice (some ⟨3, 0, none⟩) 2 2, .slice (some ⟨4, 0, none⟩) 3 3, vi (1)], .agg #[.slice (some ⟨9, 0, none⟩) 1 1, .slice (some ⟨10, 0, none⟩) 1 1], vi (0)], ch1, .bool false⟩
theorem ck19 : c19.Ok Try.prog := PureC.ok_ev (n := 5000) tp_ok (by kernel_rfl) (by kernel_rfl)
def c20 : PureC := ⟨44, [.agg #[.slice (some ⟨3, 0, none⟩) 2 2, .slice (some ⟨4, 0, none⟩) 3 3, vi (2)], .agg #[.slice (some ⟨6, 0, none⟩) 1 1, .slice (some ⟨7, 0, none⟩) 1 1], vi (0)], ch0, .bool true⟩
theorem ck20 : c20.Ok Try.prog := PureC.ok_ev (n := 5000) tp_ok (by kernel_rfl) (by kernel_rfl)
def c21 : PureC := ⟨44, [.agg #[.slice (some ⟨3, 0, none⟩) 2 2, .slice (some ⟨4, 0, none⟩) 3 3, vi (2)], .agg #[.slice (some ⟨6, 0, none⟩) 1 1, .slice (some ⟨7, 0, none⟩) 1 1], vi (1)], ch0, .bool true⟩
theorem ck21 : c21.Ok Try.prog := PureC.ok_ev (n := 5000) tp_ok (by kernel_rfl) (by kernel_rfl)
def c22 : PureC := ⟨44, [.agg #[.slice (some ⟨3, 0, none⟩) 2 2, .slice (some ⟨4, 0, none⟩) 3 3, vi (2)], .agg #[.slice (some ⟨9, 0, none⟩) 1 1, .slice (some ⟨10, 0, none⟩) 1 1], vi (0)], ch1, .bool false⟩
theorem ck22 : c22.Ok Try.prog := PureC.ok_ev (n := 5000) tp_ok (by kernel_rfl) (by kernel_rfl)
def c23 : PureC := ⟨44, [.agg #[.slice (some ⟨3, 0, none⟩) 2 2, .slice (some ⟨4, 0, none⟩) 3 3, vi (3)], .agg #[.slice (some ⟨6, 0, none⟩) 1 1, .slice (some ⟨7, 0, none⟩) 1 1], vi (0)], ch0, .bool true⟩
theorem ck23 : c23.Ok Try.prog := PureC.ok_ev (n := 5000) tp_ok (by kernel_rfl) (by kernel_rfl)
def c24 : PureC := ⟨44, [.agg #[.slice (some ⟨3, 0, none⟩) 2 2, .slice (some ⟨4, 0, none⟩) 3 3, vi (3)], .agg #[.slice (some ⟨6, 0, none⟩) 1 1, .slice (some ⟨7, 0, none⟩) 1 1], vi (1)], ch0, .bool true⟩
theorem ck24 : c24.Ok Try.prog := PureC.ok_ev (n := 5000) tp_ok (by kernel_rfl) (by kernel_rfl)
def c25 : PureC := ⟨44, [.agg #[.slice (some ⟨3, 0, none⟩) 2 2, .slice (some ⟨4, 0, none⟩) 3 3, vi (3)], .agg #[.slice (some ⟨9, 0, none⟩) 1 1, .slice (some ⟨10, 0, none⟩) 1 1], vi (0)], ch1, .bool false⟩
theorem ck25 : c25.Ok Try.prog := PureC.ok_ev (n := 5000) tp_ok (by kernel_rfl) (by kernel_rfl)
def c26 : PureC := ⟨44, [.agg #[.slice (some ⟨3, 0, none⟩) 2 2, .slice (some ⟨4, 0, none⟩) 3 3, vi (4)], .agg #[.slice (some ⟨6, 0, none⟩) 1 1, .slice (some ⟨7, 0, none⟩) 1 1], vi (0)], ch0, .bool true⟩
theorem ck26 : c26.Ok Try.prog := PureC.ok_ev (n := 5000) tp_ok (by kernel_rfl) (by kernel_rfl)
def c27 : PureC := ⟨44, [.agg #[.slice (some ⟨3, 0, none⟩) 2 2, .slice (some ⟨4, 0, none⟩) 3 3, vi (4)], .agg #[.slice (some ⟨6, 0, none⟩) 1 1, .slice (some ⟨7, 0, none⟩) 1 1], vi (1)], ch0, .bool true⟩
theorem ck27 : c27.Ok Try.prog := PureC.ok_ev (n := 5000) tp_ok (by kernel_rfl) (by kernel_rfl)
def c28 : PureC := ⟨44, [.agg #[.slice (some ⟨3, 0, none⟩) 2 2, .slice (some ⟨4, 0, none⟩) 3 3, vi (4)], .agg #[.slice (some ⟨9, 0, none⟩) 1 1, .slice (some ⟨10, 0, none⟩) 1 1], vi (0)], ch1, .bool false⟩
theorem ck28 : c28.Ok Try.prog := PureC.ok_ev (n := 5000) tp_ok (by kernel_rfl) (by kernel_rfl)
def c29 : PureC := ⟨44, [.agg #[.slice (some ⟨3, 0, none⟩) 2 2, .slice (some ⟨4, 0, none⟩) 3 3, vi (5)], .agg #[.slice (some ⟨6, 0, none⟩) 1 1, .slice (some ⟨7, 0, none⟩) 1 1], vi (0)], ch0, .bool true⟩
theorem ck29 : c29.Ok Try.prog := PureC.ok_ev (n := 5000) tp_ok (by kernel_rfl) (by kernel_rfl)
def c30 : PureC := ⟨44, [.agg #[.slice (some ⟨3, 0, none⟩) 2 2, .slice (some ⟨4, 0, none⟩) 3 3, vi (5)], .agg #[.slice (some ⟨6, 0, none⟩) 1 1, .slice (some ⟨7, 0, none⟩) 1 1], vi (1)], ch0, .bool false⟩
theorem ck30 : c30.Ok Try.prog := PureC.ok_ev (n := 5000) tp_ok (by kernel_rfl) (by kernel_rfl)
def c31 : PureC := ⟨44, [.agg #[.slice (some ⟨3, 0, none⟩) 2 2, .slice (some ⟨4, 0, none⟩) 3 3, vi (5)], .agg #[.slice (some ⟨9, 0, none⟩) 1 1, .slice (some ⟨10, 0, none⟩) 1 1], vi (0)], ch1, .bool false⟩
theorem ck31 : c31.Ok Try.prog := PureC.ok_ev (n := 5000) tp_ok (by kernel_rfl) (by kernel_rfl)
def c32 : PureC := ⟨45, [.agg #[.slice (some ⟨3, 0, none⟩) 2 2, .slice (some ⟨4, 0, none⟩) 3 3], .agg #[.slice (some ⟨6, 0, none⟩) 1 1, .slice (some ⟨7, 0, none⟩) 1 1], .agg #[vi (3), vi (1)]], ch0, vi (0)⟩
theorem ck32 : c32.Ok Try.prog := PureC.ok_ev (n := 5000) tp_ok (by kernel_rfl) (by kernel_rfl)
def c33 : PureC := ⟨45, [.agg #[.slice (some ⟨3, 0, none⟩) 2 2, .slice (some ⟨4, 0, none⟩) 3 3], .agg #[.slice (some ⟨6, 0, none⟩) 1 1, .slice (some ⟨7, 0, none⟩) 1 1], .agg #[vi (5), vi (2)]], ch0, vi (0)⟩
theorem ck33 : c33.Ok Try.prog := PureC.ok_ev (n := 5000) tp_ok (by kernel_rfl) (by kernel_rfl)
def c34 : PureC := ⟨48, [.agg #[vi (3), vi (1)], .agg #[.slice (some ⟨3, 0, none⟩) 2 2, .slice (some ⟨4, 0, none⟩) 3 3, vi (-1)]], ch2, .bool true⟩
theorem ck34 : c34.Ok Try.prog := PureC.ok_ev (n := 5000) tp_ok (by kernel_rfl) (by kernel_rfl)
def c35 : PureC := ⟨48, [.agg #[vi (3), vi (1)], .agg #[.slice (some ⟨3, 0, none⟩) 2 2, .slice (some ⟨4, 0, none⟩) 3 3, vi (0)]], ch2, .bool false⟩
theorem ck35 : c35.Ok Try.prog := PureC.ok_ev (n := 5000) tp_ok (by kernel_rfl) (by kernel_rfl)
def c36 : PureC := ⟨48, [.agg #[vi (5), vi (2)], .agg #[.slice (some ⟨3, 0, none⟩) 2 2, .slice (some ⟨4, 0, none⟩) 3 3, vi (-1)]], ch2, .bool false⟩
theorem ck36 : c36.Ok Try.prog := PureC.ok_ev (n := 5000) tp_ok (by kernel_rfl) (by kernel_rfl)
def c37 : PureC := ⟨48, [.agg #[vi (5), vi (2)], .agg #[.slice (some ⟨3, 0, none⟩) 2 2, .slice (some ⟨4, 0, none⟩) 3 3, vi (0)]], ch2, .bool false⟩
theorem ck37 : c37.Ok Try.prog := PureC.ok_ev (n := 5000) tp_ok (by kernel_rfl) (by kernel_rfl)
def c38 : PureC := ⟨48, [.agg #[vi (5), vi (2)], .agg #[.slice (some ⟨3, 0, none⟩) 2 2, .slice (some ⟨4, 0, none⟩) 3 3, vi (1)]], ch2, .bool false⟩
theorem ck38 : c38.Ok Try.prog := PureC.ok_ev (n := 5000) tp_ok (by kernel_rfl) (by kernel_rfl)
def c39 : PureC := ⟨48, [.agg #[vi (5), vi (2)], .agg #[.slice (some ⟨3, 0, none⟩) 2 2, .slice (some ⟨4, 0, none⟩) 3 3, vi (2)]], ch2, .bool false⟩
theorem ck39 : c39.Ok Try.prog := PureC.ok_ev (n := 5000) tp_ok (by kernel_rfl) (by kernel_rfl)
def c40 : PureC := ⟨48, [.agg #[vi (5), vi (2)], .agg #[.slice (some ⟨3, 0, none⟩) 2 2, .slice (some ⟨4, 0, none⟩) 3 3, vi (3)]], ch2, .bool false⟩
theorem ck40 : c40.Ok Try.prog := PureC.ok_ev (n := 5000) tp_ok (by kernel_rfl) (by kernel_rfl)
def c41 : PureC := ⟨48, [.agg #[vi (5), vi (2)], .agg #[.slice (some ⟨3, 0, none⟩) 2 2, .slice (some ⟨4, 0, none⟩) 3 3, vi (4)]], ch2, .bool false⟩
theorem ck41 : c41.Ok Try.prog := PureC.ok_ev (n := 5000) tp_ok (by kernel_rfl) (by kernel_rfl)
def cs : List PureC := [c0, c1, c2, c3, c4, c5, c6, c7, c8, c9, c10, c11, c12, c13, c14, c15, c16, c17, c18, c19, c20, c21, c22, c23, c24, c25, c26, c27, c28, c29, c30, c31, c32, c33, c34, c35, c36, c37, c38, c39, c40, c41]
theorem cs_ok : ∀ p ∈ cs, p.Ok Try.prog := by
  intro p hp
  simp only [cs, List.mem_cons, List.not_mem_nil, or_false] at hp
  rcases hp with rfl | rfl | rfl | rfl | rfl | rfl | rfl | rfl | rfl | rfl | rfl | rfl | rfl | rfl | rfl | rfl | rfl | rfl | rfl | rfl | rfl | rfl | rfl | rfl | rfl | rfl | rfl | rfl | rfl | rfl | rfl | rfl | rfl | rfl | rfl | rfl | rfl | rfl | rfl | rfl | rfl | rfl
  · exact ck0
  · exact ck1
  · exact ck2
  · exact ck3
  · exact ck4
  · exact ck5
  · exact ck6
  · exact ck7
  · exact ck8
  · exact ck9
  · exact ck10
  · exact ck11
  · exact ck12
  · exact ck13
  · exact ck14
  · exact ck15
  · exact ck16
  · exact ck17
  · exact ck18
  · exact ck19
  · exact ck20
  · exact ck21
  · exact ck22
  · exact ck23
  · exact ck24
  · exact ck25
  · exact ck26
  · exact ck27
  · exact ck28
  · exact ck29
  · exact ck30
  · exact ck31
  · exact ck32
  · exact ck33
  · exact ck34
  · exact ck35
  · exact ck36
  · exact ck37
  · exact ck38
  · exact ck39
  · exact ck40
  · exact ck41
noncomputable def tc : Tbl := pureTbl [44,41,45,48] cs tp
theorem tc_ok : TblOk Try.prog tc := pureTbl_ok cs_ok tp_ok

end Go.Pier.PinsK
