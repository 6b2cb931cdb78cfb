/-
  Pier: calls over a whole heap.
-/
import Derived.Test.YthojbpelnfdgcacPierPinsC
namespace Go.Pier.PinsK
open Go Go.Pier Go.Proofs

def eh0 : Heap := [.gone, .rw [vi (5)] none, .rw [vi (3), vi (8)] none, .rw [.slice (some ⟨1, 0, none⟩) 1 1, .slice (some ⟨2, 0, none⟩) 2 2] none, .rw [vi (2), vi (0), vi (6)] none, .gone, .rw [vi (-1), vi (5)] none, .rw [vi (1)] none, .gone, .rw [vi (-5), vi 
  (-5)] none, .rw [vi (1)] none, .rw [.slice (some ⟨3, 0, none⟩) 2 2, .slice (some ⟨4, 0, none⟩) 3 3] none, .rw [.slice (some ⟨6, 0, none⟩) 1 1, .slice (some ⟨7, 0, none⟩) 1 1] none, .rw [.slice (some ⟨9, 0, none⟩) 1 1, .slice (some ⟨10, 0, none⟩) 
  1 1] none]
def eh1 : Heap := [.gone, .rw [vi (5)] none, .rw [vi (3), vi (8)] none, .rw [.slice (some ⟨1, 0, none⟩) 1 1, .slice (some ⟨2, 0, none⟩) 2 2] none, .rw [vi (2), vi (0), vi (6)] none, .gone, .rw [vi (-1), vi (5)] none, .rw [vi (1)] none, .gone, .rw [vi (-5), vi 
  (-5)] none, .rw [vi (1)] none, .rw [.slice (some ⟨3, 0, none⟩) 2 2, .slice (some ⟨4, 0, none⟩) 3 3] none, .rw [.slice (some ⟨6, 0, none⟩) 1 1, .slice (some ⟨7, 0, none⟩) 1 1] none, .rw [.slice (some ⟨9, 0, none⟩) 1 1, .slice (some ⟨10, 0, none⟩) 
  1 1] none, .gone, .gone, .rw [vi (15), vi (15), vi (70)] none]
def eh2 : Heap := [.gone, .rw [vi (5)] none, .rw [vi (3), vi (8)] none, .rw [.slice (some ⟨1, 0, none⟩) 1 1, .slice (some ⟨2, 0, none⟩) 2 2] none, .rw [vi (2), vi (0), vi (6)] none, .gone, .rw [vi (-1), vi (5)] none, .rw [vi (1)] none, .gone, .rw [vi (-5), vi 
  (-5)] none, .rw [vi (1)] none, .rw [.slice (some ⟨3, 0, none⟩) 2 2, .slice (some ⟨4, 0, none⟩) 3 3] none, .rw [.slice (some ⟨6, 0, none⟩) 1 1, .slice (some ⟨7, 0, none⟩) 1 1] none, .rw [.slice (some ⟨9, 0, none⟩) 1 1, .slice (some ⟨10, 0, none⟩) 
  1 1] none, .gone, .gone, .rw [vi (15), vi (15), vi (70)] none, .rw [vi (31), vi (10)] none]
def eh3 : Heap := [.gone, .rw [vi (5)] none, .rw [vi (3), vi (8)] none, .rw [.slice (some ⟨1, 0, none⟩) 1 1, .slice (some ⟨2, 0, none⟩) 2 2] none, .rw [vi (2), vi (0), vi (6)] none, .gone, .rw [vi (-1), vi (5)] none, .rw [vi (1)] none, .gone, .rw [vi (-5), vi 
  (-5)] none, .rw [vi (1)] none, .rw [.slice (some ⟨3, 0, none⟩) 2 2, .slice (some ⟨4, 0, none⟩) 3 3] none, .rw [.slice (some ⟨6, 0, none⟩) 1 1, .slice (some ⟨7, 0, none⟩) 1 1] none, .rw [.slice (some ⟨9, 0, none⟩) 1 1, .slice (some ⟨10, 0, none⟩) 
  1 1] none, .gone, .gone, .rw [vi (15), vi (15), vi (70)] none, .rw [vi (31), vi (10)] none, .gone, .gone, .gone, .gone, .gone, .rw [.slice (some ⟨24, 0, none⟩) 1 1, .slice (some ⟨25, 0, none⟩) 2 2] none, .rw [vi (25)] none, .rw [vi (3), vi (2)] 
  none]
def eh4 : Heap := [.gone, .rw [vi (5)] none, .rw [vi (3), vi (8)] none, .rw [.slice (some ⟨1, 0, none⟩) 1 1, .slice (some ⟨2, 0, none⟩) 2 2] none, .rw [vi (2), vi (0), vi (6)] none, .gone, .rw [vi (-1), vi (5)] none, .rw [vi (1)] none, .gone, .rw [vi (-5), vi 
  (-5)] none, .rw [vi (1)] none, .rw [.slice (some ⟨3, 0, none⟩) 2 2, .slice (some ⟨4, 0, none⟩) 3 3] none, .rw [.slice (some ⟨6, 0, none⟩) 1 1, .slice (some ⟨7, 0, none⟩) 1 1] none, .rw [.slice (some ⟨9, 0, none⟩) 1 1, .slice (some ⟨10, 0, none⟩) 
  1 1] none, .gone, .gone, .rw [vi (15), vi (15), vi (70)] none, .rw [vi (31), vi (10)] none, .gone, .gone, .gone, .gone, .gone, .rw [.slice (some ⟨24, 0, none⟩) 1 1, .slice (some ⟨25, 0, none⟩) 2 2] none, .rw [vi (25)] none, .rw [vi (3), vi (2)] 
  none, .rw [vi (0), vi (1)] none]
def eh5 : Heap := [.gone, .rw [vi (5)] none, .rw [vi (3), vi (8)] none, .rw [.slice (some ⟨1, 0, none⟩) 1 1, .slice (some ⟨2, 0, none⟩) 2 2] none, .rw [vi (2), vi (0), vi (6)] none, .gone, .rw [vi (-1), vi (5)] none, .rw [vi (1)] none, .gone, .rw [vi (-5), vi 
  (-5)] none, .rw [vi (1)] none, .rw [.slice (some ⟨3, 0, none⟩) 2 2, .slice (some ⟨4, 0, none⟩) 3 3] none, .rw [.slice (some ⟨6, 0, none⟩) 1 1, .slice (some ⟨7, 0, none⟩) 1 1] none, .rw [.slice (some ⟨9, 0, none⟩) 1 1, .slice (some ⟨10, 0, none⟩) 
  1 1] none, .gone, .gone, .rw [vi (15), vi (15), vi (70)] none, .rw [vi (31), vi (10)] none, .gone, .gone, .gone, .gone, .gone, .rw [.slice (some ⟨24, 0, none⟩) 1 1, .slice (some ⟨25, 0, none⟩) 2 2] none, .rw [vi (25)] none, .rw [vi (3), vi (2)] 
  none, .rw [vi (0), vi (1)] none, .rw [vi (0), vi (1), vi (1)] none]
def eh6 : Heap := [.gone, .rw [vi (5)] none, .rw [vi (3), vi (8)] none, .rw [.slice (some ⟨1, 0, none⟩) 1 1, .slice (some ⟨2, 0, none⟩) 2 2] none, .rw [vi (2), vi (0), vi (6)] none, .gone, .rw [vi (-1), vi (5)] none, .rw [vi (1)] none, .gone, .rw [vi (-5), vi 
  (-5)] none, .rw [vi (1)] none, .rw [.slice (some ⟨3, 0, none⟩) 2 2, .slice (some ⟨4, 0, none⟩) 3 3] none, .rw [.slice (some ⟨6, 0, none⟩) 1 1, .slice (some ⟨7, 0, none⟩) 1 1] none, .rw [.slice (some ⟨9, 0, none⟩) 1 1, .slice (some ⟨10, 0, none⟩) 
  1 1] none, .gone, .gone, .rw [vi (15), vi (15), vi (70)] none, .rw [vi (31), vi (10)] none, .gone, .gone, .gone, .gone, .gone, .rw [.slice (some ⟨24, 0, none⟩) 1 1, .slice (some ⟨25, 0, none⟩) 2 2] none, .rw [vi (25)] none, .rw [vi (3), vi (2)] 
  none, .rw [vi (0), vi (1)] none, .rw [vi (0), vi (1), vi (1)] none, .gone, .gone, .rw [vi (1), vi (1)] none]
def eh7 : Heap := [.gone, .rw [vi (5)] none, .rw [vi (3), vi (8)] none, .rw [.slice (some ⟨1, 0, none⟩) 1 1, .slice (some ⟨2, 0, none⟩) 2 2] none, .rw [vi (2), vi (0), vi (6)] none, .gone, .rw [vi (-1), vi (5)] none, .rw [vi (1)] none, .gone, .rw [vi (-5), vi 
  (-5)] none, .rw [vi (1)] none, .rw [.slice (some ⟨3, 0, none⟩) 2 2, .slice (some ⟨4, 0, none⟩) 3 3] none, .rw [.slice (some ⟨6, 0, none⟩) 1 1, .slice (some ⟨7, 0, none⟩) 1 1] none, .rw [.slice (some ⟨9, 0, none⟩) 1 1, .slice (some ⟨10, 0, none⟩) 
  1 1] none, .gone, .gone, .rw [vi (15), vi (15), vi (70)] none, .rw [vi (31), vi (10)] none, .gone, .gone, .gone, .gone, .gone, .rw [.slice (some ⟨24, 0, none⟩) 1 1, .slice (some ⟨25, 0, none⟩) 2 2] none, .rw [vi (25)] none, .rw [vi (3), vi (2)] 
  none, .rw [vi (0), vi (1)] none, .rw [vi (0), vi (1), vi (1)] none, .gone, .gone, .rw [vi (1), vi (1)] none, .gone, .gone, .gone, .gone, .gone, .gone, .gone, .gone, .gone, .gone, .gone, .gone, .gone, .gone, .gone, .gone, .gone, .gone, .gone, 
  .gone, .gone, .gone, .gone, .gone, .gone, .gone, .gone, .gone, .gone, .gone, .gone, .gone, .gone, .gone, .gone, .gone, .gone, .gone, .gone, .gone, .gone, .gone, .gone, .gone, .gone, .gone, .gone, .gone, .gone, .gone, .gone, .gone, .gone, .gone, 
  .gone, .gone, .gone, .gone, .gone, .gone, .gone, .gone, .gone, .gone, .gone, .gone, .gone, .gone, .gone, .gone, .gone, .gone, .gone, .gone, .gone, .gone, .gone, .gone, .rw [vi (-1), vi (0), vi (1), vi (2), vi (3), vi (4)] (some 1)]
def eh8 : Heap := [.gone, .rw [vi (5)] none, .rw [vi (3), vi (8)] none, .rw [.slice (some ⟨1, 0, none⟩) 1 1, .slice (some ⟨2, 0, none⟩) 2 2] none, .rw [vi (2), vi (0), vi (6)] none, .gone, .rw [vi (-1), vi (5)] none, .rw [vi (1)] none, .gone, .rw [vi (-5), vi 
  (-5)] none, .rw [vi (1)] none, .rw [.slice (some ⟨3, 0, none⟩) 2 2, .slice (some ⟨4, 0, none⟩) 3 3] none, .rw [.slice (some ⟨6, 0, none⟩) 1 1, .slice (some ⟨7, 0, none⟩) 1 1] none, .rw [.slice (some ⟨9, 0, none⟩) 1 1, .slice (some ⟨10, 0, none⟩) 
  1 1] none, .gone, .gone, .rw [vi (15), vi (15), vi (70)] none, .rw [vi (31), vi (10)] none, .gone, .gone, .gone, .gone, .gone, .rw [.slice (some ⟨24, 0, none⟩) 1 1, .slice (some ⟨25, 0, none⟩) 2 2] none, .rw [vi (25)] none, .rw [vi (3), vi (2)] 
  none, .rw [vi (0), vi (1)] none, .rw [vi (0), vi (1), vi (1)] none, .gone, .gone, .rw [vi (1), vi (1)] none, .gone, .gone, .gone, .gone, .gone, .gone, .gone, .gone, .gone, .gone, .gone, .gone, .gone, .gone, .gone, .gone, .gone, .gone, .gone, 
  .gone, .gone, .gone, .gone, .gone, .gone, .gone, .gone, .gone, .gone, .gone, .gone, .gone, .gone, .gone, .gone, .gone, .gone, .gone, .gone, .gone, .gone, .gone, .gone, .gone, .gone, .gone, .gone, .gone, .gone, .gone, .gone, .gone, .gone, .gone, 
  .gone, .gone, .gone, .gone, .gone, .gone, .gone, .gone, .gone, .gone, .gone, .gone, .gone, .gone, .gone, .gone, .gone, .gone, .gone, .gone, .gone, .gone, .gone, .gone, .rw [vi (-1), vi (0), vi (1), vi (2), vi (3), vi (4)] (some 1), .gone, .gone, 
  .gone, .gone, .gone, .gone, .gone, .gone, .gone, .gone, .gone, .gone, .gone, .gone, .gone, .gone, .gone, .gone, .gone, .gone, .gone, .gone, .gone, .gone, .gone, .gone, .gone, .gone, .gone, .gone, .gone, .gone, .gone, .gone, .gone, .gone, .rw 
  [vi (1), vi (0), vi (0), vi (0), vi (0), vi (0), vi (0), vi (0), vi (0), vi (0), vi (0)] (some 1)]
def eh9 : Heap := [.gone, .rw [vi (5)] none, .rw [vi (3), vi (8)] none, .rw [.slice (some ⟨1, 0, none⟩) 1 1, .slice (some ⟨2, 0, none⟩) 2 2] none, .rw [vi (2), vi (0), vi (6)] none, .gone, .rw [vi (-1), vi (5)] none, .rw [vi (1)] none, .gone, .rw [vi (-5), vi 
  (-5)] none, .rw [vi (1)] none, .rw [.slice (some ⟨3, 0, none⟩) 2 2, .slice (some ⟨4, 0, none⟩) 3 3] none, .rw [.slice (some ⟨6, 0, none⟩) 1 1, .slice (some ⟨7, 0, none⟩) 1 1] none, .rw [.slice (some ⟨9, 0, none⟩) 1 1, .slice (some ⟨10, 0, none⟩) 
  1 1] none, .gone, .gone, .rw [vi (15), vi (15), vi (70)] none, .rw [vi (31), vi (10)] none, .gone, .gone, .gone, .gone, .gone, .rw [.slice (some ⟨24, 0, none⟩) 1 1, .slice (some ⟨25, 0, none⟩) 2 2] none, .rw [vi (25)] none, .rw [vi (3), vi (2)] 
  none, .rw [vi (0), vi (1)] none, .rw [vi (0), vi (1), vi (1)] none, .gone, .gone, .rw [vi (1), vi (1)] none, .gone, .gone, .gone, .gone, .gone, .gone, .gone, .gone, .gone, .gone, .gone, .gone, .gone, .gone, .gone, .gone, .gone, .gone, .gone, 
  .gone, .gone, .gone, .gone, .gone, .gone, .gone, .gone, .gone, .gone, .gone, .gone, .gone, .gone, .gone, .gone, .gone, .gone, .gone, .gone, .gone, .gone, .gone, .gone, .gone, .gone, .gone, .gone, .gone, .gone, .gone, .gone, .gone, .gone, .gone, 
  .gone, .gone, .gone, .gone, .gone, .gone, .gone, .gone, .gone, .gone, .gone, .gone, .gone, .gone, .gone, .gone, .gone, .gone, .gone, .gone, .gone, .gone, .gone, .gone, .rw [vi (-1), vi (0), vi (1), vi (2), vi (3), vi (4)] (some 1), .gone, .gone, 
  .gone, .gone, .gone, .gone, .gone, .gone, .gone, .gone, .gone, .gone, .gone, .gone, .gone, .gone, .gone, .gone, .gone, .gone, .gone, .gone, .gone, .gone, .gone, .gone, .gone, .gone, .gone, .gone, .gone, .gone, .gone, .gone, .gone, .gone, .rw 
  [vi (1), vi (0), vi (0), vi (0), vi (0), vi (0), vi (0), vi (0), vi (0), vi (0), vi (0)] (some 1), .rw [vi (0), vi (0), vi (0), vi (0), vi (0), vi (0), vi (0), vi (0), vi (0), vi (0), vi (0)] none]
def eh10 : Heap := [.gone, .rw [vi (5)] none, .rw [vi (3), vi (8)] none, .rw [.slice (some ⟨1, 0, none⟩) 1 1, .slice (some ⟨2, 0, none⟩) 2 2] none, .rw [vi (2), vi (0), vi (6)] none, .gone, .rw [vi (-1), vi (5)] none, .rw [vi (1)] none, .gone, .rw [vi (-5), vi 
  (-5)] none, .rw [vi (1)] none, .rw [.slice (some ⟨3, 0, none⟩) 2 2, .slice (some ⟨4, 0, none⟩) 3 3] none, .rw [.slice (some ⟨6, 0, none⟩) 1 1, .slice (some ⟨7, 0, none⟩) 1 1] none, .rw [.slice (some ⟨9, 0, none⟩) 1 1, .slice (some ⟨10, 0, none⟩) 
  1 1] none, .gone, .gone, .rw [vi (15), vi (15), vi (70)] none, .rw [vi (31), vi (10)] none, .gone, .gone, .gone, .gone, .gone, .rw [.slice (some ⟨24, 0, none⟩) 1 1, .slice (some ⟨25, 0, none⟩) 2 2] none, .rw [vi (25)] none, .rw [vi (3), vi (2)] 
  none, .rw [vi (0), vi (1)] none, .rw [vi (0), vi (1), vi (1)] none, .gone, .gone, .rw [vi (1), vi (1)] none, .gone, .gone, .gone, .gone, .gone, .gone, .gone, .gone, .gone, .gone, .gone, .gone, .gone, .gone, .gone, .gone, .gone, .gone, .gone, 
  .gone, .gone, .gone, .gone, .gone, .gone, .gone, .gone, .gone, .gone, .gone, .gone, .gone, .gone, .gone, .gone, .gone, .gone, .gone, .gone, .gone, .gone, .gone, .gone, .gone, .gone, .gone, .gone, .gone, .gone, .gone, .gone, .gone, .gone, .gone, 
  .gone, .gone, .gone, .gone, .gone, .gone, .gone, .gone, .gone, .gone, .gone, .gone, .gone, .gone, .gone, .gone, .gone, .gone, .gone, .gone, .gone, .gone, .gone, .gone, .rw [vi (-1), vi (0), vi (1), vi (2), vi (3), vi (4)] (some 1), .gone, .gone, 
  .gone, .gone, .gone, .gone, .gone, .gone, .gone, .gone, .gone, .gone, .gone, .gone, .gone, .gone, .gone, .gone, .gone, .gone, .gone, .gone, .gone, .gone, .gone, .gone, .gone, .gone, .gone, .gone, .gone, .gone, .gone, .gone, .gone, .gone, .rw 
  [vi (1), vi (0), vi (0), vi (0), vi (0), vi (0), vi (0), vi (0), vi (0), vi (0), vi (0)] (some 1), .rw [vi (0), vi (0), vi (0), vi (0), vi (0), vi (0), vi (0), vi (0), vi (0), vi (0), vi (0)] none, .rw [vi (66), vi (25)] none, .rw [vi (273), 
  vi (50)] none]
def e0 : ExactC := ⟨8, [.agg #[.slice (some ⟨3, 0, none⟩) 2 2, .slice (some ⟨4, 0, none⟩) 3 3], vi (2)], eh0, .tuple #[.slice (some ⟨16, 0, none⟩) 3 3, vi (0)], eh1, []⟩
theorem ek0 : e0.Ok Try.prog := ExactC.ok_ev (n := 20000) tc_ok (by kernel_rfl)
def e1 : ExactC := ⟨8, [.agg #[.slice (some ⟨3, 0, none⟩) 2 2, .slice (some ⟨4, 0, none⟩) 3 3], vi (6)], eh1, .tuple #[.slice none 0 0, vi (2)], eh1, []⟩
theorem ek1 : e1.Ok Try.prog := ExactC.ok_ev (n := 20000) tc_ok (by kernel_rfl)
def e2 : ExactC := ⟨9, [.agg #[.slice (some ⟨3, 0, none⟩) 2 2, .slice (some ⟨4, 0, none⟩) 3 3], vi (0)], eh1, .tuple #[.agg #[vi (31), vi (10)], vi (0)], eh1, []⟩
theorem ek2 : e2.Ok Try.prog := ExactC.ok_ev (n := 20000) tc_ok (by kernel_rfl)
def e3 : ExactC := ⟨51, [.agg #[.slice (some ⟨3, 0, none⟩) 2 2, .slice (some ⟨4, 0, none⟩) 3 3], vi (0), vi (1)], eh2, .tuple #[.slice (some ⟨23, 0, none⟩) 2 2, vi (0)], eh3, []⟩
theorem ek3 : e3.Ok Try.prog := ExactC.ok_ev (n := 20000) tc_ok (by kernel_rfl)
def e4 : ExactC := ⟨51, [.agg #[.slice (some ⟨3, 0, none⟩) 2 2, .slice (some ⟨4, 0, none⟩) 3 3], vi (0), vi (3)], eh3, .tuple #[.slice none 0 0, vi (3)], eh3, []⟩
theorem ek4 : e4.Ok Try.prog := ExactC.ok_ev (n := 20000) tc_ok (by kernel_rfl)
def e5 : ExactC := ⟨10, [.agg #[.slice (some ⟨3, 0, none⟩) 2 2, .slice (some ⟨4, 0, none⟩) 3 3], vi (0), .slice (some ⟨26, 0, none⟩) 2 2], eh4, .tuple #[vi (15), vi (0)], eh4, []⟩
theorem ek5 : e5.Ok Try.prog := ExactC.ok_ev (n := 20000) tc_ok (by kernel_rfl)
def e6 : ExactC := ⟨10, [.agg #[.slice (some ⟨3, 0, none⟩) 2 2, .slice (some ⟨4, 0, none⟩) 3 3], vi (0), .slice (some ⟨27, 0, none⟩) 3 3], eh5, .tuple #[vi (0), vi (15)], eh5, []⟩
theorem ek6 : e6.Ok Try.prog := ExactC.ok_ev (n := 20000) tc_ok (by kernel_rfl)
def e7 : ExactC := ⟨52, [.agg #[.slice (some ⟨3, 0, none⟩) 2 2, .slice (some ⟨4, 0, none⟩) 3 3], vi (0)], eh5, .tuple #[.slice (some ⟨30, 0, none⟩) 2 2, vi (0)], eh6, []⟩
theorem ek7 : e7.Ok Try.prog := ExactC.ok_ev (n := 20000) tc_ok (by kernel_rfl)
def e8 : ExactC := ⟨53, [.agg #[.slice (some ⟨3, 0, none⟩) 2 2, .slice (some ⟨4, 0, none⟩) 3 3], .agg #[.slice (some ⟨6, 0, none⟩) 1 1, .slice (some ⟨7, 0, none⟩) 1 1]], eh6, .tuple #[.slice (some ⟨109, 0, some 0⟩) 6 0, vi (0)], eh7, []⟩
theorem ek8 : e8.Ok Try.prog := ExactC.ok_ev (n := 20000) tc_ok (by kernel_rfl)
def e9 : ExactC := ⟨53, [.agg #[.slice (some ⟨3, 0, none⟩) 2 2, .slice (some ⟨4, 0, none⟩) 3 3], .agg #[.slice (some ⟨9, 0, none⟩) 1 1, .slice (some ⟨10, 0, none⟩) 1 1]], eh7, .tuple #[.slice none 0 0, vi (18)], eh7, []⟩
theorem ek9 : e9.Ok Try.prog := ExactC.ok_ev (n := 20000) tc_ok (by kernel_rfl)
def e10 : ExactC := ⟨54, [.agg #[.slice (some ⟨3, 0, none⟩) 2 2, .slice (some ⟨4, 0, none⟩) 3 3], .agg #[.slice (some ⟨9, 0, none⟩) 1 1, .slice (some ⟨10, 0, none⟩) 1 1]], eh7, .tuple #[.slice (some ⟨146, 0, some 0⟩) 11 0, vi (0)], eh8, []⟩
theorem ek10 : e10.Ok Try.prog := ExactC.ok_ev (n := 20000) tc_ok (by kernel_rfl)
def e11 : ExactC := ⟨54, [.agg #[.slice (some ⟨3, 0, none⟩) 2 2, .slice (some ⟨4, 0, none⟩) 3 3], .agg #[.slice (some ⟨6, 0, none⟩) 1 1, .slice (some ⟨7, 0, none⟩) 1 1]], eh8, .tuple #[.slice none 0 0, vi (5)], eh8, []⟩
theorem ek11 : e11.Ok Try.prog := ExactC.ok_ev (n := 20000) tc_ok (by kernel_rfl)
def e12 : ExactC := ⟨12, [.agg #[.slice (some ⟨3, 0, none⟩) 2 2, .slice (some ⟨4, 0, none⟩) 3 3], .agg #[.slice (some ⟨9, 0, none⟩) 1 1, .slice (some ⟨10, 0, none⟩) 1 1], .slice (some ⟨147, 0, none⟩) 11 11], eh9, vi (14), eh9, []⟩
theorem ek12 : e12.Ok Try.prog := ExactC.ok_ev (n := 20000) tc_ok (by kernel_rfl)
def e13 : ExactC := ⟨55, [.agg #[.slice (some ⟨3, 0, none⟩) 2 2, .slice (some ⟨4, 0, none⟩) 3 3], .agg #[.slice (some ⟨6, 0, none⟩) 1 1, .slice (some ⟨7, 0, none⟩) 1 1]], eh9, .tuple #[.agg #[vi (66), vi (25)], .agg #[vi (273), vi (50)], vi (0)], eh9, []⟩
theorem ek13 : e13.Ok Try.prog := ExactC.ok_ev (n := 20000) tc_ok (by kernel_rfl)
def e14 : ExactC := ⟨56, [.agg #[.slice (some ⟨3, 0, none⟩) 2 2, .slice (some ⟨4, 0, none⟩) 3 3], .agg #[.slice (some ⟨6, 0, none⟩) 1 1, .slice (some ⟨7, 0, none⟩) 1 1], .agg #[vi (3), vi (1)]], eh10, .tuple #[vi (-1), vi (0)], eh10, []⟩
theorem ek14 : e14.Ok Try.prog := ExactC.ok_ev (n := 20000) tc_ok (by kernel_rfl)
def e15 : ExactC := ⟨56, [.agg #[.slice (some ⟨3, 0, none⟩) 2 2, .slice (some ⟨4, 0, none⟩) 3 3], .agg #[.slice (some ⟨6, 0, none⟩) 1 1, .slice (some ⟨7, 0, none⟩) 1 1], .agg #[vi (5), vi (2)]], eh10, .tuple #[vi (0), vi (5)], eh10, []⟩
theorem ek15 : e15.Ok Try.prog := ExactC.ok_ev (n := 20000) tc_ok (by kernel_rfl)
def e16 : ExactC := ⟨13, [.agg #[.slice (some ⟨3, 0, none⟩) 2 2, .slice (some ⟨4, 0, none⟩) 3 3], .agg #[.slice (some ⟨6, 0, none⟩) 1 1, .slice (some ⟨7, 0, none⟩) 1 1], .agg #[vi (3), vi (1)], vi (-1)], eh10, vi (0), eh10, []⟩
theorem ek16 : e16.Ok Try.prog := ExactC.ok_ev (n := 20000) tc_ok (by kernel_rfl)
def e17 : ExactC := ⟨13, [.agg #[.slice (some ⟨3, 0, none⟩) 2 2, .slice (some ⟨4, 0, none⟩) 3 3], .agg #[.slice (some ⟨6, 0, none⟩) 1 1, .slice (some ⟨7, 0, none⟩) 1 1], .agg #[vi (3), vi (1)], vi (0)], eh10, vi (16), eh10, []⟩
theorem ek17 : e17.Ok Try.prog := ExactC.ok_ev (n := 20000) tc_ok (by kernel_rfl)
def es : List ExactC := [e0, e1, e2, e3, e4, e5, e6, e7, e8, e9, e10, e11, e12, e13, e14, e15, e16, e17]
theorem es_ok : ∀ p ∈ es, p.Ok Try.prog := by
  intro p hp
  simp only [es, List.mem_cons, List.not_mem_nil, or_false] at hp
  rcases hp with rfl | rfl | rfl | rfl | rfl | rfl | rfl | rfl | rfl | rfl | rfl | rfl | rfl | rfl | rfl | rfl | rfl | rfl
  · exact ek0
  · exact ek1
  · exact ek2
  · exact ek3
  · exact ek4
  · exact ek5
  · exact ek6
  · exact ek7
  · exact ek8
  · exact ek9
  · exact ek10
  · exact ek11
  · exact ek12
  · exact ek13
  · exact ek14
  · exact ek15
  · exact ek16
  · exact ek17
noncomputable def et : Tbl := exactTbl es tc
theorem et_ok : TblOk Try.prog et := exactTbl_ok es_ok tc_ok

end Go.Pier.PinsK
