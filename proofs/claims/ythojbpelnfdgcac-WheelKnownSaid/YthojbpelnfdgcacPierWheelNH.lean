/-
  Pier: calls over a whole heap.
-/
import Derived.Test.YthojbpelnfdgcacPierWheelB
namespace Go.Pier.WheelK
open Go Go.Pier Go.Proofs

def nh0 : Heap := [.gone, .rw [vi (0), vi (6)] none, .rw [vi (3), vi (1), vi (2), vi (2)] none, .gone, .gone, .gone, .gone, .gone, .rw [.slice (some ⟨2, 0, none⟩) 2 4, .slice (some ⟨2, 2, none⟩) 2 2] (some 1), .gone, .rw [vi (1), vi (0), vi (4)] none, .rw [vi 
  (0), vi (1), vi (1), vi (0), vi (2), vi (0), vi (0), vi (0), vi (2)] none, .gone, .gone, .gone, .gone, .gone, .gone, .gone, .rw [.slice (some ⟨11, 0, none⟩) 3 9, .slice (some ⟨11, 3, none⟩) 3 6, .slice (some ⟨11, 6, none⟩) 3 3] (some 1), .gone, 
  .rw [vi (1), vi (3)] none, .rw [vi (0), vi (1), vi (1), vi (0)] none, .gone, .gone, .gone, .gone, .gone, .rw [.slice (some ⟨22, 0, none⟩) 2 4, .slice (some ⟨22, 2, none⟩) 2 2] (some 1), .rw [vi (4), .slice (some ⟨8, 0, some 0⟩) 2 0, .slice (some 
  ⟨1, 0, none⟩) 2 2] none, .rw [vi (2), .slice (some ⟨19, 0, some 0⟩) 3 0, .slice (some ⟨10, 0, none⟩) 3 3] none, .rw [vi (1), .slice (some ⟨28, 0, some 0⟩) 2 0, .slice (some ⟨21, 0, none⟩) 2 2] none]
def nh1 : Heap := [.gone, .rw [vi (0), vi (6)] none, .rw [vi (3), vi (1), vi (2), vi (2)] none, .gone, .gone, .gone, .gone, .gone, .rw [.slice (some ⟨2, 0, none⟩) 2 4, .slice (some ⟨2, 2, none⟩) 2 2] (some 1), .gone, .rw [vi (1), vi (0), vi (4)] none, .rw [vi 
  (0), vi (1), vi (1), vi (0), vi (2), vi (0), vi (0), vi (0), vi (2)] none, .gone, .gone, .gone, .gone, .gone, .gone, .gone, .rw [.slice (some ⟨11, 0, none⟩) 3 9, .slice (some ⟨11, 3, none⟩) 3 6, .slice (some ⟨11, 6, none⟩) 3 3] (some 1), .gone, 
  .rw [vi (1), vi (3)] none, .rw [vi (0), vi (1), vi (1), vi (0)] none, .gone, .gone, .gone, .gone, .gone, .rw [.slice (some ⟨22, 0, none⟩) 2 4, .slice (some ⟨22, 2, none⟩) 2 2] (some 1), .rw [vi (4), .slice (some ⟨8, 0, some 0⟩) 2 0, .slice (some 
  ⟨1, 0, none⟩) 2 2] none, .rw [vi (2), .slice (some ⟨19, 0, some 0⟩) 3 0, .slice (some ⟨10, 0, none⟩) 3 3] none, .rw [vi (1), .slice (some ⟨28, 0, some 0⟩) 2 0, .slice (some ⟨21, 0, none⟩) 2 2] none, .gone, .gone, .gone, .gone, .gone, .gone, 
  .gone, .gone, .gone, .gone, .gone, .gone, .gone, .rw [vi (0), vi (1)] none, .gone, .rw [.slice (some ⟨45, 0, none⟩) 2 2] (some 1)]
def nh2 : Heap := [.gone, .rw [vi (0), vi (6)] none, .rw [vi (3), vi (1), vi (2), vi (2)] none, .gone, .gone, .gone, .gone, .gone, .rw [.slice (some ⟨2, 0, none⟩) 2 4, .slice (some ⟨2, 2, none⟩) 2 2] (some 1), .gone, .rw [vi (1), vi (0), vi (4)] none, .rw [vi 
  (0), vi (1), vi (1), vi (0), vi (2), vi (0), vi (0), vi (0), vi (2)] none, .gone, .gone, .gone, .gone, .gone, .gone, .gone, .rw [.slice (some ⟨11, 0, none⟩) 3 9, .slice (some ⟨11, 3, none⟩) 3 6, .slice (some ⟨11, 6, none⟩) 3 3] (some 1), .gone, 
  .rw [vi (1), vi (3)] none, .rw [vi (0), vi (1), vi (1), vi (0)] none, .gone, .gone, .gone, .gone, .gone, .rw [.slice (some ⟨22, 0, none⟩) 2 4, .slice (some ⟨22, 2, none⟩) 2 2] (some 1), .rw [vi (4), .slice (some ⟨8, 0, some 0⟩) 2 0, .slice (some 
  ⟨1, 0, none⟩) 2 2] none, .rw [vi (2), .slice (some ⟨19, 0, some 0⟩) 3 0, .slice (some ⟨10, 0, none⟩) 3 3] none, .rw [vi (1), .slice (some ⟨28, 0, some 0⟩) 2 0, .slice (some ⟨21, 0, none⟩) 2 2] none, .gone, .gone, .gone, .gone, .gone, .gone, 
  .gone, .gone, .gone, .gone, .gone, .gone, .gone, .rw [vi (0), vi (1)] none, .gone, .rw [.slice (some ⟨45, 0, none⟩) 2 2] (some 1), .rw [vi (1), vi (1)] none]
def nh3 : Heap := [.gone, .rw [vi (0), vi (6)] none, .rw [vi (3), vi (1), vi (2), vi (2)] none, .gone, .gone, .gone, .gone, .gone, .rw [.slice (some ⟨2, 0, none⟩) 2 4, .slice (some ⟨2, 2, none⟩) 2 2] (some 1), .gone, .rw [vi (1), vi (0), vi (4)] none, .rw [vi 
  (0), vi (1), vi (1), vi (0), vi (2), vi (0), vi (0), vi (0), vi (2)] none, .gone, .gone, .gone, .gone, .gone, .gone, .gone, .rw [.slice (some ⟨11, 0, none⟩) 3 9, .slice (some ⟨11, 3, none⟩) 3 6, .slice (some ⟨11, 6, none⟩) 3 3] (some 1), .gone, 
  .rw [vi (1), vi (3)] none, .rw [vi (0), vi (1), vi (1), vi (0)] none, .gone, .gone, .gone, .gone, .gone, .rw [.slice (some ⟨22, 0, none⟩) 2 4, .slice (some ⟨22, 2, none⟩) 2 2] (some 1), .rw [vi (4), .slice (some ⟨8, 0, some 0⟩) 2 0, .slice (some 
  ⟨1, 0, none⟩) 2 2] none, .rw [vi (2), .slice (some ⟨19, 0, some 0⟩) 3 0, .slice (some ⟨10, 0, none⟩) 3 3] none, .rw [vi (1), .slice (some ⟨28, 0, some 0⟩) 2 0, .slice (some ⟨21, 0, none⟩) 2 2] none, .gone, .gone, .gone, .gone, .gone, .gone, 
  .gone, .gone, .gone, .gone, .gone, .gone, .gone, .rw [vi (0), vi (1)] none, .gone, .rw [.slice (some ⟨45, 0, none⟩) 2 2] (some 1), .rw [vi (1), vi (1)] none, .rw [vi (0), vi (1)] none]
def nh4 : Heap := [.gone, .rw [vi (0), vi (6)] none, .rw [vi (3), vi (1), vi (2), vi (2)] none, .gone, .gone, .gone, .gone, .gone, .rw [.slice (some ⟨2, 0, none⟩) 2 4, .slice (some ⟨2, 2, none⟩) 2 2] (some 1), .gone, .rw [vi (1), vi (0), vi (4)] none, .rw [vi 
  (0), vi (1), vi (1), vi (0), vi (2), vi (0), vi (0), vi (0), vi (2)] none, .gone, .gone, .gone, .gone, .gone, .gone, .gone, .rw [.slice (some ⟨11, 0, none⟩) 3 9, .slice (some ⟨11, 3, none⟩) 3 6, .slice (some ⟨11, 6, none⟩) 3 3] (some 1), .gone, 
  .rw [vi (1), vi (3)] none, .rw [vi (0), vi (1), vi (1), vi (0)] none, .gone, .gone, .gone, .gone, .gone, .rw [.slice (some ⟨22, 0, none⟩) 2 4, .slice (some ⟨22, 2, none⟩) 2 2] (some 1), .rw [vi (4), .slice (some ⟨8, 0, some 0⟩) 2 0, .slice (some 
  ⟨1, 0, none⟩) 2 2] none, .rw [vi (2), .slice (some ⟨19, 0, some 0⟩) 3 0, .slice (some ⟨10, 0, none⟩) 3 3] none, .rw [vi (1), .slice (some ⟨28, 0, some 0⟩) 2 0, .slice (some ⟨21, 0, none⟩) 2 2] none, .gone, .gone, .gone, .gone, .gone, .gone, 
  .gone, .gone, .gone, .gone, .gone, .gone, .gone, .rw [vi (0), vi (1)] none, .gone, .rw [.slice (some ⟨45, 0, none⟩) 2 2] (some 1), .rw [vi (1), vi (1)] none, .rw [vi (0), vi (1)] none, .rw [vi (2), vi (1)] none, .rw [vi (0), vi (8)] none]
def nh5 : Heap := [.gone, .rw [vi (0), vi (6)] none, .rw [vi (3), vi (1), vi (2), vi (2)] none, .gone, .gone, .gone, .gone, .gone, .rw [.slice (some ⟨2, 0, none⟩) 2 4, .slice (some ⟨2, 2, none⟩) 2 2] (some 1), .gone, .rw [vi (1), vi (0), vi (4)] none, .rw [vi 
  (0), vi (1), vi (1), vi (0), vi (2), vi (0), vi (0), vi (0), vi (2)] none, .gone, .gone, .gone, .gone, .gone, .gone, .gone, .rw [.slice (some ⟨11, 0, none⟩) 3 9, .slice (some ⟨11, 3, none⟩) 3 6, .slice (some ⟨11, 6, none⟩) 3 3] (some 1), .gone, 
  .rw [vi (1), vi (3)] none, .rw [vi (0), vi (1), vi (1), vi (0)] none, .gone, .gone, .gone, .gone, .gone, .rw [.slice (some ⟨22, 0, none⟩) 2 4, .slice (some ⟨22, 2, none⟩) 2 2] (some 1), .rw [vi (4), .slice (some ⟨8, 0, some 0⟩) 2 0, .slice (some 
  ⟨1, 0, none⟩) 2 2] none, .rw [vi (2), .slice (some ⟨19, 0, some 0⟩) 3 0, .slice (some ⟨10, 0, none⟩) 3 3] none, .rw [vi (1), .slice (some ⟨28, 0, some 0⟩) 2 0, .slice (some ⟨21, 0, none⟩) 2 2] none, .gone, .gone, .gone, .gone, .gone, .gone, 
  .gone, .gone, .gone, .gone, .gone, .gone, .gone, .rw [vi (0), vi (1)] none, .gone, .rw [.slice (some ⟨45, 0, none⟩) 2 2] (some 1), .rw [vi (1), vi (1)] none, .rw [vi (0), vi (1)] none, .rw [vi (2), vi (1)] none, .rw [vi (0), vi (8)] none, .rw 
  [vi (6), vi (22)] none]
def nh6 : Heap := [.gone, .rw [vi (0), vi (6)] none, .rw [vi (3), vi (1), vi (2), vi (2)] none, .gone, .gone, .gone, .gone, .gone, .rw [.slice (some ⟨2, 0, none⟩) 2 4, .slice (some ⟨2, 2, none⟩) 2 2] (some 1), .gone, .rw [vi (1), vi (0), vi (4)] none, .rw [vi 
  (0), vi (1), vi (1), vi (0), vi (2), vi (0), vi (0), vi (0), vi (2)] none, .gone, .gone, .gone, .gone, .gone, .gone, .gone, .rw [.slice (some ⟨11, 0, none⟩) 3 9, .slice (some ⟨11, 3, none⟩) 3 6, .slice (some ⟨11, 6, none⟩) 3 3] (some 1), .gone, 
  .rw [vi (1), vi (3)] none, .rw [vi (0), vi (1), vi (1), vi (0)] none, .gone, .gone, .gone, .gone, .gone, .rw [.slice (some ⟨22, 0, none⟩) 2 4, .slice (some ⟨22, 2, none⟩) 2 2] (some 1), .rw [vi (4), .slice (some ⟨8, 0, some 0⟩) 2 0, .slice (some 
  ⟨1, 0, none⟩) 2 2] none, .rw [vi (2), .slice (some ⟨19, 0, some 0⟩) 3 0, .slice (some ⟨10, 0, none⟩) 3 3] none, .rw [vi (1), .slice (some ⟨28, 0, some 0⟩) 2 0, .slice (some ⟨21, 0, none⟩) 2 2] none, .gone, .gone, .gone, .gone, .gone, .gone, 
  .gone, .gone, .gone, .gone, .gone, .gone, .gone, .rw [vi (0), vi (1)] none, .gone, .rw [.slice (some ⟨45, 0, none⟩) 2 2] (some 1), .rw [vi (1), vi (1)] none, .rw [vi (0), vi (1)] none, .rw [vi (2), vi (1)] none, .rw [vi (0), vi (8)] none, .rw 
  [vi (6), vi (22)] none, .rw [vi (0), vi (1)] none]
def nh7 : Heap := [.gone, .rw [vi (0), vi (6)] none, .rw [vi (3), vi (1), vi (2), vi (2)] none, .gone, .gone, .gone, .gone, .gone, .rw [.slice (some ⟨2, 0, none⟩) 2 4, .slice (some ⟨2, 2, none⟩) 2 2] (some 1), .gone, .rw [vi (1), vi (0), vi (4)] none, .rw [vi 
  (0), vi (1), vi (1), vi (0), vi (2), vi (0), vi (0), vi (0), vi (2)] none, .gone, .gone, .gone, .gone, .gone, .gone, .gone, .rw [.slice (some ⟨11, 0, none⟩) 3 9, .slice (some ⟨11, 3, none⟩) 3 6, .slice (some ⟨11, 6, none⟩) 3 3] (some 1), .gone, 
  .rw [vi (1), vi (3)] none, .rw [vi (0), vi (1), vi (1), vi (0)] none, .gone, .gone, .gone, .gone, .gone, .rw [.slice (some ⟨22, 0, none⟩) 2 4, .slice (some ⟨22, 2, none⟩) 2 2] (some 1), .rw [vi (4), .slice (some ⟨8, 0, some 0⟩) 2 0, .slice (some 
  ⟨1, 0, none⟩) 2 2] none, .rw [vi (2), .slice (some ⟨19, 0, some 0⟩) 3 0, .slice (some ⟨10, 0, none⟩) 3 3] none, .rw [vi (1), .slice (some ⟨28, 0, some 0⟩) 2 0, .slice (some ⟨21, 0, none⟩) 2 2] none, .gone, .gone, .gone, .gone, .gone, .gone, 
  .gone, .gone, .gone, .gone, .gone, .gone, .gone, .rw [vi (0), vi (1)] none, .gone, .rw [.slice (some ⟨45, 0, none⟩) 2 2] (some 1), .rw [vi (1), vi (1)] none, .rw [vi (0), vi (1)] none, .rw [vi (2), vi (1)] none, .rw [vi (0), vi (8)] none, .rw 
  [vi (6), vi (22)] none, .rw [vi (0), vi (1)] none, .rw [vi (6), vi (1)] none]
def n0 : ExactC := ⟨22, [.agg #[vi (4), .slice (some ⟨8, 0, some 0⟩) 2 0, .slice (some ⟨1, 0, none⟩) 2 2]], nh0, vi (0), nh0, []⟩
def n1 : ExactC := ⟨23, [.agg #[vi (2), .slice (some ⟨19, 0, some 0⟩) 3 0, .slice (some ⟨10, 0, none⟩) 3 3]], nh0, vi (14), nh0, []⟩
def n2 : ExactC := ⟨24, [.agg #[vi (4), .slice (some ⟨8, 0, some 0⟩) 2 0, .slice (some ⟨1, 0, none⟩) 2 2]], nh0, .tuple #[.slice (some ⟨47, 0, some 0⟩) 1 0, vi (0)], nh1, []⟩
def n3 : ExactC := ⟨25, [.agg #[vi (2), .slice (some ⟨19, 0, some 0⟩) 3 0, .slice (some ⟨10, 0, none⟩) 3 3], vi (1), vi (0)], nh1, .tuple #[.agg #[vi (1), vi (1)], vi (0)], nh1, []⟩
def n4 : ExactC := ⟨25, [.agg #[vi (2), .slice (some ⟨19, 0, some 0⟩) 3 0, .slice (some ⟨10, 0, none⟩) 3 3], vi (1), vi (1)], nh2, .tuple #[.agg #[vi (0), vi (1)], vi (0)], nh2, []⟩
def n5 : ExactC := ⟨26, [.agg #[vi (4), .slice (some ⟨8, 0, some 0⟩) 2 0, .slice (some ⟨1, 0, none⟩) 2 2], vi (0)], nh3, .tuple #[vi (1), vi (0)], nh3, []⟩
def n6 : ExactC := ⟨27, [.agg #[vi (1), .slice (some ⟨28, 0, some 0⟩) 2 0, .slice (some ⟨21, 0, none⟩) 2 2]], nh3, .tuple #[.agg #[vi (2), vi (1)], vi (0)], nh3, []⟩
def n7 : ExactC := ⟨28, [.agg #[vi (4), .slice (some ⟨8, 0, some 0⟩) 2 0, .slice (some ⟨1, 0, none⟩) 2 2], .agg #[vi (1), vi (1), .slice (some ⟨51, 0, none⟩) 2 2]], nh4, .tuple #[vi (2), vi (0)], nh4, []⟩
def n8 : ExactC := ⟨28, [.agg #[vi (4), .slice (some ⟨8, 0, some 0⟩) 2 0, .slice (some ⟨1, 0, none⟩) 2 2], .agg #[vi (2), vi (4), .slice (some ⟨52, 0, none⟩) 2 2]], nh5, .tuple #[vi (3), vi (0)], nh5, []⟩
def n9 : ExactC := ⟨30, [.agg #[vi (4), .slice (some ⟨8, 0, some 0⟩) 2 0, .slice (some ⟨1, 0, none⟩) 2 2], vi (0), vi (1)], nh5, .tuple #[.agg #[vi (0), vi (1)], vi (0)], nh5, []⟩
def n10 : ExactC := ⟨30, [.agg #[vi (4), .slice (some ⟨8, 0, some 0⟩) 2 0, .slice (some ⟨1, 0, none⟩) 2 2], vi (1), vi (1)], nh6, .tuple #[.agg #[vi (6), vi (1)], vi (0)], nh6, []⟩
def n11 : ExactC := ⟨31, [.agg #[vi (4), .slice (some ⟨8, 0, some 0⟩) 2 0, .slice (some ⟨1, 0, none⟩) 2 2]], nh7, .tuple #[.agg #[vi (2), vi (1)], .agg #[vi (2), vi (1)], vi (0)], nh7, []⟩

end Go.Pier.WheelK
