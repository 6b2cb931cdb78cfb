/-
  Pier: PierLgEH.
-/
import Derived.Test.YtinkmgacaoohnaaPierMC4
import Derived.KernelRfl
set_option linter.unusedSimpArgs false
set_option linter.unusedVariables false
/-
  Pier: calls over a whole heap.
-/
namespace Go.Pier.Lg
open Go Go.Pier Go.Proofs

def eh0 : Heap := [.rw [vi (2), vi (0), vi (2), vi (1)] none, .rw [vi (3), vi (4), vi (3), vi (4)] none]
def eh1 : Heap := [.rw [vi (2), vi (0), vi (2), vi (1)] none, .rw [vi (3), vi (4), vi (3), vi (4)] none, .gone, .gone, .gone, .gone, .gone, .gone, .gone, .gone, .gone, .gone, .gone, .gone, .gone, .gone, .gone, .gone, .gone, .gone, .gone, .gone, .gone, .gone, 
  .gone, .gone, .gone, .rw [vi (2), vi (0), vi (3), vi (1)] (some 1)]
def eh2 : Heap := [.rw [vi (2), vi (0), vi (2), vi (1)] none, .rw [vi (3), vi (4), vi (3), vi (4)] none, .gone, .gone, .gone, .gone, .gone, .gone, .gone, .gone, .gone, .gone, .gone, .gone, .gone, .gone, .gone, .gone, .gone, .gone, .gone, .gone, .gone, .gone, 
  .gone, .gone, .gone, .rw [vi (2), vi (0), vi (3), vi (1)] (some 1), .gone, .gone, .gone, .gone, .gone, .gone, .gone, .gone, .gone, .gone, .gone, .gone, .gone, .gone, .gone, .gone, .gone, .gone, .gone, .gone, .gone, .gone, .gone, .gone, .gone, 
  .rw [vi (3), vi (4), vi (-1), vi (-1)] (some 1)]
def eh3 : Heap := [.rw [vi (2), vi (0), vi (2), vi (1)] none, .rw [vi (3), vi (4), vi (3), vi (4)] none, .gone, .gone, .gone, .gone, .gone, .gone, .gone, .gone, .gone, .gone, .gone, .gone, .gone, .gone, .gone, .gone, .gone, .gone, .gone, .gone, .gone, .gone, 
  .gone, .gone, .gone, .rw [vi (2), vi (0), vi (3), vi (1)] (some 1), .gone, .gone, .gone, .gone, .gone, .gone, .gone, .gone, .gone, .gone, .gone, .gone, .gone, .gone, .gone, .gone, .gone, .gone, .gone, .gone, .gone, .gone, .gone, .gone, .gone, 
  .rw [vi (3), vi (4), vi (-1), vi (-1)] (some 1), .gone, .gone, .gone, .gone, .gone, .gone, .gone, .gone, .gone, .gone, .gone, .gone, .gone, .gone, .gone, .gone, .gone, .gone, .gone, .gone, .gone, .gone, .gone, .gone, .gone, .gone, .gone, .gone, 
  .gone, .gone, .rw [vi (3), vi (4)] none]
def eh4 : Heap := [.rw [vi (2), vi (0), vi (2), vi (1)] none, .rw [vi (3), vi (4), vi (3), vi (4)] none, .gone, .gone, .gone, .gone, .gone, .gone, .gone, .gone, .gone, .gone, .gone, .gone, .gone, .gone, .gone, .gone, .gone, .gone, .gone, .gone, .gone, .gone, 
  .gone, .gone, .gone, .rw [vi (2), vi (0), vi (3), vi (1)] (some 1), .gone, .gone, .gone, .gone, .gone, .gone, .gone, .gone, .gone, .gone, .gone, .gone, .gone, .gone, .gone, .gone, .gone, .gone, .gone, .gone, .gone, .gone, .gone, .gone, .gone, 
  .rw [vi (3), vi (4), vi (-1), vi (-1)] (some 1), .gone, .gone, .gone, .gone, .gone, .gone, .gone, .gone, .gone, .gone, .gone, .gone, .gone, .gone, .gone, .gone, .gone, .gone, .gone, .gone, .gone, .gone, .gone, .gone, .gone, .gone, .gone, .gone, 
  .gone, .gone, .rw [vi (3), vi (4)] none, .rw [vi (4), vi (1)] none]
def eh5 : Heap := [.rw [vi (2), vi (0), vi (2), vi (1)] none, .rw [vi (3), vi (4), vi (3), vi (4)] none, .gone, .gone, .gone, .gone, .gone, .gone, .gone, .gone, .gone, .gone, .gone, .gone, .gone, .gone, .gone, .gone, .gone, .gone, .gone, .gone, .gone, .gone, 
  .gone, .gone, .gone, .rw [vi (2), vi (0), vi (3), vi (1)] (some 1), .gone, .gone, .gone, .gone, .gone, .gone, .gone, .gone, .gone, .gone, .gone, .gone, .gone, .gone, .gone, .gone, .gone, .gone, .gone, .gone, .gone, .gone, .gone, .gone, .gone, 
  .rw [vi (3), vi (4), vi (-1), vi (-1)] (some 1), .gone, .gone, .gone, .gone, .gone, .gone, .gone, .gone, .gone, .gone, .gone, .gone, .gone, .gone, .gone, .gone, .gone, .gone, .gone, .gone, .gone, .gone, .gone, .gone, .gone, .gone, .gone, .gone, 
  .gone, .gone, .rw [vi (3), vi (4)] none, .rw [vi (4), vi (1)] none, .gone, .gone, .gone, .gone, .gone, .gone, .gone, .gone, .gone, .gone, .gone, .gone, .gone, .gone, .gone, .gone, .gone, .gone, .gone, .gone, .gone, .gone, .gone, .gone, .gone, 
  .gone, .gone, .gone, .gone, .gone, .gone, .gone, .gone, .gone, .gone, .gone, .gone, .gone, .gone, .gone, .gone, .gone, .gone, .gone, .gone, .gone, .gone, .gone, .gone, .gone, .gone, .gone, .gone, .gone, .gone, .gone, .gone, .gone, .gone, .gone, 
  .gone, .gone, .gone, .gone, .gone, .gone, .gone, .gone, .gone, .gone, .gone, .gone, .gone, .gone, .gone, .gone, .gone, .gone, .gone, .gone, .gone, .gone, .gone, .gone, .gone, .gone, .gone, .gone, .gone, .gone, .gone, .gone, .gone, .gone, .gone, 
  .gone, .gone, .gone, .gone, .gone, .gone, .gone, .gone, .gone, .gone, .gone, .gone, .gone, .gone, .gone, .gone, .gone, .gone, .gone, .rw [vi (0), vi (1), vi (2), vi (3)] none]
def eh6 : Heap := [.rw [vi (2), vi (0), vi (2), vi (1)] none, .rw [vi (3), vi (4), vi (3), vi (4)] none, .gone, .gone, .gone, .gone, .gone, .gone, .gone, .gone, .gone, .gone, .gone, .gone, .gone, .gone, .gone, .gone, .gone, .gone, .gone, .gone, .gone, .gone, 
  .gone, .gone, .gone, .rw [vi (2), vi (0), vi (3), vi (1)] (some 1), .gone, .gone, .gone, .gone, .gone, .gone, .gone, .gone, .gone, .gone, .gone, .gone, .gone, .gone, .gone, .gone, .gone, .gone, .gone, .gone, .gone, .gone, .gone, .gone, .gone, 
  .rw [vi (3), vi (4), vi (-1), vi (-1)] (some 1), .gone, .gone, .gone, .gone, .gone, .gone, .gone, .gone, .gone, .gone, .gone, .gone, .gone, .gone, .gone, .gone, .gone, .gone, .gone, .gone, .gone, .gone, .gone, .gone, .gone, .gone, .gone, .gone, 
  .gone, .gone, .rw [vi (3), vi (4)] none, .rw [vi (4), vi (1)] none, .gone, .gone, .gone, .gone, .gone, .gone, .gone, .gone, .gone, .gone, .gone, .gone, .gone, .gone, .gone, .gone, .gone, .gone, .gone, .gone, .gone, .gone, .gone, .gone, .gone, 
  .gone, .gone, .gone, .gone, .gone, .gone, .gone, .gone, .gone, .gone, .gone, .gone, .gone, .gone, .gone, .gone, .gone, .gone, .gone, .gone, .gone, .gone, .gone, .gone, .gone, .gone, .gone, .gone, .gone, .gone, .gone, .gone, .gone, .gone, .gone, 
  .gone, .gone, .gone, .gone, .gone, .gone, .gone, .gone, .gone, .gone, .gone, .gone, .gone, .gone, .gone, .gone, .gone, .gone, .gone, .gone, .gone, .gone, .gone, .gone, .gone, .gone, .gone, .gone, .gone, .gone, .gone, .gone, .gone, .gone, .gone, 
  .gone, .gone, .gone, .gone, .gone, .gone, .gone, .gone, .gone, .gone, .gone, .gone, .gone, .gone, .gone, .gone, .gone, .gone, .gone, .rw [vi (0), vi (1), vi (2), vi (3)] none, .rw [vi (0), vi (1), vi (3)] none]
def eh7 : Heap := [.rw [vi (2), vi (0), vi (2), vi (1)] none, .rw [vi (3), vi (4), vi (3), vi (4)] none, .gone, .gone, .gone, .gone, .gone, .gone, .gone, .gone, .gone, .gone, .gone, .gone, .gone, .gone, .gone, .gone, .gone, .gone, .gone, .gone, .gone, .gone, 
  .gone, .gone, .gone, .rw [vi (2), vi (0), vi (3), vi (1)] (some 1), .gone, .gone, .gone, .gone, .gone, .gone, .gone, .gone, .gone, .gone, .gone, .gone, .gone, .gone, .gone, .gone, .gone, .gone, .gone, .gone, .gone, .gone, .gone, .gone, .gone, 
  .rw [vi (3), vi (4), vi (-1), vi (-1)] (some 1), .gone, .gone, .gone, .gone, .gone, .gone, .gone, .gone, .gone, .gone, .gone, .gone, .gone, .gone, .gone, .gone, .gone, .gone, .gone, .gone, .gone, .gone, .gone, .gone, .gone, .gone, .gone, .gone, 
  .gone, .gone, .rw [vi (3), vi (4)] none, .rw [vi (4), vi (1)] none, .gone, .gone, .gone, .gone, .gone, .gone, .gone, .gone, .gone, .gone, .gone, .gone, .gone, .gone, .gone, .gone, .gone, .gone, .gone, .gone, .gone, .gone, .gone, .gone, .gone, 
  .gone, .gone, .gone, .gone, .gone, .gone, .gone, .gone, .gone, .gone, .gone, .gone, .gone, .gone, .gone, .gone, .gone, .gone, .gone, .gone, .gone, .gone, .gone, .gone, .gone, .gone, .gone, .gone, .gone, .gone, .gone, .gone, .gone, .gone, .gone, 
  .gone, .gone, .gone, .gone, .gone, .gone, .gone, .gone, .gone, .gone, .gone, .gone, .gone, .gone, .gone, .gone, .gone, .gone, .gone, .gone, .gone, .gone, .gone, .gone, .gone, .gone, .gone, .gone, .gone, .gone, .gone, .gone, .gone, .gone, .gone, 
  .gone, .gone, .gone, .gone, .gone, .gone, .gone, .gone, .gone, .gone, .gone, .gone, .gone, .gone, .gone, .gone, .gone, .gone, .gone, .rw [vi (0), vi (1), vi (2), vi (3)] none, .rw [vi (0), vi (1), vi (3)] none, .rw [vi (1), vi (0)] none]
def eh8 : Heap := [.rw [vi (2), vi (0), vi (2), vi (1)] none, .rw [vi (3), vi (4), vi (3), vi (4)] none, .gone, .gone, .gone, .gone, .gone, .gone, .gone, .gone, .gone, .gone, .gone, .gone, .gone, .gone, .gone, .gone, .gone, .gone, .gone, .gone, .gone, .gone, 
  .gone, .gone, .gone, .rw [vi (2), vi (0), vi (3), vi (1)] (some 1), .gone, .gone, .gone, .gone, .gone, .gone, .gone, .gone, .gone, .gone, .gone, .gone, .gone, .gone, .gone, .gone, .gone, .gone, .gone, .gone, .gone, .gone, .gone, .gone, .gone, 
  .rw [vi (3), vi (4), vi (-1), vi (-1)] (some 1), .gone, .gone, .gone, .gone, .gone, .gone, .gone, .gone, .gone, .gone, .gone, .gone, .gone, .gone, .gone, .gone, .gone, .gone, .gone, .gone, .gone, .gone, .gone, .gone, .gone, .gone, .gone, .gone, 
  .gone, .gone, .rw [vi (3), vi (4)] none, .rw [vi (4), vi (1)] none, .gone, .gone, .gone, .gone, .gone, .gone, .gone, .gone, .gone, .gone, .gone, .gone, .gone, .gone, .gone, .gone, .gone, .gone, .gone, .gone, .gone, .gone, .gone, .gone, .gone, 
  .gone, .gone, .gone, .gone, .gone, .gone, .gone, .gone, .gone, .gone, .gone, .gone, .gone, .gone, .gone, .gone, .gone, .gone, .gone, .gone, .gone, .gone, .gone, .gone, .gone, .gone, .gone, .gone, .gone, .gone, .gone, .gone, .gone, .gone, .gone, 
  .gone, .gone, .gone, .gone, .gone, .gone, .gone, .gone, .gone, .gone, .gone, .gone, .gone, .gone, .gone, .gone, .gone, .gone, .gone, .gone, .gone, .gone, .gone, .gone, .gone, .gone, .gone, .gone, .gone, .gone, .gone, .gone, .gone, .gone, .gone, 
  .gone, .gone, .gone, .gone, .gone, .gone, .gone, .gone, .gone, .gone, .gone, .gone, .gone, .gone, .gone, .gone, .gone, .gone, .gone, .rw [vi (0), vi (1), vi (2), vi (3)] none, .rw [vi (0), vi (1), vi (3)] none, .rw [vi (1), vi (0)] none, .rw 
  [vi (2), vi (0), vi (3), vi (1)] none]
def eh9 : Heap := [.rw [vi (2), vi (0), vi (2), vi (1)] none, .rw [vi (3), vi (4), vi (3), vi (4)] none, .gone, .gone, .gone, .gone, .gone, .gone, .gone, .gone, .gone, .gone, .gone, .gone, .gone, .gone, .gone, .gone, .gone, .gone, .gone, .gone, .gone, .gone, 
  .gone, .gone, .gone, .rw [vi (2), vi (0), vi (3), vi (1)] (some 1), .gone, .gone, .gone, .gone, .gone, .gone, .gone, .gone, .gone, .gone, .gone, .gone, .gone, .gone, .gone, .gone, .gone, .gone, .gone, .gone, .gone, .gone, .gone, .gone, .gone, 
  .rw [vi (3), vi (4), vi (-1), vi (-1)] (some 1), .gone, .gone, .gone, .gone, .gone, .gone, .gone, .gone, .gone, .gone, .gone, .gone, .gone, .gone, .gone, .gone, .gone, .gone, .gone, .gone, .gone, .gone, .gone, .gone, .gone, .gone, .gone, .gone, 
  .gone, .gone, .rw [vi (3), vi (4)] none, .rw [vi (4), vi (1)] none, .gone, .gone, .gone, .gone, .gone, .gone, .gone, .gone, .gone, .gone, .gone, .gone, .gone, .gone, .gone, .gone, .gone, .gone, .gone, .gone, .gone, .gone, .gone, .gone, .gone, 
  .gone, .gone, .gone, .gone, .gone, .gone, .gone, .gone, .gone, .gone, .gone, .gone, .gone, .gone, .gone, .gone, .gone, .gone, .gone, .gone, .gone, .gone, .gone, .gone, .gone, .gone, .gone, .gone, .gone, .gone, .gone, .gone, .gone, .gone, .gone, 
  .gone, .gone, .gone, .gone, .gone, .gone, .gone, .gone, .gone, .gone, .gone, .gone, .gone, .gone, .gone, .gone, .gone, .gone, .gone, .gone, .gone, .gone, .gone, .gone, .gone, .gone, .gone, .gone, .gone, .gone, .gone, .gone, .gone, .gone, .gone, 
  .gone, .gone, .gone, .gone, .gone, .gone, .gone, .gone, .gone, .gone, .gone, .gone, .gone, .gone, .gone, .gone, .gone, .gone, .gone, .rw [vi (0), vi (1), vi (2), vi (3)] none, .rw [vi (0), vi (1), vi (3)] none, .rw [vi (1), vi (0)] none, .rw 
  [vi (2), vi (0), vi (3), vi (1)] none, .rw [vi (1), vi (1)] none]
def eh10 : Heap := [.rw [vi (2), vi (0), vi (2), vi (1)] none, .rw [vi (3), vi (4), vi (3), vi (4)] none, .gone, .gone, .gone, .gone, .gone, .gone, .gone, .gone, .gone, .gone, .gone, .gone, .gone, .gone, .gone, .gone, .gone, .gone, .gone, .gone, .gone, .gone, 
  .gone, .gone, .gone, .rw [vi (2), vi (0), vi (3), vi (1)] (some 1), .gone, .gone, .gone, .gone, .gone, .gone, .gone, .gone, .gone, .gone, .gone, .gone, .gone, .gone, .gone, .gone, .gone, .gone, .gone, .gone, .gone, .gone, .gone, .gone, .gone, 
  .rw [vi (3), vi (4), vi (-1), vi (-1)] (some 1), .gone, .gone, .gone, .gone, .gone, .gone, .gone, .gone, .gone, .gone, .gone, .gone, .gone, .gone, .gone, .gone, .gone, .gone, .gone, .gone, .gone, .gone, .gone, .gone, .gone, .gone, .gone, .gone, 
  .gone, .gone, .rw [vi (3), vi (4)] none, .rw [vi (4), vi (1)] none, .gone, .gone, .gone, .gone, .gone, .gone, .gone, .gone, .gone, .gone, .gone, .gone, .gone, .gone, .gone, .gone, .gone, .gone, .gone, .gone, .gone, .gone, .gone, .gone, .gone, 
  .gone, .gone, .gone, .gone, .gone, .gone, .gone, .gone, .gone, .gone, .gone, .gone, .gone, .gone, .gone, .gone, .gone, .gone, .gone, .gone, .gone, .gone, .gone, .gone, .gone, .gone, .gone, .gone, .gone, .gone, .gone, .gone, .gone, .gone, .gone, 
  .gone, .gone, .gone, .gone, .gone, .gone, .gone, .gone, .gone, .gone, .gone, .gone, .gone, .gone, .gone, .gone, .gone, .gone, .gone, .gone, .gone, .gone, .gone, .gone, .gone, .gone, .gone, .gone, .gone, .gone, .gone, .gone, .gone, .gone, .gone, 
  .gone, .gone, .gone, .gone, .gone, .gone, .gone, .gone, .gone, .gone, .gone, .gone, .gone, .gone, .gone, .gone, .gone, .gone, .gone, .rw [vi (0), vi (1), vi (2), vi (3)] none, .rw [vi (0), vi (1), vi (3)] none, .rw [vi (1), vi (0)] none, .rw 
  [vi (2), vi (0), vi (3), vi (1)] none, .rw [vi (1), vi (1)] none, .rw [vi (4), vi (4), vi (3)] none]
def eh11 : Heap := [.rw [vi (2), vi (0), vi (2), vi (1)] none, .rw [vi (3), vi (4), vi (3), vi (4)] none, .gone, .gone, .gone, .gone, .gone, .gone, .gone, .gone, .gone, .gone, .gone, .gone, .gone, .gone, .gone, .gone, .gone, .gone, .gone, .gone, .gone, .gone, 
  .gone, .gone, .gone, .rw [vi (2), vi (0), vi (3), vi (1)] (some 1), .gone, .gone, .gone, .gone, .gone, .gone, .gone, .gone, .gone, .gone, .gone, .gone, .gone, .gone, .gone, .gone, .gone, .gone, .gone, .gone, .gone, .gone, .gone, .gone, .gone, 
  .rw [vi (3), vi (4), vi (-1), vi (-1)] (some 1), .gone, .gone, .gone, .gone, .gone, .gone, .gone, .gone, .gone, .gone, .gone, .gone, .gone, .gone, .gone, .gone, .gone, .gone, .gone, .gone, .gone, .gone, .gone, .gone, .gone, .gone, .gone, .gone, 
  .gone, .gone, .rw [vi (3), vi (4)] none, .rw [vi (4), vi (1)] none, .gone, .gone, .gone, .gone, .gone, .gone, .gone, .gone, .gone, .gone, .gone, .gone, .gone, .gone, .gone, .gone, .gone, .gone, .gone, .gone, .gone, .gone, .gone, .gone, .gone, 
  .gone, .gone, .gone, .gone, .gone, .gone, .gone, .gone, .gone, .gone, .gone, .gone, .gone, .gone, .gone, .gone, .gone, .gone, .gone, .gone, .gone, .gone, .gone, .gone, .gone, .gone, .gone, .gone, .gone, .gone, .gone, .gone, .gone, .gone, .gone, 
  .gone, .gone, .gone, .gone, .gone, .gone, .gone, .gone, .gone, .gone, .gone, .gone, .gone, .gone, .gone, .gone, .gone, .gone, .gone, .gone, .gone, .gone, .gone, .gone, .gone, .gone, .gone, .gone, .gone, .gone, .gone, .gone, .gone, .gone, .gone, 
  .gone, .gone, .gone, .gone, .gone, .gone, .gone, .gone, .gone, .gone, .gone, .gone, .gone, .gone, .gone, .gone, .gone, .gone, .gone, .rw [vi (0), vi (1), vi (2), vi (3)] none, .rw [vi (0), vi (1), vi (3)] none, .rw [vi (1), vi (0)] none, .rw 
  [vi (2), vi (0), vi (3), vi (1)] none, .rw [vi (1), vi (1)] none, .rw [vi (4), vi (4), vi (3)] none, .gone, .gone, .gone, .gone, .gone, .gone, .gone, .gone, .gone, .gone, .gone, .gone, .gone, .gone, .gone, .gone, .gone, .gone, .gone, .rw [vi 
  (4), vi (0), vi (3)] (some 1)]
def eh12 : Heap := [.rw [vi (2), vi (0), vi (2), vi (1)] none, .rw [vi (3), vi (4), vi (3), vi (4)] none, .gone, .gone, .gone, .gone, .gone, .gone, .gone, .gone, .gone, .gone, .gone, .gone, .gone, .gone, .gone, .gone, .gone, .gone, .gone, .gone, .gone, .gone, 
  .gone, .gone, .gone, .rw [vi (2), vi (0), vi (3), vi (1)] (some 1), .gone, .gone, .gone, .gone, .gone, .gone, .gone, .gone, .gone, .gone, .gone, .gone, .gone, .gone, .gone, .gone, .gone, .gone, .gone, .gone, .gone, .gone, .gone, .gone, .gone, 
  .rw [vi (3), vi (4), vi (-1), vi (-1)] (some 1), .gone, .gone, .gone, .gone, .gone, .gone, .gone, .gone, .gone, .gone, .gone, .gone, .gone, .gone, .gone, .gone, .gone, .gone, .gone, .gone, .gone, .gone, .gone, .gone, .gone, .gone, .gone, .gone, 
  .gone, .gone, .rw [vi (3), vi (4)] none, .rw [vi (4), vi (1)] none, .gone, .gone, .gone, .gone, .gone, .gone, .gone, .gone, .gone, .gone, .gone, .gone, .gone, .gone, .gone, .gone, .gone, .gone, .gone, .gone, .gone, .gone, .gone, .gone, .gone, 
  .gone, .gone, .gone, .gone, .gone, .gone, .gone, .gone, .gone, .gone, .gone, .gone, .gone, .gone, .gone, .gone, .gone, .gone, .gone, .gone, .gone, .gone, .gone, .gone, .gone, .gone, .gone, .gone, .gone, .gone, .gone, .gone, .gone, .gone, .gone, 
  .gone, .gone, .gone, .gone, .gone, .gone, .gone, .gone, .gone, .gone, .gone, .gone, .gone, .gone, .gone, .gone, .gone, .gone, .gone, .gone, .gone, .gone, .gone, .gone, .gone, .gone, .gone, .gone, .gone, .gone, .gone, .gone, .gone, .gone, .gone, 
  .gone, .gone, .gone, .gone, .gone, .gone, .gone, .gone, .gone, .gone, .gone, .gone, .gone, .gone, .gone, .gone, .gone, .gone, .gone, .rw [vi (0), vi (1), vi (2), vi (3)] none, .rw [vi (0), vi (1), vi (3)] none, .rw [vi (1), vi (0)] none, .rw 
  [vi (2), vi (0), vi (3), vi (1)] none, .rw [vi (1), vi (1)] none, .rw [vi (4), vi (4), vi (3)] none, .gone, .gone, .gone, .gone, .gone, .gone, .gone, .gone, .gone, .gone, .gone, .gone, .gone, .gone, .gone, .gone, .gone, .gone, .gone, .rw [vi 
  (4), vi (0), vi (3)] (some 1), .rw [vi (0), vi (0), vi (0), vi (0)] none]
def e0 : ExactC := ⟨19, [vi (5), .slice (some ⟨0, 0, none⟩) 4 4], eh0, .tuple #[.slice (some ⟨27, 0, some 0⟩) 4 0, vi (1), vi (0)], eh1, []⟩
def e1 : ExactC := ⟨19, [vi (5), .slice (some ⟨1, 0, none⟩) 4 4], eh1, .tuple #[.slice (some ⟨53, 0, some 0⟩) 4 0, vi (3), vi (0)], eh2, []⟩
def e2 : ExactC := ⟨21, [vi (5), .slice (some ⟨1, 0, none⟩) 4 4], eh2, .tuple #[.slice (some ⟨84, 0, none⟩) 2 2, vi (2), vi (0)], eh3, []⟩
def e3 : ExactC := ⟨26, [vi (5), .slice (some ⟨1, 0, none⟩) 4 4, vi (0)], eh3, .tuple #[vi (-1), vi (0)], eh3, []⟩
def e4 : ExactC := ⟨26, [vi (5), .slice (some ⟨1, 0, none⟩) 4 4, vi (5)], eh3, .tuple #[vi (0), vi (2)], eh3, []⟩
def e5 : ExactC := ⟨28, [vi (5), .slice (some ⟨1, 0, none⟩) 4 4], eh3, .tuple #[vi (3), vi (0)], eh3, []⟩
def e6 : ExactC := ⟨28, [vi (5), .slice (some ⟨0, 0, none⟩) 4 4], eh3, .tuple #[vi (0), vi (20)], eh3, []⟩
def e7 : ExactC := ⟨32, [vi (5), .slice (some ⟨0, 0, none⟩) 4 4], eh3, vi (0), eh3, []⟩
def e8 : ExactC := ⟨32, [vi (5), .slice (some ⟨1, 0, none⟩) 4 4], eh3, vi (20), eh3, []⟩
def e9 : ExactC := ⟨30, [vi (5), .slice (some ⟨85, 0, none⟩) 2 2], eh4, .tuple #[.slice (some ⟨200, 0, none⟩) 4 4, vi (0)], eh5, []⟩
def e10 : ExactC := ⟨34, [vi (5), vi (4)], eh5, .tuple #[vi (432), vi (0)], eh5, []⟩
def e11 : ExactC := ⟨34, [vi (3), vi (3)], eh5, .tuple #[vi (16), vi (0)], eh5, []⟩
def e12 : ExactC := ⟨36, [vi (5), .slice (some ⟨201, 0, none⟩) 3 3], eh6, .tuple #[vi (9), vi (0)], eh6, []⟩
def e13 : ExactC := ⟨36, [vi (5), .slice (some ⟨202, 0, none⟩) 2 2], eh7, .tuple #[vi (0), vi (3)], eh7, []⟩
def e14 : ExactC := ⟨38, [vi (5), .slice (some ⟨203, 0, none⟩) 4 4], eh8, .tuple #[vi (4), vi (0)], eh8, []⟩
def e15 : ExactC := ⟨38, [vi (5), .slice (some ⟨204, 0, none⟩) 2 2], eh9, .tuple #[vi (0), vi (11)], eh9, []⟩
def e16 : ExactC := ⟨40, [vi (5), .slice (some ⟨205, 0, none⟩) 3 3], eh10, .tuple #[.slice (some ⟨225, 0, some 0⟩) 3 0, vi (1), vi (0)], eh11, []⟩
def e17 : ExactC := ⟨40, [vi (3), .slice (some ⟨226, 0, none⟩) 4 4], eh12, .tuple #[.slice none 0 0, vi (0), vi (10)], eh12, []⟩

end Go.Pier.Lg

