import Derived.Test.YtdpfcahcnjcmiaaPierSlugM
set_option linter.unusedSimpArgs false
set_option linter.unusedVariables false
namespace Go.Pier.SlugK
open Go Go.Pier Go.Proofs
def fh0 : Heap := [.gone, .rw [vi (3), vi (3), vi (3), vi (3)] none, .gone, .rw [vi (1), vi (1), vi (1)] none, .gone, .rw [vi (3), vi (3)] none, .gone, .rw [vi (3), vi (3), vi (0)] none, .rw [.slice (some ⟨1, 0, none⟩) 4 4, .bool true] none, .rw [.slice (some
  ⟨3, 0, none⟩) 3 3, .bool false] none, .rw [.slice (some ⟨5, 0, none⟩) 2 2, .bool false] none, .rw [.slice (some ⟨7, 0, none⟩) 3 3, .bool false] none, .gone, .gone, .gone, .gone, .gone, .gone, .gone, .gone, .gone, .rw [vi (0), vi (1), vi (0),
  vi (2), vi (1), vi (1), vi (1), vi (2)] (some 2), .rw [vi (1), vi (1), vi (0)] none, .rw [vi (1), vi (-1)] none, .rw [vi (1), vi (-1), vi (0)] none, .rw [vi (1), vi (-1), vi (0)] none, .rw [vi (1), vi (-1), vi (0), vi (0)] none, .gone, .gone,
  .gone, .gone, .gone, .gone, .gone, .gone, .gone, .gone, .gone, .gone, .gone, .gone, .gone, .gone, .gone, .gone, .gone, .gone, .gone, .gone, .gone, .gone, .gone, .gone, .gone, .gone, .gone, .gone, .gone, .gone, .gone, .gone, .rw [vi (2), vi (1),
  vi (0), vi (0)] none, .rw [.slice (some ⟨61, 0, none⟩) 4 4, .bool false] none, .rw [vi (0), vi (0), vi (0)] none, .rw [.slice none 0 0, .bool false] none, .rw [vi (1), vi (-1), vi (0)] none, .rw [.slice (some ⟨65, 0, none⟩) 3 3] none, .rw [vi
  (1), vi (-1)] none, .rw [.slice (some ⟨67, 0, none⟩) 2 2] none, .rw [vi (1), vi (-1)] none, .rw [.slice (some ⟨69, 0, none⟩) 2 2] none, .rw [vi (0), vi (1)] none, .rw [vi (1), vi (2)] none, .rw [vi (1), vi (-1), vi (0), vi (0)] none, .rw [.slice
  (some ⟨73, 0, none⟩) 4 4] none, .rw [vi (1)] none, .gone, .gone, .gone, .gone, .gone, .gone, .gone, .gone, .gone, .gone, .gone, .gone, .gone, .gone, .gone, .gone, .gone, .gone, .gone, .gone, .gone, .gone, .gone, .gone, .gone, .gone, .gone, .gone,
  .gone, .gone, .gone, .rw [vi (0), vi (2), vi (1), vi (1)] (some 2), .rw [vi (1), vi (0), vi (-1)] none, .gone, .gone, .gone, .gone, .gone, .gone, .rw [vi (1), vi (-1), vi (0)] none, .rw [.slice (some ⟨3, 0, none⟩) 3 3, .bool false] none, .gone,
  .gone, .gone, .gone, .gone, .gone, .gone, .gone, .gone, .rw [vi (0), vi (1)] (some 2), .gone, .rw [vi (1), vi (0), vi (0)] none]
def fh1 : Heap := [.gone, .rw [vi (3), vi (3), vi (3), vi (3)] none, .gone, .rw [vi (1), vi (1), vi (1)] none, .gone, .rw [vi (3), vi (3)] none, .gone, .rw [vi (3), vi (3), vi (0)] none, .rw [.slice (some ⟨1, 0, none⟩) 4 4, .bool true] none, .rw [.slice (some
  ⟨3, 0, none⟩) 3 3, .bool false] none, .rw [.slice (some ⟨5, 0, none⟩) 2 2, .bool false] none, .rw [.slice (some ⟨7, 0, none⟩) 3 3, .bool false] none, .gone, .gone, .gone, .gone, .gone, .gone, .gone, .gone, .gone, .rw [vi (0), vi (1), vi (0),
  vi (2), vi (1), vi (1), vi (1), vi (2)] (some 2), .rw [vi (1), vi (1), vi (0)] none, .rw [vi (1), vi (-1)] none, .rw [vi (1), vi (-1), vi (0)] none, .rw [vi (1), vi (-1), vi (0)] none, .rw [vi (1), vi (-1), vi (0), vi (0)] none, .gone, .gone,
  .gone, .gone, .gone, .gone, .gone, .gone, .gone, .gone, .gone, .gone, .gone, .gone, .gone, .gone, .gone, .gone, .gone, .gone, .gone, .gone, .gone, .gone, .gone, .gone, .gone, .gone, .gone, .gone, .gone, .gone, .gone, .gone, .rw [vi (2), vi (1),
  vi (0), vi (0)] none, .rw [.slice (some ⟨61, 0, none⟩) 4 4, .bool false] none, .rw [vi (0), vi (0), vi (0)] none, .rw [.slice none 0 0, .bool false] none, .rw [vi (1), vi (-1), vi (0)] none, .rw [.slice (some ⟨65, 0, none⟩) 3 3] none, .rw [vi
  (1), vi (-1)] none, .rw [.slice (some ⟨67, 0, none⟩) 2 2] none, .rw [vi (1), vi (-1)] none, .rw [.slice (some ⟨69, 0, none⟩) 2 2] none, .rw [vi (0), vi (1)] none, .rw [vi (1), vi (2)] none, .rw [vi (1), vi (-1), vi (0), vi (0)] none, .rw [.slice
  (some ⟨73, 0, none⟩) 4 4] none, .rw [vi (1)] none, .gone, .gone, .gone, .gone, .gone, .gone, .gone, .gone, .gone, .gone, .gone, .gone, .gone, .gone, .gone, .gone, .gone, .gone, .gone, .gone, .gone, .gone, .gone, .gone, .gone, .gone, .gone, .gone,
  .gone, .gone, .gone, .rw [vi (0), vi (2), vi (1), vi (1)] (some 2), .rw [vi (1), vi (0), vi (-1)] none, .gone, .gone, .gone, .gone, .gone, .gone, .rw [vi (1), vi (-1), vi (0)] none, .rw [.slice (some ⟨3, 0, none⟩) 3 3, .bool false] none, .gone,
  .gone, .gone, .gone, .gone, .gone, .gone, .gone, .gone, .rw [vi (0), vi (1)] (some 2), .gone, .rw [vi (1), vi (0), vi (0)] none, .gone, .gone, .gone, .gone, .gone, .gone, .gone, .gone, .gone, .rw [vi (2), vi (1)] (some 2), .gone, .rw [vi (0),
  vi (0), vi (1)] none]
def fh2 : Heap := [.gone, .rw [vi (3), vi (3), vi (3), vi (3)] none, .gone, .rw [vi (1), vi (1), vi (1)] none, .gone, .rw [vi (3), vi (3)] none, .gone, .rw [vi (3), vi (3), vi (0)] none, .rw [.slice (some ⟨1, 0, none⟩) 4 4, .bool true] none, .rw [.slice (some
  ⟨3, 0, none⟩) 3 3, .bool false] none, .rw [.slice (some ⟨5, 0, none⟩) 2 2, .bool false] none, .rw [.slice (some ⟨7, 0, none⟩) 3 3, .bool false] none, .gone, .gone, .gone, .gone, .gone, .gone, .gone, .gone, .gone, .rw [vi (0), vi (1), vi (0),
  vi (2), vi (1), vi (1), vi (1), vi (2)] (some 2), .rw [vi (1), vi (1), vi (0)] none, .rw [vi (1), vi (-1)] none, .rw [vi (1), vi (-1), vi (0)] none, .rw [vi (1), vi (-1), vi (0)] none, .rw [vi (1), vi (-1), vi (0), vi (0)] none, .gone, .gone,
  .gone, .gone, .gone, .gone, .gone, .gone, .gone, .gone, .gone, .gone, .gone, .gone, .gone, .gone, .gone, .gone, .gone, .gone, .gone, .gone, .gone, .gone, .gone, .gone, .gone, .gone, .gone, .gone, .gone, .gone, .gone, .gone, .rw [vi (2), vi (1),
  vi (0), vi (0)] none, .rw [.slice (some ⟨61, 0, none⟩) 4 4, .bool false] none, .rw [vi (0), vi (0), vi (0)] none, .rw [.slice none 0 0, .bool false] none, .rw [vi (1), vi (-1), vi (0)] none, .rw [.slice (some ⟨65, 0, none⟩) 3 3] none, .rw [vi
  (1), vi (-1)] none, .rw [.slice (some ⟨67, 0, none⟩) 2 2] none, .rw [vi (1), vi (-1)] none, .rw [.slice (some ⟨69, 0, none⟩) 2 2] none, .rw [vi (0), vi (1)] none, .rw [vi (1), vi (2)] none, .rw [vi (1), vi (-1), vi (0), vi (0)] none, .rw [.slice
  (some ⟨73, 0, none⟩) 4 4] none, .rw [vi (1)] none, .gone, .gone, .gone, .gone, .gone, .gone, .gone, .gone, .gone, .gone, .gone, .gone, .gone, .gone, .gone, .gone, .gone, .gone, .gone, .gone, .gone, .gone, .gone, .gone, .gone, .gone, .gone, .gone,
  .gone, .gone, .gone, .rw [vi (0), vi (2), vi (1), vi (1)] (some 2), .rw [vi (1), vi (0), vi (-1)] none, .gone, .gone, .gone, .gone, .gone, .gone, .rw [vi (1), vi (-1), vi (0)] none, .rw [.slice (some ⟨3, 0, none⟩) 3 3, .bool false] none, .gone,
  .gone, .gone, .gone, .gone, .gone, .gone, .gone, .gone, .rw [vi (0), vi (1)] (some 2), .gone, .rw [vi (1), vi (0), vi (0)] none, .gone, .gone, .gone, .gone, .gone, .gone, .gone, .gone, .gone, .rw [vi (2), vi (1)] (some 2), .gone, .rw [vi (0),
  vi (0), vi (1)] none, .gone, .gone, .gone, .gone, .gone, .gone, .gone, .gone, .gone, .rw [vi (1), vi (1)] (some 2), .gone, .rw [vi (0), vi (1), vi (0)] none]
def f0 : ExactC := ⟨79, [.agg #[.slice (some ⟨128, 0, none⟩) 3 3, .bool false]], fh0, vi (0), fh0, []⟩
def f1 : ExactC := ⟨79, [.agg #[.slice (some ⟨140, 0, none⟩) 3 3, .bool false]], fh1, vi (0), fh1, []⟩
def f2 : ExactC := ⟨79, [.agg #[.slice (some ⟨152, 0, none⟩) 3 3, .bool false]], fh2, vi (0), fh2, []⟩
end Go.Pier.SlugK
namespace Go.Pier.SlugK
open Go Go.Pier Go.Proofs
set_option maxRecDepth 1000000 in
theorem fk0 : f0.Ok Try.prog := ExactC.ok_ev (n := 20000) mt_ok (by kernel_rfl)
end Go.Pier.SlugK
namespace Go.Pier.SlugK
open Go Go.Pier Go.Proofs
set_option maxRecDepth 1000000 in
theorem fk1 : f1.Ok Try.prog := ExactC.ok_ev (n := 20000) mt_ok (by kernel_rfl)
end Go.Pier.SlugK
namespace Go.Pier.SlugK
open Go Go.Pier Go.Proofs
set_option maxRecDepth 1000000 in
theorem fk2 : f2.Ok Try.prog := ExactC.ok_ev (n := 20000) mt_ok (by kernel_rfl)
end Go.Pier.SlugK
namespace Go.Pier.SlugK
open Go Go.Pier Go.Proofs
def fs : List ExactC := [f0, f1, f2]
theorem fs_ok : ∀ p ∈ fs, p.Ok Try.prog := by
  intro p hp
  simp only [fs, List.mem_cons, List.not_mem_nil, or_false] at hp
  rcases hp with rfl | rfl | rfl
  · exact fk0
  · exact fk1
  · exact fk2
noncomputable def ft : Tbl := exactTbl fs mt
theorem ft_ok : TblOk Try.prog ft := exactTbl_ok fs_ok mt_ok
end Go.Pier.SlugK
