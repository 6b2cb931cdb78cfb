import Derived.Test.YthhfdfgfpjjceaaPierMB2
set_option linter.unusedSimpArgs false
set_option linter.unusedVariables false
namespace Go.Pier.BoxK
open Go Go.Pier Go.Proofs
def s5 : FrmC := ⟨97, [.pointer (some ⟨0, 0, none⟩)], [.rw [.slice (some ⟨1, 0, none⟩) 2 2, .slice (some ⟨2, 0, none⟩) 3 3, .slice (some ⟨3, 0, some 0⟩) 5 0, vi (-1), vi (1), vi (0), vi (0), vi (0), vi (0), .map (some 4), .bool true, .bool true, .bool true,
  .bool false, .bool false, .bool true, vi (0), vi (0), vi (0), vi (0), vi (1), vi (0), vi (1), vi (2), vi (1), vi (0), vi (0), vi (0), vi (0), vi (0), vi (0), vi (1), vi (5), vi (3)] none, .rw [vi (0), vi (1), vi (5), vi (7), vi (1), vi (2),
  vi (2), vi (3)] none, .rw [vi (-7), vi (-6), vi (3), vi (4), vi (0), vi (3)] none, .rw [vi (0), vi (1), vi (0), vi (5), vi (7), vi (0), vi (100), vi (1), vi (2), vi (1), vi (2), vi (3), vi (0), vi (100), vi (0), vi (5), vi (2), vi (-7), vi (-6),
  vi (-700), vi (700), vi (1), vi (5), vi (3), vi (3), vi (4), vi (-700), vi (700), vi (2), vi (5), vi (4), vi (0), vi (3), vi (-700), vi (700)] (some 7), .map [⟨.agg #[vi (1), vi (2), vi (1)], vi (1), 19⟩, ⟨.agg #[vi (2), vi (5), vi (4)], vi
  (1), 22⟩, ⟨.agg #[vi (5), vi (0), vi (2)], vi (1), 23⟩, ⟨.agg #[vi (5), vi (2), vi (4)], vi (2), 24⟩, ⟨.agg #[vi (5), vi (1), vi (3)], vi (1), 25⟩] 27], .tuple #[], [.rw [.slice (some ⟨1, 0, none⟩) 2 2, .slice (some ⟨2, 0, none⟩) 3 3, .slice
  (some ⟨3, 0, some 0⟩) 5 0, vi (0), vi (0), vi (0), vi (0), vi (0), vi (0), .map (some 4), .bool true, .bool true, .bool true, .bool false, .bool false, .bool true, vi (5), vi (0), vi (2), vi (0), vi (1), vi (0), vi (1), vi (2), vi (1), vi (0),
  vi (0), vi (0), vi (0), vi (0), vi (0), vi (2), vi (5), vi (4)] none, .rw [vi (0), vi (1), vi (5), vi (7), vi (1), vi (2), vi (2), vi (3)] none, .rw [vi (-7), vi (-6), vi (3), vi (4), vi (0), vi (3)] none, .rw [vi (0), vi (1), vi (0), vi (5),
  vi (7), vi (0), vi (100), vi (1), vi (2), vi (1), vi (2), vi (3), vi (0), vi (100), vi (0), vi (5), vi (2), vi (-7), vi (-6), vi (-700), vi (700), vi (1), vi (5), vi (3), vi (3), vi (4), vi (-700), vi (700), vi (2), vi (5), vi (4), vi (0), vi
  (3), vi (-700), vi (700)] (some 7), .map [⟨.agg #[vi (5), vi (2), vi (4)], vi (3), 24⟩, ⟨.agg #[vi (5), vi (1), vi (3)], vi (1), 25⟩, ⟨.agg #[vi (0), vi (5), vi (2)], vi (1), 27⟩, ⟨.agg #[vi (2), vi (1), vi (1)], vi (1), 28⟩] 29], []⟩
theorem sk5 : s5.Ok Try.prog := FrmC.ok_ev (n := 20000) dt_ok (by kernel_rfl) (by kernel_rfl)
def s15 : FrmC := ⟨97, [.pointer (some ⟨0, 0, none⟩)], [.rw [.slice (some ⟨1, 0, none⟩) 2 2, .slice (some ⟨2, 0, none⟩) 3 3, .slice (some ⟨3, 0, some 0⟩) 5 0, vi (2), vi (703), vi (2), vi (0), vi (0), vi (-707), .map (some 4), .bool true, .bool true, .bool false,
  .bool false, .bool false, .bool true, vi (0), vi (0), vi (0), vi (0), vi (1), vi (0), vi (0), vi (0), vi (0), vi (0), vi (0), vi (0), vi (0), vi (0), vi (0), vi (0), vi (5), vi (2)] none, .rw [vi (0), vi (1), vi (5), vi (7), vi (1), vi (2),
  vi (2), vi (3)] none, .rw [vi (-7), vi (-6), vi (6), vi (6), vi (0), vi (3)] none, .rw [vi (0), vi (1), vi (0), vi (5), vi (7), vi (0), vi (100), vi (1), vi (2), vi (1), vi (2), vi (3), vi (0), vi (100), vi (0), vi (5), vi (2), vi (-7), vi (-6),
  vi (-700), vi (700), vi (1), vi (5), vi (3), vi (6), vi (6), vi (-700), vi (700), vi (2), vi (5), vi (4), vi (0), vi (3), vi (-700), vi (700)] (some 7), .map [⟨.agg #[vi (0), vi (1), vi (0)], vi (2), 18⟩, ⟨.agg #[vi (1), vi (2), vi (1)], vi
  (1), 19⟩, ⟨.agg #[vi (0), vi (5), vi (2)], vi (1), 20⟩, ⟨.agg #[vi (1), vi (5), vi (3)], vi (1400), 21⟩, ⟨.agg #[vi (2), vi (5), vi (4)], vi (3), 22⟩] 23], .tuple #[], [.rw [.slice (some ⟨1, 0, none⟩) 2 2, .slice (some ⟨2, 0, none⟩) 3 3, .slice
  (some ⟨3, 0, some 0⟩) 5 0, vi (0), vi (0), vi (0), vi (0), vi (0), vi (0), .map (some 4), .bool true, .bool true, .bool true, .bool false, .bool false, .bool true, vi (0), vi (0), vi (0), vi (0), vi (1), vi (0), vi (1), vi (2), vi (1), vi (0),
  vi (0), vi (0), vi (0), vi (0), vi (0), vi (1), vi (5), vi (3)] none, .rw [vi (0), vi (1), vi (5), vi (7), vi (1), vi (2), vi (2), vi (3)] none, .rw [vi (-7), vi (-6), vi (6), vi (6), vi (0), vi (3)] none, .rw [vi (0), vi (1), vi (0), vi (5),
  vi (7), vi (0), vi (100), vi (1), vi (2), vi (1), vi (2), vi (3), vi (0), vi (100), vi (0), vi (5), vi (2), vi (-7), vi (-6), vi (-700), vi (700), vi (1), vi (5), vi (3), vi (6), vi (6), vi (-700), vi (700), vi (2), vi (5), vi (4), vi (0), vi
  (3), vi (-700), vi (700)] (some 7), .map [⟨.agg #[vi (0), vi (1), vi (0)], vi (1), 18⟩, ⟨.agg #[vi (1), vi (2), vi (1)], vi (1), 19⟩, ⟨.agg #[vi (1), vi (5), vi (3)], vi (696), 21⟩, ⟨.agg #[vi (2), vi (5), vi (4)], vi (1), 22⟩, ⟨.agg #[vi (5),
  vi (0), vi (2)], vi (1), 23⟩, ⟨.agg #[vi (5), vi (1), vi (3)], vi (704), 24⟩, ⟨.agg #[vi (5), vi (2), vi (4)], vi (2), 25⟩, ⟨.agg #[vi (1), vi (0), vi (0)], vi (1), 26⟩] 27], []⟩
theorem sk15 : s15.Ok Try.prog := FrmC.ok_ev (n := 20000) dt_ok (by kernel_rfl) (by kernel_rfl)
def s25 : FrmC := ⟨97, [.pointer (some ⟨0, 0, none⟩)], [.rw [.slice (some ⟨1, 0, none⟩) 2 2, .slice (some ⟨2, 0, none⟩) 3 3, .slice (some ⟨3, 0, some 0⟩) 5 0, vi (2), vi (-1), vi (0), vi (0), vi (0), vi (-1), .map (some 4), .bool true, .bool true, .bool false,
  .bool false, .bool false, .bool true, vi (0), vi (0), vi (0), vi (0), vi (1), vi (0), vi (0), vi (0), vi (0), vi (0), vi (0), vi (0), vi (0), vi (0), vi (0), vi (0), vi (5), vi (2)] none, .rw [vi (0), vi (1), vi (5), vi (7), vi (1), vi (2),
  vi (2), vi (3)] none, .rw [vi (-7), vi (-6), vi (6), vi (6), vi (0), vi (3)] none, .rw [vi (0), vi (1), vi (0), vi (5), vi (7), vi (0), vi (100), vi (1), vi (2), vi (1), vi (2), vi (3), vi (0), vi (100), vi (0), vi (5), vi (2), vi (-7), vi (-6),
  vi (-700), vi (700), vi (1), vi (5), vi (3), vi (6), vi (6), vi (-700), vi (700), vi (2), vi (5), vi (4), vi (0), vi (3), vi (-700), vi (700)] (some 7), .map [⟨.agg #[vi (0), vi (1), vi (0)], vi (2), 18⟩, ⟨.agg #[vi (1), vi (2), vi (1)], vi
  (100), 19⟩, ⟨.agg #[vi (0), vi (5), vi (2)], vi (1), 20⟩, ⟨.agg #[vi (2), vi (5), vi (4)], vi (3), 21⟩] 22], .tuple #[], [.rw [.slice (some ⟨1, 0, none⟩) 2 2, .slice (some ⟨2, 0, none⟩) 3 3, .slice (some ⟨3, 0, some 0⟩) 5 0, vi (0), vi (0),
  vi (0), vi (0), vi (0), vi (0), .map (some 4), .bool true, .bool true, .bool false, .bool false, .bool false, .bool true, vi (0), vi (0), vi (0), vi (0), vi (1), vi (0), vi (0), vi (0), vi (0), vi (0), vi (0), vi (0), vi (0), vi (0), vi (0),
  vi (0), vi (5), vi (2)] none, .rw [vi (0), vi (1), vi (5), vi (7), vi (1), vi (2), vi (2), vi (3)] none, .rw [vi (-7), vi (-6), vi (6), vi (6), vi (0), vi (3)] none, .rw [vi (0), vi (1), vi (0), vi (5), vi (7), vi (0), vi (100), vi (1), vi (2),
  vi (1), vi (2), vi (3), vi (0), vi (100), vi (0), vi (5), vi (2), vi (-7), vi (-6), vi (-700), vi (700), vi (1), vi (5), vi (3), vi (6), vi (6), vi (-700), vi (700), vi (2), vi (5), vi (4), vi (0), vi (3), vi (-700), vi (700)] (some 7), .map
  [⟨.agg #[vi (0), vi (1), vi (0)], vi (1), 18⟩, ⟨.agg #[vi (1), vi (2), vi (1)], vi (100), 19⟩, ⟨.agg #[vi (2), vi (5), vi (4)], vi (3), 21⟩, ⟨.agg #[vi (1), vi (0), vi (0)], vi (1), 22⟩, ⟨.agg #[vi (5), vi (0), vi (2)], vi (1), 23⟩] 24], []⟩
theorem sk25 : s25.Ok Try.prog := FrmC.ok_ev (n := 20000) dt_ok (by kernel_rfl) (by kernel_rfl)
end Go.Pier.BoxK
