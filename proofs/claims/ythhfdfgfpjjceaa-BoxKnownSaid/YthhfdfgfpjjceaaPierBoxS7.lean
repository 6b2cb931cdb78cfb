import Derived.Test.YthhfdfgfpjjceaaPierMB2
set_option linter.unusedSimpArgs false
set_option linter.unusedVariables false
namespace Go.Pier.BoxK
open Go Go.Pier Go.Proofs
def s7 : FrmC := ⟨97, [.pointer (some ⟨0, 0, none⟩)], [.rw [.slice (some ⟨1, 0, none⟩) 2 2, .slice (some ⟨2, 0, none⟩) 3 3, .slice (some ⟨3, 0, some 0⟩) 5 0, vi (2), vi (0), vi (2), vi (0), vi (0), vi (-4), .map (some 4), .bool false, .bool false, .bool true,
  .bool false, .bool false, .bool false, vi (0), vi (0), vi (0), vi (0), vi (1), vi (0), vi (1), vi (2), vi (1), vi (0), vi (0), vi (0), vi (0), vi (0), vi (0), vi (1), vi (5), vi (3)] none, .rw [vi (0), vi (1), vi (5), vi (7), vi (1), vi (2),
  vi (2), vi (3)] none, .rw [vi (-7), vi (-6), vi (3), vi (4), vi (0), vi (3)] none, .rw [vi (0), vi (1), vi (0), vi (5), vi (7), vi (0), vi (100), vi (1), vi (2), vi (1), vi (2), vi (3), vi (0), vi (100), vi (0), vi (5), vi (2), vi (-7), vi (-6),
  vi (-700), vi (700), vi (1), vi (5), vi (3), vi (3), vi (4), vi (-700), vi (700), vi (2), vi (5), vi (4), vi (0), vi (3), vi (-700), vi (700)] (some 7), .map [⟨.agg #[vi (0), vi (1), vi (0)], vi (2), 18⟩, ⟨.agg #[vi (1), vi (2), vi (1)], vi
  (1), 19⟩, ⟨.agg #[vi (0), vi (5), vi (2)], vi (1), 20⟩, ⟨.agg #[vi (1), vi (5), vi (3)], vi (1), 21⟩, ⟨.agg #[vi (2), vi (5), vi (4)], vi (3), 22⟩] 23], .tuple #[], [.rw [.slice (some ⟨1, 0, none⟩) 2 2, .slice (some ⟨2, 0, none⟩) 3 3, .slice
  (some ⟨3, 0, some 0⟩) 5 0, vi (0), vi (0), vi (0), vi (0), vi (0), vi (0), .map (some 4), .bool true, .bool true, .bool true, .bool false, .bool false, .bool true, vi (0), vi (0), vi (0), vi (0), vi (1), vi (0), vi (1), vi (2), vi (1), vi (0),
  vi (0), vi (0), vi (0), vi (0), vi (0), vi (1), vi (5), vi (3)] none, .rw [vi (0), vi (1), vi (5), vi (7), vi (1), vi (2), vi (2), vi (3)] none, .rw [vi (-7), vi (-6), vi (3), vi (4), vi (0), vi (3)] none, .rw [vi (0), vi (1), vi (0), vi (5),
  vi (7), vi (0), vi (100), vi (1), vi (2), vi (1), vi (2), vi (3), vi (0), vi (100), vi (0), vi (5), vi (2), vi (-7), vi (-6), vi (-700), vi (700), vi (1), vi (5), vi (3), vi (3), vi (4), vi (-700), vi (700), vi (2), vi (5), vi (4), vi (0), vi
  (3), vi (-700), vi (700)] (some 7), .map [⟨.agg #[vi (0), vi (1), vi (0)], vi (1), 18⟩, ⟨.agg #[vi (1), vi (2), vi (1)], vi (1), 19⟩, ⟨.agg #[vi (2), vi (5), vi (4)], vi (1), 22⟩, ⟨.agg #[vi (5), vi (0), vi (2)], vi (1), 23⟩, ⟨.agg #[vi (5),
  vi (2), vi (4)], vi (2), 24⟩, ⟨.agg #[vi (5), vi (1), vi (3)], vi (1), 25⟩, ⟨.agg #[vi (1), vi (0), vi (0)], vi (1), 26⟩] 27], []⟩
theorem sk7 : s7.Ok Try.prog := FrmC.ok_ev (n := 20000) dt_ok (by kernel_rfl) (by kernel_rfl)
def s17 : FrmC := ⟨97, [.pointer (some ⟨0, 0, none⟩)], [.rw [.slice (some ⟨1, 0, none⟩) 2 2, .slice (some ⟨2, 0, none⟩) 3 3, .slice (some ⟨3, 0, some 0⟩) 5 0, vi (2), vi (-1), vi (0), vi (0), vi (0), vi (-1), .map (some 4), .bool false, .bool false, .bool true,
  .bool false, .bool false, .bool true, vi (0), vi (0), vi (0), vi (0), vi (1), vi (0), vi (1), vi (2), vi (1), vi (0), vi (0), vi (0), vi (0), vi (0), vi (0), vi (2), vi (5), vi (4)] none, .rw [vi (0), vi (1), vi (5), vi (7), vi (1), vi (2),
  vi (2), vi (3)] none, .rw [vi (-7), vi (-6), vi (6), vi (6), vi (0), vi (3)] none, .rw [vi (0), vi (1), vi (0), vi (5), vi (7), vi (0), vi (100), vi (1), vi (2), vi (1), vi (2), vi (3), vi (0), vi (100), vi (0), vi (5), vi (2), vi (-7), vi (-6),
  vi (-700), vi (700), vi (1), vi (5), vi (3), vi (6), vi (6), vi (-700), vi (700), vi (2), vi (5), vi (4), vi (0), vi (3), vi (-700), vi (700)] (some 7), .map [⟨.agg #[vi (0), vi (1), vi (0)], vi (2), 33⟩, ⟨.agg #[vi (1), vi (2), vi (1)], vi
  (100), 34⟩, ⟨.agg #[vi (0), vi (5), vi (2)], vi (1), 35⟩, ⟨.agg #[vi (2), vi (5), vi (4)], vi (3), 36⟩] 37], .tuple #[], [.rw [.slice (some ⟨1, 0, none⟩) 2 2, .slice (some ⟨2, 0, none⟩) 3 3, .slice (some ⟨3, 0, some 0⟩) 5 0, vi (0), vi (0),
  vi (0), vi (0), vi (0), vi (0), .map (some 4), .bool true, .bool true, .bool false, .bool false, .bool false, .bool true, vi (0), vi (0), vi (0), vi (0), vi (1), vi (0), vi (1), vi (2), vi (1), vi (0), vi (0), vi (0), vi (0), vi (0), vi (0),
  vi (0), vi (5), vi (2)] none, .rw [vi (0), vi (1), vi (5), vi (7), vi (1), vi (2), vi (2), vi (3)] none, .rw [vi (-7), vi (-6), vi (6), vi (6), vi (0), vi (3)] none, .rw [vi (0), vi (1), vi (0), vi (5), vi (7), vi (0), vi (100), vi (1), vi (2),
  vi (1), vi (2), vi (3), vi (0), vi (100), vi (0), vi (5), vi (2), vi (-7), vi (-6), vi (-700), vi (700), vi (1), vi (5), vi (3), vi (6), vi (6), vi (-700), vi (700), vi (2), vi (5), vi (4), vi (0), vi (3), vi (-700), vi (700)] (some 7), .map
  [⟨.agg #[vi (0), vi (1), vi (0)], vi (1), 33⟩, ⟨.agg #[vi (1), vi (2), vi (1)], vi (100), 34⟩, ⟨.agg #[vi (2), vi (5), vi (4)], vi (3), 36⟩, ⟨.agg #[vi (1), vi (0), vi (0)], vi (1), 37⟩, ⟨.agg #[vi (5), vi (0), vi (2)], vi (1), 38⟩] 39], []⟩
theorem sk17 : s17.Ok Try.prog := FrmC.ok_ev (n := 20000) dt_ok (by kernel_rfl) (by kernel_rfl)
def s27 : FrmC := ⟨97, [.pointer (some ⟨0, 0, none⟩)], [.rw [.slice (some ⟨1, 0, none⟩) 2 2, .slice (some ⟨2, 0, none⟩) 3 3, .slice (some ⟨3, 0, some 0⟩) 5 0, vi (695), vi (-3), vi (2), vi (0), vi (0), vi (-694), .map (some 4), .bool false, .bool false, .bool
  true, .bool false, .bool false, .bool true, vi (0), vi (0), vi (0), vi (0), vi (1), vi (0), vi (0), vi (0), vi (0), vi (0), vi (0), vi (0), vi (0), vi (0), vi (0), vi (2), vi (5), vi (4)] none, .rw [vi (0), vi (1), vi (5), vi (7), vi (1), vi
  (2), vi (2), vi (3)] none, .rw [vi (-7), vi (-6), vi (6), vi (6), vi (0), vi (3)] none, .rw [vi (0), vi (1), vi (0), vi (5), vi (7), vi (0), vi (100), vi (1), vi (2), vi (1), vi (2), vi (3), vi (0), vi (100), vi (0), vi (5), vi (2), vi (-7),
  vi (-6), vi (-700), vi (700), vi (1), vi (5), vi (3), vi (6), vi (6), vi (-700), vi (700), vi (2), vi (5), vi (4), vi (0), vi (3), vi (-700), vi (700)] (some 7), .map [⟨.agg #[vi (0), vi (1), vi (0)], vi (2), 30⟩, ⟨.agg #[vi (1), vi (2), vi
  (1)], vi (1), 31⟩, ⟨.agg #[vi (0), vi (5), vi (2)], vi (1400), 32⟩, ⟨.agg #[vi (2), vi (5), vi (4)], vi (3), 33⟩] 34], .tuple #[], [.rw [.slice (some ⟨1, 0, none⟩) 2 2, .slice (some ⟨2, 0, none⟩) 3 3, .slice (some ⟨3, 0, some 0⟩) 5 0, vi (0),
  vi (-1), vi (1), vi (0), vi (0), vi (0), .map (some 4), .bool true, .bool false, .bool true, .bool false, .bool false, .bool true, vi (5), vi (0), vi (2), vi (0), vi (1), vi (0), vi (0), vi (0), vi (0), vi (0), vi (0), vi (0), vi (0), vi (0),
  vi (0), vi (2), vi (5), vi (4)] none, .rw [vi (0), vi (1), vi (5), vi (7), vi (1), vi (2), vi (2), vi (3)] none, .rw [vi (-7), vi (-6), vi (6), vi (6), vi (0), vi (3)] none, .rw [vi (0), vi (1), vi (0), vi (5), vi (7), vi (0), vi (100), vi (1),
  vi (2), vi (1), vi (2), vi (3), vi (0), vi (100), vi (0), vi (5), vi (2), vi (-7), vi (-6), vi (-700), vi (700), vi (1), vi (5), vi (3), vi (6), vi (6), vi (-700), vi (700), vi (2), vi (5), vi (4), vi (0), vi (3), vi (-700), vi (700)] (some
  7), .map [⟨.agg #[vi (1), vi (2), vi (1)], vi (1), 31⟩, ⟨.agg #[vi (0), vi (5), vi (2)], vi (707), 32⟩, ⟨.agg #[vi (2), vi (5), vi (4)], vi (2), 33⟩, ⟨.agg #[vi (1), vi (0), vi (0)], vi (2), 34⟩, ⟨.agg #[vi (5), vi (0), vi (2)], vi (693), 35⟩,
  ⟨.agg #[vi (5), vi (2), vi (4)], vi (1), 36⟩] 37], []⟩
theorem sk27 : s27.Ok Try.prog := FrmC.ok_ev (n := 20000) dt_ok (by kernel_rfl) (by kernel_rfl)
end Go.Pier.BoxK
