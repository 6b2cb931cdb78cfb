import Derived.Test.YthhfdfgfpjjceaaPierMB2
set_option linter.unusedSimpArgs false
set_option linter.unusedVariables false
namespace Go.Pier.BoxK
open Go Go.Pier Go.Proofs
def s8 : FrmC := ⟨97, [.pointer (some ⟨0, 0, none⟩)], [.rw [.slice (some ⟨1, 0, none⟩) 2 2, .slice (some ⟨2, 0, none⟩) 3 3, .slice (some ⟨3, 0, some 0⟩) 5 0, vi (0), vi (0), vi (-1), vi (0), vi (0), vi (1), .map (some 4), .bool true, .bool true, .bool true,
  .bool false, .bool false, .bool true, vi (0), vi (0), vi (0), vi (0), vi (1), vi (0), vi (1), vi (2), vi (1), vi (0), vi (0), vi (0), vi (0), vi (0), vi (0), vi (1), vi (5), vi (3)] none, .rw [vi (0), vi (1), vi (5), vi (7), vi (1), vi (2),
  vi (2), vi (3)] none, .rw [vi (-7), vi (-6), vi (3), vi (4), vi (0), vi (3)] none, .rw [vi (0), vi (1), vi (0), vi (5), vi (7), vi (0), vi (100), vi (1), vi (2), vi (1), vi (2), vi (3), vi (0), vi (100), vi (0), vi (5), vi (2), vi (-7), vi (-6),
  vi (-700), vi (700), vi (1), vi (5), vi (3), vi (3), vi (4), vi (-700), vi (700), vi (2), vi (5), vi (4), vi (0), vi (3), vi (-700), vi (700)] (some 7), .map [⟨.agg #[vi (0), vi (1), vi (0)], vi (1), 18⟩, ⟨.agg #[vi (1), vi (2), vi (1)], vi
  (1), 19⟩, ⟨.agg #[vi (5), vi (0), vi (2)], vi (1), 23⟩, ⟨.agg #[vi (5), vi (1), vi (3)], vi (1), 25⟩, ⟨.agg #[vi (1), vi (0), vi (0)], vi (1), 26⟩] 27], .tuple #[], [.rw [.slice (some ⟨1, 0, none⟩) 2 2, .slice (some ⟨2, 0, none⟩) 3 3, .slice
  (some ⟨3, 0, some 0⟩) 5 0, vi (0), vi (0), vi (0), vi (0), vi (0), vi (0), .map (some 4), .bool true, .bool true, .bool true, .bool false, .bool false, .bool true, vi (5), vi (0), vi (2), vi (5), vi (1), vi (3), vi (1), vi (2), vi (1), vi (0),
  vi (0), vi (0), vi (0), vi (0), vi (0), vi (1), vi (5), vi (3)] none, .rw [vi (0), vi (1), vi (5), vi (7), vi (1), vi (2), vi (2), vi (3)] none, .rw [vi (-7), vi (-6), vi (3), vi (4), vi (0), vi (3)] none, .rw [vi (0), vi (1), vi (0), vi (5),
  vi (7), vi (0), vi (100), vi (1), vi (2), vi (1), vi (2), vi (3), vi (0), vi (100), vi (0), vi (5), vi (2), vi (-7), vi (-6), vi (-700), vi (700), vi (1), vi (5), vi (3), vi (3), vi (4), vi (-700), vi (700), vi (2), vi (5), vi (4), vi (0), vi
  (3), vi (-700), vi (700)] (some 7), .map [⟨.agg #[vi (0), vi (1), vi (0)], vi (1), 18⟩, ⟨.agg #[vi (5), vi (0), vi (2)], vi (1), 23⟩, ⟨.agg #[vi (1), vi (0), vi (0)], vi (1), 26⟩, ⟨.agg #[vi (2), vi (1), vi (1)], vi (1), 27⟩, ⟨.agg #[vi (1),
  vi (5), vi (3)], vi (1), 28⟩] 29], []⟩
theorem sk8 : s8.Ok Try.prog := FrmC.ok_ev (n := 20000) dt_ok (by kernel_rfl) (by kernel_rfl)
def s18 : FrmC := ⟨97, [.pointer (some ⟨0, 0, none⟩)], [.rw [.slice (some ⟨1, 0, none⟩) 2 2, .slice (some ⟨2, 0, none⟩) 3 3, .slice (some ⟨3, 0, some 0⟩) 5 0, vi (0), vi (0), vi (0), vi (0), vi (0), vi (0), .map (some 4), .bool true, .bool true, .bool true, .bool
  false, .bool false, .bool true, vi (0), vi (0), vi (0), vi (0), vi (1), vi (0), vi (1), vi (2), vi (1), vi (0), vi (0), vi (0), vi (0), vi (0), vi (0), vi (1), vi (5), vi (3)] none, .rw [vi (0), vi (1), vi (5), vi (7), vi (1), vi (2), vi (2),
  vi (3)] none, .rw [vi (-7), vi (-6), vi (3), vi (4), vi (0), vi (3)] none, .rw [vi (0), vi (1), vi (0), vi (5), vi (7), vi (0), vi (100), vi (1), vi (2), vi (1), vi (2), vi (3), vi (0), vi (100), vi (0), vi (5), vi (2), vi (-7), vi (-6), vi
  (-700), vi (700), vi (1), vi (5), vi (3), vi (3), vi (4), vi (-700), vi (700), vi (2), vi (5), vi (4), vi (0), vi (3), vi (-700), vi (700)] (some 7), .map [⟨.agg #[vi (0), vi (1), vi (0)], vi (1), 9⟩, ⟨.agg #[vi (2), vi (5), vi (4)], vi (1),
  13⟩, ⟨.agg #[vi (5), vi (0), vi (2)], vi (1), 14⟩, ⟨.agg #[vi (5), vi (2), vi (4)], vi (2), 15⟩, ⟨.agg #[vi (5), vi (1), vi (3)], vi (1), 16⟩, ⟨.agg #[vi (1), vi (0), vi (0)], vi (1), 17⟩] 18], .tuple #[], [.rw [.slice (some ⟨1, 0, none⟩) 2
  2, .slice (some ⟨2, 0, none⟩) 3 3, .slice (some ⟨3, 0, some 0⟩) 5 0, vi (0), vi (0), vi (0), vi (0), vi (0), vi (0), .map (some 4), .bool true, .bool true, .bool true, .bool false, .bool false, .bool true, vi (0), vi (0), vi (0), vi (0), vi
  (1), vi (0), vi (1), vi (2), vi (1), vi (0), vi (0), vi (0), vi (0), vi (0), vi (0), vi (1), vi (5), vi (3)] none, .rw [vi (0), vi (1), vi (5), vi (7), vi (1), vi (2), vi (2), vi (3)] none, .rw [vi (-7), vi (-6), vi (3), vi (4), vi (0), vi (3)]
  none, .rw [vi (0), vi (1), vi (0), vi (5), vi (7), vi (0), vi (100), vi (1), vi (2), vi (1), vi (2), vi (3), vi (0), vi (100), vi (0), vi (5), vi (2), vi (-7), vi (-6), vi (-700), vi (700), vi (1), vi (5), vi (3), vi (3), vi (4), vi (-700),
  vi (700), vi (2), vi (5), vi (4), vi (0), vi (3), vi (-700), vi (700)] (some 7), .map [⟨.agg #[vi (0), vi (1), vi (0)], vi (1), 9⟩, ⟨.agg #[vi (2), vi (5), vi (4)], vi (1), 13⟩, ⟨.agg #[vi (5), vi (0), vi (2)], vi (1), 14⟩, ⟨.agg #[vi (5), vi
  (2), vi (4)], vi (2), 15⟩, ⟨.agg #[vi (5), vi (1), vi (3)], vi (1), 16⟩, ⟨.agg #[vi (1), vi (0), vi (0)], vi (1), 17⟩] 18], []⟩
theorem sk18 : s18.Ok Try.prog := FrmC.ok_ev (n := 20000) dt_ok (by kernel_rfl) (by kernel_rfl)
def s28 : FrmC := ⟨97, [.pointer (some ⟨0, 0, none⟩)], [.rw [.slice (some ⟨1, 0, none⟩) 2 2, .slice (some ⟨2, 0, none⟩) 3 3, .slice (some ⟨3, 0, some 0⟩) 5 0, vi (2), vi (703), vi (2), vi (0), vi (0), vi (-707), .map (some 4), .bool true, .bool false, .bool true,
  .bool false, .bool false, .bool true, vi (5), vi (0), vi (2), vi (0), vi (1), vi (0), vi (0), vi (0), vi (0), vi (0), vi (0), vi (0), vi (0), vi (0), vi (0), vi (2), vi (5), vi (4)] none, .rw [vi (0), vi (1), vi (5), vi (7), vi (1), vi (2),
  vi (2), vi (3)] none, .rw [vi (-7), vi (-6), vi (6), vi (6), vi (0), vi (3)] none, .rw [vi (0), vi (1), vi (0), vi (5), vi (7), vi (0), vi (100), vi (1), vi (2), vi (1), vi (2), vi (3), vi (0), vi (100), vi (0), vi (5), vi (2), vi (-7), vi (-6),
  vi (-700), vi (700), vi (1), vi (5), vi (3), vi (6), vi (6), vi (-700), vi (700), vi (2), vi (5), vi (4), vi (0), vi (3), vi (-700), vi (700)] (some 7), .map [⟨.agg #[vi (0), vi (1), vi (0)], vi (2), 37⟩, ⟨.agg #[vi (1), vi (2), vi (1)], vi
  (1), 38⟩, ⟨.agg #[vi (0), vi (5), vi (2)], vi (1), 39⟩, ⟨.agg #[vi (1), vi (5), vi (3)], vi (1400), 40⟩, ⟨.agg #[vi (2), vi (5), vi (4)], vi (3), 41⟩] 42], .tuple #[], [.rw [.slice (some ⟨1, 0, none⟩) 2 2, .slice (some ⟨2, 0, none⟩) 3 3, .slice
  (some ⟨3, 0, some 0⟩) 5 0, vi (0), vi (0), vi (0), vi (0), vi (0), vi (0), .map (some 4), .bool true, .bool true, .bool true, .bool false, .bool false, .bool true, vi (5), vi (0), vi (2), vi (0), vi (1), vi (0), vi (1), vi (2), vi (1), vi (0),
  vi (0), vi (0), vi (0), vi (0), vi (0), vi (1), vi (5), vi (3)] none, .rw [vi (0), vi (1), vi (5), vi (7), vi (1), vi (2), vi (2), vi (3)] none, .rw [vi (-7), vi (-6), vi (6), vi (6), vi (0), vi (3)] none, .rw [vi (0), vi (1), vi (0), vi (5),
  vi (7), vi (0), vi (100), vi (1), vi (2), vi (1), vi (2), vi (3), vi (0), vi (100), vi (0), vi (5), vi (2), vi (-7), vi (-6), vi (-700), vi (700), vi (1), vi (5), vi (3), vi (6), vi (6), vi (-700), vi (700), vi (2), vi (5), vi (4), vi (0), vi
  (3), vi (-700), vi (700)] (some 7), .map [⟨.agg #[vi (0), vi (1), vi (0)], vi (1), 37⟩, ⟨.agg #[vi (1), vi (2), vi (1)], vi (1), 38⟩, ⟨.agg #[vi (1), vi (5), vi (3)], vi (696), 40⟩, ⟨.agg #[vi (2), vi (5), vi (4)], vi (1), 41⟩, ⟨.agg #[vi (5),
  vi (0), vi (2)], vi (1), 42⟩, ⟨.agg #[vi (5), vi (1), vi (3)], vi (704), 43⟩, ⟨.agg #[vi (5), vi (2), vi (4)], vi (2), 44⟩, ⟨.agg #[vi (1), vi (0), vi (0)], vi (1), 45⟩] 46], []⟩
theorem sk28 : s28.Ok Try.prog := FrmC.ok_ev (n := 20000) dt_ok (by kernel_rfl) (by kernel_rfl)
end Go.Pier.BoxK
