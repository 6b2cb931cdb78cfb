import Derived.Test.YthhfdfgfpjjceaaPierMB2
set_option linter.unusedSimpArgs false
set_option linter.unusedVariables false
namespace Go.Pier.BoxK
open Go Go.Pier Go.Proofs
def s1 : FrmC := ⟨97, [.pointer (some ⟨0, 0, none⟩)], [.rw [.slice (some ⟨1, 0, none⟩) 2 2, .slice (some ⟨2, 0, none⟩) 3 3, .slice (some ⟨3, 0, some 0⟩) 5 0, vi (2), vi (-3), vi (2), vi (0), vi (0), vi (-1), .map (some 4), .bool false, .bool false, .bool false,
  .bool false, .bool false, .bool false, vi (0), vi (0), vi (0), vi (0), vi (0), vi (0), vi (0), vi (0), vi (0), vi (0), vi (0), vi (0), vi (0), vi (0), vi (0), vi (0), vi (0), vi (0)] none, .rw [vi (0), vi (1), vi (5), vi (7), vi (1), vi (2),
  vi (2), vi (3)] none, .rw [vi (-7), vi (-6), vi (6), vi (6), vi (0), vi (3)] none, .rw [vi (0), vi (1), vi (0), vi (5), vi (7), vi (0), vi (100), vi (1), vi (2), vi (1), vi (2), vi (3), vi (0), vi (100), vi (0), vi (5), vi (2), vi (-7), vi (-6),
  vi (-700), vi (700), vi (1), vi (5), vi (3), vi (6), vi (6), vi (-700), vi (700), vi (2), vi (5), vi (4), vi (0), vi (3), vi (-700), vi (700)] (some 7), .map [⟨.agg #[vi (0), vi (1), vi (0)], vi (2), 0⟩, ⟨.agg #[vi (1), vi (2), vi (1)], vi (1),
  1⟩, ⟨.agg #[vi (0), vi (5), vi (2)], vi (1), 2⟩, ⟨.agg #[vi (2), vi (5), vi (4)], vi (3), 3⟩] 4], .tuple #[], [.rw [.slice (some ⟨1, 0, none⟩) 2 2, .slice (some ⟨2, 0, none⟩) 3 3, .slice (some ⟨3, 0, some 0⟩) 5 0, vi (0), vi (-1), vi (1), vi
  (0), vi (0), vi (0), .map (some 4), .bool false, .bool false, .bool true, .bool false, .bool false, .bool true, vi (0), vi (0), vi (0), vi (0), vi (1), vi (0), vi (0), vi (0), vi (0), vi (0), vi (0), vi (0), vi (0), vi (0), vi (0), vi (2), vi
  (5), vi (4)] none, .rw [vi (0), vi (1), vi (5), vi (7), vi (1), vi (2), vi (2), vi (3)] none, .rw [vi (-7), vi (-6), vi (6), vi (6), vi (0), vi (3)] none, .rw [vi (0), vi (1), vi (0), vi (5), vi (7), vi (0), vi (100), vi (1), vi (2), vi (1),
  vi (2), vi (3), vi (0), vi (100), vi (0), vi (5), vi (2), vi (-7), vi (-6), vi (-700), vi (700), vi (1), vi (5), vi (3), vi (6), vi (6), vi (-700), vi (700), vi (2), vi (5), vi (4), vi (0), vi (3), vi (-700), vi (700)] (some 7), .map [⟨.agg
  #[vi (1), vi (2), vi (1)], vi (1), 1⟩, ⟨.agg #[vi (0), vi (5), vi (2)], vi (1), 2⟩, ⟨.agg #[vi (2), vi (5), vi (4)], vi (2), 3⟩, ⟨.agg #[vi (1), vi (0), vi (0)], vi (2), 4⟩, ⟨.agg #[vi (5), vi (2), vi (4)], vi (1), 5⟩] 6], []⟩
theorem sk1 : s1.Ok Try.prog := FrmC.ok_ev (n := 20000) dt_ok (by kernel_rfl) (by kernel_rfl)
def s11 : FrmC := ⟨97, [.pointer (some ⟨0, 0, none⟩)], [.rw [.slice (some ⟨1, 0, none⟩) 2 2, .slice (some ⟨2, 0, none⟩) 3 3, .slice (some ⟨3, 0, some 0⟩) 5 0, vi (2), vi (703), vi (2), vi (0), vi (0), vi (-707), .map (some 4), .bool false, .bool false, .bool
  false, .bool false, .bool false, .bool false, vi (0), vi (0), vi (0), vi (0), vi (0), vi (0), vi (0), vi (0), vi (0), vi (0), vi (0), vi (0), vi (0), vi (0), vi (0), vi (0), vi (0), vi (0)] none, .rw [vi (0), vi (1), vi (5), vi (7), vi (1),
  vi (2), vi (2), vi (3)] none, .rw [vi (-7), vi (-6), vi (6), vi (6), vi (0), vi (3)] none, .rw [vi (0), vi (1), vi (0), vi (5), vi (7), vi (0), vi (100), vi (1), vi (2), vi (1), vi (2), vi (3), vi (0), vi (100), vi (0), vi (5), vi (2), vi (-7),
  vi (-6), vi (-700), vi (700), vi (1), vi (5), vi (3), vi (6), vi (6), vi (-700), vi (700), vi (2), vi (5), vi (4), vi (0), vi (3), vi (-700), vi (700)] (some 7), .map [⟨.agg #[vi (0), vi (1), vi (0)], vi (2), 0⟩, ⟨.agg #[vi (1), vi (2), vi (1)],
  vi (1), 1⟩, ⟨.agg #[vi (0), vi (5), vi (2)], vi (1), 2⟩, ⟨.agg #[vi (1), vi (5), vi (3)], vi (1400), 3⟩, ⟨.agg #[vi (2), vi (5), vi (4)], vi (3), 4⟩] 5], .tuple #[], [.rw [.slice (some ⟨1, 0, none⟩) 2 2, .slice (some ⟨2, 0, none⟩) 3 3, .slice
  (some ⟨3, 0, some 0⟩) 5 0, vi (0), vi (0), vi (0), vi (0), vi (0), vi (0), .map (some 4), .bool true, .bool true, .bool true, .bool false, .bool false, .bool true, vi (0), vi (0), vi (0), vi (0), vi (1), vi (0), vi (1), vi (2), vi (1), vi (0),
  vi (0), vi (0), vi (0), vi (0), vi (0), vi (1), vi (5), vi (3)] none, .rw [vi (0), vi (1), vi (5), vi (7), vi (1), vi (2), vi (2), vi (3)] none, .rw [vi (-7), vi (-6), vi (6), vi (6), vi (0), vi (3)] none, .rw [vi (0), vi (1), vi (0), vi (5),
  vi (7), vi (0), vi (100), vi (1), vi (2), vi (1), vi (2), vi (3), vi (0), vi (100), vi (0), vi (5), vi (2), vi (-7), vi (-6), vi (-700), vi (700), vi (1), vi (5), vi (3), vi (6), vi (6), vi (-700), vi (700), vi (2), vi (5), vi (4), vi (0), vi
  (3), vi (-700), vi (700)] (some 7), .map [⟨.agg #[vi (0), vi (1), vi (0)], vi (1), 0⟩, ⟨.agg #[vi (1), vi (2), vi (1)], vi (1), 1⟩, ⟨.agg #[vi (1), vi (5), vi (3)], vi (696), 3⟩, ⟨.agg #[vi (2), vi (5), vi (4)], vi (1), 4⟩, ⟨.agg #[vi (5), vi
  (0), vi (2)], vi (1), 5⟩, ⟨.agg #[vi (5), vi (1), vi (3)], vi (704), 6⟩, ⟨.agg #[vi (5), vi (2), vi (4)], vi (2), 7⟩, ⟨.agg #[vi (1), vi (0), vi (0)], vi (1), 8⟩] 9], []⟩
theorem sk11 : s11.Ok Try.prog := FrmC.ok_ev (n := 20000) dt_ok (by kernel_rfl) (by kernel_rfl)
def s21 : FrmC := ⟨97, [.pointer (some ⟨0, 0, none⟩)], [.rw [.slice (some ⟨1, 0, none⟩) 2 2, .slice (some ⟨2, 0, none⟩) 3 3, .slice (some ⟨3, 0, some 0⟩) 5 0, vi (0), vi (1), vi (0), vi (0), vi (0), vi (-1), .map (some 4), .bool true, .bool true, .bool true,
  .bool false, .bool false, .bool true, vi (0), vi (0), vi (0), vi (0), vi (1), vi (0), vi (1), vi (2), vi (1), vi (0), vi (0), vi (0), vi (0), vi (0), vi (0), vi (1), vi (5), vi (3)] none, .rw [vi (0), vi (1), vi (5), vi (7), vi (1), vi (2),
  vi (2), vi (3)] none, .rw [vi (-7), vi (-6), vi (3), vi (4), vi (0), vi (3)] none, .rw [vi (0), vi (1), vi (0), vi (5), vi (7), vi (0), vi (100), vi (1), vi (2), vi (1), vi (2), vi (3), vi (0), vi (100), vi (0), vi (5), vi (2), vi (-7), vi (-6),
  vi (-700), vi (700), vi (1), vi (5), vi (3), vi (3), vi (4), vi (-700), vi (700), vi (2), vi (5), vi (4), vi (0), vi (3), vi (-700), vi (700)] (some 7), .map [⟨.agg #[vi (0), vi (1), vi (0)], vi (1), 9⟩, ⟨.agg #[vi (1), vi (2), vi (1)], vi (1),
  10⟩, ⟨.agg #[vi (2), vi (5), vi (4)], vi (1), 13⟩, ⟨.agg #[vi (5), vi (0), vi (2)], vi (1), 14⟩, ⟨.agg #[vi (5), vi (2), vi (4)], vi (2), 15⟩, ⟨.agg #[vi (1), vi (0), vi (0)], vi (1), 17⟩] 19], .tuple #[], [.rw [.slice (some ⟨1, 0, none⟩) 2
  2, .slice (some ⟨2, 0, none⟩) 3 3, .slice (some ⟨3, 0, some 0⟩) 5 0, vi (0), vi (0), vi (0), vi (0), vi (0), vi (0), .map (some 4), .bool true, .bool true, .bool true, .bool false, .bool false, .bool true, vi (1), vi (0), vi (0), vi (0), vi
  (1), vi (0), vi (1), vi (2), vi (1), vi (0), vi (0), vi (0), vi (0), vi (0), vi (0), vi (2), vi (5), vi (4)] none, .rw [vi (0), vi (1), vi (5), vi (7), vi (1), vi (2), vi (2), vi (3)] none, .rw [vi (-7), vi (-6), vi (3), vi (4), vi (0), vi (3)]
  none, .rw [vi (0), vi (1), vi (0), vi (5), vi (7), vi (0), vi (100), vi (1), vi (2), vi (1), vi (2), vi (3), vi (0), vi (100), vi (0), vi (5), vi (2), vi (-7), vi (-6), vi (-700), vi (700), vi (1), vi (5), vi (3), vi (3), vi (4), vi (-700),
  vi (700), vi (2), vi (5), vi (4), vi (0), vi (3), vi (-700), vi (700)] (some 7), .map [⟨.agg #[vi (0), vi (1), vi (0)], vi (1), 9⟩, ⟨.agg #[vi (5), vi (0), vi (2)], vi (1), 14⟩, ⟨.agg #[vi (5), vi (2), vi (4)], vi (3), 15⟩, ⟨.agg #[vi (1), vi
  (0), vi (0)], vi (1), 17⟩, ⟨.agg #[vi (2), vi (1), vi (1)], vi (1), 19⟩] 20], []⟩
theorem sk21 : s21.Ok Try.prog := FrmC.ok_ev (n := 20000) dt_ok (by kernel_rfl) (by kernel_rfl)
end Go.Pier.BoxK
