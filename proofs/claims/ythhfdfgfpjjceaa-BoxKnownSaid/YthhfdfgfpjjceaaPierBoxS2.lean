import Derived.Test.YthhfdfgfpjjceaaPierMB2
set_option linter.unusedSimpArgs false
set_option linter.unusedVariables false
namespace Go.Pier.BoxK
open Go Go.Pier Go.Proofs
def s2 : FrmC := ⟨97, [.pointer (some ⟨0, 0, none⟩)], [.rw [.slice (some ⟨1, 0, none⟩) 2 2, .slice (some ⟨2, 0, none⟩) 3 3, .slice (some ⟨3, 0, some 0⟩) 5 0, vi (2), vi (0), vi (2), vi (0), vi (0), vi (-4), .map (some 4), .bool true, .bool true, .bool true,
  .bool false, .bool false, .bool true, vi (0), vi (0), vi (0), vi (0), vi (1), vi (0), vi (1), vi (2), vi (1), vi (0), vi (0), vi (0), vi (0), vi (0), vi (0), vi (1), vi (5), vi (3)] none, .rw [vi (0), vi (1), vi (5), vi (7), vi (1), vi (2),
  vi (2), vi (3)] none, .rw [vi (-7), vi (-6), vi (3), vi (4), vi (0), vi (3)] none, .rw [vi (0), vi (1), vi (0), vi (5), vi (7), vi (0), vi (100), vi (1), vi (2), vi (1), vi (2), vi (3), vi (0), vi (100), vi (0), vi (5), vi (2), vi (-7), vi (-6),
  vi (-700), vi (700), vi (1), vi (5), vi (3), vi (3), vi (4), vi (-700), vi (700), vi (2), vi (5), vi (4), vi (0), vi (3), vi (-700), vi (700)] (some 7), .map [⟨.agg #[vi (0), vi (1), vi (0)], vi (2), 9⟩, ⟨.agg #[vi (1), vi (2), vi (1)], vi (1),
  10⟩, ⟨.agg #[vi (0), vi (5), vi (2)], vi (1), 11⟩, ⟨.agg #[vi (1), vi (5), vi (3)], vi (1), 12⟩, ⟨.agg #[vi (2), vi (5), vi (4)], vi (3), 13⟩] 14], .tuple #[], [.rw [.slice (some ⟨1, 0, none⟩) 2 2, .slice (some ⟨2, 0, none⟩) 3 3, .slice (some
  ⟨3, 0, some 0⟩) 5 0, vi (0), vi (0), vi (0), vi (0), vi (0), vi (0), .map (some 4), .bool true, .bool true, .bool true, .bool false, .bool false, .bool true, vi (0), vi (0), vi (0), vi (0), vi (1), vi (0), vi (1), vi (2), vi (1), vi (0), vi
  (0), vi (0), vi (0), vi (0), vi (0), vi (1), vi (5), vi (3)] none, .rw [vi (0), vi (1), vi (5), vi (7), vi (1), vi (2), vi (2), vi (3)] none, .rw [vi (-7), vi (-6), vi (3), vi (4), vi (0), vi (3)] none, .rw [vi (0), vi (1), vi (0), vi (5), vi
  (7), vi (0), vi (100), vi (1), vi (2), vi (1), vi (2), vi (3), vi (0), vi (100), vi (0), vi (5), vi (2), vi (-7), vi (-6), vi (-700), vi (700), vi (1), vi (5), vi (3), vi (3), vi (4), vi (-700), vi (700), vi (2), vi (5), vi (4), vi (0), vi (3),
  vi (-700), vi (700)] (some 7), .map [⟨.agg #[vi (0), vi (1), vi (0)], vi (1), 9⟩, ⟨.agg #[vi (1), vi (2), vi (1)], vi (1), 10⟩, ⟨.agg #[vi (2), vi (5), vi (4)], vi (1), 13⟩, ⟨.agg #[vi (5), vi (0), vi (2)], vi (1), 14⟩, ⟨.agg #[vi (5), vi (2),
  vi (4)], vi (2), 15⟩, ⟨.agg #[vi (5), vi (1), vi (3)], vi (1), 16⟩, ⟨.agg #[vi (1), vi (0), vi (0)], vi (1), 17⟩] 18], []⟩
theorem sk2 : s2.Ok Try.prog := FrmC.ok_ev (n := 20000) dt_ok (by kernel_rfl) (by kernel_rfl)
def s12 : FrmC := ⟨97, [.pointer (some ⟨0, 0, none⟩)], [.rw [.slice (some ⟨1, 0, none⟩) 2 2, .slice (some ⟨2, 0, none⟩) 3 3, .slice (some ⟨3, 0, some 0⟩) 5 0, vi (7), vi (-8), vi (2), vi (0), vi (0), vi (-1), .map (some 4), .bool false, .bool false, .bool false,
  .bool false, .bool false, .bool false, vi (0), vi (0), vi (0), vi (0), vi (0), vi (0), vi (0), vi (0), vi (0), vi (0), vi (0), vi (0), vi (0), vi (0), vi (0), vi (0), vi (0), vi (0)] none, .rw [vi (0), vi (1), vi (5), vi (7), vi (1), vi (2),
  vi (2), vi (3)] none, .rw [vi (-7), vi (-6), vi (6), vi (6), vi (0), vi (3)] none, .rw [vi (0), vi (1), vi (0), vi (5), vi (7), vi (0), vi (100), vi (1), vi (2), vi (1), vi (2), vi (3), vi (0), vi (100), vi (0), vi (5), vi (2), vi (-7), vi (-6),
  vi (-700), vi (700), vi (1), vi (5), vi (3), vi (6), vi (6), vi (-700), vi (700), vi (2), vi (5), vi (4), vi (0), vi (3), vi (-700), vi (700)] (some 7), .map [⟨.agg #[vi (0), vi (1), vi (0)], vi (100), 0⟩, ⟨.agg #[vi (1), vi (2), vi (1)], vi
  (1), 1⟩, ⟨.agg #[vi (0), vi (5), vi (2)], vi (1), 2⟩, ⟨.agg #[vi (2), vi (5), vi (4)], vi (3), 3⟩] 4], .tuple #[], [.rw [.slice (some ⟨1, 0, none⟩) 2 2, .slice (some ⟨2, 0, none⟩) 3 3, .slice (some ⟨3, 0, some 0⟩) 5 0, vi (0), vi (-1), vi (1),
  vi (0), vi (0), vi (0), .map (some 4), .bool false, .bool false, .bool true, .bool false, .bool false, .bool true, vi (0), vi (0), vi (0), vi (0), vi (1), vi (0), vi (0), vi (0), vi (0), vi (0), vi (0), vi (0), vi (0), vi (0), vi (0), vi (2),
  vi (5), vi (4)] none, .rw [vi (0), vi (1), vi (5), vi (7), vi (1), vi (2), vi (2), vi (3)] none, .rw [vi (-7), vi (-6), vi (6), vi (6), vi (0), vi (3)] none, .rw [vi (0), vi (1), vi (0), vi (5), vi (7), vi (0), vi (100), vi (1), vi (2), vi (1),
  vi (2), vi (3), vi (0), vi (100), vi (0), vi (5), vi (2), vi (-7), vi (-6), vi (-700), vi (700), vi (1), vi (5), vi (3), vi (6), vi (6), vi (-700), vi (700), vi (2), vi (5), vi (4), vi (0), vi (3), vi (-700), vi (700)] (some 7), .map [⟨.agg
  #[vi (0), vi (1), vi (0)], vi (93), 0⟩, ⟨.agg #[vi (1), vi (2), vi (1)], vi (1), 1⟩, ⟨.agg #[vi (0), vi (5), vi (2)], vi (1), 2⟩, ⟨.agg #[vi (2), vi (5), vi (4)], vi (2), 3⟩, ⟨.agg #[vi (1), vi (0), vi (0)], vi (7), 4⟩, ⟨.agg #[vi (5), vi (2),
  vi (4)], vi (1), 5⟩] 6], []⟩
theorem sk12 : s12.Ok Try.prog := FrmC.ok_ev (n := 20000) dt_ok (by kernel_rfl) (by kernel_rfl)
def s22 : FrmC := ⟨97, [.pointer (some ⟨0, 0, none⟩)], [.rw [.slice (some ⟨1, 0, none⟩) 2 2, .slice (some ⟨2, 0, none⟩) 3 3, .slice (some ⟨3, 0, some 0⟩) 5 0, vi (2), vi (0), vi (2), vi (0), vi (0), vi (-4), .map (some 4), .bool true, .bool true, .bool true,
  .bool false, .bool false, .bool true, vi (1), vi (0), vi (0), vi (0), vi (1), vi (0), vi (1), vi (2), vi (1), vi (0), vi (0), vi (0), vi (0), vi (0), vi (0), vi (2), vi (5), vi (4)] none, .rw [vi (0), vi (1), vi (5), vi (7), vi (1), vi (2),
  vi (2), vi (3)] none, .rw [vi (-7), vi (-6), vi (3), vi (4), vi (0), vi (3)] none, .rw [vi (0), vi (1), vi (0), vi (5), vi (7), vi (0), vi (100), vi (1), vi (2), vi (1), vi (2), vi (3), vi (0), vi (100), vi (0), vi (5), vi (2), vi (-7), vi (-6),
  vi (-700), vi (700), vi (1), vi (5), vi (3), vi (3), vi (4), vi (-700), vi (700), vi (2), vi (5), vi (4), vi (0), vi (3), vi (-700), vi (700)] (some 7), .map [⟨.agg #[vi (0), vi (1), vi (0)], vi (2), 20⟩, ⟨.agg #[vi (1), vi (2), vi (1)], vi
  (1), 21⟩, ⟨.agg #[vi (0), vi (5), vi (2)], vi (1), 22⟩, ⟨.agg #[vi (1), vi (5), vi (3)], vi (1), 23⟩, ⟨.agg #[vi (2), vi (5), vi (4)], vi (3), 24⟩] 25], .tuple #[], [.rw [.slice (some ⟨1, 0, none⟩) 2 2, .slice (some ⟨2, 0, none⟩) 3 3, .slice
  (some ⟨3, 0, some 0⟩) 5 0, vi (0), vi (0), vi (0), vi (0), vi (0), vi (0), .map (some 4), .bool true, .bool true, .bool true, .bool false, .bool false, .bool true, vi (1), vi (0), vi (0), vi (0), vi (1), vi (0), vi (1), vi (2), vi (1), vi (0),
  vi (0), vi (0), vi (0), vi (0), vi (0), vi (1), vi (5), vi (3)] none, .rw [vi (0), vi (1), vi (5), vi (7), vi (1), vi (2), vi (2), vi (3)] none, .rw [vi (-7), vi (-6), vi (3), vi (4), vi (0), vi (3)] none, .rw [vi (0), vi (1), vi (0), vi (5),
  vi (7), vi (0), vi (100), vi (1), vi (2), vi (1), vi (2), vi (3), vi (0), vi (100), vi (0), vi (5), vi (2), vi (-7), vi (-6), vi (-700), vi (700), vi (1), vi (5), vi (3), vi (3), vi (4), vi (-700), vi (700), vi (2), vi (5), vi (4), vi (0), vi
  (3), vi (-700), vi (700)] (some 7), .map [⟨.agg #[vi (0), vi (1), vi (0)], vi (1), 20⟩, ⟨.agg #[vi (1), vi (2), vi (1)], vi (1), 21⟩, ⟨.agg #[vi (2), vi (5), vi (4)], vi (1), 24⟩, ⟨.agg #[vi (5), vi (0), vi (2)], vi (1), 25⟩, ⟨.agg #[vi (5),
  vi (2), vi (4)], vi (2), 26⟩, ⟨.agg #[vi (5), vi (1), vi (3)], vi (1), 27⟩, ⟨.agg #[vi (1), vi (0), vi (0)], vi (1), 28⟩] 29], []⟩
theorem sk22 : s22.Ok Try.prog := FrmC.ok_ev (n := 20000) dt_ok (by kernel_rfl) (by kernel_rfl)
end Go.Pier.BoxK
