import Derived.Test.YtalaonfipkmelaaPierPC2
set_option linter.unusedSimpArgs false
set_option linter.unusedVariables false
namespace Go.Pier.PleaK
open Go Go.Pier Go.Proofs
def aa2 : FrmC := ⟨89, [vi (2)], [], .agg #[F, T, F, F, F, F, F, F, F, F, F, F], [], []⟩
theorem aak2 : aa2.Ok Try.prog := FrmC.ok_ev (n := 20000) t0_ok (by kernel_rfl) (by kernel_rfl)
def aa6 : FrmC := ⟨89, [vi (6)], [], .agg #[F, T, T, F, F, F, F, F, F, F, F, F], [], []⟩
theorem aak6 : aa6.Ok Try.prog := FrmC.ok_ev (n := 20000) t0_ok (by kernel_rfl) (by kernel_rfl)
def aa10 : FrmC := ⟨89, [vi (10)], [], .agg #[F, T, F, T, F, F, F, F, F, F, F, F], [], []⟩
theorem aak10 : aa10.Ok Try.prog := FrmC.ok_ev (n := 20000) t0_ok (by kernel_rfl) (by kernel_rfl)
def aa14 : FrmC := ⟨89, [vi (14)], [], .agg #[F, T, T, T, F, F, F, F, F, F, F, F], [], []⟩
theorem aak14 : aa14.Ok Try.prog := FrmC.ok_ev (n := 20000) t0_ok (by kernel_rfl) (by kernel_rfl)
def aa18 : FrmC := ⟨89, [vi (18)], [], .agg #[F, T, F, F, T, F, F, F, F, F, F, F], [], []⟩
theorem aak18 : aa18.Ok Try.prog := FrmC.ok_ev (n := 20000) t0_ok (by kernel_rfl) (by kernel_rfl)
def aa22 : FrmC := ⟨89, [vi (22)], [], .agg #[F, T, T, F, T, F, F, F, F, F, F, F], [], []⟩
theorem aak22 : aa22.Ok Try.prog := FrmC.ok_ev (n := 20000) t0_ok (by kernel_rfl) (by kernel_rfl)
def aa26 : FrmC := ⟨89, [vi (26)], [], .agg #[F, T, F, T, T, F, F, F, F, F, F, F], [], []⟩
theorem aak26 : aa26.Ok Try.prog := FrmC.ok_ev (n := 20000) t0_ok (by kernel_rfl) (by kernel_rfl)
def aa30 : FrmC := ⟨89, [vi (30)], [], .agg #[F, T, T, T, T, F, F, F, F, F, F, F], [], []⟩
theorem aak30 : aa30.Ok Try.prog := FrmC.ok_ev (n := 20000) t0_ok (by kernel_rfl) (by kernel_rfl)
def aa34 : FrmC := ⟨89, [vi (34)], [], .agg #[F, T, F, F, F, T, F, F, F, F, F, F], [], []⟩
theorem aak34 : aa34.Ok Try.prog := FrmC.ok_ev (n := 20000) t0_ok (by kernel_rfl) (by kernel_rfl)
def aa38 : FrmC := ⟨89, [vi (38)], [], .agg #[F, T, T, F, F, T, F, F, F, F, F, F], [], []⟩
theorem aak38 : aa38.Ok Try.prog := FrmC.ok_ev (n := 20000) t0_ok (by kernel_rfl) (by kernel_rfl)
def aa42 : FrmC := ⟨89, [vi (42)], [], .agg #[F, T, F, T, F, T, F, F, F, F, F, F], [], []⟩
theorem aak42 : aa42.Ok Try.prog := FrmC.ok_ev (n := 20000) t0_ok (by kernel_rfl) (by kernel_rfl)
def aa46 : FrmC := ⟨89, [vi (46)], [], .agg #[F, T, T, T, F, T, F, F, F, F, F, F], [], []⟩
theorem aak46 : aa46.Ok Try.prog := FrmC.ok_ev (n := 20000) t0_ok (by kernel_rfl) (by kernel_rfl)
def aa50 : FrmC := ⟨89, [vi (50)], [], .agg #[F, T, F, F, T, T, F, F, F, F, F, F], [], []⟩
theorem aak50 : aa50.Ok Try.prog := FrmC.ok_ev (n := 20000) t0_ok (by kernel_rfl) (by kernel_rfl)
def aa54 : FrmC := ⟨89, [vi (54)], [], .agg #[F, T, T, F, T, T, F, F, F, F, F, F], [], []⟩
theorem aak54 : aa54.Ok Try.prog := FrmC.ok_ev (n := 20000) t0_ok (by kernel_rfl) (by kernel_rfl)
def aa58 : FrmC := ⟨89, [vi (58)], [], .agg #[F, T, F, T, T, T, F, F, F, F, F, F], [], []⟩
theorem aak58 : aa58.Ok Try.prog := FrmC.ok_ev (n := 20000) t0_ok (by kernel_rfl) (by kernel_rfl)
def aa62 : FrmC := ⟨89, [vi (62)], [], .agg #[F, T, T, T, T, T, F, F, F, F, F, F], [], []⟩
theorem aak62 : aa62.Ok Try.prog := FrmC.ok_ev (n := 20000) t0_ok (by kernel_rfl) (by kernel_rfl)
def aa66 : FrmC := ⟨89, [vi (66)], [], .agg #[F, T, F, F, F, F, T, F, F, F, F, F], [], []⟩
theorem aak66 : aa66.Ok Try.prog := FrmC.ok_ev (n := 20000) t0_ok (by kernel_rfl) (by kernel_rfl)
def aa70 : FrmC := ⟨89, [vi (70)], [], .agg #[F, T, T, F, F, F, T, F, F, F, F, F], [], []⟩
theorem aak70 : aa70.Ok Try.prog := FrmC.ok_ev (n := 20000) t0_ok (by kernel_rfl) (by kernel_rfl)
def aa74 : FrmC := ⟨89, [vi (74)], [], .agg #[F, T, F, T, F, F, T, F, F, F, F, F], [], []⟩
theorem aak74 : aa74.Ok Try.prog := FrmC.ok_ev (n := 20000) t0_ok (by kernel_rfl) (by kernel_rfl)
def aa78 : FrmC := ⟨89, [vi (78)], [], .agg #[F, T, T, T, F, F, T, F, F, F, F, F], [], []⟩
theorem aak78 : aa78.Ok Try.prog := FrmC.ok_ev (n := 20000) t0_ok (by kernel_rfl) (by kernel_rfl)
def aa82 : FrmC := ⟨89, [vi (82)], [], .agg #[F, T, F, F, T, F, T, F, F, F, F, F], [], []⟩
theorem aak82 : aa82.Ok Try.prog := FrmC.ok_ev (n := 20000) t0_ok (by kernel_rfl) (by kernel_rfl)
def aa86 : FrmC := ⟨89, [vi (86)], [], .agg #[F, T, T, F, T, F, T, F, F, F, F, F], [], []⟩
theorem aak86 : aa86.Ok Try.prog := FrmC.ok_ev (n := 20000) t0_ok (by kernel_rfl) (by kernel_rfl)
def aa90 : FrmC := ⟨89, [vi (90)], [], .agg #[F, T, F, T, T, F, T, F, F, F, F, F], [], []⟩
theorem aak90 : aa90.Ok Try.prog := FrmC.ok_ev (n := 20000) t0_ok (by kernel_rfl) (by kernel_rfl)
def aa94 : FrmC := ⟨89, [vi (94)], [], .agg #[F, T, T, T, T, F, T, F, F, F, F, F], [], []⟩
theorem aak94 : aa94.Ok Try.prog := FrmC.ok_ev (n := 20000) t0_ok (by kernel_rfl) (by kernel_rfl)
def aa98 : FrmC := ⟨89, [vi (98)], [], .agg #[F, T, F, F, F, T, T, F, F, F, F, F], [], []⟩
theorem aak98 : aa98.Ok Try.prog := FrmC.ok_ev (n := 20000) t0_ok (by kernel_rfl) (by kernel_rfl)
def aa102 : FrmC := ⟨89, [vi (102)], [], .agg #[F, T, T, F, F, T, T, F, F, F, F, F], [], []⟩
theorem aak102 : aa102.Ok Try.prog := FrmC.ok_ev (n := 20000) t0_ok (by kernel_rfl) (by kernel_rfl)
def aa106 : FrmC := ⟨89, [vi (106)], [], .agg #[F, T, F, T, F, T, T, F, F, F, F, F], [], []⟩
theorem aak106 : aa106.Ok Try.prog := FrmC.ok_ev (n := 20000) t0_ok (by kernel_rfl) (by kernel_rfl)
def aa110 : FrmC := ⟨89, [vi (110)], [], .agg #[F, T, T, T, F, T, T, F, F, F, F, F], [], []⟩
theorem aak110 : aa110.Ok Try.prog := FrmC.ok_ev (n := 20000) t0_ok (by kernel_rfl) (by kernel_rfl)
def aa114 : FrmC := ⟨89, [vi (114)], [], .agg #[F, T, F, F, T, T, T, F, F, F, F, F], [], []⟩
theorem aak114 : aa114.Ok Try.prog := FrmC.ok_ev (n := 20000) t0_ok (by kernel_rfl) (by kernel_rfl)
def aa118 : FrmC := ⟨89, [vi (118)], [], .agg #[F, T, T, F, T, T, T, F, F, F, F, F], [], []⟩
theorem aak118 : aa118.Ok Try.prog := FrmC.ok_ev (n := 20000) t0_ok (by kernel_rfl) (by kernel_rfl)
def aa122 : FrmC := ⟨89, [vi (122)], [], .agg #[F, T, F, T, T, T, T, F, F, F, F, F], [], []⟩
theorem aak122 : aa122.Ok Try.prog := FrmC.ok_ev (n := 20000) t0_ok (by kernel_rfl) (by kernel_rfl)
def aa126 : FrmC := ⟨89, [vi (126)], [], .agg #[F, T, T, T, T, T, T, F, F, F, F, F], [], []⟩
theorem aak126 : aa126.Ok Try.prog := FrmC.ok_ev (n := 20000) t0_ok (by kernel_rfl) (by kernel_rfl)
end Go.Pier.PleaK
