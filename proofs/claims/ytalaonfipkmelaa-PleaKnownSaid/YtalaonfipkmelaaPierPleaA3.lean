import Derived.Test.YtalaonfipkmelaaPierPC2
set_option linter.unusedSimpArgs false
set_option linter.unusedVariables false
namespace Go.Pier.PleaK
open Go Go.Pier Go.Proofs
def aa3 : FrmC := ⟨89, [vi (3)], [], .agg #[T, T, F, F, F, F, F, F, F, F, F, F], [], []⟩
theorem aak3 : aa3.Ok Try.prog := FrmC.ok_ev (n := 20000) t0_ok (by kernel_rfl) (by kernel_rfl)
def aa7 : FrmC := ⟨89, [vi (7)], [], .agg #[T, T, T, F, F, F, F, F, F, F, F, F], [], []⟩
theorem aak7 : aa7.Ok Try.prog := FrmC.ok_ev (n := 20000) t0_ok (by kernel_rfl) (by kernel_rfl)
def aa11 : FrmC := ⟨89, [vi (11)], [], .agg #[T, T, F, T, F, F, F, F, F, F, F, F], [], []⟩
theorem aak11 : aa11.Ok Try.prog := FrmC.ok_ev (n := 20000) t0_ok (by kernel_rfl) (by kernel_rfl)
def aa15 : FrmC := ⟨89, [vi (15)], [], .agg #[T, T, T, T, F, F, F, F, F, F, F, F], [], []⟩
theorem aak15 : aa15.Ok Try.prog := FrmC.ok_ev (n := 20000) t0_ok (by kernel_rfl) (by kernel_rfl)
def aa19 : FrmC := ⟨89, [vi (19)], [], .agg #[T, T, F, F, T, F, F, F, F, F, F, F], [], []⟩
theorem aak19 : aa19.Ok Try.prog := FrmC.ok_ev (n := 20000) t0_ok (by kernel_rfl) (by kernel_rfl)
def aa23 : FrmC := ⟨89, [vi (23)], [], .agg #[T, T, T, F, T, F, F, F, F, F, F, F], [], []⟩
theorem aak23 : aa23.Ok Try.prog := FrmC.ok_ev (n := 20000) t0_ok (by kernel_rfl) (by kernel_rfl)
def aa27 : FrmC := ⟨89, [vi (27)], [], .agg #[T, T, F, T, T, F, F, F, F, F, F, F], [], []⟩
theorem aak27 : aa27.Ok Try.prog := FrmC.ok_ev (n := 20000) t0_ok (by kernel_rfl) (by kernel_rfl)
def aa31 : FrmC := ⟨89, [vi (31)], [], .agg #[T, T, T, T, T, F, F, F, F, F, F, F], [], []⟩
theorem aak31 : aa31.Ok Try.prog := FrmC.ok_ev (n := 20000) t0_ok (by kernel_rfl) (by kernel_rfl)
def aa35 : FrmC := ⟨89, [vi (35)], [], .agg #[T, T, F, F, F, T, F, F, F, F, F, F], [], []⟩
theorem aak35 : aa35.Ok Try.prog := FrmC.ok_ev (n := 20000) t0_ok (by kernel_rfl) (by kernel_rfl)
def aa39 : FrmC := ⟨89, [vi (39)], [], .agg #[T, T, T, F, F, T, F, F, F, F, F, F], [], []⟩
theorem aak39 : aa39.Ok Try.prog := FrmC.ok_ev (n := 20000) t0_ok (by kernel_rfl) (by kernel_rfl)
def aa43 : FrmC := ⟨89, [vi (43)], [], .agg #[T, T, F, T, F, T, F, F, F, F, F, F], [], []⟩
theorem aak43 : aa43.Ok Try.prog := FrmC.ok_ev (n := 20000) t0_ok (by kernel_rfl) (by kernel_rfl)
def aa47 : FrmC := ⟨89, [vi (47)], [], .agg #[T, T, T, T, F, T, F, F, F, F, F, F], [], []⟩
theorem aak47 : aa47.Ok Try.prog := FrmC.ok_ev (n := 20000) t0_ok (by kernel_rfl) (by kernel_rfl)
def aa51 : FrmC := ⟨89, [vi (51)], [], .agg #[T, T, F, F, T, T, F, F, F, F, F, F], [], []⟩
theorem aak51 : aa51.Ok Try.prog := FrmC.ok_ev (n := 20000) t0_ok (by kernel_rfl) (by kernel_rfl)
def aa55 : FrmC := ⟨89, [vi (55)], [], .agg #[T, T, T, F, T, T, F, F, F, F, F, F], [], []⟩
theorem aak55 : aa55.Ok Try.prog := FrmC.ok_ev (n := 20000) t0_ok (by kernel_rfl) (by kernel_rfl)
def aa59 : FrmC := ⟨89, [vi (59)], [], .agg #[T, T, F, T, T, T, F, F, F, F, F, F], [], []⟩
theorem aak59 : aa59.Ok Try.prog := FrmC.ok_ev (n := 20000) t0_ok (by kernel_rfl) (by kernel_rfl)
def aa63 : FrmC := ⟨89, [vi (63)], [], .agg #[T, T, T, T, T, T, F, F, F, F, F, F], [], []⟩
theorem aak63 : aa63.Ok Try.prog := FrmC.ok_ev (n := 20000) t0_ok (by kernel_rfl) (by kernel_rfl)
def aa67 : FrmC := ⟨89, [vi (67)], [], .agg #[T, T, F, F, F, F, T, F, F, F, F, F], [], []⟩
theorem aak67 : aa67.Ok Try.prog := FrmC.ok_ev (n := 20000) t0_ok (by kernel_rfl) (by kernel_rfl)
def aa71 : FrmC := ⟨89, [vi (71)], [], .agg #[T, T, T, F, F, F, T, F, F, F, F, F], [], []⟩
theorem aak71 : aa71.Ok Try.prog := FrmC.ok_ev (n := 20000) t0_ok (by kernel_rfl) (by kernel_rfl)
def aa75 : FrmC := ⟨89, [vi (75)], [], .agg #[T, T, F, T, F, F, T, F, F, F, F, F], [], []⟩
theorem aak75 : aa75.Ok Try.prog := FrmC.ok_ev (n := 20000) t0_ok (by kernel_rfl) (by kernel_rfl)
def aa79 : FrmC := ⟨89, [vi (79)], [], .agg #[T, T, T, T, F, F, T, F, F, F, F, F], [], []⟩
theorem aak79 : aa79.Ok Try.prog := FrmC.ok_ev (n := 20000) t0_ok (by kernel_rfl) (by kernel_rfl)
def aa83 : FrmC := ⟨89, [vi (83)], [], .agg #[T, T, F, F, T, F, T, F, F, F, F, F], [], []⟩
theorem aak83 : aa83.Ok Try.prog := FrmC.ok_ev (n := 20000) t0_ok (by kernel_rfl) (by kernel_rfl)
def aa87 : FrmC := ⟨89, [vi (87)], [], .agg #[T, T, T, F, T, F, T, F, F, F, F, F], [], []⟩
theorem aak87 : aa87.Ok Try.prog := FrmC.ok_ev (n := 20000) t0_ok (by kernel_rfl) (by kernel_rfl)
def aa91 : FrmC := ⟨89, [vi (91)], [], .agg #[T, T, F, T, T, F, T, F, F, F, F, F], [], []⟩
theorem aak91 : aa91.Ok Try.prog := FrmC.ok_ev (n := 20000) t0_ok (by kernel_rfl) (by kernel_rfl)
def aa95 : FrmC := ⟨89, [vi (95)], [], .agg #[T, T, T, T, T, F, T, F, F, F, F, F], [], []⟩
theorem aak95 : aa95.Ok Try.prog := FrmC.ok_ev (n := 20000) t0_ok (by kernel_rfl) (by kernel_rfl)
def aa99 : FrmC := ⟨89, [vi (99)], [], .agg #[T, T, F, F, F, T, T, F, F, F, F, F], [], []⟩
theorem aak99 : aa99.Ok Try.prog := FrmC.ok_ev (n := 20000) t0_ok (by kernel_rfl) (by kernel_rfl)
def aa103 : FrmC := ⟨89, [vi (103)], [], .agg #[T, T, T, F, F, T, T, F, F, F, F, F], [], []⟩
theorem aak103 : aa103.Ok Try.prog := FrmC.ok_ev (n := 20000) t0_ok (by kernel_rfl) (by kernel_rfl)
def aa107 : FrmC := ⟨89, [vi (107)], [], .agg #[T, T, F, T, F, T, T, F, F, F, F, F], [], []⟩
theorem aak107 : aa107.Ok Try.prog := FrmC.ok_ev (n := 20000) t0_ok (by kernel_rfl) (by kernel_rfl)
def aa111 : FrmC := ⟨89, [vi (111)], [], .agg #[T, T, T, T, F, T, T, F, F, F, F, F], [], []⟩
theorem aak111 : aa111.Ok Try.prog := FrmC.ok_ev (n := 20000) t0_ok (by kernel_rfl) (by kernel_rfl)
def aa115 : FrmC := ⟨89, [vi (115)], [], .agg #[T, T, F, F, T, T, T, F, F, F, F, F], [], []⟩
theorem aak115 : aa115.Ok Try.prog := FrmC.ok_ev (n := 20000) t0_ok (by kernel_rfl) (by kernel_rfl)
def aa119 : FrmC := ⟨89, [vi (119)], [], .agg #[T, T, T, F, T, T, T, F, F, F, F, F], [], []⟩
theorem aak119 : aa119.Ok Try.prog := FrmC.ok_ev (n := 20000) t0_ok (by kernel_rfl) (by kernel_rfl)
def aa123 : FrmC := ⟨89, [vi (123)], [], .agg #[T, T, F, T, T, T, T, F, F, F, F, F], [], []⟩
theorem aak123 : aa123.Ok Try.prog := FrmC.ok_ev (n := 20000) t0_ok (by kernel_rfl) (by kernel_rfl)
def aa127 : FrmC := ⟨89, [vi (127)], [], .agg #[T, T, T, T, T, T, T, F, F, F, F, F], [], []⟩
theorem aak127 : aa127.Ok Try.prog := FrmC.ok_ev (n := 20000) t0_ok (by kernel_rfl) (by kernel_rfl)
end Go.Pier.PleaK
