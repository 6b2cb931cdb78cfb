import Derived.Test.YtalaonfipkmelaaPierPC2
set_option linter.unusedSimpArgs false
set_option linter.unusedVariables false
namespace Go.Pier.PleaK
open Go Go.Pier Go.Proofs
def aa1 : FrmC := ⟨89, [vi (1)], [], .agg #[T, F, F, F, F, F, F, F, F, F, F, F], [], []⟩
theorem aak1 : aa1.Ok Try.prog := FrmC.ok_ev (n := 20000) t0_ok (by kernel_rfl) (by kernel_rfl)
def aa5 : FrmC := ⟨89, [vi (5)], [], .agg #[T, F, T, F, F, F, F, F, F, F, F, F], [], []⟩
theorem aak5 : aa5.Ok Try.prog := FrmC.ok_ev (n := 20000) t0_ok (by kernel_rfl) (by kernel_rfl)
def aa9 : FrmC := ⟨89, [vi (9)], [], .agg #[T, F, F, T, F, F, F, F, F, F, F, F], [], []⟩
theorem aak9 : aa9.Ok Try.prog := FrmC.ok_ev (n := 20000) t0_ok (by kernel_rfl) (by kernel_rfl)
def aa13 : FrmC := ⟨89, [vi (13)], [], .agg #[T, F, T, T, F, F, F, F, F, F, F, F], [], []⟩
theorem aak13 : aa13.Ok Try.prog := FrmC.ok_ev (n := 20000) t0_ok (by kernel_rfl) (by kernel_rfl)
def aa17 : FrmC := ⟨89, [vi (17)], [], .agg #[T, F, F, F, T, F, F, F, F, F, F, F], [], []⟩
theorem aak17 : aa17.Ok Try.prog := FrmC.ok_ev (n := 20000) t0_ok (by kernel_rfl) (by kernel_rfl)
def aa21 : FrmC := ⟨89, [vi (21)], [], .agg #[T, F, T, F, T, F, F, F, F, F, F, F], [], []⟩
theorem aak21 : aa21.Ok Try.prog := FrmC.ok_ev (n := 20000) t0_ok (by kernel_rfl) (by kernel_rfl)
def aa25 : FrmC := ⟨89, [vi (25)], [], .agg #[T, F, F, T, T, F, F, F, F, F, F, F], [], []⟩
theorem aak25 : aa25.Ok Try.prog := FrmC.ok_ev (n := 20000) t0_ok (by kernel_rfl) (by kernel_rfl)
def aa29 : FrmC := ⟨89, [vi (29)], [], .agg #[T, F, T, T, T, F, F, F, F, F, F, F], [], []⟩
theorem aak29 : aa29.Ok Try.prog := FrmC.ok_ev (n := 20000) t0_ok (by kernel_rfl) (by kernel_rfl)
def aa33 : FrmC := ⟨89, [vi (33)], [], .agg #[T, F, F, F, F, T, F, F, F, F, F, F], [], []⟩
theorem aak33 : aa33.Ok Try.prog := FrmC.ok_ev (n := 20000) t0_ok (by kernel_rfl) (by kernel_rfl)
def aa37 : FrmC := ⟨89, [vi (37)], [], .agg #[T, F, T, F, F, T, F, F, F, F, F, F], [], []⟩
theorem aak37 : aa37.Ok Try.prog := FrmC.ok_ev (n := 20000) t0_ok (by kernel_rfl) (by kernel_rfl)
def aa41 : FrmC := ⟨89, [vi (41)], [], .agg #[T, F, F, T, F, T, F, F, F, F, F, F], [], []⟩
theorem aak41 : aa41.Ok Try.prog := FrmC.ok_ev (n := 20000) t0_ok (by kernel_rfl) (by kernel_rfl)
def aa45 : FrmC := ⟨89, [vi (45)], [], .agg #[T, F, T, T, F, T, F, F, F, F, F, F], [], []⟩
theorem aak45 : aa45.Ok Try.prog := FrmC.ok_ev (n := 20000) t0_ok (by kernel_rfl) (by kernel_rfl)
def aa49 : FrmC := ⟨89, [vi (49)], [], .agg #[T, F, F, F, T, T, F, F, F, F, F, F], [], []⟩
theorem aak49 : aa49.Ok Try.prog := FrmC.ok_ev (n := 20000) t0_ok (by kernel_rfl) (by kernel_rfl)
def aa53 : FrmC := ⟨89, [vi (53)], [], .agg #[T, F, T, F, T, T, F, F, F, F, F, F], [], []⟩
theorem aak53 : aa53.Ok Try.prog := FrmC.ok_ev (n := 20000) t0_ok (by kernel_rfl) (by kernel_rfl)
def aa57 : FrmC := ⟨89, [vi (57)], [], .agg #[T, F, F, T, T, T, F, F, F, F, F, F], [], []⟩
theorem aak57 : aa57.Ok Try.prog := FrmC.ok_ev (n := 20000) t0_ok (by kernel_rfl) (by kernel_rfl)
def aa61 : FrmC := ⟨89, [vi (61)], [], .agg #[T, F, T, T, T, T, F, F, F, F, F, F], [], []⟩
theorem aak61 : aa61.Ok Try.prog := FrmC.ok_ev (n := 20000) t0_ok (by kernel_rfl) (by kernel_rfl)
def aa65 : FrmC := ⟨89, [vi (65)], [], .agg #[T, F, F, F, F, F, T, F, F, F, F, F], [], []⟩
theorem aak65 : aa65.Ok Try.prog := FrmC.ok_ev (n := 20000) t0_ok (by kernel_rfl) (by kernel_rfl)
def aa69 : FrmC := ⟨89, [vi (69)], [], .agg #[T, F, T, F, F, F, T, F, F, F, F, F], [], []⟩
theorem aak69 : aa69.Ok Try.prog := FrmC.ok_ev (n := 20000) t0_ok (by kernel_rfl) (by kernel_rfl)
def aa73 : FrmC := ⟨89, [vi (73)], [], .agg #[T, F, F, T, F, F, T, F, F, F, F, F], [], []⟩
theorem aak73 : aa73.Ok Try.prog := FrmC.ok_ev (n := 20000) t0_ok (by kernel_rfl) (by kernel_rfl)
def aa77 : FrmC := ⟨89, [vi (77)], [], .agg #[T, F, T, T, F, F, T, F, F, F, F, F], [], []⟩
theorem aak77 : aa77.Ok Try.prog := FrmC.ok_ev (n := 20000) t0_ok (by kernel_rfl) (by kernel_rfl)
def aa81 : FrmC := ⟨89, [vi (81)], [], .agg #[T, F, F, F, T, F, T, F, F, F, F, F], [], []⟩
theorem aak81 : aa81.Ok Try.prog := FrmC.ok_ev (n := 20000) t0_ok (by kernel_rfl) (by kernel_rfl)
def aa85 : FrmC := ⟨89, [vi (85)], [], .agg #[T, F, T, F, T, F, T, F, F, F, F, F], [], []⟩
theorem aak85 : aa85.Ok Try.prog := FrmC.ok_ev (n := 20000) t0_ok (by kernel_rfl) (by kernel_rfl)
def aa89 : FrmC := ⟨89, [vi (89)], [], .agg #[T, F, F, T, T, F, T, F, F, F, F, F], [], []⟩
theorem aak89 : aa89.Ok Try.prog := FrmC.ok_ev (n := 20000) t0_ok (by kernel_rfl) (by kernel_rfl)
def aa93 : FrmC := ⟨89, [vi (93)], [], .agg #[T, F, T, T, T, F, T, F, F, F, F, F], [], []⟩
theorem aak93 : aa93.Ok Try.prog := FrmC.ok_ev (n := 20000) t0_ok (by kernel_rfl) (by kernel_rfl)
def aa97 : FrmC := ⟨89, [vi (97)], [], .agg #[T, F, F, F, F, T, T, F, F, F, F, F], [], []⟩
theorem aak97 : aa97.Ok Try.prog := FrmC.ok_ev (n := 20000) t0_ok (by kernel_rfl) (by kernel_rfl)
def aa101 : FrmC := ⟨89, [vi (101)], [], .agg #[T, F, T, F, F, T, T, F, F, F, F, F], [], []⟩
theorem aak101 : aa101.Ok Try.prog := FrmC.ok_ev (n := 20000) t0_ok (by kernel_rfl) (by kernel_rfl)
def aa105 : FrmC := ⟨89, [vi (105)], [], .agg #[T, F, F, T, F, T, T, F, F, F, F, F], [], []⟩
theorem aak105 : aa105.Ok Try.prog := FrmC.ok_ev (n := 20000) t0_ok (by kernel_rfl) (by kernel_rfl)
def aa109 : FrmC := ⟨89, [vi (109)], [], .agg #[T, F, T, T, F, T, T, F, F, F, F, F], [], []⟩
theorem aak109 : aa109.Ok Try.prog := FrmC.ok_ev (n := 20000) t0_ok (by kernel_rfl) (by kernel_rfl)
def aa113 : FrmC := ⟨89, [vi (113)], [], .agg #[T, F, F, F, T, T, T, F, F, F, F, F], [], []⟩
theorem aak113 : aa113.Ok Try.prog := FrmC.ok_ev (n := 20000) t0_ok (by kernel_rfl) (by kernel_rfl)
def aa117 : FrmC := ⟨89, [vi (117)], [], .agg #[T, F, T, F, T, T, T, F, F, F, F, F], [], []⟩
theorem aak117 : aa117.Ok Try.prog := FrmC.ok_ev (n := 20000) t0_ok (by kernel_rfl) (by kernel_rfl)
def aa121 : FrmC := ⟨89, [vi (121)], [], .agg #[T, F, F, T, T, T, T, F, F, F, F, F], [], []⟩
theorem aak121 : aa121.Ok Try.prog := FrmC.ok_ev (n := 20000) t0_ok (by kernel_rfl) (by kernel_rfl)
def aa125 : FrmC := ⟨89, [vi (125)], [], .agg #[T, F, T, T, T, T, T, F, F, F, F, F], [], []⟩
theorem aak125 : aa125.Ok Try.prog := FrmC.ok_ev (n := 20000) t0_ok (by kernel_rfl) (by kernel_rfl)
end Go.Pier.PleaK
