import Derived.Test.YtalaonfipkmelaaPierPC2
set_option linter.unusedSimpArgs false
set_option linter.unusedVariables false
namespace Go.Pier.PleaK
open Go Go.Pier Go.Proofs
def aa0 : FrmC := ⟨89, [vi (0)], [], .agg #[F, F, F, F, F, F, F, F, F, F, F, F], [], []⟩
theorem aak0 : aa0.Ok Try.prog := FrmC.ok_ev (n := 20000) t0_ok (by kernel_rfl) (by kernel_rfl)
def aa4 : FrmC := ⟨89, [vi (4)], [], .agg #[F, F, T, F, F, F, F, F, F, F, F, F], [], []⟩
theorem aak4 : aa4.Ok Try.prog := FrmC.ok_ev (n := 20000) t0_ok (by kernel_rfl) (by kernel_rfl)
def aa8 : FrmC := ⟨89, [vi (8)], [], .agg #[F, F, F, T, F, F, F, F, F, F, F, F], [], []⟩
theorem aak8 : aa8.Ok Try.prog := FrmC.ok_ev (n := 20000) t0_ok (by kernel_rfl) (by kernel_rfl)
def aa12 : FrmC := ⟨89, [vi (12)], [], .agg #[F, F, T, T, F, F, F, F, F, F, F, F], [], []⟩
theorem aak12 : aa12.Ok Try.prog := FrmC.ok_ev (n := 20000) t0_ok (by kernel_rfl) (by kernel_rfl)
def aa16 : FrmC := ⟨89, [vi (16)], [], .agg #[F, F, F, F, T, F, F, F, F, F, F, F], [], []⟩
theorem aak16 : aa16.Ok Try.prog := FrmC.ok_ev (n := 20000) t0_ok (by kernel_rfl) (by kernel_rfl)
def aa20 : FrmC := ⟨89, [vi (20)], [], .agg #[F, F, T, F, T, F, F, F, F, F, F, F], [], []⟩
theorem aak20 : aa20.Ok Try.prog := FrmC.ok_ev (n := 20000) t0_ok (by kernel_rfl) (by kernel_rfl)
def aa24 : FrmC := ⟨89, [vi (24)], [], .agg #[F, F, F, T, T, F, F, F, F, F, F, F], [], []⟩
theorem aak24 : aa24.Ok Try.prog := FrmC.ok_ev (n := 20000) t0_ok (by kernel_rfl) (by kernel_rfl)
def aa28 : FrmC := ⟨89, [vi (28)], [], .agg #[F, F, T, T, T, F, F, F, F, F, F, F], [], []⟩
theorem aak28 : aa28.Ok Try.prog := FrmC.ok_ev (n := 20000) t0_ok (by kernel_rfl) (by kernel_rfl)
def aa32 : FrmC := ⟨89, [vi (32)], [], .agg #[F, F, F, F, F, T, F, F, F, F, F, F], [], []⟩
theorem aak32 : aa32.Ok Try.prog := FrmC.ok_ev (n := 20000) t0_ok (by kernel_rfl) (by kernel_rfl)
def aa36 : FrmC := ⟨89, [vi (36)], [], .agg #[F, F, T, F, F, T, F, F, F, F, F, F], [], []⟩
theorem aak36 : aa36.Ok Try.prog := FrmC.ok_ev (n := 20000) t0_ok (by kernel_rfl) (by kernel_rfl)
def aa40 : FrmC := ⟨89, [vi (40)], [], .agg #[F, F, F, T, F, T, F, F, F, F, F, F], [], []⟩
theorem aak40 : aa40.Ok Try.prog := FrmC.ok_ev (n := 20000) t0_ok (by kernel_rfl) (by kernel_rfl)
def aa44 : FrmC := ⟨89, [vi (44)], [], .agg #[F, F, T, T, F, T, F, F, F, F, F, F], [], []⟩
theorem aak44 : aa44.Ok Try.prog := FrmC.ok_ev (n := 20000) t0_ok (by kernel_rfl) (by kernel_rfl)
def aa48 : FrmC := ⟨89, [vi (48)], [], .agg #[F, F, F, F, T, T, F, F, F, F, F, F], [], []⟩
theorem aak48 : aa48.Ok Try.prog := FrmC.ok_ev (n := 20000) t0_ok (by kernel_rfl) (by kernel_rfl)
def aa52 : FrmC := ⟨89, [vi (52)], [], .agg #[F, F, T, F, T, T, F, F, F, F, F, F], [], []⟩
theorem aak52 : aa52.Ok Try.prog := FrmC.ok_ev (n := 20000) t0_ok (by kernel_rfl) (by kernel_rfl)
def aa56 : FrmC := ⟨89, [vi (56)], [], .agg #[F, F, F, T, T, T, F, F, F, F, F, F], [], []⟩
theorem aak56 : aa56.Ok Try.prog := FrmC.ok_ev (n := 20000) t0_ok (by kernel_rfl) (by kernel_rfl)
def aa60 : FrmC := ⟨89, [vi (60)], [], .agg #[F, F, T, T, T, T, F, F, F, F, F, F], [], []⟩
theorem aak60 : aa60.Ok Try.prog := FrmC.ok_ev (n := 20000) t0_ok (by kernel_rfl) (by kernel_rfl)
def aa64 : FrmC := ⟨89, [vi (64)], [], .agg #[F, F, F, F, F, F, T, F, F, F, F, F], [], []⟩
theorem aak64 : aa64.Ok Try.prog := FrmC.ok_ev (n := 20000) t0_ok (by kernel_rfl) (by kernel_rfl)
def aa68 : FrmC := ⟨89, [vi (68)], [], .agg #[F, F, T, F, F, F, T, F, F, F, F, F], [], []⟩
theorem aak68 : aa68.Ok Try.prog := FrmC.ok_ev (n := 20000) t0_ok (by kernel_rfl) (by kernel_rfl)
def aa72 : FrmC := ⟨89, [vi (72)], [], .agg #[F, F, F, T, F, F, T, F, F, F, F, F], [], []⟩
theorem aak72 : aa72.Ok Try.prog := FrmC.ok_ev (n := 20000) t0_ok (by kernel_rfl) (by kernel_rfl)
def aa76 : FrmC := ⟨89, [vi (76)], [], .agg #[F, F, T, T, F, F, T, F, F, F, F, F], [], []⟩
theorem aak76 : aa76.Ok Try.prog := FrmC.ok_ev (n := 20000) t0_ok (by kernel_rfl) (by kernel_rfl)
def aa80 : FrmC := ⟨89, [vi (80)], [], .agg #[F, F, F, F, T, F, T, F, F, F, F, F], [], []⟩
theorem aak80 : aa80.Ok Try.prog := FrmC.ok_ev (n := 20000) t0_ok (by kernel_rfl) (by kernel_rfl)
def aa84 : FrmC := ⟨89, [vi (84)], [], .agg #[F, F, T, F, T, F, T, F, F, F, F, F], [], []⟩
theorem aak84 : aa84.Ok Try.prog := FrmC.ok_ev (n := 20000) t0_ok (by kernel_rfl) (by kernel_rfl)
def aa88 : FrmC := ⟨89, [vi (88)], [], .agg #[F, F, F, T, T, F, T, F, F, F, F, F], [], []⟩
theorem aak88 : aa88.Ok Try.prog := FrmC.ok_ev (n := 20000) t0_ok (by kernel_rfl) (by kernel_rfl)
def aa92 : FrmC := ⟨89, [vi (92)], [], .agg #[F, F, T, T, T, F, T, F, F, F, F, F], [], []⟩
theorem aak92 : aa92.Ok Try.prog := FrmC.ok_ev (n := 20000) t0_ok (by kernel_rfl) (by kernel_rfl)
def aa96 : FrmC := ⟨89, [vi (96)], [], .agg #[F, F, F, F, F, T, T, F, F, F, F, F], [], []⟩
theorem aak96 : aa96.Ok Try.prog := FrmC.ok_ev (n := 20000) t0_ok (by kernel_rfl) (by kernel_rfl)
def aa100 : FrmC := ⟨89, [vi (100)], [], .agg #[F, F, T, F, F, T, T, F, F, F, F, F], [], []⟩
theorem aak100 : aa100.Ok Try.prog := FrmC.ok_ev (n := 20000) t0_ok (by kernel_rfl) (by kernel_rfl)
def aa104 : FrmC := ⟨89, [vi (104)], [], .agg #[F, F, F, T, F, T, T, F, F, F, F, F], [], []⟩
theorem aak104 : aa104.Ok Try.prog := FrmC.ok_ev (n := 20000) t0_ok (by kernel_rfl) (by kernel_rfl)
def aa108 : FrmC := ⟨89, [vi (108)], [], .agg #[F, F, T, T, F, T, T, F, F, F, F, F], [], []⟩
theorem aak108 : aa108.Ok Try.prog := FrmC.ok_ev (n := 20000) t0_ok (by kernel_rfl) (by kernel_rfl)
def aa112 : FrmC := ⟨89, [vi (112)], [], .agg #[F, F, F, F, T, T, T, F, F, F, F, F], [], []⟩
theorem aak112 : aa112.Ok Try.prog := FrmC.ok_ev (n := 20000) t0_ok (by kernel_rfl) (by kernel_rfl)
def aa116 : FrmC := ⟨89, [vi (116)], [], .agg #[F, F, T, F, T, T, T, F, F, F, F, F], [], []⟩
theorem aak116 : aa116.Ok Try.prog := FrmC.ok_ev (n := 20000) t0_ok (by kernel_rfl) (by kernel_rfl)
def aa120 : FrmC := ⟨89, [vi (120)], [], .agg #[F, F, F, T, T, T, T, F, F, F, F, F], [], []⟩
theorem aak120 : aa120.Ok Try.prog := FrmC.ok_ev (n := 20000) t0_ok (by kernel_rfl) (by kernel_rfl)
def aa124 : FrmC := ⟨89, [vi (124)], [], .agg #[F, F, T, T, T, T, T, F, F, F, F, F], [], []⟩
theorem aak124 : aa124.Ok Try.prog := FrmC.ok_ev (n := 20000) t0_ok (by kernel_rfl) (by kernel_rfl)
end Go.Pier.PleaK
