import Derived.Test.YtalaonfipkmelaaPierPC2
set_option linter.unusedSimpArgs false
set_option linter.unusedVariables false
namespace Go.Pier.PleaK
open Go Go.Pier Go.Proofs
def dd0 : FrmC := ⟨61, [.pointer (some ⟨0, 0, none⟩), .agg #[F, F, F, F, F, F, F, F, F, F, F, F]], h0, F, h0, []⟩
theorem ddk0 : dd0.Ok Try.prog := FrmC.ok_ev (n := 20000) t0_ok (by kernel_rfl) (by kernel_rfl)
def dd4 : FrmC := ⟨61, [.pointer (some ⟨0, 0, none⟩), .agg #[F, F, T, F, F, F, F, F, F, F, F, F]], h0, F, h0, []⟩
theorem ddk4 : dd4.Ok Try.prog := FrmC.ok_ev (n := 20000) t0_ok (by kernel_rfl) (by kernel_rfl)
def dd8 : FrmC := ⟨61, [.pointer (some ⟨0, 0, none⟩), .agg #[F, F, F, T, F, F, F, F, F, F, F, F]], h0, F, h0, []⟩
theorem ddk8 : dd8.Ok Try.prog := FrmC.ok_ev (n := 20000) t0_ok (by kernel_rfl) (by kernel_rfl)
def dd12 : FrmC := ⟨61, [.pointer (some ⟨0, 0, none⟩), .agg #[F, F, T, T, F, F, F, F, F, F, F, F]], h0, F, h0, []⟩
theorem ddk12 : dd12.Ok Try.prog := FrmC.ok_ev (n := 20000) t0_ok (by kernel_rfl) (by kernel_rfl)
def dd16 : FrmC := ⟨61, [.pointer (some ⟨0, 0, none⟩), .agg #[F, F, F, F, T, F, F, F, F, F, F, F]], h0, F, h0, []⟩
theorem ddk16 : dd16.Ok Try.prog := FrmC.ok_ev (n := 20000) t0_ok (by kernel_rfl) (by kernel_rfl)
def dd20 : FrmC := ⟨61, [.pointer (some ⟨0, 0, none⟩), .agg #[F, F, T, F, T, F, F, F, F, F, F, F]], h0, F, h0, []⟩
theorem ddk20 : dd20.Ok Try.prog := FrmC.ok_ev (n := 20000) t0_ok (by kernel_rfl) (by kernel_rfl)
def dd24 : FrmC := ⟨61, [.pointer (some ⟨0, 0, none⟩), .agg #[F, F, F, T, T, F, F, F, F, F, F, F]], h0, F, h0, []⟩
theorem ddk24 : dd24.Ok Try.prog := FrmC.ok_ev (n := 20000) t0_ok (by kernel_rfl) (by kernel_rfl)
def dd28 : FrmC := ⟨61, [.pointer (some ⟨0, 0, none⟩), .agg #[F, F, T, T, T, F, F, F, F, F, F, F]], h0, F, h0, []⟩
theorem ddk28 : dd28.Ok Try.prog := FrmC.ok_ev (n := 20000) t0_ok (by kernel_rfl) (by kernel_rfl)
def dd32 : FrmC := ⟨61, [.pointer (some ⟨0, 0, none⟩), .agg #[F, F, F, F, F, T, F, F, F, F, F, F]], h0, F, h0, []⟩
theorem ddk32 : dd32.Ok Try.prog := FrmC.ok_ev (n := 20000) t0_ok (by kernel_rfl) (by kernel_rfl)
def dd36 : FrmC := ⟨61, [.pointer (some ⟨0, 0, none⟩), .agg #[F, F, T, F, F, T, F, F, F, F, F, F]], h0, F, h0, []⟩
theorem ddk36 : dd36.Ok Try.prog := FrmC.ok_ev (n := 20000) t0_ok (by kernel_rfl) (by kernel_rfl)
def dd40 : FrmC := ⟨61, [.pointer (some ⟨0, 0, none⟩), .agg #[F, F, F, T, F, T, F, F, F, F, F, F]], h0, F, h0, []⟩
theorem ddk40 : dd40.Ok Try.prog := FrmC.ok_ev (n := 20000) t0_ok (by kernel_rfl) (by kernel_rfl)
def dd44 : FrmC := ⟨61, [.pointer (some ⟨0, 0, none⟩), .agg #[F, F, T, T, F, T, F, F, F, F, F, F]], h0, F, h0, []⟩
theorem ddk44 : dd44.Ok Try.prog := FrmC.ok_ev (n := 20000) t0_ok (by kernel_rfl) (by kernel_rfl)
def dd48 : FrmC := ⟨61, [.pointer (some ⟨0, 0, none⟩), .agg #[F, F, F, F, T, T, F, F, F, F, F, F]], h0, F, h0, []⟩
theorem ddk48 : dd48.Ok Try.prog := FrmC.ok_ev (n := 20000) t0_ok (by kernel_rfl) (by kernel_rfl)
def dd52 : FrmC := ⟨61, [.pointer (some ⟨0, 0, none⟩), .agg #[F, F, T, F, T, T, F, F, F, F, F, F]], h0, F, h0, []⟩
theorem ddk52 : dd52.Ok Try.prog := FrmC.ok_ev (n := 20000) t0_ok (by kernel_rfl) (by kernel_rfl)
def dd56 : FrmC := ⟨61, [.pointer (some ⟨0, 0, none⟩), .agg #[F, F, F, T, T, T, F, F, F, F, F, F]], h0, F, h0, []⟩
theorem ddk56 : dd56.Ok Try.prog := FrmC.ok_ev (n := 20000) t0_ok (by kernel_rfl) (by kernel_rfl)
def dd60 : FrmC := ⟨61, [.pointer (some ⟨0, 0, none⟩), .agg #[F, F, T, T, T, T, F, F, F, F, F, F]], h0, F, h0, []⟩
theorem ddk60 : dd60.Ok Try.prog := FrmC.ok_ev (n := 20000) t0_ok (by kernel_rfl) (by kernel_rfl)
def dd64 : FrmC := ⟨61, [.pointer (some ⟨0, 0, none⟩), .agg #[F, F, F, F, F, F, T, F, F, F, F, F]], h0, F, h0, []⟩
theorem ddk64 : dd64.Ok Try.prog := FrmC.ok_ev (n := 20000) t0_ok (by kernel_rfl) (by kernel_rfl)
def dd68 : FrmC := ⟨61, [.pointer (some ⟨0, 0, none⟩), .agg #[F, F, T, F, F, F, T, F, F, F, F, F]], h0, F, h0, []⟩
theorem ddk68 : dd68.Ok Try.prog := FrmC.ok_ev (n := 20000) t0_ok (by kernel_rfl) (by kernel_rfl)
def dd72 : FrmC := ⟨61, [.pointer (some ⟨0, 0, none⟩), .agg #[F, F, F, T, F, F, T, F, F, F, F, F]], h0, F, h0, []⟩
theorem ddk72 : dd72.Ok Try.prog := FrmC.ok_ev (n := 20000) t0_ok (by kernel_rfl) (by kernel_rfl)
def dd76 : FrmC := ⟨61, [.pointer (some ⟨0, 0, none⟩), .agg #[F, F, T, T, F, F, T, F, F, F, F, F]], h0, F, h0, []⟩
theorem ddk76 : dd76.Ok Try.prog := FrmC.ok_ev (n := 20000) t0_ok (by kernel_rfl) (by kernel_rfl)
def dd80 : FrmC := ⟨61, [.pointer (some ⟨0, 0, none⟩), .agg #[F, F, F, F, T, F, T, F, F, F, F, F]], h0, F, h0, []⟩
theorem ddk80 : dd80.Ok Try.prog := FrmC.ok_ev (n := 20000) t0_ok (by kernel_rfl) (by kernel_rfl)
def dd84 : FrmC := ⟨61, [.pointer (some ⟨0, 0, none⟩), .agg #[F, F, T, F, T, F, T, F, F, F, F, F]], h0, F, h0, []⟩
theorem ddk84 : dd84.Ok Try.prog := FrmC.ok_ev (n := 20000) t0_ok (by kernel_rfl) (by kernel_rfl)
def dd88 : FrmC := ⟨61, [.pointer (some ⟨0, 0, none⟩), .agg #[F, F, F, T, T, F, T, F, F, F, F, F]], h0, F, h0, []⟩
theorem ddk88 : dd88.Ok Try.prog := FrmC.ok_ev (n := 20000) t0_ok (by kernel_rfl) (by kernel_rfl)
def dd92 : FrmC := ⟨61, [.pointer (some ⟨0, 0, none⟩), .agg #[F, F, T, T, T, F, T, F, F, F, F, F]], h0, F, h0, []⟩
theorem ddk92 : dd92.Ok Try.prog := FrmC.ok_ev (n := 20000) t0_ok (by kernel_rfl) (by kernel_rfl)
def dd96 : FrmC := ⟨61, [.pointer (some ⟨0, 0, none⟩), .agg #[F, F, F, F, F, T, T, F, F, F, F, F]], h0, F, h0, []⟩
theorem ddk96 : dd96.Ok Try.prog := FrmC.ok_ev (n := 20000) t0_ok (by kernel_rfl) (by kernel_rfl)
def dd100 : FrmC := ⟨61, [.pointer (some ⟨0, 0, none⟩), .agg #[F, F, T, F, F, T, T, F, F, F, F, F]], h0, F, h0, []⟩
theorem ddk100 : dd100.Ok Try.prog := FrmC.ok_ev (n := 20000) t0_ok (by kernel_rfl) (by kernel_rfl)
def dd104 : FrmC := ⟨61, [.pointer (some ⟨0, 0, none⟩), .agg #[F, F, F, T, F, T, T, F, F, F, F, F]], h0, F, h0, []⟩
theorem ddk104 : dd104.Ok Try.prog := FrmC.ok_ev (n := 20000) t0_ok (by kernel_rfl) (by kernel_rfl)
def dd108 : FrmC := ⟨61, [.pointer (some ⟨0, 0, none⟩), .agg #[F, F, T, T, F, T, T, F, F, F, F, F]], h0, F, h0, []⟩
theorem ddk108 : dd108.Ok Try.prog := FrmC.ok_ev (n := 20000) t0_ok (by kernel_rfl) (by kernel_rfl)
def dd112 : FrmC := ⟨61, [.pointer (some ⟨0, 0, none⟩), .agg #[F, F, F, F, T, T, T, F, F, F, F, F]], h0, F, h0, []⟩
theorem ddk112 : dd112.Ok Try.prog := FrmC.ok_ev (n := 20000) t0_ok (by kernel_rfl) (by kernel_rfl)
def dd116 : FrmC := ⟨61, [.pointer (some ⟨0, 0, none⟩), .agg #[F, F, T, F, T, T, T, F, F, F, F, F]], h0, F, h0, []⟩
theorem ddk116 : dd116.Ok Try.prog := FrmC.ok_ev (n := 20000) t0_ok (by kernel_rfl) (by kernel_rfl)
def dd120 : FrmC := ⟨61, [.pointer (some ⟨0, 0, none⟩), .agg #[F, F, F, T, T, T, T, F, F, F, F, F]], h0, F, h0, []⟩
theorem ddk120 : dd120.Ok Try.prog := FrmC.ok_ev (n := 20000) t0_ok (by kernel_rfl) (by kernel_rfl)
def dd124 : FrmC := ⟨61, [.pointer (some ⟨0, 0, none⟩), .agg #[F, F, T, T, T, T, T, F, F, F, F, F]], h0, F, h0, []⟩
theorem ddk124 : dd124.Ok Try.prog := FrmC.ok_ev (n := 20000) t0_ok (by kernel_rfl) (by kernel_rfl)
def dd128 : FrmC := ⟨61, [.pointer (some ⟨0, 0, none⟩), .agg #[F, F, F, F, F, F, F, F, F, F, F, F]], h1, F, h1, []⟩
theorem ddk128 : dd128.Ok Try.prog := FrmC.ok_ev (n := 20000) t0_ok (by kernel_rfl) (by kernel_rfl)
def dd132 : FrmC := ⟨61, [.pointer (some ⟨0, 0, none⟩), .agg #[F, F, T, F, F, F, F, F, F, F, F, F]], h1, F, h1, []⟩
theorem ddk132 : dd132.Ok Try.prog := FrmC.ok_ev (n := 20000) t0_ok (by kernel_rfl) (by kernel_rfl)
def dd136 : FrmC := ⟨61, [.pointer (some ⟨0, 0, none⟩), .agg #[F, F, F, T, F, F, F, F, F, F, F, F]], h1, F, h1, []⟩
theorem ddk136 : dd136.Ok Try.prog := FrmC.ok_ev (n := 20000) t0_ok (by kernel_rfl) (by kernel_rfl)
def dd140 : FrmC := ⟨61, [.pointer (some ⟨0, 0, none⟩), .agg #[F, F, T, T, F, F, F, F, F, F, F, F]], h1, F, h1, []⟩
theorem ddk140 : dd140.Ok Try.prog := FrmC.ok_ev (n := 20000) t0_ok (by kernel_rfl) (by kernel_rfl)
def dd144 : FrmC := ⟨61, [.pointer (some ⟨0, 0, none⟩), .agg #[F, F, F, F, T, F, F, F, F, F, F, F]], h1, F, h1, []⟩
theorem ddk144 : dd144.Ok Try.prog := FrmC.ok_ev (n := 20000) t0_ok (by kernel_rfl) (by kernel_rfl)
def dd148 : FrmC := ⟨61, [.pointer (some ⟨0, 0, none⟩), .agg #[F, F, T, F, T, F, F, F, F, F, F, F]], h1, F, h1, []⟩
theorem ddk148 : dd148.Ok Try.prog := FrmC.ok_ev (n := 20000) t0_ok (by kernel_rfl) (by kernel_rfl)
def dd152 : FrmC := ⟨61, [.pointer (some ⟨0, 0, none⟩), .agg #[F, F, F, T, T, F, F, F, F, F, F, F]], h1, F, h1, []⟩
theorem ddk152 : dd152.Ok Try.prog := FrmC.ok_ev (n := 20000) t0_ok (by kernel_rfl) (by kernel_rfl)
def dd156 : FrmC := ⟨61, [.pointer (some ⟨0, 0, none⟩), .agg #[F, F, T, T, T, F, F, F, F, F, F, F]], h1, F, h1, []⟩
theorem ddk156 : dd156.Ok Try.prog := FrmC.ok_ev (n := 20000) t0_ok (by kernel_rfl) (by kernel_rfl)
def dd160 : FrmC := ⟨61, [.pointer (some ⟨0, 0, none⟩), .agg #[F, F, F, F, F, T, F, F, F, F, F, F]], h1, F, h1, []⟩
theorem ddk160 : dd160.Ok Try.prog := FrmC.ok_ev (n := 20000) t0_ok (by kernel_rfl) (by kernel_rfl)
def dd164 : FrmC := ⟨61, [.pointer (some ⟨0, 0, none⟩), .agg #[F, F, T, F, F, T, F, F, F, F, F, F]], h1, F, h1, []⟩
theorem ddk164 : dd164.Ok Try.prog := FrmC.ok_ev (n := 20000) t0_ok (by kernel_rfl) (by kernel_rfl)
def dd168 : FrmC := ⟨61, [.pointer (some ⟨0, 0, none⟩), .agg #[F, F, F, T, F, T, F, F, F, F, F, F]], h1, F, h1, []⟩
theorem ddk168 : dd168.Ok Try.prog := FrmC.ok_ev (n := 20000) t0_ok (by kernel_rfl) (by kernel_rfl)
def dd172 : FrmC := ⟨61, [.pointer (some ⟨0, 0, none⟩), .agg #[F, F, T, T, F, T, F, F, F, F, F, F]], h1, F, h1, []⟩
theorem ddk172 : dd172.Ok Try.prog := FrmC.ok_ev (n := 20000) t0_ok (by kernel_rfl) (by kernel_rfl)
def dd176 : FrmC := ⟨61, [.pointer (some ⟨0, 0, none⟩), .agg #[F, F, F, F, T, T, F, F, F, F, F, F]], h1, F, h1, []⟩
theorem ddk176 : dd176.Ok Try.prog := FrmC.ok_ev (n := 20000) t0_ok (by kernel_rfl) (by kernel_rfl)
def dd180 : FrmC := ⟨61, [.pointer (some ⟨0, 0, none⟩), .agg #[F, F, T, F, T, T, F, F, F, F, F, F]], h1, F, h1, []⟩
theorem ddk180 : dd180.Ok Try.prog := FrmC.ok_ev (n := 20000) t0_ok (by kernel_rfl) (by kernel_rfl)
def dd184 : FrmC := ⟨61, [.pointer (some ⟨0, 0, none⟩), .agg #[F, F, F, T, T, T, F, F, F, F, F, F]], h1, F, h1, []⟩
theorem ddk184 : dd184.Ok Try.prog := FrmC.ok_ev (n := 20000) t0_ok (by kernel_rfl) (by kernel_rfl)
def dd188 : FrmC := ⟨61, [.pointer (some ⟨0, 0, none⟩), .agg #[F, F, T, T, T, T, F, F, F, F, F, F]], h1, F, h1, []⟩
theorem ddk188 : dd188.Ok Try.prog := FrmC.ok_ev (n := 20000) t0_ok (by kernel_rfl) (by kernel_rfl)
def dd192 : FrmC := ⟨61, [.pointer (some ⟨0, 0, none⟩), .agg #[F, F, F, F, F, F, T, F, F, F, F, F]], h1, F, h1, []⟩
theorem ddk192 : dd192.Ok Try.prog := FrmC.ok_ev (n := 20000) t0_ok (by kernel_rfl) (by kernel_rfl)
def dd196 : FrmC := ⟨61, [.pointer (some ⟨0, 0, none⟩), .agg #[F, F, T, F, F, F, T, F, F, F, F, F]], h1, F, h1, []⟩
theorem ddk196 : dd196.Ok Try.prog := FrmC.ok_ev (n := 20000) t0_ok (by kernel_rfl) (by kernel_rfl)
def dd200 : FrmC := ⟨61, [.pointer (some ⟨0, 0, none⟩), .agg #[F, F, F, T, F, F, T, F, F, F, F, F]], h1, F, h1, []⟩
theorem ddk200 : dd200.Ok Try.prog := FrmC.ok_ev (n := 20000) t0_ok (by kernel_rfl) (by kernel_rfl)
def dd204 : FrmC := ⟨61, [.pointer (some ⟨0, 0, none⟩), .agg #[F, F, T, T, F, F, T, F, F, F, F, F]], h1, F, h1, []⟩
theorem ddk204 : dd204.Ok Try.prog := FrmC.ok_ev (n := 20000) t0_ok (by kernel_rfl) (by kernel_rfl)
def dd208 : FrmC := ⟨61, [.pointer (some ⟨0, 0, none⟩), .agg #[F, F, F, F, T, F, T, F, F, F, F, F]], h1, F, h1, []⟩
theorem ddk208 : dd208.Ok Try.prog := FrmC.ok_ev (n := 20000) t0_ok (by kernel_rfl) (by kernel_rfl)
def dd212 : FrmC := ⟨61, [.pointer (some ⟨0, 0, none⟩), .agg #[F, F, T, F, T, F, T, F, F, F, F, F]], h1, F, h1, []⟩
theorem ddk212 : dd212.Ok Try.prog := FrmC.ok_ev (n := 20000) t0_ok (by kernel_rfl) (by kernel_rfl)
def dd216 : FrmC := ⟨61, [.pointer (some ⟨0, 0, none⟩), .agg #[F, F, F, T, T, F, T, F, F, F, F, F]], h1, F, h1, []⟩
theorem ddk216 : dd216.Ok Try.prog := FrmC.ok_ev (n := 20000) t0_ok (by kernel_rfl) (by kernel_rfl)
def dd220 : FrmC := ⟨61, [.pointer (some ⟨0, 0, none⟩), .agg #[F, F, T, T, T, F, T, F, F, F, F, F]], h1, F, h1, []⟩
theorem ddk220 : dd220.Ok Try.prog := FrmC.ok_ev (n := 20000) t0_ok (by kernel_rfl) (by kernel_rfl)
def dd224 : FrmC := ⟨61, [.pointer (some ⟨0, 0, none⟩), .agg #[F, F, F, F, F, T, T, F, F, F, F, F]], h1, F, h1, []⟩
theorem ddk224 : dd224.Ok Try.prog := FrmC.ok_ev (n := 20000) t0_ok (by kernel_rfl) (by kernel_rfl)
def dd228 : FrmC := ⟨61, [.pointer (some ⟨0, 0, none⟩), .agg #[F, F, T, F, F, T, T, F, F, F, F, F]], h1, F, h1, []⟩
theorem ddk228 : dd228.Ok Try.prog := FrmC.ok_ev (n := 20000) t0_ok (by kernel_rfl) (by kernel_rfl)
def dd232 : FrmC := ⟨61, [.pointer (some ⟨0, 0, none⟩), .agg #[F, F, F, T, F, T, T, F, F, F, F, F]], h1, F, h1, []⟩
theorem ddk232 : dd232.Ok Try.prog := FrmC.ok_ev (n := 20000) t0_ok (by kernel_rfl) (by kernel_rfl)
def dd236 : FrmC := ⟨61, [.pointer (some ⟨0, 0, none⟩), .agg #[F, F, T, T, F, T, T, F, F, F, F, F]], h1, F, h1, []⟩
theorem ddk236 : dd236.Ok Try.prog := FrmC.ok_ev (n := 20000) t0_ok (by kernel_rfl) (by kernel_rfl)
def dd240 : FrmC := ⟨61, [.pointer (some ⟨0, 0, none⟩), .agg #[F, F, F, F, T, T, T, F, F, F, F, F]], h1, F, h1, []⟩
theorem ddk240 : dd240.Ok Try.prog := FrmC.ok_ev (n := 20000) t0_ok (by kernel_rfl) (by kernel_rfl)
def dd244 : FrmC := ⟨61, [.pointer (some ⟨0, 0, none⟩), .agg #[F, F, T, F, T, T, T, F, F, F, F, F]], h1, F, h1, []⟩
theorem ddk244 : dd244.Ok Try.prog := FrmC.ok_ev (n := 20000) t0_ok (by kernel_rfl) (by kernel_rfl)
def dd248 : FrmC := ⟨61, [.pointer (some ⟨0, 0, none⟩), .agg #[F, F, F, T, T, T, T, F, F, F, F, F]], h1, F, h1, []⟩
theorem ddk248 : dd248.Ok Try.prog := FrmC.ok_ev (n := 20000) t0_ok (by kernel_rfl) (by kernel_rfl)
def dd252 : FrmC := ⟨61, [.pointer (some ⟨0, 0, none⟩), .agg #[F, F, T, T, T, T, T, F, F, F, F, F]], h1, F, h1, []⟩
theorem ddk252 : dd252.Ok Try.prog := FrmC.ok_ev (n := 20000) t0_ok (by kernel_rfl) (by kernel_rfl)
end Go.Pier.PleaK
