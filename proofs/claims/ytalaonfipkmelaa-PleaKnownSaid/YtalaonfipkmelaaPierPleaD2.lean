import Derived.Test.YtalaonfipkmelaaPierPC2
set_option linter.unusedSimpArgs false
set_option linter.unusedVariables false
namespace Go.Pier.PleaK
open Go Go.Pier Go.Proofs
def dd2 : FrmC := ⟨61, [.pointer (some ⟨0, 0, none⟩), .agg #[F, T, F, F, F, F, F, F, F, F, F, F]], h0, F, h0, []⟩
theorem ddk2 : dd2.Ok Try.prog := FrmC.ok_ev (n := 20000) t0_ok (by kernel_rfl) (by kernel_rfl)
def dd6 : FrmC := ⟨61, [.pointer (some ⟨0, 0, none⟩), .agg #[F, T, T, F, F, F, F, F, F, F, F, F]], h0, F, h0, []⟩
theorem ddk6 : dd6.Ok Try.prog := FrmC.ok_ev (n := 20000) t0_ok (by kernel_rfl) (by kernel_rfl)
def dd10 : FrmC := ⟨61, [.pointer (some ⟨0, 0, none⟩), .agg #[F, T, F, T, F, F, F, F, F, F, F, F]], h0, F, h0, []⟩
theorem ddk10 : dd10.Ok Try.prog := FrmC.ok_ev (n := 20000) t0_ok (by kernel_rfl) (by kernel_rfl)
def dd14 : FrmC := ⟨61, [.pointer (some ⟨0, 0, none⟩), .agg #[F, T, T, T, F, F, F, F, F, F, F, F]], h0, F, h0, []⟩
theorem ddk14 : dd14.Ok Try.prog := FrmC.ok_ev (n := 20000) t0_ok (by kernel_rfl) (by kernel_rfl)
def dd18 : FrmC := ⟨61, [.pointer (some ⟨0, 0, none⟩), .agg #[F, T, F, F, T, F, F, F, F, F, F, F]], h0, F, h0, []⟩
theorem ddk18 : dd18.Ok Try.prog := FrmC.ok_ev (n := 20000) t0_ok (by kernel_rfl) (by kernel_rfl)
def dd22 : FrmC := ⟨61, [.pointer (some ⟨0, 0, none⟩), .agg #[F, T, T, F, T, F, F, F, F, F, F, F]], h0, F, h0, []⟩
theorem ddk22 : dd22.Ok Try.prog := FrmC.ok_ev (n := 20000) t0_ok (by kernel_rfl) (by kernel_rfl)
def dd26 : FrmC := ⟨61, [.pointer (some ⟨0, 0, none⟩), .agg #[F, T, F, T, T, F, F, F, F, F, F, F]], h0, F, h0, []⟩
theorem ddk26 : dd26.Ok Try.prog := FrmC.ok_ev (n := 20000) t0_ok (by kernel_rfl) (by kernel_rfl)
def dd30 : FrmC := ⟨61, [.pointer (some ⟨0, 0, none⟩), .agg #[F, T, T, T, T, F, F, F, F, F, F, F]], h0, F, h0, []⟩
theorem ddk30 : dd30.Ok Try.prog := FrmC.ok_ev (n := 20000) t0_ok (by kernel_rfl) (by kernel_rfl)
def dd34 : FrmC := ⟨61, [.pointer (some ⟨0, 0, none⟩), .agg #[F, T, F, F, F, T, F, F, F, F, F, F]], h0, F, h0, []⟩
theorem ddk34 : dd34.Ok Try.prog := FrmC.ok_ev (n := 20000) t0_ok (by kernel_rfl) (by kernel_rfl)
def dd38 : FrmC := ⟨61, [.pointer (some ⟨0, 0, none⟩), .agg #[F, T, T, F, F, T, F, F, F, F, F, F]], h0, F, h0, []⟩
theorem ddk38 : dd38.Ok Try.prog := FrmC.ok_ev (n := 20000) t0_ok (by kernel_rfl) (by kernel_rfl)
def dd42 : FrmC := ⟨61, [.pointer (some ⟨0, 0, none⟩), .agg #[F, T, F, T, F, T, F, F, F, F, F, F]], h0, F, h0, []⟩
theorem ddk42 : dd42.Ok Try.prog := FrmC.ok_ev (n := 20000) t0_ok (by kernel_rfl) (by kernel_rfl)
def dd46 : FrmC := ⟨61, [.pointer (some ⟨0, 0, none⟩), .agg #[F, T, T, T, F, T, F, F, F, F, F, F]], h0, F, h0, []⟩
theorem ddk46 : dd46.Ok Try.prog := FrmC.ok_ev (n := 20000) t0_ok (by kernel_rfl) (by kernel_rfl)
def dd50 : FrmC := ⟨61, [.pointer (some ⟨0, 0, none⟩), .agg #[F, T, F, F, T, T, F, F, F, F, F, F]], h0, F, h0, []⟩
theorem ddk50 : dd50.Ok Try.prog := FrmC.ok_ev (n := 20000) t0_ok (by kernel_rfl) (by kernel_rfl)
def dd54 : FrmC := ⟨61, [.pointer (some ⟨0, 0, none⟩), .agg #[F, T, T, F, T, T, F, F, F, F, F, F]], h0, F, h0, []⟩
theorem ddk54 : dd54.Ok Try.prog := FrmC.ok_ev (n := 20000) t0_ok (by kernel_rfl) (by kernel_rfl)
def dd58 : FrmC := ⟨61, [.pointer (some ⟨0, 0, none⟩), .agg #[F, T, F, T, T, T, F, F, F, F, F, F]], h0, F, h0, []⟩
theorem ddk58 : dd58.Ok Try.prog := FrmC.ok_ev (n := 20000) t0_ok (by kernel_rfl) (by kernel_rfl)
def dd62 : FrmC := ⟨61, [.pointer (some ⟨0, 0, none⟩), .agg #[F, T, T, T, T, T, F, F, F, F, F, F]], h0, F, h0, []⟩
theorem ddk62 : dd62.Ok Try.prog := FrmC.ok_ev (n := 20000) t0_ok (by kernel_rfl) (by kernel_rfl)
def dd66 : FrmC := ⟨61, [.pointer (some ⟨0, 0, none⟩), .agg #[F, T, F, F, F, F, T, F, F, F, F, F]], h0, F, h0, []⟩
theorem ddk66 : dd66.Ok Try.prog := FrmC.ok_ev (n := 20000) t0_ok (by kernel_rfl) (by kernel_rfl)
def dd70 : FrmC := ⟨61, [.pointer (some ⟨0, 0, none⟩), .agg #[F, T, T, F, F, F, T, F, F, F, F, F]], h0, F, h0, []⟩
theorem ddk70 : dd70.Ok Try.prog := FrmC.ok_ev (n := 20000) t0_ok (by kernel_rfl) (by kernel_rfl)
def dd74 : FrmC := ⟨61, [.pointer (some ⟨0, 0, none⟩), .agg #[F, T, F, T, F, F, T, F, F, F, F, F]], h0, F, h0, []⟩
theorem ddk74 : dd74.Ok Try.prog := FrmC.ok_ev (n := 20000) t0_ok (by kernel_rfl) (by kernel_rfl)
def dd78 : FrmC := ⟨61, [.pointer (some ⟨0, 0, none⟩), .agg #[F, T, T, T, F, F, T, F, F, F, F, F]], h0, F, h0, []⟩
theorem ddk78 : dd78.Ok Try.prog := FrmC.ok_ev (n := 20000) t0_ok (by kernel_rfl) (by kernel_rfl)
def dd82 : FrmC := ⟨61, [.pointer (some ⟨0, 0, none⟩), .agg #[F, T, F, F, T, F, T, F, F, F, F, F]], h0, F, h0, []⟩
theorem ddk82 : dd82.Ok Try.prog := FrmC.ok_ev (n := 20000) t0_ok (by kernel_rfl) (by kernel_rfl)
def dd86 : FrmC := ⟨61, [.pointer (some ⟨0, 0, none⟩), .agg #[F, T, T, F, T, F, T, F, F, F, F, F]], h0, F, h0, []⟩
theorem ddk86 : dd86.Ok Try.prog := FrmC.ok_ev (n := 20000) t0_ok (by kernel_rfl) (by kernel_rfl)
def dd90 : FrmC := ⟨61, [.pointer (some ⟨0, 0, none⟩), .agg #[F, T, F, T, T, F, T, F, F, F, F, F]], h0, F, h0, []⟩
theorem ddk90 : dd90.Ok Try.prog := FrmC.ok_ev (n := 20000) t0_ok (by kernel_rfl) (by kernel_rfl)
def dd94 : FrmC := ⟨61, [.pointer (some ⟨0, 0, none⟩), .agg #[F, T, T, T, T, F, T, F, F, F, F, F]], h0, F, h0, []⟩
theorem ddk94 : dd94.Ok Try.prog := FrmC.ok_ev (n := 20000) t0_ok (by kernel_rfl) (by kernel_rfl)
def dd98 : FrmC := ⟨61, [.pointer (some ⟨0, 0, none⟩), .agg #[F, T, F, F, F, T, T, F, F, F, F, F]], h0, F, h0, []⟩
theorem ddk98 : dd98.Ok Try.prog := FrmC.ok_ev (n := 20000) t0_ok (by kernel_rfl) (by kernel_rfl)
def dd102 : FrmC := ⟨61, [.pointer (some ⟨0, 0, none⟩), .agg #[F, T, T, F, F, T, T, F, F, F, F, F]], h0, F, h0, []⟩
theorem ddk102 : dd102.Ok Try.prog := FrmC.ok_ev (n := 20000) t0_ok (by kernel_rfl) (by kernel_rfl)
def dd106 : FrmC := ⟨61, [.pointer (some ⟨0, 0, none⟩), .agg #[F, T, F, T, F, T, T, F, F, F, F, F]], h0, F, h0, []⟩
theorem ddk106 : dd106.Ok Try.prog := FrmC.ok_ev (n := 20000) t0_ok (by kernel_rfl) (by kernel_rfl)
def dd110 : FrmC := ⟨61, [.pointer (some ⟨0, 0, none⟩), .agg #[F, T, T, T, F, T, T, F, F, F, F, F]], h0, F, h0, []⟩
theorem ddk110 : dd110.Ok Try.prog := FrmC.ok_ev (n := 20000) t0_ok (by kernel_rfl) (by kernel_rfl)
def dd114 : FrmC := ⟨61, [.pointer (some ⟨0, 0, none⟩), .agg #[F, T, F, F, T, T, T, F, F, F, F, F]], h0, F, h0, []⟩
theorem ddk114 : dd114.Ok Try.prog := FrmC.ok_ev (n := 20000) t0_ok (by kernel_rfl) (by kernel_rfl)
def dd118 : FrmC := ⟨61, [.pointer (some ⟨0, 0, none⟩), .agg #[F, T, T, F, T, T, T, F, F, F, F, F]], h0, F, h0, []⟩
theorem ddk118 : dd118.Ok Try.prog := FrmC.ok_ev (n := 20000) t0_ok (by kernel_rfl) (by kernel_rfl)
def dd122 : FrmC := ⟨61, [.pointer (some ⟨0, 0, none⟩), .agg #[F, T, F, T, T, T, T, F, F, F, F, F]], h0, F, h0, []⟩
theorem ddk122 : dd122.Ok Try.prog := FrmC.ok_ev (n := 20000) t0_ok (by kernel_rfl) (by kernel_rfl)
def dd126 : FrmC := ⟨61, [.pointer (some ⟨0, 0, none⟩), .agg #[F, T, T, T, T, T, T, F, F, F, F, F]], h0, F, h0, []⟩
theorem ddk126 : dd126.Ok Try.prog := FrmC.ok_ev (n := 20000) t0_ok (by kernel_rfl) (by kernel_rfl)
def dd130 : FrmC := ⟨61, [.pointer (some ⟨0, 0, none⟩), .agg #[F, T, F, F, F, F, F, F, F, F, F, F]], h1, F, h1, []⟩
theorem ddk130 : dd130.Ok Try.prog := FrmC.ok_ev (n := 20000) t0_ok (by kernel_rfl) (by kernel_rfl)
def dd134 : FrmC := ⟨61, [.pointer (some ⟨0, 0, none⟩), .agg #[F, T, T, F, F, F, F, F, F, F, F, F]], h1, F, h1, []⟩
theorem ddk134 : dd134.Ok Try.prog := FrmC.ok_ev (n := 20000) t0_ok (by kernel_rfl) (by kernel_rfl)
def dd138 : FrmC := ⟨61, [.pointer (some ⟨0, 0, none⟩), .agg #[F, T, F, T, F, F, F, F, F, F, F, F]], h1, F, h1, []⟩
theorem ddk138 : dd138.Ok Try.prog := FrmC.ok_ev (n := 20000) t0_ok (by kernel_rfl) (by kernel_rfl)
def dd142 : FrmC := ⟨61, [.pointer (some ⟨0, 0, none⟩), .agg #[F, T, T, T, F, F, F, F, F, F, F, F]], h1, F, h1, []⟩
theorem ddk142 : dd142.Ok Try.prog := FrmC.ok_ev (n := 20000) t0_ok (by kernel_rfl) (by kernel_rfl)
def dd146 : FrmC := ⟨61, [.pointer (some ⟨0, 0, none⟩), .agg #[F, T, F, F, T, F, F, F, F, F, F, F]], h1, F, h1, []⟩
theorem ddk146 : dd146.Ok Try.prog := FrmC.ok_ev (n := 20000) t0_ok (by kernel_rfl) (by kernel_rfl)
def dd150 : FrmC := ⟨61, [.pointer (some ⟨0, 0, none⟩), .agg #[F, T, T, F, T, F, F, F, F, F, F, F]], h1, F, h1, []⟩
theorem ddk150 : dd150.Ok Try.prog := FrmC.ok_ev (n := 20000) t0_ok (by kernel_rfl) (by kernel_rfl)
def dd154 : FrmC := ⟨61, [.pointer (some ⟨0, 0, none⟩), .agg #[F, T, F, T, T, F, F, F, F, F, F, F]], h1, F, h1, []⟩
theorem ddk154 : dd154.Ok Try.prog := FrmC.ok_ev (n := 20000) t0_ok (by kernel_rfl) (by kernel_rfl)
def dd158 : FrmC := ⟨61, [.pointer (some ⟨0, 0, none⟩), .agg #[F, T, T, T, T, F, F, F, F, F, F, F]], h1, F, h1, []⟩
theorem ddk158 : dd158.Ok Try.prog := FrmC.ok_ev (n := 20000) t0_ok (by kernel_rfl) (by kernel_rfl)
def dd162 : FrmC := ⟨61, [.pointer (some ⟨0, 0, none⟩), .agg #[F, T, F, F, F, T, F, F, F, F, F, F]], h1, F, h1, []⟩
theorem ddk162 : dd162.Ok Try.prog := FrmC.ok_ev (n := 20000) t0_ok (by kernel_rfl) (by kernel_rfl)
def dd166 : FrmC := ⟨61, [.pointer (some ⟨0, 0, none⟩), .agg #[F, T, T, F, F, T, F, F, F, F, F, F]], h1, F, h1, []⟩
theorem ddk166 : dd166.Ok Try.prog := FrmC.ok_ev (n := 20000) t0_ok (by kernel_rfl) (by kernel_rfl)
def dd170 : FrmC := ⟨61, [.pointer (some ⟨0, 0, none⟩), .agg #[F, T, F, T, F, T, F, F, F, F, F, F]], h1, F, h1, []⟩
theorem ddk170 : dd170.Ok Try.prog := FrmC.ok_ev (n := 20000) t0_ok (by kernel_rfl) (by kernel_rfl)
def dd174 : FrmC := ⟨61, [.pointer (some ⟨0, 0, none⟩), .agg #[F, T, T, T, F, T, F, F, F, F, F, F]], h1, F, h1, []⟩
theorem ddk174 : dd174.Ok Try.prog := FrmC.ok_ev (n := 20000) t0_ok (by kernel_rfl) (by kernel_rfl)
def dd178 : FrmC := ⟨61, [.pointer (some ⟨0, 0, none⟩), .agg #[F, T, F, F, T, T, F, F, F, F, F, F]], h1, F, h1, []⟩
theorem ddk178 : dd178.Ok Try.prog := FrmC.ok_ev (n := 20000) t0_ok (by kernel_rfl) (by kernel_rfl)
def dd182 : FrmC := ⟨61, [.pointer (some ⟨0, 0, none⟩), .agg #[F, T, T, F, T, T, F, F, F, F, F, F]], h1, F, h1, []⟩
theorem ddk182 : dd182.Ok Try.prog := FrmC.ok_ev (n := 20000) t0_ok (by kernel_rfl) (by kernel_rfl)
def dd186 : FrmC := ⟨61, [.pointer (some ⟨0, 0, none⟩), .agg #[F, T, F, T, T, T, F, F, F, F, F, F]], h1, F, h1, []⟩
theorem ddk186 : dd186.Ok Try.prog := FrmC.ok_ev (n := 20000) t0_ok (by kernel_rfl) (by kernel_rfl)
def dd190 : FrmC := ⟨61, [.pointer (some ⟨0, 0, none⟩), .agg #[F, T, T, T, T, T, F, F, F, F, F, F]], h1, F, h1, []⟩
theorem ddk190 : dd190.Ok Try.prog := FrmC.ok_ev (n := 20000) t0_ok (by kernel_rfl) (by kernel_rfl)
def dd194 : FrmC := ⟨61, [.pointer (some ⟨0, 0, none⟩), .agg #[F, T, F, F, F, F, T, F, F, F, F, F]], h1, F, h1, []⟩
theorem ddk194 : dd194.Ok Try.prog := FrmC.ok_ev (n := 20000) t0_ok (by kernel_rfl) (by kernel_rfl)
def dd198 : FrmC := ⟨61, [.pointer (some ⟨0, 0, none⟩), .agg #[F, T, T, F, F, F, T, F, F, F, F, F]], h1, F, h1, []⟩
theorem ddk198 : dd198.Ok Try.prog := FrmC.ok_ev (n := 20000) t0_ok (by kernel_rfl) (by kernel_rfl)
def dd202 : FrmC := ⟨61, [.pointer (some ⟨0, 0, none⟩), .agg #[F, T, F, T, F, F, T, F, F, F, F, F]], h1, F, h1, []⟩
theorem ddk202 : dd202.Ok Try.prog := FrmC.ok_ev (n := 20000) t0_ok (by kernel_rfl) (by kernel_rfl)
def dd206 : FrmC := ⟨61, [.pointer (some ⟨0, 0, none⟩), .agg #[F, T, T, T, F, F, T, F, F, F, F, F]], h1, F, h1, []⟩
theorem ddk206 : dd206.Ok Try.prog := FrmC.ok_ev (n := 20000) t0_ok (by kernel_rfl) (by kernel_rfl)
def dd210 : FrmC := ⟨61, [.pointer (some ⟨0, 0, none⟩), .agg #[F, T, F, F, T, F, T, F, F, F, F, F]], h1, F, h1, []⟩
theorem ddk210 : dd210.Ok Try.prog := FrmC.ok_ev (n := 20000) t0_ok (by kernel_rfl) (by kernel_rfl)
def dd214 : FrmC := ⟨61, [.pointer (some ⟨0, 0, none⟩), .agg #[F, T, T, F, T, F, T, F, F, F, F, F]], h1, F, h1, []⟩
theorem ddk214 : dd214.Ok Try.prog := FrmC.ok_ev (n := 20000) t0_ok (by kernel_rfl) (by kernel_rfl)
def dd218 : FrmC := ⟨61, [.pointer (some ⟨0, 0, none⟩), .agg #[F, T, F, T, T, F, T, F, F, F, F, F]], h1, F, h1, []⟩
theorem ddk218 : dd218.Ok Try.prog := FrmC.ok_ev (n := 20000) t0_ok (by kernel_rfl) (by kernel_rfl)
def dd222 : FrmC := ⟨61, [.pointer (some ⟨0, 0, none⟩), .agg #[F, T, T, T, T, F, T, F, F, F, F, F]], h1, F, h1, []⟩
theorem ddk222 : dd222.Ok Try.prog := FrmC.ok_ev (n := 20000) t0_ok (by kernel_rfl) (by kernel_rfl)
def dd226 : FrmC := ⟨61, [.pointer (some ⟨0, 0, none⟩), .agg #[F, T, F, F, F, T, T, F, F, F, F, F]], h1, F, h1, []⟩
theorem ddk226 : dd226.Ok Try.prog := FrmC.ok_ev (n := 20000) t0_ok (by kernel_rfl) (by kernel_rfl)
def dd230 : FrmC := ⟨61, [.pointer (some ⟨0, 0, none⟩), .agg #[F, T, T, F, F, T, T, F, F, F, F, F]], h1, F, h1, []⟩
theorem ddk230 : dd230.Ok Try.prog := FrmC.ok_ev (n := 20000) t0_ok (by kernel_rfl) (by kernel_rfl)
def dd234 : FrmC := ⟨61, [.pointer (some ⟨0, 0, none⟩), .agg #[F, T, F, T, F, T, T, F, F, F, F, F]], h1, F, h1, []⟩
theorem ddk234 : dd234.Ok Try.prog := FrmC.ok_ev (n := 20000) t0_ok (by kernel_rfl) (by kernel_rfl)
def dd238 : FrmC := ⟨61, [.pointer (some ⟨0, 0, none⟩), .agg #[F, T, T, T, F, T, T, F, F, F, F, F]], h1, F, h1, []⟩
theorem ddk238 : dd238.Ok Try.prog := FrmC.ok_ev (n := 20000) t0_ok (by kernel_rfl) (by kernel_rfl)
def dd242 : FrmC := ⟨61, [.pointer (some ⟨0, 0, none⟩), .agg #[F, T, F, F, T, T, T, F, F, F, F, F]], h1, F, h1, []⟩
theorem ddk242 : dd242.Ok Try.prog := FrmC.ok_ev (n := 20000) t0_ok (by kernel_rfl) (by kernel_rfl)
def dd246 : FrmC := ⟨61, [.pointer (some ⟨0, 0, none⟩), .agg #[F, T, T, F, T, T, T, F, F, F, F, F]], h1, F, h1, []⟩
theorem ddk246 : dd246.Ok Try.prog := FrmC.ok_ev (n := 20000) t0_ok (by kernel_rfl) (by kernel_rfl)
def dd250 : FrmC := ⟨61, [.pointer (some ⟨0, 0, none⟩), .agg #[F, T, F, T, T, T, T, F, F, F, F, F]], h1, F, h1, []⟩
theorem ddk250 : dd250.Ok Try.prog := FrmC.ok_ev (n := 20000) t0_ok (by kernel_rfl) (by kernel_rfl)
def dd254 : FrmC := ⟨61, [.pointer (some ⟨0, 0, none⟩), .agg #[F, T, T, T, T, T, T, F, F, F, F, F]], h1, F, h1, []⟩
theorem ddk254 : dd254.Ok Try.prog := FrmC.ok_ev (n := 20000) t0_ok (by kernel_rfl) (by kernel_rfl)
end Go.Pier.PleaK
