import Derived.Test.YtalaonfipkmelaaPierPC2
set_option linter.unusedSimpArgs false
set_option linter.unusedVariables false
namespace Go.Pier.PleaK
open Go Go.Pier Go.Proofs
def dd1 : FrmC := ⟨61, [.pointer (some ⟨0, 0, none⟩), .agg #[T, F, F, F, F, F, F, F, F, F, F, F]], h0, F, h0, []⟩
theorem ddk1 : dd1.Ok Try.prog := FrmC.ok_ev (n := 20000) t0_ok (by kernel_rfl) (by kernel_rfl)
def dd5 : FrmC := ⟨61, [.pointer (some ⟨0, 0, none⟩), .agg #[T, F, T, F, F, F, F, F, F, F, F, F]], h0, F, h0, []⟩
theorem ddk5 : dd5.Ok Try.prog := FrmC.ok_ev (n := 20000) t0_ok (by kernel_rfl) (by kernel_rfl)
def dd9 : FrmC := ⟨61, [.pointer (some ⟨0, 0, none⟩), .agg #[T, F, F, T, F, F, F, F, F, F, F, F]], h0, F, h0, []⟩
theorem ddk9 : dd9.Ok Try.prog := FrmC.ok_ev (n := 20000) t0_ok (by kernel_rfl) (by kernel_rfl)
def dd13 : FrmC := ⟨61, [.pointer (some ⟨0, 0, none⟩), .agg #[T, F, T, T, F, F, F, F, F, F, F, F]], h0, F, h0, []⟩
theorem ddk13 : dd13.Ok Try.prog := FrmC.ok_ev (n := 20000) t0_ok (by kernel_rfl) (by kernel_rfl)
def dd17 : FrmC := ⟨61, [.pointer (some ⟨0, 0, none⟩), .agg #[T, F, F, F, T, F, F, F, F, F, F, F]], h0, F, h0, []⟩
theorem ddk17 : dd17.Ok Try.prog := FrmC.ok_ev (n := 20000) t0_ok (by kernel_rfl) (by kernel_rfl)
def dd21 : FrmC := ⟨61, [.pointer (some ⟨0, 0, none⟩), .agg #[T, F, T, F, T, F, F, F, F, F, F, F]], h0, F, h0, []⟩
theorem ddk21 : dd21.Ok Try.prog := FrmC.ok_ev (n := 20000) t0_ok (by kernel_rfl) (by kernel_rfl)
def dd25 : FrmC := ⟨61, [.pointer (some ⟨0, 0, none⟩), .agg #[T, F, F, T, T, F, F, F, F, F, F, F]], h0, F, h0, []⟩
theorem ddk25 : dd25.Ok Try.prog := FrmC.ok_ev (n := 20000) t0_ok (by kernel_rfl) (by kernel_rfl)
def dd29 : FrmC := ⟨61, [.pointer (some ⟨0, 0, none⟩), .agg #[T, F, T, T, T, F, F, F, F, F, F, F]], h0, F, h0, []⟩
theorem ddk29 : dd29.Ok Try.prog := FrmC.ok_ev (n := 20000) t0_ok (by kernel_rfl) (by kernel_rfl)
def dd33 : FrmC := ⟨61, [.pointer (some ⟨0, 0, none⟩), .agg #[T, F, F, F, F, T, F, F, F, F, F, F]], h0, F, h0, []⟩
theorem ddk33 : dd33.Ok Try.prog := FrmC.ok_ev (n := 20000) t0_ok (by kernel_rfl) (by kernel_rfl)
def dd37 : FrmC := ⟨61, [.pointer (some ⟨0, 0, none⟩), .agg #[T, F, T, F, F, T, F, F, F, F, F, F]], h0, F, h0, []⟩
theorem ddk37 : dd37.Ok Try.prog := FrmC.ok_ev (n := 20000) t0_ok (by kernel_rfl) (by kernel_rfl)
def dd41 : FrmC := ⟨61, [.pointer (some ⟨0, 0, none⟩), .agg #[T, F, F, T, F, T, F, F, F, F, F, F]], h0, F, h0, []⟩
theorem ddk41 : dd41.Ok Try.prog := FrmC.ok_ev (n := 20000) t0_ok (by kernel_rfl) (by kernel_rfl)
def dd45 : FrmC := ⟨61, [.pointer (some ⟨0, 0, none⟩), .agg #[T, F, T, T, F, T, F, F, F, F, F, F]], h0, F, h0, []⟩
theorem ddk45 : dd45.Ok Try.prog := FrmC.ok_ev (n := 20000) t0_ok (by kernel_rfl) (by kernel_rfl)
def dd49 : FrmC := ⟨61, [.pointer (some ⟨0, 0, none⟩), .agg #[T, F, F, F, T, T, F, F, F, F, F, F]], h0, F, h0, []⟩
theorem ddk49 : dd49.Ok Try.prog := FrmC.ok_ev (n := 20000) t0_ok (by kernel_rfl) (by kernel_rfl)
def dd53 : FrmC := ⟨61, [.pointer (some ⟨0, 0, none⟩), .agg #[T, F, T, F, T, T, F, F, F, F, F, F]], h0, F, h0, []⟩
theorem ddk53 : dd53.Ok Try.prog := FrmC.ok_ev (n := 20000) t0_ok (by kernel_rfl) (by kernel_rfl)
def dd57 : FrmC := ⟨61, [.pointer (some ⟨0, 0, none⟩), .agg #[T, F, F, T, T, T, F, F, F, F, F, F]], h0, F, h0, []⟩
theorem ddk57 : dd57.Ok Try.prog := FrmC.ok_ev (n := 20000) t0_ok (by kernel_rfl) (by kernel_rfl)
def dd61 : FrmC := ⟨61, [.pointer (some ⟨0, 0, none⟩), .agg #[T, F, T, T, T, T, F, F, F, F, F, F]], h0, F, h0, []⟩
theorem ddk61 : dd61.Ok Try.prog := FrmC.ok_ev (n := 20000) t0_ok (by kernel_rfl) (by kernel_rfl)
def dd65 : FrmC := ⟨61, [.pointer (some ⟨0, 0, none⟩), .agg #[T, F, F, F, F, F, T, F, F, F, F, F]], h0, F, h0, []⟩
theorem ddk65 : dd65.Ok Try.prog := FrmC.ok_ev (n := 20000) t0_ok (by kernel_rfl) (by kernel_rfl)
def dd69 : FrmC := ⟨61, [.pointer (some ⟨0, 0, none⟩), .agg #[T, F, T, F, F, F, T, F, F, F, F, F]], h0, F, h0, []⟩
theorem ddk69 : dd69.Ok Try.prog := FrmC.ok_ev (n := 20000) t0_ok (by kernel_rfl) (by kernel_rfl)
def dd73 : FrmC := ⟨61, [.pointer (some ⟨0, 0, none⟩), .agg #[T, F, F, T, F, F, T, F, F, F, F, F]], h0, F, h0, []⟩
theorem ddk73 : dd73.Ok Try.prog := FrmC.ok_ev (n := 20000) t0_ok (by kernel_rfl) (by kernel_rfl)
def dd77 : FrmC := ⟨61, [.pointer (some ⟨0, 0, none⟩), .agg #[T, F, T, T, F, F, T, F, F, F, F, F]], h0, F, h0, []⟩
theorem ddk77 : dd77.Ok Try.prog := FrmC.ok_ev (n := 20000) t0_ok (by kernel_rfl) (by kernel_rfl)
def dd81 : FrmC := ⟨61, [.pointer (some ⟨0, 0, none⟩), .agg #[T, F, F, F, T, F, T, F, F, F, F, F]], h0, F, h0, []⟩
theorem ddk81 : dd81.Ok Try.prog := FrmC.ok_ev (n := 20000) t0_ok (by kernel_rfl) (by kernel_rfl)
def dd85 : FrmC := ⟨61, [.pointer (some ⟨0, 0, none⟩), .agg #[T, F, T, F, T, F, T, F, F, F, F, F]], h0, F, h0, []⟩
theorem ddk85 : dd85.Ok Try.prog := FrmC.ok_ev (n := 20000) t0_ok (by kernel_rfl) (by kernel_rfl)
def dd89 : FrmC := ⟨61, [.pointer (some ⟨0, 0, none⟩), .agg #[T, F, F, T, T, F, T, F, F, F, F, F]], h0, F, h0, []⟩
theorem ddk89 : dd89.Ok Try.prog := FrmC.ok_ev (n := 20000) t0_ok (by kernel_rfl) (by kernel_rfl)
def dd93 : FrmC := ⟨61, [.pointer (some ⟨0, 0, none⟩), .agg #[T, F, T, T, T, F, T, F, F, F, F, F]], h0, F, h0, []⟩
theorem ddk93 : dd93.Ok Try.prog := FrmC.ok_ev (n := 20000) t0_ok (by kernel_rfl) (by kernel_rfl)
def dd97 : FrmC := ⟨61, [.pointer (some ⟨0, 0, none⟩), .agg #[T, F, F, F, F, T, T, F, F, F, F, F]], h0, F, h0, []⟩
theorem ddk97 : dd97.Ok Try.prog := FrmC.ok_ev (n := 20000) t0_ok (by kernel_rfl) (by kernel_rfl)
def dd101 : FrmC := ⟨61, [.pointer (some ⟨0, 0, none⟩), .agg #[T, F, T, F, F, T, T, F, F, F, F, F]], h0, F, h0, []⟩
theorem ddk101 : dd101.Ok Try.prog := FrmC.ok_ev (n := 20000) t0_ok (by kernel_rfl) (by kernel_rfl)
def dd105 : FrmC := ⟨61, [.pointer (some ⟨0, 0, none⟩), .agg #[T, F, F, T, F, T, T, F, F, F, F, F]], h0, F, h0, []⟩
theorem ddk105 : dd105.Ok Try.prog := FrmC.ok_ev (n := 20000) t0_ok (by kernel_rfl) (by kernel_rfl)
def dd109 : FrmC := ⟨61, [.pointer (some ⟨0, 0, none⟩), .agg #[T, F, T, T, F, T, T, F, F, F, F, F]], h0, F, h0, []⟩
theorem ddk109 : dd109.Ok Try.prog := FrmC.ok_ev (n := 20000) t0_ok (by kernel_rfl) (by kernel_rfl)
def dd113 : FrmC := ⟨61, [.pointer (some ⟨0, 0, none⟩), .agg #[T, F, F, F, T, T, T, F, F, F, F, F]], h0, F, h0, []⟩
theorem ddk113 : dd113.Ok Try.prog := FrmC.ok_ev (n := 20000) t0_ok (by kernel_rfl) (by kernel_rfl)
def dd117 : FrmC := ⟨61, [.pointer (some ⟨0, 0, none⟩), .agg #[T, F, T, F, T, T, T, F, F, F, F, F]], h0, F, h0, []⟩
theorem ddk117 : dd117.Ok Try.prog := FrmC.ok_ev (n := 20000) t0_ok (by kernel_rfl) (by kernel_rfl)
def dd121 : FrmC := ⟨61, [.pointer (some ⟨0, 0, none⟩), .agg #[T, F, F, T, T, T, T, F, F, F, F, F]], h0, F, h0, []⟩
theorem ddk121 : dd121.Ok Try.prog := FrmC.ok_ev (n := 20000) t0_ok (by kernel_rfl) (by kernel_rfl)
def dd125 : FrmC := ⟨61, [.pointer (some ⟨0, 0, none⟩), .agg #[T, F, T, T, T, T, T, F, F, F, F, F]], h0, F, h0, []⟩
theorem ddk125 : dd125.Ok Try.prog := FrmC.ok_ev (n := 20000) t0_ok (by kernel_rfl) (by kernel_rfl)
def dd129 : FrmC := ⟨61, [.pointer (some ⟨0, 0, none⟩), .agg #[T, F, F, F, F, F, F, F, F, F, F, F]], h1, F, h1, []⟩
theorem ddk129 : dd129.Ok Try.prog := FrmC.ok_ev (n := 20000) t0_ok (by kernel_rfl) (by kernel_rfl)
def dd133 : FrmC := ⟨61, [.pointer (some ⟨0, 0, none⟩), .agg #[T, F, T, F, F, F, F, F, F, F, F, F]], h1, F, h1, []⟩
theorem ddk133 : dd133.Ok Try.prog := FrmC.ok_ev (n := 20000) t0_ok (by kernel_rfl) (by kernel_rfl)
def dd137 : FrmC := ⟨61, [.pointer (some ⟨0, 0, none⟩), .agg #[T, F, F, T, F, F, F, F, F, F, F, F]], h1, F, h1, []⟩
theorem ddk137 : dd137.Ok Try.prog := FrmC.ok_ev (n := 20000) t0_ok (by kernel_rfl) (by kernel_rfl)
def dd141 : FrmC := ⟨61, [.pointer (some ⟨0, 0, none⟩), .agg #[T, F, T, T, F, F, F, F, F, F, F, F]], h1, F, h1, []⟩
theorem ddk141 : dd141.Ok Try.prog := FrmC.ok_ev (n := 20000) t0_ok (by kernel_rfl) (by kernel_rfl)
def dd145 : FrmC := ⟨61, [.pointer (some ⟨0, 0, none⟩), .agg #[T, F, F, F, T, F, F, F, F, F, F, F]], h1, F, h1, []⟩
theorem ddk145 : dd145.Ok Try.prog := FrmC.ok_ev (n := 20000) t0_ok (by kernel_rfl) (by kernel_rfl)
def dd149 : FrmC := ⟨61, [.pointer (some ⟨0, 0, none⟩), .agg #[T, F, T, F, T, F, F, F, F, F, F, F]], h1, F, h1, []⟩
theorem ddk149 : dd149.Ok Try.prog := FrmC.ok_ev (n := 20000) t0_ok (by kernel_rfl) (by kernel_rfl)
def dd153 : FrmC := ⟨61, [.pointer (some ⟨0, 0, none⟩), .agg #[T, F, F, T, T, F, F, F, F, F, F, F]], h1, F, h1, []⟩
theorem ddk153 : dd153.Ok Try.prog := FrmC.ok_ev (n := 20000) t0_ok (by kernel_rfl) (by kernel_rfl)
def dd157 : FrmC := ⟨61, [.pointer (some ⟨0, 0, none⟩), .agg #[T, F, T, T, T, F, F, F, F, F, F, F]], h1, F, h1, []⟩
theorem ddk157 : dd157.Ok Try.prog := FrmC.ok_ev (n := 20000) t0_ok (by kernel_rfl) (by kernel_rfl)
def dd161 : FrmC := ⟨61, [.pointer (some ⟨0, 0, none⟩), .agg #[T, F, F, F, F, T, F, F, F, F, F, F]], h1, F, h1, []⟩
theorem ddk161 : dd161.Ok Try.prog := FrmC.ok_ev (n := 20000) t0_ok (by kernel_rfl) (by kernel_rfl)
def dd165 : FrmC := ⟨61, [.pointer (some ⟨0, 0, none⟩), .agg #[T, F, T, F, F, T, F, F, F, F, F, F]], h1, F, h1, []⟩
theorem ddk165 : dd165.Ok Try.prog := FrmC.ok_ev (n := 20000) t0_ok (by kernel_rfl) (by kernel_rfl)
def dd169 : FrmC := ⟨61, [.pointer (some ⟨0, 0, none⟩), .agg #[T, F, F, T, F, T, F, F, F, F, F, F]], h1, F, h1, []⟩
theorem ddk169 : dd169.Ok Try.prog := FrmC.ok_ev (n := 20000) t0_ok (by kernel_rfl) (by kernel_rfl)
def dd173 : FrmC := ⟨61, [.pointer (some ⟨0, 0, none⟩), .agg #[T, F, T, T, F, T, F, F, F, F, F, F]], h1, F, h1, []⟩
theorem ddk173 : dd173.Ok Try.prog := FrmC.ok_ev (n := 20000) t0_ok (by kernel_rfl) (by kernel_rfl)
def dd177 : FrmC := ⟨61, [.pointer (some ⟨0, 0, none⟩), .agg #[T, F, F, F, T, T, F, F, F, F, F, F]], h1, F, h1, []⟩
theorem ddk177 : dd177.Ok Try.prog := FrmC.ok_ev (n := 20000) t0_ok (by kernel_rfl) (by kernel_rfl)
def dd181 : FrmC := ⟨61, [.pointer (some ⟨0, 0, none⟩), .agg #[T, F, T, F, T, T, F, F, F, F, F, F]], h1, F, h1, []⟩
theorem ddk181 : dd181.Ok Try.prog := FrmC.ok_ev (n := 20000) t0_ok (by kernel_rfl) (by kernel_rfl)
def dd185 : FrmC := ⟨61, [.pointer (some ⟨0, 0, none⟩), .agg #[T, F, F, T, T, T, F, F, F, F, F, F]], h1, F, h1, []⟩
theorem ddk185 : dd185.Ok Try.prog := FrmC.ok_ev (n := 20000) t0_ok (by kernel_rfl) (by kernel_rfl)
def dd189 : FrmC := ⟨61, [.pointer (some ⟨0, 0, none⟩), .agg #[T, F, T, T, T, T, F, F, F, F, F, F]], h1, F, h1, []⟩
theorem ddk189 : dd189.Ok Try.prog := FrmC.ok_ev (n := 20000) t0_ok (by kernel_rfl) (by kernel_rfl)
def dd193 : FrmC := ⟨61, [.pointer (some ⟨0, 0, none⟩), .agg #[T, F, F, F, F, F, T, F, F, F, F, F]], h1, F, h1, []⟩
theorem ddk193 : dd193.Ok Try.prog := FrmC.ok_ev (n := 20000) t0_ok (by kernel_rfl) (by kernel_rfl)
def dd197 : FrmC := ⟨61, [.pointer (some ⟨0, 0, none⟩), .agg #[T, F, T, F, F, F, T, F, F, F, F, F]], h1, F, h1, []⟩
theorem ddk197 : dd197.Ok Try.prog := FrmC.ok_ev (n := 20000) t0_ok (by kernel_rfl) (by kernel_rfl)
def dd201 : FrmC := ⟨61, [.pointer (some ⟨0, 0, none⟩), .agg #[T, F, F, T, F, F, T, F, F, F, F, F]], h1, F, h1, []⟩
theorem ddk201 : dd201.Ok Try.prog := FrmC.ok_ev (n := 20000) t0_ok (by kernel_rfl) (by kernel_rfl)
def dd205 : FrmC := ⟨61, [.pointer (some ⟨0, 0, none⟩), .agg #[T, F, T, T, F, F, T, F, F, F, F, F]], h1, F, h1, []⟩
theorem ddk205 : dd205.Ok Try.prog := FrmC.ok_ev (n := 20000) t0_ok (by kernel_rfl) (by kernel_rfl)
def dd209 : FrmC := ⟨61, [.pointer (some ⟨0, 0, none⟩), .agg #[T, F, F, F, T, F, T, F, F, F, F, F]], h1, F, h1, []⟩
theorem ddk209 : dd209.Ok Try.prog := FrmC.ok_ev (n := 20000) t0_ok (by kernel_rfl) (by kernel_rfl)
def dd213 : FrmC := ⟨61, [.pointer (some ⟨0, 0, none⟩), .agg #[T, F, T, F, T, F, T, F, F, F, F, F]], h1, F, h1, []⟩
theorem ddk213 : dd213.Ok Try.prog := FrmC.ok_ev (n := 20000) t0_ok (by kernel_rfl) (by kernel_rfl)
def dd217 : FrmC := ⟨61, [.pointer (some ⟨0, 0, none⟩), .agg #[T, F, F, T, T, F, T, F, F, F, F, F]], h1, F, h1, []⟩
theorem ddk217 : dd217.Ok Try.prog := FrmC.ok_ev (n := 20000) t0_ok (by kernel_rfl) (by kernel_rfl)
def dd221 : FrmC := ⟨61, [.pointer (some ⟨0, 0, none⟩), .agg #[T, F, T, T, T, F, T, F, F, F, F, F]], h1, F, h1, []⟩
theorem ddk221 : dd221.Ok Try.prog := FrmC.ok_ev (n := 20000) t0_ok (by kernel_rfl) (by kernel_rfl)
def dd225 : FrmC := ⟨61, [.pointer (some ⟨0, 0, none⟩), .agg #[T, F, F, F, F, T, T, F, F, F, F, F]], h1, F, h1, []⟩
theorem ddk225 : dd225.Ok Try.prog := FrmC.ok_ev (n := 20000) t0_ok (by kernel_rfl) (by kernel_rfl)
def dd229 : FrmC := ⟨61, [.pointer (some ⟨0, 0, none⟩), .agg #[T, F, T, F, F, T, T, F, F, F, F, F]], h1, F, h1, []⟩
theorem ddk229 : dd229.Ok Try.prog := FrmC.ok_ev (n := 20000) t0_ok (by kernel_rfl) (by kernel_rfl)
def dd233 : FrmC := ⟨61, [.pointer (some ⟨0, 0, none⟩), .agg #[T, F, F, T, F, T, T, F, F, F, F, F]], h1, F, h1, []⟩
theorem ddk233 : dd233.Ok Try.prog := FrmC.ok_ev (n := 20000) t0_ok (by kernel_rfl) (by kernel_rfl)
def dd237 : FrmC := ⟨61, [.pointer (some ⟨0, 0, none⟩), .agg #[T, F, T, T, F, T, T, F, F, F, F, F]], h1, F, h1, []⟩
theorem ddk237 : dd237.Ok Try.prog := FrmC.ok_ev (n := 20000) t0_ok (by kernel_rfl) (by kernel_rfl)
def dd241 : FrmC := ⟨61, [.pointer (some ⟨0, 0, none⟩), .agg #[T, F, F, F, T, T, T, F, F, F, F, F]], h1, F, h1, []⟩
theorem ddk241 : dd241.Ok Try.prog := FrmC.ok_ev (n := 20000) t0_ok (by kernel_rfl) (by kernel_rfl)
def dd245 : FrmC := ⟨61, [.pointer (some ⟨0, 0, none⟩), .agg #[T, F, T, F, T, T, T, F, F, F, F, F]], h1, F, h1, []⟩
theorem ddk245 : dd245.Ok Try.prog := FrmC.ok_ev (n := 20000) t0_ok (by kernel_rfl) (by kernel_rfl)
def dd249 : FrmC := ⟨61, [.pointer (some ⟨0, 0, none⟩), .agg #[T, F, F, T, T, T, T, F, F, F, F, F]], h1, F, h1, []⟩
theorem ddk249 : dd249.Ok Try.prog := FrmC.ok_ev (n := 20000) t0_ok (by kernel_rfl) (by kernel_rfl)
def dd253 : FrmC := ⟨61, [.pointer (some ⟨0, 0, none⟩), .agg #[T, F, T, T, T, T, T, F, F, F, F, F]], h1, F, h1, []⟩
theorem ddk253 : dd253.Ok Try.prog := FrmC.ok_ev (n := 20000) t0_ok (by kernel_rfl) (by kernel_rfl)
end Go.Pier.PleaK
