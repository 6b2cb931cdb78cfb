import Derived.Test.YtalaonfipkmelaaPierPC2
set_option linter.unusedSimpArgs false
set_option linter.unusedVariables false
namespace Go.Pier.PleaK
open Go Go.Pier Go.Proofs
def dd3 : FrmC := ⟨61, [.pointer (some ⟨0, 0, none⟩), .agg #[T, T, F, F, F, F, F, F, F, F, F, F]], h0, F, h0, []⟩
theorem ddk3 : dd3.Ok Try.prog := FrmC.ok_ev (n := 20000) t0_ok (by kernel_rfl) (by kernel_rfl)
def dd7 : FrmC := ⟨61, [.pointer (some ⟨0, 0, none⟩), .agg #[T, T, T, F, F, F, F, F, F, F, F, F]], h0, F, h0, []⟩
theorem ddk7 : dd7.Ok Try.prog := FrmC.ok_ev (n := 20000) t0_ok (by kernel_rfl) (by kernel_rfl)
def dd11 : FrmC := ⟨61, [.pointer (some ⟨0, 0, none⟩), .agg #[T, T, F, T, F, F, F, F, F, F, F, F]], h0, F, h0, []⟩
theorem ddk11 : dd11.Ok Try.prog := FrmC.ok_ev (n := 20000) t0_ok (by kernel_rfl) (by kernel_rfl)
def dd15 : FrmC := ⟨61, [.pointer (some ⟨0, 0, none⟩), .agg #[T, T, T, T, F, F, F, F, F, F, F, F]], h0, T, h0, []⟩
theorem ddk15 : dd15.Ok Try.prog := FrmC.ok_ev (n := 20000) t0_ok (by kernel_rfl) (by kernel_rfl)
def dd19 : FrmC := ⟨61, [.pointer (some ⟨0, 0, none⟩), .agg #[T, T, F, F, T, F, F, F, F, F, F, F]], h0, F, h0, []⟩
theorem ddk19 : dd19.Ok Try.prog := FrmC.ok_ev (n := 20000) t0_ok (by kernel_rfl) (by kernel_rfl)
def dd23 : FrmC := ⟨61, [.pointer (some ⟨0, 0, none⟩), .agg #[T, T, T, F, T, F, F, F, F, F, F, F]], h0, F, h0, []⟩
theorem ddk23 : dd23.Ok Try.prog := FrmC.ok_ev (n := 20000) t0_ok (by kernel_rfl) (by kernel_rfl)
def dd27 : FrmC := ⟨61, [.pointer (some ⟨0, 0, none⟩), .agg #[T, T, F, T, T, F, F, F, F, F, F, F]], h0, F, h0, []⟩
theorem ddk27 : dd27.Ok Try.prog := FrmC.ok_ev (n := 20000) t0_ok (by kernel_rfl) (by kernel_rfl)
def dd31 : FrmC := ⟨61, [.pointer (some ⟨0, 0, none⟩), .agg #[T, T, T, T, T, F, F, F, F, F, F, F]], h0, F, h0, []⟩
theorem ddk31 : dd31.Ok Try.prog := FrmC.ok_ev (n := 20000) t0_ok (by kernel_rfl) (by kernel_rfl)
def dd35 : FrmC := ⟨61, [.pointer (some ⟨0, 0, none⟩), .agg #[T, T, F, F, F, T, F, F, F, F, F, F]], h0, F, h0, []⟩
theorem ddk35 : dd35.Ok Try.prog := FrmC.ok_ev (n := 20000) t0_ok (by kernel_rfl) (by kernel_rfl)
def dd39 : FrmC := ⟨61, [.pointer (some ⟨0, 0, none⟩), .agg #[T, T, T, F, F, T, F, F, F, F, F, F]], h0, F, h0, []⟩
theorem ddk39 : dd39.Ok Try.prog := FrmC.ok_ev (n := 20000) t0_ok (by kernel_rfl) (by kernel_rfl)
def dd43 : FrmC := ⟨61, [.pointer (some ⟨0, 0, none⟩), .agg #[T, T, F, T, F, T, F, F, F, F, F, F]], h0, F, h0, []⟩
theorem ddk43 : dd43.Ok Try.prog := FrmC.ok_ev (n := 20000) t0_ok (by kernel_rfl) (by kernel_rfl)
def dd47 : FrmC := ⟨61, [.pointer (some ⟨0, 0, none⟩), .agg #[T, T, T, T, F, T, F, F, F, F, F, F]], h0, F, h0, []⟩
theorem ddk47 : dd47.Ok Try.prog := FrmC.ok_ev (n := 20000) t0_ok (by kernel_rfl) (by kernel_rfl)
def dd51 : FrmC := ⟨61, [.pointer (some ⟨0, 0, none⟩), .agg #[T, T, F, F, T, T, F, F, F, F, F, F]], h0, F, h0, []⟩
theorem ddk51 : dd51.Ok Try.prog := FrmC.ok_ev (n := 20000) t0_ok (by kernel_rfl) (by kernel_rfl)
def dd55 : FrmC := ⟨61, [.pointer (some ⟨0, 0, none⟩), .agg #[T, T, T, F, T, T, F, F, F, F, F, F]], h0, F, h0, []⟩
theorem ddk55 : dd55.Ok Try.prog := FrmC.ok_ev (n := 20000) t0_ok (by kernel_rfl) (by kernel_rfl)
def dd59 : FrmC := ⟨61, [.pointer (some ⟨0, 0, none⟩), .agg #[T, T, F, T, T, T, F, F, F, F, F, F]], h0, F, h0, []⟩
theorem ddk59 : dd59.Ok Try.prog := FrmC.ok_ev (n := 20000) t0_ok (by kernel_rfl) (by kernel_rfl)
def dd63 : FrmC := ⟨61, [.pointer (some ⟨0, 0, none⟩), .agg #[T, T, T, T, T, T, F, F, F, F, F, F]], h0, F, h0, []⟩
theorem ddk63 : dd63.Ok Try.prog := FrmC.ok_ev (n := 20000) t0_ok (by kernel_rfl) (by kernel_rfl)
def dd67 : FrmC := ⟨61, [.pointer (some ⟨0, 0, none⟩), .agg #[T, T, F, F, F, F, T, F, F, F, F, F]], h0, F, h0, []⟩
theorem ddk67 : dd67.Ok Try.prog := FrmC.ok_ev (n := 20000) t0_ok (by kernel_rfl) (by kernel_rfl)
def dd71 : FrmC := ⟨61, [.pointer (some ⟨0, 0, none⟩), .agg #[T, T, T, F, F, F, T, F, F, F, F, F]], h0, F, h0, []⟩
theorem ddk71 : dd71.Ok Try.prog := FrmC.ok_ev (n := 20000) t0_ok (by kernel_rfl) (by kernel_rfl)
def dd75 : FrmC := ⟨61, [.pointer (some ⟨0, 0, none⟩), .agg #[T, T, F, T, F, F, T, F, F, F, F, F]], h0, F, h0, []⟩
theorem ddk75 : dd75.Ok Try.prog := FrmC.ok_ev (n := 20000) t0_ok (by kernel_rfl) (by kernel_rfl)
def dd79 : FrmC := ⟨61, [.pointer (some ⟨0, 0, none⟩), .agg #[T, T, T, T, F, F, T, F, F, F, F, F]], h0, T, h0, []⟩
theorem ddk79 : dd79.Ok Try.prog := FrmC.ok_ev (n := 20000) t0_ok (by kernel_rfl) (by kernel_rfl)
def dd83 : FrmC := ⟨61, [.pointer (some ⟨0, 0, none⟩), .agg #[T, T, F, F, T, F, T, F, F, F, F, F]], h0, F, h0, []⟩
theorem ddk83 : dd83.Ok Try.prog := FrmC.ok_ev (n := 20000) t0_ok (by kernel_rfl) (by kernel_rfl)
def dd87 : FrmC := ⟨61, [.pointer (some ⟨0, 0, none⟩), .agg #[T, T, T, F, T, F, T, F, F, F, F, F]], h0, F, h0, []⟩
theorem ddk87 : dd87.Ok Try.prog := FrmC.ok_ev (n := 20000) t0_ok (by kernel_rfl) (by kernel_rfl)
def dd91 : FrmC := ⟨61, [.pointer (some ⟨0, 0, none⟩), .agg #[T, T, F, T, T, F, T, F, F, F, F, F]], h0, F, h0, []⟩
theorem ddk91 : dd91.Ok Try.prog := FrmC.ok_ev (n := 20000) t0_ok (by kernel_rfl) (by kernel_rfl)
def dd95 : FrmC := ⟨61, [.pointer (some ⟨0, 0, none⟩), .agg #[T, T, T, T, T, F, T, F, F, F, F, F]], h0, F, h0, []⟩
theorem ddk95 : dd95.Ok Try.prog := FrmC.ok_ev (n := 20000) t0_ok (by kernel_rfl) (by kernel_rfl)
def dd99 : FrmC := ⟨61, [.pointer (some ⟨0, 0, none⟩), .agg #[T, T, F, F, F, T, T, F, F, F, F, F]], h0, F, h0, []⟩
theorem ddk99 : dd99.Ok Try.prog := FrmC.ok_ev (n := 20000) t0_ok (by kernel_rfl) (by kernel_rfl)
def dd103 : FrmC := ⟨61, [.pointer (some ⟨0, 0, none⟩), .agg #[T, T, T, F, F, T, T, F, F, F, F, F]], h0, F, h0, []⟩
theorem ddk103 : dd103.Ok Try.prog := FrmC.ok_ev (n := 20000) t0_ok (by kernel_rfl) (by kernel_rfl)
def dd107 : FrmC := ⟨61, [.pointer (some ⟨0, 0, none⟩), .agg #[T, T, F, T, F, T, T, F, F, F, F, F]], h0, F, h0, []⟩
theorem ddk107 : dd107.Ok Try.prog := FrmC.ok_ev (n := 20000) t0_ok (by kernel_rfl) (by kernel_rfl)
def dd111 : FrmC := ⟨61, [.pointer (some ⟨0, 0, none⟩), .agg #[T, T, T, T, F, T, T, F, F, F, F, F]], h0, F, h0, []⟩
theorem ddk111 : dd111.Ok Try.prog := FrmC.ok_ev (n := 20000) t0_ok (by kernel_rfl) (by kernel_rfl)
def dd115 : FrmC := ⟨61, [.pointer (some ⟨0, 0, none⟩), .agg #[T, T, F, F, T, T, T, F, F, F, F, F]], h0, F, h0, []⟩
theorem ddk115 : dd115.Ok Try.prog := FrmC.ok_ev (n := 20000) t0_ok (by kernel_rfl) (by kernel_rfl)
def dd119 : FrmC := ⟨61, [.pointer (some ⟨0, 0, none⟩), .agg #[T, T, T, F, T, T, T, F, F, F, F, F]], h0, F, h0, []⟩
theorem ddk119 : dd119.Ok Try.prog := FrmC.ok_ev (n := 20000) t0_ok (by kernel_rfl) (by kernel_rfl)
def dd123 : FrmC := ⟨61, [.pointer (some ⟨0, 0, none⟩), .agg #[T, T, F, T, T, T, T, F, F, F, F, F]], h0, F, h0, []⟩
theorem ddk123 : dd123.Ok Try.prog := FrmC.ok_ev (n := 20000) t0_ok (by kernel_rfl) (by kernel_rfl)
def dd127 : FrmC := ⟨61, [.pointer (some ⟨0, 0, none⟩), .agg #[T, T, T, T, T, T, T, F, F, F, F, F]], h0, F, h0, []⟩
theorem ddk127 : dd127.Ok Try.prog := FrmC.ok_ev (n := 20000) t0_ok (by kernel_rfl) (by kernel_rfl)
def dd131 : FrmC := ⟨61, [.pointer (some ⟨0, 0, none⟩), .agg #[T, T, F, F, F, F, F, F, F, F, F, F]], h1, F, h1, []⟩
theorem ddk131 : dd131.Ok Try.prog := FrmC.ok_ev (n := 20000) t0_ok (by kernel_rfl) (by kernel_rfl)
def dd135 : FrmC := ⟨61, [.pointer (some ⟨0, 0, none⟩), .agg #[T, T, T, F, F, F, F, F, F, F, F, F]], h1, F, h1, []⟩
theorem ddk135 : dd135.Ok Try.prog := FrmC.ok_ev (n := 20000) t0_ok (by kernel_rfl) (by kernel_rfl)
def dd139 : FrmC := ⟨61, [.pointer (some ⟨0, 0, none⟩), .agg #[T, T, F, T, F, F, F, F, F, F, F, F]], h1, F, h1, []⟩
theorem ddk139 : dd139.Ok Try.prog := FrmC.ok_ev (n := 20000) t0_ok (by kernel_rfl) (by kernel_rfl)
def dd143 : FrmC := ⟨61, [.pointer (some ⟨0, 0, none⟩), .agg #[T, T, T, T, F, F, F, F, F, F, F, F]], h1, F, h1, []⟩
theorem ddk143 : dd143.Ok Try.prog := FrmC.ok_ev (n := 20000) t0_ok (by kernel_rfl) (by kernel_rfl)
def dd147 : FrmC := ⟨61, [.pointer (some ⟨0, 0, none⟩), .agg #[T, T, F, F, T, F, F, F, F, F, F, F]], h1, F, h1, []⟩
theorem ddk147 : dd147.Ok Try.prog := FrmC.ok_ev (n := 20000) t0_ok (by kernel_rfl) (by kernel_rfl)
def dd151 : FrmC := ⟨61, [.pointer (some ⟨0, 0, none⟩), .agg #[T, T, T, F, T, F, F, F, F, F, F, F]], h1, F, h1, []⟩
theorem ddk151 : dd151.Ok Try.prog := FrmC.ok_ev (n := 20000) t0_ok (by kernel_rfl) (by kernel_rfl)
def dd155 : FrmC := ⟨61, [.pointer (some ⟨0, 0, none⟩), .agg #[T, T, F, T, T, F, F, F, F, F, F, F]], h1, F, h1, []⟩
theorem ddk155 : dd155.Ok Try.prog := FrmC.ok_ev (n := 20000) t0_ok (by kernel_rfl) (by kernel_rfl)
def dd159 : FrmC := ⟨61, [.pointer (some ⟨0, 0, none⟩), .agg #[T, T, T, T, T, F, F, F, F, F, F, F]], h1, F, h1, []⟩
theorem ddk159 : dd159.Ok Try.prog := FrmC.ok_ev (n := 20000) t0_ok (by kernel_rfl) (by kernel_rfl)
def dd163 : FrmC := ⟨61, [.pointer (some ⟨0, 0, none⟩), .agg #[T, T, F, F, F, T, F, F, F, F, F, F]], h1, F, h1, []⟩
theorem ddk163 : dd163.Ok Try.prog := FrmC.ok_ev (n := 20000) t0_ok (by kernel_rfl) (by kernel_rfl)
def dd167 : FrmC := ⟨61, [.pointer (some ⟨0, 0, none⟩), .agg #[T, T, T, F, F, T, F, F, F, F, F, F]], h1, F, h1, []⟩
theorem ddk167 : dd167.Ok Try.prog := FrmC.ok_ev (n := 20000) t0_ok (by kernel_rfl) (by kernel_rfl)
def dd171 : FrmC := ⟨61, [.pointer (some ⟨0, 0, none⟩), .agg #[T, T, F, T, F, T, F, F, F, F, F, F]], h1, F, h1, []⟩
theorem ddk171 : dd171.Ok Try.prog := FrmC.ok_ev (n := 20000) t0_ok (by kernel_rfl) (by kernel_rfl)
def dd175 : FrmC := ⟨61, [.pointer (some ⟨0, 0, none⟩), .agg #[T, T, T, T, F, T, F, F, F, F, F, F]], h1, F, h1, []⟩
theorem ddk175 : dd175.Ok Try.prog := FrmC.ok_ev (n := 20000) t0_ok (by kernel_rfl) (by kernel_rfl)
def dd179 : FrmC := ⟨61, [.pointer (some ⟨0, 0, none⟩), .agg #[T, T, F, F, T, T, F, F, F, F, F, F]], h1, F, h1, []⟩
theorem ddk179 : dd179.Ok Try.prog := FrmC.ok_ev (n := 20000) t0_ok (by kernel_rfl) (by kernel_rfl)
def dd183 : FrmC := ⟨61, [.pointer (some ⟨0, 0, none⟩), .agg #[T, T, T, F, T, T, F, F, F, F, F, F]], h1, F, h1, []⟩
theorem ddk183 : dd183.Ok Try.prog := FrmC.ok_ev (n := 20000) t0_ok (by kernel_rfl) (by kernel_rfl)
def dd187 : FrmC := ⟨61, [.pointer (some ⟨0, 0, none⟩), .agg #[T, T, F, T, T, T, F, F, F, F, F, F]], h1, F, h1, []⟩
theorem ddk187 : dd187.Ok Try.prog := FrmC.ok_ev (n := 20000) t0_ok (by kernel_rfl) (by kernel_rfl)
def dd191 : FrmC := ⟨61, [.pointer (some ⟨0, 0, none⟩), .agg #[T, T, T, T, T, T, F, F, F, F, F, F]], h1, F, h1, []⟩
theorem ddk191 : dd191.Ok Try.prog := FrmC.ok_ev (n := 20000) t0_ok (by kernel_rfl) (by kernel_rfl)
def dd195 : FrmC := ⟨61, [.pointer (some ⟨0, 0, none⟩), .agg #[T, T, F, F, F, F, T, F, F, F, F, F]], h1, F, h1, []⟩
theorem ddk195 : dd195.Ok Try.prog := FrmC.ok_ev (n := 20000) t0_ok (by kernel_rfl) (by kernel_rfl)
def dd199 : FrmC := ⟨61, [.pointer (some ⟨0, 0, none⟩), .agg #[T, T, T, F, F, F, T, F, F, F, F, F]], h1, F, h1, []⟩
theorem ddk199 : dd199.Ok Try.prog := FrmC.ok_ev (n := 20000) t0_ok (by kernel_rfl) (by kernel_rfl)
def dd203 : FrmC := ⟨61, [.pointer (some ⟨0, 0, none⟩), .agg #[T, T, F, T, F, F, T, F, F, F, F, F]], h1, F, h1, []⟩
theorem ddk203 : dd203.Ok Try.prog := FrmC.ok_ev (n := 20000) t0_ok (by kernel_rfl) (by kernel_rfl)
def dd207 : FrmC := ⟨61, [.pointer (some ⟨0, 0, none⟩), .agg #[T, T, T, T, F, F, T, F, F, F, F, F]], h1, F, h1, []⟩
theorem ddk207 : dd207.Ok Try.prog := FrmC.ok_ev (n := 20000) t0_ok (by kernel_rfl) (by kernel_rfl)
def dd211 : FrmC := ⟨61, [.pointer (some ⟨0, 0, none⟩), .agg #[T, T, F, F, T, F, T, F, F, F, F, F]], h1, F, h1, []⟩
theorem ddk211 : dd211.Ok Try.prog := FrmC.ok_ev (n := 20000) t0_ok (by kernel_rfl) (by kernel_rfl)
def dd215 : FrmC := ⟨61, [.pointer (some ⟨0, 0, none⟩), .agg #[T, T, T, F, T, F, T, F, F, F, F, F]], h1, F, h1, []⟩
theorem ddk215 : dd215.Ok Try.prog := FrmC.ok_ev (n := 20000) t0_ok (by kernel_rfl) (by kernel_rfl)
def dd219 : FrmC := ⟨61, [.pointer (some ⟨0, 0, none⟩), .agg #[T, T, F, T, T, F, T, F, F, F, F, F]], h1, F, h1, []⟩
theorem ddk219 : dd219.Ok Try.prog := FrmC.ok_ev (n := 20000) t0_ok (by kernel_rfl) (by kernel_rfl)
def dd223 : FrmC := ⟨61, [.pointer (some ⟨0, 0, none⟩), .agg #[T, T, T, T, T, F, T, F, F, F, F, F]], h1, F, h1, []⟩
theorem ddk223 : dd223.Ok Try.prog := FrmC.ok_ev (n := 20000) t0_ok (by kernel_rfl) (by kernel_rfl)
def dd227 : FrmC := ⟨61, [.pointer (some ⟨0, 0, none⟩), .agg #[T, T, F, F, F, T, T, F, F, F, F, F]], h1, F, h1, []⟩
theorem ddk227 : dd227.Ok Try.prog := FrmC.ok_ev (n := 20000) t0_ok (by kernel_rfl) (by kernel_rfl)
def dd231 : FrmC := ⟨61, [.pointer (some ⟨0, 0, none⟩), .agg #[T, T, T, F, F, T, T, F, F, F, F, F]], h1, F, h1, []⟩
theorem ddk231 : dd231.Ok Try.prog := FrmC.ok_ev (n := 20000) t0_ok (by kernel_rfl) (by kernel_rfl)
def dd235 : FrmC := ⟨61, [.pointer (some ⟨0, 0, none⟩), .agg #[T, T, F, T, F, T, T, F, F, F, F, F]], h1, F, h1, []⟩
theorem ddk235 : dd235.Ok Try.prog := FrmC.ok_ev (n := 20000) t0_ok (by kernel_rfl) (by kernel_rfl)
def dd239 : FrmC := ⟨61, [.pointer (some ⟨0, 0, none⟩), .agg #[T, T, T, T, F, T, T, F, F, F, F, F]], h1, F, h1, []⟩
theorem ddk239 : dd239.Ok Try.prog := FrmC.ok_ev (n := 20000) t0_ok (by kernel_rfl) (by kernel_rfl)
def dd243 : FrmC := ⟨61, [.pointer (some ⟨0, 0, none⟩), .agg #[T, T, F, F, T, T, T, F, F, F, F, F]], h1, F, h1, []⟩
theorem ddk243 : dd243.Ok Try.prog := FrmC.ok_ev (n := 20000) t0_ok (by kernel_rfl) (by kernel_rfl)
def dd247 : FrmC := ⟨61, [.pointer (some ⟨0, 0, none⟩), .agg #[T, T, T, F, T, T, T, F, F, F, F, F]], h1, F, h1, []⟩
theorem ddk247 : dd247.Ok Try.prog := FrmC.ok_ev (n := 20000) t0_ok (by kernel_rfl) (by kernel_rfl)
def dd251 : FrmC := ⟨61, [.pointer (some ⟨0, 0, none⟩), .agg #[T, T, F, T, T, T, T, F, F, F, F, F]], h1, F, h1, []⟩
theorem ddk251 : dd251.Ok Try.prog := FrmC.ok_ev (n := 20000) t0_ok (by kernel_rfl) (by kernel_rfl)
def dd255 : FrmC := ⟨61, [.pointer (some ⟨0, 0, none⟩), .agg #[T, T, T, T, T, T, T, F, F, F, F, F]], h1, F, h1, []⟩
theorem ddk255 : dd255.Ok Try.prog := FrmC.ok_ev (n := 20000) t0_ok (by kernel_rfl) (by kernel_rfl)
end Go.Pier.PleaK
