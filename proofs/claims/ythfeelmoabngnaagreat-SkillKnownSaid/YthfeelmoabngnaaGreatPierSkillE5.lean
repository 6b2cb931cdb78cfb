/-
  Pier: calls over a whole heap.
-/
import Derived.Test.YthfeelmoabngnaaGreatPierSkillEH
namespace Go.Pier.SkillK
open Go Go.Pier Go.Proofs

theorem ek5 : e5.Ok Tryz.prog := ExactC.ok_ev (n := 20000) tc_ok (by kernel_rfl)
theorem ek11 : e11.Ok Tryz.prog := ExactC.ok_ev (n := 20000) tc_ok (by kernel_rfl)
theorem ek17 : e17.Ok Tryz.prog := ExactC.ok_ev (n := 20000) tc_ok (by kernel_rfl)

end Go.Pier.SkillK
