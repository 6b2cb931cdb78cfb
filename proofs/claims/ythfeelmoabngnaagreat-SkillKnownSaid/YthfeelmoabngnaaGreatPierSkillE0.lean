/-
  Pier: calls over a whole heap.
-/
import Derived.Test.YthfeelmoabngnaaGreatPierSkillEH
namespace Go.Pier.SkillK
open Go Go.Pier Go.Proofs

theorem ek0 : e0.Ok Tryz.prog := ExactC.ok_ev (n := 20000) tc_ok (by kernel_rfl)
theorem ek6 : e6.Ok Tryz.prog := ExactC.ok_ev (n := 20000) tc_ok (by kernel_rfl)
theorem ek12 : e12.Ok Tryz.prog := ExactC.ok_ev (n := 20000) tc_ok (by kernel_rfl)
theorem ek18 : e18.Ok Tryz.prog := ExactC.ok_ev (n := 20000) tc_ok (by kernel_rfl)

end Go.Pier.SkillK
