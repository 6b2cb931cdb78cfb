/-
  Pier: calls over a whole heap.
-/
import Derived.Test.YthfeelmoabngnaaGreatPierSkillEH
namespace Go.Pier.SkillK
open Go Go.Pier Go.Proofs

theorem ek1 : e1.Ok Tryz.prog := ExactC.ok_ev (n := 20000) tc_ok (by kernel_rfl)
theorem ek7 : e7.Ok Tryz.prog := ExactC.ok_ev (n := 20000) tc_ok (by kernel_rfl)
theorem ek13 : e13.Ok Tryz.prog := ExactC.ok_ev (n := 20000) tc_ok (by kernel_rfl)
theorem ek19 : e19.Ok Tryz.prog := ExactC.ok_ev (n := 20000) tc_ok (by kernel_rfl)

end Go.Pier.SkillK
