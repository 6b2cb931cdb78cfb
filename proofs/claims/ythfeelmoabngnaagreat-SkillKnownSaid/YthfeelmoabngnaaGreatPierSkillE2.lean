/-
  Pier: calls over a whole heap.
-/
import Derived.Test.YthfeelmoabngnaaGreatPierSkillEH
namespace Go.Pier.SkillK
open Go Go.Pier Go.Proofs

theorem ek2 : e2.Ok Tryz.prog := ExactC.ok_ev (n := 20000) tc_ok (by kernel_rfl)
theorem ek8 : e8.Ok Tryz.prog := ExactC.ok_ev (n := 20000) tc_ok (by kernel_rfl)
theorem ek14 : e14.Ok Tryz.prog := ExactC.ok_ev (n := 20000) tc_ok (by kernel_rfl)
theorem ek20 : e20.Ok Tryz.prog := ExactC.ok_ev (n := 20000) tc_ok (by kernel_rfl)

end Go.Pier.SkillK
