/-
  Pier: calls over a whole heap.
-/
import Derived.Test.YthfeelmoabngnaaGreatPierSkillEH
namespace Go.Pier.SkillK
open Go Go.Pier Go.Proofs

theorem ek3 : e3.Ok Tryz.prog := ExactC.ok_ev (n := 20000) tc_ok (by kernel_rfl)
theorem ek9 : e9.Ok Tryz.prog := ExactC.ok_ev (n := 20000) tc_ok (by kernel_rfl)
theorem ek15 : e15.Ok Tryz.prog := ExactC.ok_ev (n := 20000) tc_ok (by kernel_rfl)
theorem ek21 : e21.Ok Tryz.prog := ExactC.ok_ev (n := 20000) tc_ok (by kernel_rfl)

end Go.Pier.SkillK
