/-
  Pier: the works function of package skill.
-/
import Derived.Test.YthfeelmoabngnaaGreatPierSkillEJ
namespace Go.Pier.SkillK
open Go Go.Pier Go.Proofs

def works : PureC := ⟨17, [], [], .bool true⟩
theorem works_ok : works.Ok Tryz.prog := PureC.ok_ev (n := 20000) et_ok (by kernel_rfl) (by kernel_rfl)
noncomputable def tw : Tbl := pureTbl [17] [works] tc
theorem tw_ok : TblOk Tryz.prog tw := pureTbl_ok (by intro p hp; rw [List.mem_singleton] at hp; rw [hp]; exact works_ok) tc_ok

end Go.Pier.SkillK
