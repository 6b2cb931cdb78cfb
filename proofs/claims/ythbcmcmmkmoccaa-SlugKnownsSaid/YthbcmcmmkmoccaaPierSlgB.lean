/-
  Pier: PierSlgB.
-/
import Derived.Test.YthbcmcmmkmoccaaPierKC6
set_option linter.unusedSimpArgs false
set_option linter.unusedVariables false
namespace Go.Pier.SlgK
open Go Go.Pier Go.Proofs

def works : PureC := ⟨6, [], [], .bool true⟩
theorem works_ok : works.Ok Try.prog := PureC.ok_ev (n := 20000) et_ok (by kernel_rfl) (by kernel_rfl)
noncomputable def tw : Tbl := pureTbl [6] [works] t0
theorem tw_ok : TblOk Try.prog tw := pureTbl_ok (by intro p hp; rw [List.mem_singleton] at hp; rw [hp]; exact works_ok) t0_ok

end Go.Pier.SlgK

