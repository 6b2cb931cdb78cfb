/-
  Pier: PierLgW.
-/
import Derived.Test.YtinkmgacaoohnaaPierLgEJ
set_option linter.unusedSimpArgs false
set_option linter.unusedVariables false
/-
  Pier: the works function of package ledge.
-/
namespace Go.Pier.Lg
open Go Go.Pier Go.Proofs

def works : PureC := ⟨18, [], [], .bool true⟩
theorem works_ok : works.Ok Try.prog := PureC.ok_ev (n := 20000) et_ok (by kernel_rfl) (by kernel_rfl)
noncomputable def tw : Tbl := pureTbl [18] [works] tl
theorem tw_ok : TblOk Try.prog tw := pureTbl_ok (by intro p hp; rw [List.mem_singleton] at hp; rw [hp]; exact works_ok) tl_ok

end Go.Pier.Lg

