/-
  Pier: the works function of package wheel.
-/
import Derived.Test.YthojbpelnfdgcacPierWheelEJ
namespace Go.Pier.WheelK
open Go Go.Pier Go.Proofs

def works : PureC := ⟨35, [], [], .bool true⟩
theorem works_ok : works.Ok Try.prog := PureC.ok_ev (n := 20000) et_ok (by kernel_rfl) (by kernel_rfl)
noncomputable def tw : Tbl := pureTbl [35] [works] tb
theorem tw_ok : TblOk Try.prog tw := pureTbl_ok (by intro p hp; rw [List.mem_singleton] at hp; rw [hp]; exact works_ok) tb_ok

end Go.Pier.WheelK
