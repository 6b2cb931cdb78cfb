import Derived.Test.YtbhpfkfedannjaaPierRoundD0
set_option linter.unusedSimpArgs false
set_option linter.unusedVariables false
namespace Go.Pier.RoundK
open Go Go.Pier Go.Proofs
def ds : List FrmC := [d0,d1]
theorem ds_ok : ∀ p ∈ ds,p.Ok Try.prog := by
 intro p hp
 simp only [ds,List.mem_cons,List.not_mem_nil,or_false] at hp
 rcases hp with rfl | rfl
 · exact dk0
 · exact dk1
noncomputable def dt : Tbl := frmTbl ds t0
theorem dt_ok : TblOk Try.prog dt := frmTbl_ok ds_ok t0_ok
end Go.Pier.RoundK
