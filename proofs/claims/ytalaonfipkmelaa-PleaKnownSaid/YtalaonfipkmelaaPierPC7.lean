import Derived.Test.YtalaonfipkmelaaPierPleaB
set_option linter.unusedSimpArgs false
set_option linter.unusedVariables false
namespace Go.Pier.PleaK
open Go Go.Pier Go.Proofs
noncomputable def tk : Tbl := pureTbl [18] [works] eet
theorem tk_ok : TblOk Try.prog tk := pureTbl_ok (by intro p hp; rw [List.mem_singleton] at hp; rw [hp]; exact works_ok) eet_ok
def known : PureC := ⟨16, [], [], .bool true⟩
theorem known_ok : known.Ok Try.prog := PureC.ok_ev (n := 20000) tk_ok (by kernel_rfl) (by kernel_rfl)
end Go.Pier.PleaK
