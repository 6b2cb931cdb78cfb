import Derived.Test.YtmlnodejjhohbaaPierDrwk
set_option linter.unusedSimpArgs false
set_option linter.unusedVariables false
namespace Go.Pier.Dr
open Go Go.Pier Go.Proofs
noncomputable def knT : Tbl := pureTbl [17] [works] eet
theorem knT_ok : TblOk Try.prog knT := pureTbl_ok (by intro p hp; rw [List.mem_singleton] at hp; rw [hp]; exact works_ok) eet_ok
def known : PureC := ⟨14,[],[],.bool true⟩
theorem known_ok : known.Ok Try.prog := PureC.ok_ev (n := 20000) knT_ok (by kernel_rfl) (by kernel_rfl)
end Go.Pier.Dr
