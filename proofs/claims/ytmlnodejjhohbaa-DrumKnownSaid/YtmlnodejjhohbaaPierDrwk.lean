import Derived.Test.YtmlnodejjhohbaaPierDrwe0
import Derived.Test.YtmlnodejjhohbaaPierDrwe1
import Derived.Test.YtmlnodejjhohbaaPierDrwe2
import Derived.Test.YtmlnodejjhohbaaPierDrwe3
import Derived.Test.YtmlnodejjhohbaaPierDrwe4
import Derived.Test.YtmlnodejjhohbaaPierDrwe5
set_option linter.unusedSimpArgs false
set_option linter.unusedVariables false
namespace Go.Pier.Dr
open Go Go.Pier Go.Proofs
noncomputable def ttt : Tbl := fun _ => none
theorem ttt_ok : TblOk Try.prog ttt := tblOk_none
def ees : List FrmC := [ee0,ee1,ee2,ee3,ee4,ee5,ee6,ee7,ee8,ee9,ee10,ee11,ee12,ee13,ee14,ee15,ee16,ee17,ee18,ee19,ee20,ee21,ee22]
theorem ees_ok : ∀ p ∈ ees,p.Ok Try.prog :=
 frms_cons eek0 (frms_cons eek1 (frms_cons eek2 (frms_cons eek3 (frms_cons eek4 (frms_cons eek5 (frms_cons eek6 (frms_cons eek7 (frms_cons eek8 (frms_cons eek9 (frms_cons eek10 (frms_cons eek11 (frms_cons eek12 (frms_cons eek13 (frms_cons eek14 (frms_cons eek15 (frms_cons eek16 (frms_cons eek17 (frms_cons eek18 (frms_cons eek19 (frms_cons eek20 (frms_cons eek21 (frms_cons eek22 (frms_nil)))))))))))))))))))))))
noncomputable def eet : Tbl := frmTblD ees ttt
theorem eet_ok : TblOk Try.prog eet := frmTblD_ok ees_ok ttt_ok
def works : PureC := ⟨17,[],[],.bool true⟩
theorem works_ok : works.Ok Try.prog := PureC.ok_ev (n := 20000) eet_ok (by kernel_rfl) (by kernel_rfl)
end Go.Pier.Dr
