import Derived.Test.YtalaonfipkmelaaPierPC5
import Derived.Test.YtalaonfipkmelaaPierPleaE0
import Derived.Test.YtalaonfipkmelaaPierPleaE1
import Derived.Test.YtalaonfipkmelaaPierPleaE2
import Derived.Test.YtalaonfipkmelaaPierPleaE3
import Derived.Test.YtalaonfipkmelaaPierPleaE4
import Derived.Test.YtalaonfipkmelaaPierPleaE5
set_option linter.unusedSimpArgs false
set_option linter.unusedVariables false
namespace Go.Pier.PleaK
open Go Go.Pier Go.Proofs
def ees0 : List FrmC := [ee0, ee1, ee2, ee3, ee4, ee5, ee6, ee7, ee8, ee9, ee10, ee11, ee12, ee13, ee14, ee15, ee16, ee17, ee18, ee19, ee20, ee21, ee22, ee23, ee24, ee25, ee26, ee27, ee28, ee29]
theorem ees0_ok : ∀ p ∈ ees0, p.Ok Try.prog :=
  frms_cons eek0 (frms_cons eek1 (frms_cons eek2 (frms_cons eek3 (frms_cons eek4 (frms_cons eek5 (frms_cons eek6 (frms_cons eek7 (frms_cons eek8 (frms_cons eek9 (frms_cons eek10 (frms_cons eek11 (frms_cons eek12 (frms_cons eek13 (frms_cons eek14 (frms_cons eek15 (frms_cons eek16 (frms_cons eek17 (frms_cons eek18 (frms_cons eek19 (frms_cons eek20 (frms_cons eek21 (frms_cons eek22 (frms_cons eek23 (frms_cons eek24 (frms_cons eek25 (frms_cons eek26 (frms_cons eek27 (frms_cons eek28 (frms_cons eek29 (frms_nil))))))))))))))))))))))))))))))
def ees : List FrmC := ees0
theorem ees_ok : ∀ p ∈ ees, p.Ok Try.prog := ees0_ok
noncomputable def eet : Tbl := frmTblD ees cct
theorem eet_ok : TblOk Try.prog eet := frmTblD_ok ees_ok cct_ok
end Go.Pier.PleaK
