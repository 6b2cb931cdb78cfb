import Derived.Test.YtalaonfipkmelaaPierPleaC0
import Derived.Test.YtalaonfipkmelaaPierPleaC1
import Derived.Test.YtalaonfipkmelaaPierPleaC2
import Derived.Test.YtalaonfipkmelaaPierPleaC3
import Derived.Test.YtalaonfipkmelaaPierPleaC4
import Derived.Test.YtalaonfipkmelaaPierPleaC5
import Derived.Test.YtalaonfipkmelaaPierPleaC6
set_option linter.unusedSimpArgs false
set_option linter.unusedVariables false
namespace Go.Pier.PleaK
open Go Go.Pier Go.Proofs
def ccs0 : List FrmC := [cc0, cc1, cc2, cc3, cc4, cc5, cc6]
theorem ccs0_ok : ∀ p ∈ ccs0, p.Ok Try.prog :=
  frms_cons cck0 (frms_cons cck1 (frms_cons cck2 (frms_cons cck3 (frms_cons cck4 (frms_cons cck5 (frms_cons cck6 (frms_nil)))))))
def ccs : List FrmC := ccs0
theorem ccs_ok : ∀ p ∈ ccs, p.Ok Try.prog := ccs0_ok
noncomputable def cct : Tbl := frmTblD ccs t0
theorem cct_ok : TblOk Try.prog cct := frmTblD_ok ccs_ok t0_ok
end Go.Pier.PleaK
