import Derived.Test.YtbmdkgoclijgkaaPierKF3
import Derived.Test.YtbmdkgoclijgkaaPierRoundB
import Derived.KernelRfl
set_option linter.unusedSimpArgs false
set_option linter.unusedVariables false
set_option maxRecDepth 100000
set_option linter.unusedVariables false
set_option linter.unusedSimpArgs false
namespace Go.Pier.Rd
open Go Go.Pier Go.Proofs
def worksS (r : List Arg) : Prop × Value := match r with | [] => (True, .bool true) | _ => (False, undef)
theorem worksG_ok : ∀ args H φ v H' l, pureG [] worksS args H = some (φ, v, H', l) → Asks φ → Call Try.prog 18 args H (fun v' H2 => v' = v ∧ H2 = H') ∧ Kept H H' l :=
  closedG_ok (RoundK.works_ok.call.mono fun v H h => h.1) rfl
theorem fits3_agg {ks : List LK} {ps : List K3} {r : List Arg3} (h : fits3 (.agg ks :: ps) r) : ∃ ls r', r = .agg ls :: r' ∧ fitsL ks ls ∧ fits3 ps r' := by
  cases r with
  | nil => exact h.elim
  | cons a r => cases a with
    | one l => exact h.elim
    | agg ls => exact ⟨ls, r, rfl, h.1, h.2⟩
theorem fits3_nil {r : List Arg3} (h : fits3 [] r) : r = [] := by
  cases r with
  | nil => rfl
  | cons a r => exact h.elim
theorem fitsL_cons {k : LK} {ks : List LK} {ls : List Leaf} (h : fitsL (k :: ks) ls) : ∃ l r, ls = l :: r ∧ k.fits l ∧ fitsL ks r := by
  cases ls with
  | nil => exact h.elim
  | cons l r => exact ⟨l, r, rfl, h.1, h.2⟩
theorem fitsL_nil {ls : List Leaf} (h : fitsL [] ls) : ls = [] := by
  cases ls with
  | nil => rfl
  | cons l r => exact h.elim
def isTrue (v : Value) (_ : Heap) : Prop := v = .bool true
end Go.Pier.Rd
