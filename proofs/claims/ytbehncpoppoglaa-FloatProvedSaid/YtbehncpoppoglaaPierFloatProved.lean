/-
 THE STATEMENT 'Rows.FloatProvedSaid': called with any three lists of numbers and any uint16, in whatever memory, FloatProved returns true: no change has fewer coins than right heights say, and the best one has just as many; what lay in memory is kept. No condition.
-/
import Derived.Test.YtbehncpoppoglaaRows
import Derived.Test.YtbehncpoppoglaaPierFlpv
import Derived.Test.YtbehncpoppoglaaPierZL
namespace Go.Proofs.Ytbehncpoppoglaa.floatProved
open Go.ChangeShapes Go.WideShapes Go.ChangeAt Go.RowKit
theorem own : ownKnob Try.prog.godebug = none := by kernel_rfl
theorem laidOut : laidOutB Try.prog = true := by kernel_rfl
set_option maxRecDepth 100000 in
theorem lifted (os : Os) (started : os.Started) (H : Type) (enc : TypeId × Value → H) :
   ReturnsInHanded {} Try.checked os 9 .any (Rows.floatProvedSpec.pre6 enc Try.prog Try.f9 Rows.floatProvedRow.domain false) (Rows.floatProvedSpec.post enc Try.prog Try.f9 false true false false) := by
 refine returnsInHanded_of_change (C := Try.checked) own started (by kernel_rfl) Try.func9
   (ChangeSpec.witness6 (enc := enc) (C := Try.checked) false ⟨#[], #[.slice none 0 0, .slice none 0 0, .slice none 0 0, .int .u16 0], []⟩ 8 (by kernel_rfl) (by kernel_rfl) (by kernel_rfl) (by kernel_rfl)) ?_
 intro W base args ds gs before hval hW _ _
 exact Pier.open_contract (N := 8) laidOut (by kernel_rfl) (by kernel_rfl) rfl (fun ds h => match ds, h with | [_, _, _, _], _ => rfl) (t := 4) (by kernel_rfl) (fun W' b => shut_bool Try.underlying4 _) (Pier.Fl.proved_law (K := H)) hval hW
theorem over : Rows.floatProvedRow.holds Try.pinned (OpenSpec.ofChange Rows.floatProvedSpec) :=
 OpenClaim.holds_of_wide 9 Try.f9 rfl rfl rfl rfl rfl rfl rfl ⟨rfl, rfl, rfl, rfl, rfl⟩ rfl rfl rfl rfl rfl (by kernel_rfl) Try.func9 (by kernel_rfl)
   (of_decide_eq_true (by kernel_rfl)) (by unfold Func.isWrapper; first | (rw [if_pos (by decide +kernel)]; kernel_rfl) | (rw [if_neg (by decide +kernel)]; exact ⟨rfl, rfl⟩))
   (fun os started H enc _ => lifted os started H enc)
theorem proved : Rows.FloatProvedSaid :=
 over
#print axioms proved
end Go.Proofs.Ytbehncpoppoglaa.floatProved
