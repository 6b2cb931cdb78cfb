/-
 THE STATEMENT 'Rows.FloatTwoSaid': called with any two uint8 and any uint16, in whatever memory, FloatTwo returns true: of two coins without a divisor in common, what Greatest and Many answer, and that of an amount and what is left of the greatest one just one can be paid; what lay in memory is kept. No condition.
-/
import Derived.Test.YtbehncpoppoglaaRows
import Derived.Test.YtbehncpoppoglaaPierFltwo
import Derived.Test.YtbehncpoppoglaaPierZL
namespace Go.Proofs.Ytbehncpoppoglaa.floatTwo
open Go.ChangeShapes Go.WideShapes Go.ChangeAt Go.RowKit
theorem own : ownKnob Try.prog.godebug = none := by kernel_rfl
theorem laidOut : laidOutB Try.prog = true := by kernel_rfl
set_option maxRecDepth 100000 in
theorem lifted (os : Os) (started : os.Started) (H : Type) (enc : TypeId × Value → H) :
   ReturnsInHanded {} Try.checked os 12 .any (Rows.floatTwoSpec.pre6 enc Try.prog Try.f12 Rows.floatTwoRow.domain false) (Rows.floatTwoSpec.post enc Try.prog Try.f12 false true false false) := by
 refine returnsInHanded_of_change (C := Try.checked) own started (by kernel_rfl) Try.func12
   (ChangeSpec.witness6 (enc := enc) (C := Try.checked) false ⟨#[], #[.int .u8 0, .int .u8 0, .int .u16 0], []⟩ 8 (by kernel_rfl) (by kernel_rfl) (by kernel_rfl) (by kernel_rfl)) ?_
 intro W base args ds gs before hval hW _ _
 exact Pier.open_contract (N := 8) laidOut (by kernel_rfl) (by kernel_rfl) rfl (fun ds h => match ds, h with | [_, _, _], _ => rfl) (t := 4) (by kernel_rfl) (fun W' b => shut_bool Try.underlying4 _) (Pier.Fl.two_law (K := H)) hval hW
theorem over : Rows.floatTwoRow.holds Try.pinned (OpenSpec.ofChange Rows.floatTwoSpec) :=
 OpenClaim.holds_of_wide 12 Try.f12 rfl rfl rfl rfl rfl rfl rfl ⟨rfl, rfl, rfl, rfl, rfl⟩ rfl rfl rfl rfl rfl (by kernel_rfl) Try.func12 (by kernel_rfl)
   (of_decide_eq_true (by kernel_rfl)) (by unfold Func.isWrapper; first | (rw [if_pos (by decide +kernel)]; kernel_rfl) | (rw [if_neg (by decide +kernel)]; exact ⟨rfl, rfl⟩))
   (fun os started H enc _ => lifted os started H enc)
theorem proved : Rows.FloatTwoSaid :=
 over
#print axioms proved
end Go.Proofs.Ytbehncpoppoglaa.floatTwo
