/-
 THE STATEMENT 'Rows.FloatBadsSaid': called with any list of numbers and any int64, in whatever memory, FloatBads returns true: whether an amount is bad, and the least one that is, are the reference's, or the error; what lay in memory is kept. No condition.
-/
import Derived.Test.YtbehncpoppoglaaRows
import Derived.Test.YtbehncpoppoglaaPierFlbb
import Derived.Test.YtbehncpoppoglaaPierZL
namespace Go.Proofs.Ytbehncpoppoglaa.floatBads
open Go.ChangeShapes Go.WideShapes Go.ChangeAt Go.RowKit
theorem own : ownKnob Try.prog.godebug = none := by kernel_rfl
theorem laidOut : laidOutB Try.prog = true := by kernel_rfl
set_option maxRecDepth 100000 in
theorem lifted (os : Os) (started : os.Started) (H : Type) (enc : TypeId × Value → H) :
   ReturnsInHanded {} Try.checked os 6 .any (Rows.floatBadsSpec.pre6 enc Try.prog Try.f6 Rows.floatBadsRow.domain false) (Rows.floatBadsSpec.post enc Try.prog Try.f6 false true false false) := by
 refine returnsInHanded_of_change (C := Try.checked) own started (by kernel_rfl) Try.func6
   (ChangeSpec.witness6 (enc := enc) (C := Try.checked) false ⟨#[], #[.slice none 0 0, .int .i64 0], []⟩ 8 (by kernel_rfl) (by kernel_rfl) (by kernel_rfl) (by kernel_rfl)) ?_
 intro W base args ds gs before hval hW _ _
 exact Pier.open_contract (N := 8) laidOut (by kernel_rfl) (by kernel_rfl) rfl (fun ds h => match ds, h with | [_, _], _ => rfl) (t := 4) (by kernel_rfl) (fun W' b => shut_bool Try.underlying4 _) (Pier.Fl.bads_law (K := H)) hval hW
theorem over : Rows.floatBadsRow.holds Try.pinned (OpenSpec.ofChange Rows.floatBadsSpec) :=
 OpenClaim.holds_of_wide 6 Try.f6 rfl rfl rfl rfl rfl rfl rfl ⟨rfl, rfl, rfl, rfl, rfl⟩ rfl rfl rfl rfl rfl (by kernel_rfl) Try.func6 (by kernel_rfl)
   (of_decide_eq_true (by kernel_rfl)) (by unfold Func.isWrapper; first | (rw [if_pos (by decide +kernel)]; kernel_rfl) | (rw [if_neg (by decide +kernel)]; exact ⟨rfl, rfl⟩))
   (fun os started H enc _ => lifted os started H enc)
theorem proved : Rows.FloatBadsSaid :=
 over
#print axioms proved
end Go.Proofs.Ytbehncpoppoglaa.floatBads
