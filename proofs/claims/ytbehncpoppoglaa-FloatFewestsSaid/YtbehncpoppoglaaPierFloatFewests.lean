/-
 THE STATEMENT 'Rows.FloatFewestsSaid': called with any list of numbers and any int64, in whatever memory, FloatFewests returns true: the fewest coins, the best change, and what is taken greedily, are the reference's, or the error; what lay in memory is kept. No condition.
-/
import Derived.Test.YtbehncpoppoglaaRows
import Derived.Test.YtbehncpoppoglaaPierFlff
import Derived.Test.YtbehncpoppoglaaPierZL
namespace Go.Proofs.Ytbehncpoppoglaa.floatFewests
open Go.ChangeShapes Go.WideShapes Go.ChangeAt Go.RowKit
theorem own : ownKnob Try.prog.godebug = none := by kernel_rfl
theorem laidOut : laidOutB Try.prog = true := by kernel_rfl
set_option maxRecDepth 100000 in
theorem lifted (os : Os) (started : os.Started) (H : Type) (enc : TypeId × Value → H) :
   ReturnsInHanded {} Try.checked os 4 .any (Rows.floatFewestsSpec.pre6 enc Try.prog Try.f4 Rows.floatFewestsRow.domain false) (Rows.floatFewestsSpec.post enc Try.prog Try.f4 false true false false) := by
 refine returnsInHanded_of_change (C := Try.checked) own started (by kernel_rfl) Try.func4
   (ChangeSpec.witness6 (enc := enc) (C := Try.checked) false ⟨#[], #[.slice none 0 0, .int .i64 0], []⟩ 8 (by kernel_rfl) (by kernel_rfl) (by kernel_rfl) (by kernel_rfl)) ?_
 intro W base args ds gs before hval hW _ _
 exact Pier.open_contract (N := 8) laidOut (by kernel_rfl) (by kernel_rfl) rfl (fun ds h => match ds, h with | [_, _], _ => rfl) (t := 4) (by kernel_rfl) (fun W' b => shut_bool Try.underlying4 _) (Pier.Fl.fewests_law (K := H)) hval hW
theorem over : Rows.floatFewestsRow.holds Try.pinned (OpenSpec.ofChange Rows.floatFewestsSpec) :=
 OpenClaim.holds_of_wide 4 Try.f4 rfl rfl rfl rfl rfl rfl rfl ⟨rfl, rfl, rfl, rfl, rfl⟩ rfl rfl rfl rfl rfl (by kernel_rfl) Try.func4 (by kernel_rfl)
   (of_decide_eq_true (by kernel_rfl)) (by unfold Func.isWrapper; first | (rw [if_pos (by decide +kernel)]; kernel_rfl) | (rw [if_neg (by decide +kernel)]; exact ⟨rfl, rfl⟩))
   (fun os started H enc _ => lifted os started H enc)
theorem proved : Rows.FloatFewestsSaid :=
 over
#print axioms proved
end Go.Proofs.Ytbehncpoppoglaa.floatFewests
