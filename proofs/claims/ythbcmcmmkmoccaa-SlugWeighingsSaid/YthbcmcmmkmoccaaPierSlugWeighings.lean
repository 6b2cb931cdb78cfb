/-
  THE STATEMENT 'Rows.SlugWeighingsSaid': called with whatever is known of coppers, numbers, a case and a result, in whatever memory, SlugWeighings returns true: CheckWeighing, Result and Learned answer as the definitions say, or the same error, if there are at most 16 coppers and 16 numbers; what lay in memory is kept. No condition.
-/
import Derived.Test.YthbcmcmmkmoccaaRows
import Derived.Test.YthbcmcmmkmoccaaPierSklcl
import Derived.Test.YthbcmcmmkmoccaaPierZL
namespace Go.Proofs.Ythbcmcmmkmoccaa.slugWeighings
open Go.ChangeShapes Go.WideShapes Go.ChangeAt Go.RowKit
theorem own : ownKnob Try.prog.godebug = none := by kernel_rfl
theorem laidOut : laidOutB Try.prog = true := by kernel_rfl
set_option maxRecDepth 100000 in
theorem lifted (os : Os) (started : os.Started) (H : Type) (enc : TypeId × Value → H) :
    ReturnsInHanded {} Try.checked os 4 .any (Rows.slugWeighingsSpec.pre6 enc Try.prog Try.f4 Rows.slugWeighingsRow.domain false) (Rows.slugWeighingsSpec.post enc Try.prog Try.f4 false true false false) := by
  refine returnsInHanded_of_change (C := Try.checked) own started (by kernel_rfl) Try.func4
    (ChangeSpec.witness6 (enc := enc) (C := Try.checked) false ⟨#[], #[.agg #[.slice none 0 0, .bool false], .slice none 0 0, .agg #[.int .i64 0, .int .i64 0], .int .i64 0], []⟩ 8 (by kernel_rfl) (by kernel_rfl) (by kernel_rfl) (by kernel_rfl)) ?_
  intro W base args ds gs before hval hW _ _
  exact Pier.open_contract (N := 8) laidOut (by kernel_rfl) (by kernel_rfl) rfl (fun ds h => match ds, h with | [_, _, _, _], _ => rfl) (t := 4) (by kernel_rfl) (fun W' b => shut_bool Try.underlying4 _) (Pier.Sk.weighings_law (K := H)) hval hW
theorem over : Rows.slugWeighingsRow.holds Try.pinned (OpenSpec.ofChange Rows.slugWeighingsSpec) :=
  OpenClaim.holds_of_wide 4 Try.f4 rfl rfl rfl rfl rfl rfl rfl ⟨rfl, rfl, rfl, rfl, rfl⟩ rfl rfl rfl rfl rfl (by kernel_rfl) Try.func4 (by kernel_rfl)
    (of_decide_eq_true (by kernel_rfl)) (by unfold Func.isWrapper; first | (rw [if_pos (by decide +kernel)]; kernel_rfl) | (rw [if_neg (by decide +kernel)]; exact ⟨rfl, rfl⟩))
    (fun os started H enc _ => lifted os started H enc)
theorem proved : Rows.SlugWeighingsSaid :=
  over
#print axioms proved
end Go.Proofs.Ythbcmcmmkmoccaa.slugWeighings
