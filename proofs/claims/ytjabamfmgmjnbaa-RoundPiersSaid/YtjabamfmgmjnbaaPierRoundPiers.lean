/-
  THE STATEMENT 'Rows.RoundPiersSaid': called with any pier and any list of numbers, in whatever memory, RoundPiers returns true: CheckPier and CheckRound answer as the definitions say, or the same error, if there are at most 14 stops and 20 numbers; what lay in memory is kept. No condition.
-/
import Derived.Test.YtjabamfmgmjnbaaRows
import Derived.Test.YtjabamfmgmjnbaaPierRdpiers
import Derived.Test.YtjabamfmgmjnbaaPierZL
namespace Go.Proofs.Ytjabamfmgmjnbaa.roundPiers
open Go.ChangeShapes Go.WideShapes Go.ChangeAt Go.RowKit

theorem own : ownKnob Try.prog.godebug = none := by kernel_rfl
theorem laidOut : laidOutB Try.prog = true := by kernel_rfl

set_option maxRecDepth 100000 in
theorem lifted (os : Os) (started : os.Started) (H : Type) (enc : TypeId × Value → H) :
    ReturnsInHanded {} Try.checked os 3 .any (Rows.roundPiersSpec.pre6 enc Try.prog Try.f3 Rows.roundPiersRow.domain false) (Rows.roundPiersSpec.post enc Try.prog Try.f3 false true false false) := by
  refine returnsInHanded_of_change (C := Try.checked) own started (by kernel_rfl) Try.func3
    (ChangeSpec.witness6 (enc := enc) (C := Try.checked) false ⟨#[], #[.agg #[.int .i64 0, .slice none 0 0], .slice none 0 0], []⟩ 8 (by kernel_rfl) (by kernel_rfl) (by kernel_rfl) (by kernel_rfl)) ?_
  intro W base args ds gs before hval hW _ _
  exact Pier.open_contract (N := 8) laidOut (by kernel_rfl) (by kernel_rfl) rfl (fun ds h => match ds, h with | [_, _], _ => rfl) (t := 4) (by kernel_rfl) (fun W' b => shut_bool Try.underlying4 _) (Pier.Rd.piers_law (K := H)) hval hW

theorem over : Rows.roundPiersRow.holds Try.pinned (OpenSpec.ofChange Rows.roundPiersSpec) :=
  OpenClaim.holds_of_wide 3 Try.f3 rfl rfl rfl rfl rfl rfl rfl ⟨rfl, rfl, rfl, rfl, rfl⟩ rfl rfl rfl rfl rfl (by kernel_rfl) Try.func3 (by kernel_rfl)
    (of_decide_eq_true (by kernel_rfl)) (by unfold Func.isWrapper; first | (rw [if_pos (by decide +kernel)]; kernel_rfl) | (rw [if_neg (by decide +kernel)]; exact ⟨rfl, rfl⟩))
    (fun os started H enc _ => lifted os started H enc)

/-- THE STATEMENT -/
theorem proved : Rows.RoundPiersSaid :=
  over
#print axioms proved
end Go.Proofs.Ytjabamfmgmjnbaa.roundPiers
