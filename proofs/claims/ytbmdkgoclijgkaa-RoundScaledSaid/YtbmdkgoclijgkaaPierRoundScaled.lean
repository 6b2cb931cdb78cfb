/-
 THE STATEMENT 'Rows.RoundScaledSaid': called with any pier and any two bytes, in whatever memory, RoundScaled returns true: of a pier that is one to four times as great as a valid one Shortest, Delay and Within return as many times as much, with the same errors; what lay in memory is kept. No condition.
-/
import Derived.Test.YtbmdkgoclijgkaaRows
import Derived.Test.YtbmdkgoclijgkaaPierRdscl
import Derived.Test.YtbmdkgoclijgkaaPierZL
namespace Go.Proofs.Ytbmdkgoclijgkaa.roundScaled
open Go.ChangeShapes Go.WideShapes Go.ChangeAt Go.RowKit
theorem own : ownKnob Try.prog.godebug = none := by kernel_rfl
theorem laidOut : laidOutB Try.prog = true := by kernel_rfl
set_option maxRecDepth 100000 in
theorem lifted (os : Os) (started : os.Started) (H : Type) (enc : TypeId × Value → H) :
   ReturnsInHanded {} Try.checked os 15 .any (Rows.roundScaledSpec.pre6 enc Try.prog Try.f15 Rows.roundScaledRow.domain false) (Rows.roundScaledSpec.post enc Try.prog Try.f15 false true false false) := by
 refine returnsInHanded_of_change (C := Try.checked) own started (by kernel_rfl) Try.func15
   (ChangeSpec.witness6 (enc := enc) (C := Try.checked) false ⟨#[], #[.agg #[.int .i64 0, .slice none 0 0], .int .u8 0, .int .u8 0], []⟩ 8 (by kernel_rfl) (by kernel_rfl) (by kernel_rfl) (by kernel_rfl)) ?_
 intro W base args ds gs before hval hW _ _
 exact Pier.open_contract (N := 8) laidOut (by kernel_rfl) (by kernel_rfl) rfl (fun ds h => match ds, h with | [_, _, _], _ => rfl) (t := 4) (by kernel_rfl) (fun W' b => shut_bool Try.underlying4 _) (Pier.Rd.scaled_law (K := H)) hval hW
theorem over : Rows.roundScaledRow.holds Try.pinned (OpenSpec.ofChange Rows.roundScaledSpec) :=
 OpenClaim.holds_of_wide 15 Try.f15 rfl rfl rfl rfl rfl rfl rfl ⟨rfl, rfl, rfl, rfl, rfl⟩ rfl rfl rfl rfl rfl (by kernel_rfl) Try.func15 (by kernel_rfl)
   (of_decide_eq_true (by kernel_rfl)) (by unfold Func.isWrapper; first | (rw [if_pos (by decide +kernel)]; kernel_rfl) | (rw [if_neg (by decide +kernel)]; exact ⟨rfl, rfl⟩))
   (fun os started H enc _ => lifted os started H enc)
theorem proved : Rows.RoundScaledSaid :=
 over
#print axioms proved
end Go.Proofs.Ytbmdkgoclijgkaa.roundScaled
