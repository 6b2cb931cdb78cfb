/-
 THE STATEMENT 'Rows.LedgeOversSaid': called with any number, any list of numbers and any number, in whatever memory, LedgeOvers returns true: how many coppers a place proves to fall, the first place that proves all, whether none falls, and on which places another one may be dropped, are what the definitions say, or the error; what lay in memory is kept. No condition.
-/
import Derived.Test.YtinkmgacaoohnaaRows
import Derived.Test.YtinkmgacaoohnaaPierLover4
import Derived.Test.YtinkmgacaoohnaaPierZL
namespace Go.Proofs.Ytinkmgacaoohnaa.ledgeOvers
open Go.ChangeShapes Go.WideShapes Go.ChangeAt Go.RowKit
theorem own : ownKnob Try.prog.godebug = none := by kernel_rfl
theorem laidOut : laidOutB Try.prog = true := by kernel_rfl
set_option maxRecDepth 100000 in
theorem lifted (os : Os) (started : os.Started) (H : Type) (enc : TypeId × Value → H) :
   ReturnsInHanded {} Try.checked os 4 .any (Rows.ledgeOversSpec.pre6 enc Try.prog Try.f4 Rows.ledgeOversRow.domain false) (Rows.ledgeOversSpec.post enc Try.prog Try.f4 false true false false) := by
 refine returnsInHanded_of_change (C := Try.checked) own started (by kernel_rfl) Try.func4
   (ChangeSpec.witness6 (enc := enc) (C := Try.checked) false ⟨#[], #[.int .i64 1, .slice none 0 0, .int .i64 1], []⟩ 8 (by kernel_rfl) (by kernel_rfl) (by kernel_rfl) (by kernel_rfl)) ?_
 intro W base args ds gs before hval hW _ _
 exact Pier.open_contract (N := 8) laidOut (by kernel_rfl) (by kernel_rfl) rfl (fun ds h => match ds, h with | [_, _, _], _ => rfl) (t := 4) (by kernel_rfl) (fun W' b => shut_bool Try.underlying4 _) (Pier.Lg.overs_law (K := H)) hval hW
theorem over : Rows.ledgeOversRow.holds Try.pinned (OpenSpec.ofChange Rows.ledgeOversSpec) :=
 OpenClaim.holds_of_wide 4 Try.f4 rfl rfl rfl rfl rfl rfl rfl ⟨rfl, rfl, rfl, rfl, rfl⟩ rfl rfl rfl rfl rfl (by kernel_rfl) Try.func4 (by kernel_rfl)
   (of_decide_eq_true (by kernel_rfl)) (by unfold Func.isWrapper; first | (rw [if_pos (by decide +kernel)]; kernel_rfl) | (rw [if_neg (by decide +kernel)]; exact ⟨rfl, rfl⟩))
   (fun os started H enc _ => lifted os started H enc)
theorem proved : Rows.LedgeOversSaid :=
 over
#print axioms proved
end Go.Proofs.Ytinkmgacaoohnaa.ledgeOvers
