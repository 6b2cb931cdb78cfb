/-
 THE STATEMENT 'Rows.RoundDelaySaid': called with any pier, any bytes and any number, in whatever memory, RoundDelay returns true: of a valid pier Delay is at most 0 just if Count is more than 0, at most by how much the round that the bytes tell is late, and less by as much as each To is greater; what lay in memory is kept. No condition.
-/
import Derived.Test.YtbmdkgoclijgkaaRows
import Derived.Test.YtbmdkgoclijgkaaPierRddy2
import Derived.Test.YtbmdkgoclijgkaaPierZL
namespace Go.Proofs.Ytbmdkgoclijgkaa.roundDelay
open Go.ChangeShapes Go.WideShapes Go.ChangeAt Go.RowKit
theorem own : ownKnob Try.prog.godebug = none := by kernel_rfl
theorem laidOut : laidOutB Try.prog = true := by kernel_rfl
set_option maxRecDepth 100000 in
theorem lifted (os : Os) (started : os.Started) (H : Type) (enc : TypeId × Value → H) :
   ReturnsInHanded {} Try.checked os 11 .any (Rows.roundDelaySpec.pre6 enc Try.prog Try.f11 Rows.roundDelayRow.domain false) (Rows.roundDelaySpec.post enc Try.prog Try.f11 false true false false) := by
 refine returnsInHanded_of_change (C := Try.checked) own started (by kernel_rfl) Try.func11
   (ChangeSpec.witness6 (enc := enc) (C := Try.checked) false ⟨#[], #[.agg #[.int .i64 0, .slice none 0 0], .slice none 0 0, .int .u16 0], []⟩ 8 (by kernel_rfl) (by kernel_rfl) (by kernel_rfl) (by kernel_rfl)) ?_
 intro W base args ds gs before hval hW _ _
 exact Pier.open_contract (N := 8) laidOut (by kernel_rfl) (by kernel_rfl) rfl (fun ds h => match ds, h with | [_, _, _], _ => rfl) (t := 4) (by kernel_rfl) (fun W' b => shut_bool Try.underlying4 _) (Pier.Rd.delay_law (K := H)) hval hW
theorem over : Rows.roundDelayRow.holds Try.pinned (OpenSpec.ofChange Rows.roundDelaySpec) :=
 OpenClaim.holds_of_wide 11 Try.f11 rfl rfl rfl rfl rfl rfl rfl ⟨rfl, rfl, rfl, rfl, rfl⟩ rfl rfl rfl rfl rfl (by kernel_rfl) Try.func11 (by kernel_rfl)
   (of_decide_eq_true (by kernel_rfl)) (by unfold Func.isWrapper; first | (rw [if_pos (by decide +kernel)]; kernel_rfl) | (rw [if_neg (by decide +kernel)]; exact ⟨rfl, rfl⟩))
   (fun os started H enc _ => lifted os started H enc)
theorem proved : Rows.RoundDelaySaid :=
 over
#print axioms proved
end Go.Proofs.Ytbmdkgoclijgkaa.roundDelay
