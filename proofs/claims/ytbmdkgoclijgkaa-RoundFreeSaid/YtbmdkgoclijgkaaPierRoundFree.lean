/-
  THE STATEMENT 'Rows.RoundFreeSaid': called with any pier, in whatever memory, RoundFree returns true: of a valid pier whose every To is raised to the limit Shortest returns the way from one end to the other one, and that from Begin to the nearer end, together; what lay in memory is kept. No condition.
-/
import Derived.Test.YtbmdkgoclijgkaaRows
import Derived.Test.YtbmdkgoclijgkaaPierRdfree
import Derived.Test.YtbmdkgoclijgkaaPierZL
namespace Go.Proofs.Ytbmdkgoclijgkaa.roundFree
open Go.ChangeShapes Go.WideShapes Go.ChangeAt Go.RowKit
theorem own : ownKnob Try.prog.godebug = none := by kernel_rfl
theorem laidOut : laidOutB Try.prog = true := by kernel_rfl
set_option maxRecDepth 100000 in
theorem lifted (os : Os) (started : os.Started) (H : Type) (enc : TypeId × Value → H) :
    ReturnsInHanded {} Try.checked os 14 .any (Rows.roundFreeSpec.pre6 enc Try.prog Try.f14 Rows.roundFreeRow.domain false) (Rows.roundFreeSpec.post enc Try.prog Try.f14 false true false false) := by
  refine returnsInHanded_of_change (C := Try.checked) own started (by kernel_rfl) Try.func14
    (ChangeSpec.witness6 (enc := enc) (C := Try.checked) false ⟨#[], #[.agg #[.int .i64 0, .slice none 0 0]], []⟩ 8 (by kernel_rfl) (by kernel_rfl) (by kernel_rfl) (by kernel_rfl)) ?_
  intro W base args ds gs before hval hW _ _
  exact Pier.open_contract (N := 8) laidOut (by kernel_rfl) (by kernel_rfl) rfl (fun ds h => match ds, h with | [_], _ => rfl) (t := 4) (by kernel_rfl) (fun W' b => shut_bool Try.underlying4 _) (Pier.Rd.free_law (K := H)) hval hW
theorem over : Rows.roundFreeRow.holds Try.pinned (OpenSpec.ofChange Rows.roundFreeSpec) :=
  OpenClaim.holds_of_wide 14 Try.f14 rfl rfl rfl rfl rfl rfl rfl ⟨rfl, rfl, rfl, rfl, rfl⟩ rfl rfl rfl rfl rfl (by kernel_rfl) Try.func14 (by kernel_rfl)
    (of_decide_eq_true (by kernel_rfl)) (by unfold Func.isWrapper; first | (rw [if_pos (by decide +kernel)]; kernel_rfl) | (rw [if_neg (by decide +kernel)]; exact ⟨rfl, rfl⟩))
    (fun os started H enc _ => lifted os started H enc)
theorem proved : Rows.RoundFreeSaid :=
  over
#print axioms proved
end Go.Proofs.Ytbmdkgoclijgkaa.roundFree
