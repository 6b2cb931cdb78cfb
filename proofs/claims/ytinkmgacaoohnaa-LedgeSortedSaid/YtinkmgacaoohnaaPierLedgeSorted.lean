/-
  THE STATEMENT 'Rows.LedgeSortedSaid': as many drops as there are places are a row just if, sorted, none is greater than its index; called in whatever memory, with any number and any list of bytes, LedgeSorted returns true; what lay in memory is kept. No condition.
-/
import Derived.Test.YtinkmgacaoohnaaRows
import Derived.Test.YtinkmgacaoohnaaPierLsorted
import Derived.Test.YtinkmgacaoohnaaPierZL
namespace Go.Proofs.Ytinkmgacaoohnaa.ledgeSorted
open Go.ChangeShapes Go.WideShapes Go.ChangeAt Go.RowKit
theorem own : ownKnob Try.prog.godebug = none := by kernel_rfl
theorem laidOut : laidOutB Try.prog = true := by kernel_rfl
set_option maxRecDepth 100000 in
theorem lifted (os : Os) (started : os.Started) (H : Type) (enc : TypeId × Value → H) :
    ReturnsInHanded {} Try.checked os 9 .any (Rows.ledgeSortedSpec.pre6 enc Try.prog Try.f9 Rows.ledgeSortedRow.domain false) (Rows.ledgeSortedSpec.post enc Try.prog Try.f9 false true false false) := by
  refine returnsInHanded_of_change (C := Try.checked) own started (by kernel_rfl) Try.func9
    (ChangeSpec.witness6 (enc := enc) (C := Try.checked) false ⟨#[], #[.int .u8 0, .slice none 0 0], []⟩ 8 (by kernel_rfl) (by kernel_rfl) (by kernel_rfl) (by kernel_rfl)) ?_
  intro W base args ds gs before hval hW _ _
  exact Pier.open_contract (N := 8) laidOut (by kernel_rfl) (by kernel_rfl) rfl (fun ds h => match ds, h with | [_, _], _ => rfl) (t := 4) (by kernel_rfl) (fun W' b => shut_bool Try.underlying4 _) (Pier.Lg.sorted_law (K := H)) hval hW
theorem over : Rows.ledgeSortedRow.holds Try.pinned (OpenSpec.ofChange Rows.ledgeSortedSpec) :=
  OpenClaim.holds_of_wide 9 Try.f9 rfl rfl rfl rfl rfl rfl rfl ⟨rfl, rfl, rfl, rfl, rfl⟩ rfl rfl rfl rfl rfl (by kernel_rfl) Try.func9 (by kernel_rfl)
    (of_decide_eq_true (by kernel_rfl)) (by unfold Func.isWrapper; first | (rw [if_pos (by decide +kernel)]; kernel_rfl) | (rw [if_neg (by decide +kernel)]; exact ⟨rfl, rfl⟩))
    (fun os started H enc _ => lifted os started H enc)
theorem proved : Rows.LedgeSortedSaid :=
  over
#print axioms proved
end Go.Proofs.Ytinkmgacaoohnaa.ledgeSorted
