/-
  No cell of these rows narrows 'for every input' (looked for: loops, veiled, ifaces, maps, wideKeys, modest, calm, conditions, laid).
  DERIVED. THE GIVEN ROWS OF THIS SEAT. 2 by the template 'for every input the law returns true; each argument reads behind the call as it read before'; 0 by the template 'total and deterministic' (their statements: YthbcmcmmkmoccaaTotals.lean).
  GIVEN WITH THE SEED: the statements are not yours to turn. If you find one false, say at which input.
  Laid BY PROGRAM, IN A SANDBOX (cutbox-rows.mjs): the forced cells as the released guide's own fill.sh prints them over the translation 435c830561f7246f… (all of the seat's roots in one cut). By AI agents, Wed Nov 11 2026. No macro, syntax, notation, axiom, sorry.
-/
import Derived.Test.YthbcmcmmkmoccaaChecked
import GoSem.Claim
import GoSem.ClaimJoined
import GoSem.ClaimMapViews
import Derived.JoinedTies
import Derived.KernelRfl
namespace Go.Proofs.Ythbcmcmmkmoccaa
/- THE CELL 'sum', in the pinned program and in every row, IS THE sha256 OF THE DUMP (.gsa) THAT YthbcmcmmkmoccaaProg.lean LOADS. Nothing in Lean hashes anything: it is a label: what it is worth is what the hold of that sum in a sandbox is worth. -/
noncomputable def Try.pinned : Pinned := { name := "ythbcmcmmkmoccaa", sum := "435c830561f7246f2e0f29df262bfb620fa594d370152769a2666fedf495a054", checked := Try.checked }
namespace Rows
def none {H : Type} : Left H := { results := [], args := [] }

/-- 'pennyfalllaw05.SlugKnowns': WHATEVER THE INPUT: true; the input reads as it did. -/
def slugKnownsSpec : ChangeSpec := { name := "slugKnowns", fn := fun _ => fun
  | [d] => { results := [.lit (.bool true)], args := [d] }
  | _ => none }
def slugKnownsRow : OpenClaim := { program := "ythbcmcmmkmoccaa", sum := "435c830561f7246f2e0f29df262bfb620fa594d370152769a2666fedf495a054", func := "pennyfall/pennyfalllaw05.SlugKnowns", spec := "slugKnowns", unfollowed := true, recurses := true, plainKeys := false, apart := false }
def SlugKnownsSaid : Prop := slugKnownsRow.holds Try.pinned (OpenSpec.ofChange slugKnownsSpec)

/-- ITS FALSE NEIGHBOUR: 'it returns false'. Refute it at one input. -/
def slugKnownsWrong : ChangeSpec := { name := "slugKnowns", fn := fun _ => fun
  | [d] => { results := [.lit (.bool false)], args := [d] }
  | _ => none }
def SlugKnownsWrongFalsely : Prop := slugKnownsRow.holds Try.pinned (OpenSpec.ofChange slugKnownsWrong)

/-- 'pennyfalllaw05.SlugWeighings': WHATEVER THE INPUT: true; the input reads as it did. -/
def slugWeighingsSpec : ChangeSpec := { name := "slugWeighings", fn := fun _ => fun
  | [d1, d2, d3, d4] => { results := [.lit (.bool true)], args := [d1, d2, d3, d4] }
  | _ => none }
def slugWeighingsRow : OpenClaim := { program := "ythbcmcmmkmoccaa", sum := "435c830561f7246f2e0f29df262bfb620fa594d370152769a2666fedf495a054", func := "pennyfall/pennyfalllaw05.SlugWeighings", spec := "slugWeighings", unfollowed := true, recurses := true, plainKeys := false, apart := false }
def SlugWeighingsSaid : Prop := slugWeighingsRow.holds Try.pinned (OpenSpec.ofChange slugWeighingsSpec)

/-- ITS FALSE NEIGHBOUR: 'it returns false'. Refute it at one input. -/
def slugWeighingsWrong : ChangeSpec := { name := "slugWeighings", fn := fun _ => fun
  | [d1, d2, d3, d4] => { results := [.lit (.bool false)], args := [d1, d2, d3, d4] }
  | _ => none }
def SlugWeighingsWrongFalsely : Prop := slugWeighingsRow.holds Try.pinned (OpenSpec.ofChange slugWeighingsWrong)

/- THE SECOND FORM. 'bulk': how many values and letters a reading holds, each counted each time it is reached (what is shared counts as often as it is met; a slice's spare places count too). A statement '..UptoSaid' is the law's where the arguments, and the package variables that the reading takes, are together of bulk at most 1048576: NARROWER than '..Said'. Prove '..Said' where nothing that the law and all that it calls make is longer than what came in: it says more and counts as full. Else prove '..UptoSaid'. A law counts once. -/
mutual
def uptoBulk {H : Type} : DataW H → Nat
  | .lit (.string bytes) => bytes.length + 1
  | .lit _ => 1
  | .nil => 1
  | .ptr d => uptoBulk d + 1
  | .slice elems spare => uptoBulkAll elems + uptoBulkAll spare + 1
  | .agg parts => uptoBulkAll parts + 1
  | .iface _ d => uptoBulk d + 1
  | .map entries => uptoBulkEntries entries + 1
  | .held _ => 1
def uptoBulkAll {H : Type} : List (DataW H) → Nat
  | [] => 0
  | d :: r => uptoBulk d + uptoBulkAll r
def uptoBulkEntries {H : Type} : List (Lit × DataW H) → Nat
  | [] => 0
  | x :: r => uptoBulkEntry x + uptoBulkEntries r
def uptoBulkEntry {H : Type} : Lit × DataW H → Nat
  | (.string bytes, d) => bytes.length + uptoBulk d + 1
  | (_, d) => uptoBulk d + 1
 end
def uptoSmall : (H : Type) → List (DataW H) → Bool := fun _ ds => decide (uptoBulkAll ds ≤ 1048576)
def OpenSpec.upto (s : _root_.Go.ChangeSpec) : _root_.Go.OpenSpec := { _root_.Go.OpenSpec.ofChange s with cond := some uptoSmall }

/-- 'pennyfalllaw05.SlugKnowns', WHERE WHAT IT READS IS OF BULK AT MOST 1048576: true; the input reads as it did. -/
def slugKnownsUptoRow : OpenClaim := { program := "ythbcmcmmkmoccaa", sum := "435c830561f7246f2e0f29df262bfb620fa594d370152769a2666fedf495a054", func := "pennyfall/pennyfalllaw05.SlugKnowns", spec := "slugKnowns", unfollowed := true, recurses := true, plainKeys := false, apart := false, narrowed := true }
def SlugKnownsUptoSaid : Prop := slugKnownsUptoRow.holds Try.pinned (OpenSpec.upto slugKnownsSpec)

/-- 'pennyfalllaw05.SlugWeighings', WHERE WHAT IT READS IS OF BULK AT MOST 1048576: true; the input reads as it did. -/
def slugWeighingsUptoRow : OpenClaim := { program := "ythbcmcmmkmoccaa", sum := "435c830561f7246f2e0f29df262bfb620fa594d370152769a2666fedf495a054", func := "pennyfall/pennyfalllaw05.SlugWeighings", spec := "slugWeighings", unfollowed := true, recurses := true, plainKeys := false, apart := false, narrowed := true }
def SlugWeighingsUptoSaid : Prop := slugWeighingsUptoRow.holds Try.pinned (OpenSpec.upto slugWeighingsSpec)

end Rows
end Go.Proofs.Ythbcmcmmkmoccaa
