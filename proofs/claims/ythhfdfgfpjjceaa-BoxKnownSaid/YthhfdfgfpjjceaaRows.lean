/-
  No cell of these rows narrows 'for every input' (looked for: loops, veiled, ifaces, maps, wideKeys, modest, calm, conditions, laid).
  DERIVED. THE GIVEN ROWS OF THIS SEAT. 13 by the template 'for every input the law returns true; each argument reads behind the call as it read before'; 0 by the template 'total and deterministic' (their statements: YthhfdfgfpjjceaaTotals.lean).
  GIVEN WITH THE SEED: the statements are not yours to turn. If you find one false, say at which input.
  Laid BY PROGRAM, IN A SANDBOX (cutbox-rows.mjs): the forced cells as the released guide's own fill.sh prints them over the translation 3dde8cb7ab66a214… (all of the seat's roots in one cut). By AI agents, Wed Nov 11 2026. No macro, syntax, notation, axiom, sorry.
-/
import Derived.Test.YthhfdfgfpjjceaaChecked
import GoSem.Claim
import GoSem.ClaimJoined
import GoSem.ClaimMapViews
import Derived.JoinedTies
import Derived.KernelRfl
namespace Go.Proofs.Ythhfdfgfpjjceaa
/- THE CELL 'sum', in the pinned program and in every row, IS THE sha256 OF THE DUMP (.gsa) THAT YthhfdfgfpjjceaaProg.lean LOADS. Nothing in Lean hashes anything: it is a label: what it is worth is what the hold of that sum in a sandbox is worth. -/
noncomputable def Try.pinned : Pinned := { name := "ythhfdfgfpjjceaa", sum := "3dde8cb7ab66a2149eeabf68c4a6a13c2cd4ef0d8f92dcc69d52e79c57cc2d83", checked := Try.checked }
namespace Rows
def none {H : Type} : Left H := { results := [], args := [] }

/-- 'pennyfalllaw06.BoxHalls': WHATEVER THE INPUT: true; the input reads as it did. -/
def boxHallsSpec : ChangeSpec := { name := "boxHalls", fn := fun _ => fun
  | [d1, d2] => { results := [.lit (.bool true)], args := [d1, d2] }
  | _ => none }
def boxHallsRow : OpenClaim := { program := "ythhfdfgfpjjceaa", sum := "3dde8cb7ab66a2149eeabf68c4a6a13c2cd4ef0d8f92dcc69d52e79c57cc2d83", func := "pennyfall/pennyfalllaw06.BoxHalls", spec := "boxHalls", unfollowed := true, recurses := true, plainKeys := false, apart := false }
def BoxHallsSaid : Prop := boxHallsRow.holds Try.pinned (OpenSpec.ofChange boxHallsSpec)

/-- ITS FALSE NEIGHBOUR: 'it returns false'. Refute it at one input. -/
def boxHallsWrong : ChangeSpec := { name := "boxHalls", fn := fun _ => fun
  | [d1, d2] => { results := [.lit (.bool false)], args := [d1, d2] }
  | _ => none }
def BoxHallsWrongFalsely : Prop := boxHallsRow.holds Try.pinned (OpenSpec.ofChange boxHallsWrong)

/-- 'pennyfalllaw06.BoxParts': WHATEVER THE INPUT: true; the input reads as it did. -/
def boxPartsSpec : ChangeSpec := { name := "boxParts", fn := fun _ => fun
  | [d1, d2, d3] => { results := [.lit (.bool true)], args := [d1, d2, d3] }
  | _ => none }
def boxPartsRow : OpenClaim := { program := "ythhfdfgfpjjceaa", sum := "3dde8cb7ab66a2149eeabf68c4a6a13c2cd4ef0d8f92dcc69d52e79c57cc2d83", func := "pennyfall/pennyfalllaw06.BoxParts", spec := "boxParts", unfollowed := true, recurses := true, plainKeys := false, apart := false }
def BoxPartsSaid : Prop := boxPartsRow.holds Try.pinned (OpenSpec.ofChange boxPartsSpec)

/-- ITS FALSE NEIGHBOUR: 'it returns false'. Refute it at one input. -/
def boxPartsWrong : ChangeSpec := { name := "boxParts", fn := fun _ => fun
  | [d1, d2, d3] => { results := [.lit (.bool false)], args := [d1, d2, d3] }
  | _ => none }
def BoxPartsWrongFalsely : Prop := boxPartsRow.holds Try.pinned (OpenSpec.ofChange boxPartsWrong)

/-- 'pennyfalllaw06.BoxSpans': WHATEVER THE INPUT: true; the input reads as it did. -/
def boxSpansSpec : ChangeSpec := { name := "boxSpans", fn := fun _ => fun
  | [d1, d2, d3] => { results := [.lit (.bool true)], args := [d1, d2, d3] }
  | _ => none }
def boxSpansRow : OpenClaim := { program := "ythhfdfgfpjjceaa", sum := "3dde8cb7ab66a2149eeabf68c4a6a13c2cd4ef0d8f92dcc69d52e79c57cc2d83", func := "pennyfall/pennyfalllaw06.BoxSpans", spec := "boxSpans", unfollowed := true, recurses := true, plainKeys := false, apart := false }
def BoxSpansSaid : Prop := boxSpansRow.holds Try.pinned (OpenSpec.ofChange boxSpansSpec)

/-- ITS FALSE NEIGHBOUR: 'it returns false'. Refute it at one input. -/
def boxSpansWrong : ChangeSpec := { name := "boxSpans", fn := fun _ => fun
  | [d1, d2, d3] => { results := [.lit (.bool false)], args := [d1, d2, d3] }
  | _ => none }
def BoxSpansWrongFalsely : Prop := boxSpansRow.holds Try.pinned (OpenSpec.ofChange boxSpansWrong)

/-- 'pennyfalllaw06.BoxWrongs': WHATEVER THE INPUT: true; the input reads as it did. -/
def boxWrongsSpec : ChangeSpec := { name := "boxWrongs", fn := fun _ => fun
  | [d1, d2, d3] => { results := [.lit (.bool true)], args := [d1, d2, d3] }
  | _ => none }
def boxWrongsRow : OpenClaim := { program := "ythhfdfgfpjjceaa", sum := "3dde8cb7ab66a2149eeabf68c4a6a13c2cd4ef0d8f92dcc69d52e79c57cc2d83", func := "pennyfall/pennyfalllaw06.BoxWrongs", spec := "boxWrongs", unfollowed := true, recurses := true, plainKeys := false, apart := false }
def BoxWrongsSaid : Prop := boxWrongsRow.holds Try.pinned (OpenSpec.ofChange boxWrongsSpec)

/-- ITS FALSE NEIGHBOUR: 'it returns false'. Refute it at one input. -/
def boxWrongsWrong : ChangeSpec := { name := "boxWrongs", fn := fun _ => fun
  | [d1, d2, d3] => { results := [.lit (.bool false)], args := [d1, d2, d3] }
  | _ => none }
def BoxWrongsWrongFalsely : Prop := boxWrongsRow.holds Try.pinned (OpenSpec.ofChange boxWrongsWrong)

/-- 'pennyfalllaw06.BoxEither': WHATEVER THE INPUT: true; the input reads as it did. -/
def boxEitherSpec : ChangeSpec := { name := "boxEither", fn := fun _ => fun
  | [d1, d2, d3, d4] => { results := [.lit (.bool true)], args := [d1, d2, d3, d4] }
  | _ => none }
def boxEitherRow : OpenClaim := { program := "ythhfdfgfpjjceaa", sum := "3dde8cb7ab66a2149eeabf68c4a6a13c2cd4ef0d8f92dcc69d52e79c57cc2d83", func := "pennyfall/pennyfalllaw06.BoxEither", spec := "boxEither", unfollowed := true, recurses := true, plainKeys := false, apart := false }
def BoxEitherSaid : Prop := boxEitherRow.holds Try.pinned (OpenSpec.ofChange boxEitherSpec)

/-- ITS FALSE NEIGHBOUR: 'it returns false'. Refute it at one input. -/
def boxEitherWrong : ChangeSpec := { name := "boxEither", fn := fun _ => fun
  | [d1, d2, d3, d4] => { results := [.lit (.bool false)], args := [d1, d2, d3, d4] }
  | _ => none }
def BoxEitherWrongFalsely : Prop := boxEitherRow.holds Try.pinned (OpenSpec.ofChange boxEitherWrong)

/-- 'pennyfalllaw06.BoxHeld': WHATEVER THE INPUT: true; the input reads as it did. -/
def boxHeldSpec : ChangeSpec := { name := "boxHeld", fn := fun _ => fun
  | [d1, d2, d3] => { results := [.lit (.bool true)], args := [d1, d2, d3] }
  | _ => none }
def boxHeldRow : OpenClaim := { program := "ythhfdfgfpjjceaa", sum := "3dde8cb7ab66a2149eeabf68c4a6a13c2cd4ef0d8f92dcc69d52e79c57cc2d83", func := "pennyfall/pennyfalllaw06.BoxHeld", spec := "boxHeld", unfollowed := true, recurses := true, plainKeys := false, apart := false }
def BoxHeldSaid : Prop := boxHeldRow.holds Try.pinned (OpenSpec.ofChange boxHeldSpec)

/-- ITS FALSE NEIGHBOUR: 'it returns false'. Refute it at one input. -/
def boxHeldWrong : ChangeSpec := { name := "boxHeld", fn := fun _ => fun
  | [d1, d2, d3] => { results := [.lit (.bool false)], args := [d1, d2, d3] }
  | _ => none }
def BoxHeldWrongFalsely : Prop := boxHeldRow.holds Try.pinned (OpenSpec.ofChange boxHeldWrong)

/-- 'pennyfalllaw06.BoxReached': WHATEVER THE INPUT: true; the input reads as it did. -/
def boxReachedSpec : ChangeSpec := { name := "boxReached", fn := fun _ => fun
  | [d1, d2, d3] => { results := [.lit (.bool true)], args := [d1, d2, d3] }
  | _ => none }
def boxReachedRow : OpenClaim := { program := "ythhfdfgfpjjceaa", sum := "3dde8cb7ab66a2149eeabf68c4a6a13c2cd4ef0d8f92dcc69d52e79c57cc2d83", func := "pennyfall/pennyfalllaw06.BoxReached", spec := "boxReached", unfollowed := true, recurses := true, plainKeys := false, apart := false }
def BoxReachedSaid : Prop := boxReachedRow.holds Try.pinned (OpenSpec.ofChange boxReachedSpec)

/-- ITS FALSE NEIGHBOUR: 'it returns false'. Refute it at one input. -/
def boxReachedWrong : ChangeSpec := { name := "boxReached", fn := fun _ => fun
  | [d1, d2, d3] => { results := [.lit (.bool false)], args := [d1, d2, d3] }
  | _ => none }
def BoxReachedWrongFalsely : Prop := boxReachedRow.holds Try.pinned (OpenSpec.ofChange boxReachedWrong)

/-- 'pennyfalllaw06.BoxNarrower': WHATEVER THE INPUT: true; the input reads as it did. -/
def boxNarrowerSpec : ChangeSpec := { name := "boxNarrower", fn := fun _ => fun
  | [d1, d2, d3, d4] => { results := [.lit (.bool true)], args := [d1, d2, d3, d4] }
  | _ => none }
def boxNarrowerRow : OpenClaim := { program := "ythhfdfgfpjjceaa", sum := "3dde8cb7ab66a2149eeabf68c4a6a13c2cd4ef0d8f92dcc69d52e79c57cc2d83", func := "pennyfall/pennyfalllaw06.BoxNarrower", spec := "boxNarrower", unfollowed := true, recurses := true, plainKeys := false, apart := false }
def BoxNarrowerSaid : Prop := boxNarrowerRow.holds Try.pinned (OpenSpec.ofChange boxNarrowerSpec)

/-- ITS FALSE NEIGHBOUR: 'it returns false'. Refute it at one input. -/
def boxNarrowerWrong : ChangeSpec := { name := "boxNarrower", fn := fun _ => fun
  | [d1, d2, d3, d4] => { results := [.lit (.bool false)], args := [d1, d2, d3, d4] }
  | _ => none }
def BoxNarrowerWrongFalsely : Prop := boxNarrowerRow.holds Try.pinned (OpenSpec.ofChange boxNarrowerWrong)

/-- 'pennyfalllaw06.BoxTurned': WHATEVER THE INPUT: true; the input reads as it did. -/
def boxTurnedSpec : ChangeSpec := { name := "boxTurned", fn := fun _ => fun
  | [d1, d2] => { results := [.lit (.bool true)], args := [d1, d2] }
  | _ => none }
def boxTurnedRow : OpenClaim := { program := "ythhfdfgfpjjceaa", sum := "3dde8cb7ab66a2149eeabf68c4a6a13c2cd4ef0d8f92dcc69d52e79c57cc2d83", func := "pennyfall/pennyfalllaw06.BoxTurned", spec := "boxTurned", unfollowed := true, recurses := true, plainKeys := false, apart := false }
def BoxTurnedSaid : Prop := boxTurnedRow.holds Try.pinned (OpenSpec.ofChange boxTurnedSpec)

/-- ITS FALSE NEIGHBOUR: 'it returns false'. Refute it at one input. -/
def boxTurnedWrong : ChangeSpec := { name := "boxTurned", fn := fun _ => fun
  | [d1, d2] => { results := [.lit (.bool false)], args := [d1, d2] }
  | _ => none }
def BoxTurnedWrongFalsely : Prop := boxTurnedRow.holds Try.pinned (OpenSpec.ofChange boxTurnedWrong)

/-- 'pennyfalllaw06.BoxTogether': WHATEVER THE INPUT: true; the input reads as it did. -/
def boxTogetherSpec : ChangeSpec := { name := "boxTogether", fn := fun _ => fun
  | [d1, d2, d3] => { results := [.lit (.bool true)], args := [d1, d2, d3] }
  | _ => none }
def boxTogetherRow : OpenClaim := { program := "ythhfdfgfpjjceaa", sum := "3dde8cb7ab66a2149eeabf68c4a6a13c2cd4ef0d8f92dcc69d52e79c57cc2d83", func := "pennyfall/pennyfalllaw06.BoxTogether", spec := "boxTogether", unfollowed := true, recurses := true, plainKeys := false, apart := false }
def BoxTogetherSaid : Prop := boxTogetherRow.holds Try.pinned (OpenSpec.ofChange boxTogetherSpec)

/-- ITS FALSE NEIGHBOUR: 'it returns false'. Refute it at one input. -/
def boxTogetherWrong : ChangeSpec := { name := "boxTogether", fn := fun _ => fun
  | [d1, d2, d3] => { results := [.lit (.bool false)], args := [d1, d2, d3] }
  | _ => none }
def BoxTogetherWrongFalsely : Prop := boxTogetherRow.holds Try.pinned (OpenSpec.ofChange boxTogetherWrong)

/-- 'pennyfalllaw06.BoxFarther': WHATEVER THE INPUT: true; the input reads as it did. -/
def boxFartherSpec : ChangeSpec := { name := "boxFarther", fn := fun _ => fun
  | [d1, d2] => { results := [.lit (.bool true)], args := [d1, d2] }
  | _ => none }
def boxFartherRow : OpenClaim := { program := "ythhfdfgfpjjceaa", sum := "3dde8cb7ab66a2149eeabf68c4a6a13c2cd4ef0d8f92dcc69d52e79c57cc2d83", func := "pennyfall/pennyfalllaw06.BoxFarther", spec := "boxFarther", unfollowed := true, recurses := true, plainKeys := false, apart := false }
def BoxFartherSaid : Prop := boxFartherRow.holds Try.pinned (OpenSpec.ofChange boxFartherSpec)

/-- ITS FALSE NEIGHBOUR: 'it returns false'. Refute it at one input. -/
def boxFartherWrong : ChangeSpec := { name := "boxFarther", fn := fun _ => fun
  | [d1, d2] => { results := [.lit (.bool false)], args := [d1, d2] }
  | _ => none }
def BoxFartherWrongFalsely : Prop := boxFartherRow.holds Try.pinned (OpenSpec.ofChange boxFartherWrong)

/-- 'pennyfalllaw06.BoxFewest': WHATEVER THE INPUT: true; the input reads as it did. -/
def boxFewestSpec : ChangeSpec := { name := "boxFewest", fn := fun _ => fun
  | [d1, d2, d3] => { results := [.lit (.bool true)], args := [d1, d2, d3] }
  | _ => none }
def boxFewestRow : OpenClaim := { program := "ythhfdfgfpjjceaa", sum := "3dde8cb7ab66a2149eeabf68c4a6a13c2cd4ef0d8f92dcc69d52e79c57cc2d83", func := "pennyfall/pennyfalllaw06.BoxFewest", spec := "boxFewest", unfollowed := true, recurses := true, plainKeys := false, apart := false }
def BoxFewestSaid : Prop := boxFewestRow.holds Try.pinned (OpenSpec.ofChange boxFewestSpec)

/-- ITS FALSE NEIGHBOUR: 'it returns false'. Refute it at one input. -/
def boxFewestWrong : ChangeSpec := { name := "boxFewest", fn := fun _ => fun
  | [d1, d2, d3] => { results := [.lit (.bool false)], args := [d1, d2, d3] }
  | _ => none }
def BoxFewestWrongFalsely : Prop := boxFewestRow.holds Try.pinned (OpenSpec.ofChange boxFewestWrong)

/-- 'pennyfalllaw06.BoxKnown': WHATEVER THE INPUT: true; the input reads as it did. -/
def boxKnownSpec : ChangeSpec := { name := "boxKnown", fn := fun _ => fun
  | [] => { results := [.lit (.bool true)], args := [] }
  | _ => none }
def boxKnownRow : OpenClaim := { program := "ythhfdfgfpjjceaa", sum := "3dde8cb7ab66a2149eeabf68c4a6a13c2cd4ef0d8f92dcc69d52e79c57cc2d83", func := "pennyfall/pennyfalllaw06.BoxKnown", spec := "boxKnown", unfollowed := true, recurses := true, plainKeys := false, apart := false }
def BoxKnownSaid : Prop := boxKnownRow.holds Try.pinned (OpenSpec.ofChange boxKnownSpec)

/-- ITS FALSE NEIGHBOUR: 'it returns false'. Refute it at one input. -/
def boxKnownWrong : ChangeSpec := { name := "boxKnown", fn := fun _ => fun
  | [] => { results := [.lit (.bool false)], args := [] }
  | _ => none }
def BoxKnownWrongFalsely : Prop := boxKnownRow.holds Try.pinned (OpenSpec.ofChange boxKnownWrong)

/- THE SECOND FORM. 'bulk': how many values and letters a reading holds, each counted each time it is reached (what is shared counts as often as it is met; a slice's spare places count too). A statement '..UptoSaid' is the law's where the arguments, and the package variables that the reading takes, are together of bulk at most 1048576: NARROWER than '..Said'. Prove '..Said' where nothing that the law and all that it calls make is longer than what came in: it says more and counts as full. Else prove '..UptoSaid'. A law counts once. -/
mutual
def uptoBulk {H : Type} : DataW H → Nat
  | .lit (.string bytes) => bytes.length + 1
  | .lit _ => 1
  | .nil => 1
  | .ptr d => uptoBulk d + 1
  | .slice elems spare => uptoBulkAll elems + uptoBulkAll spare + 1
  | .agg parts => uptoBulkAll parts + 1
  | .iface _ d => uptoBulk d + 1
  | .map entries => uptoBulkEntries entries + 1
  | .held _ => 1
def uptoBulkAll {H : Type} : List (DataW H) → Nat
  | [] => 0
  | d :: r => uptoBulk d + uptoBulkAll r
def uptoBulkEntries {H : Type} : List (Lit × DataW H) → Nat
  | [] => 0
  | x :: r => uptoBulkEntry x + uptoBulkEntries r
def uptoBulkEntry {H : Type} : Lit × DataW H → Nat
  | (.string bytes, d) => bytes.length + uptoBulk d + 1
  | (_, d) => uptoBulk d + 1
 end
def uptoSmall : (H : Type) → List (DataW H) → Bool := fun _ ds => decide (uptoBulkAll ds ≤ 1048576)
def OpenSpec.upto (s : _root_.Go.ChangeSpec) : _root_.Go.OpenSpec := { _root_.Go.OpenSpec.ofChange s with cond := some uptoSmall }

/-- 'pennyfalllaw06.BoxHalls', WHERE WHAT IT READS IS OF BULK AT MOST 1048576: true; the input reads as it did. -/
def boxHallsUptoRow : OpenClaim := { program := "ythhfdfgfpjjceaa", sum := "3dde8cb7ab66a2149eeabf68c4a6a13c2cd4ef0d8f92dcc69d52e79c57cc2d83", func := "pennyfall/pennyfalllaw06.BoxHalls", spec := "boxHalls", unfollowed := true, recurses := true, plainKeys := false, apart := false, narrowed := true }
def BoxHallsUptoSaid : Prop := boxHallsUptoRow.holds Try.pinned (OpenSpec.upto boxHallsSpec)

/-- 'pennyfalllaw06.BoxParts', WHERE WHAT IT READS IS OF BULK AT MOST 1048576: true; the input reads as it did. -/
def boxPartsUptoRow : OpenClaim := { program := "ythhfdfgfpjjceaa", sum := "3dde8cb7ab66a2149eeabf68c4a6a13c2cd4ef0d8f92dcc69d52e79c57cc2d83", func := "pennyfall/pennyfalllaw06.BoxParts", spec := "boxParts", unfollowed := true, recurses := true, plainKeys := false, apart := false, narrowed := true }
def BoxPartsUptoSaid : Prop := boxPartsUptoRow.holds Try.pinned (OpenSpec.upto boxPartsSpec)

/-- 'pennyfalllaw06.BoxSpans', WHERE WHAT IT READS IS OF BULK AT MOST 1048576: true; the input reads as it did. -/
def boxSpansUptoRow : OpenClaim := { program := "ythhfdfgfpjjceaa", sum := "3dde8cb7ab66a2149eeabf68c4a6a13c2cd4ef0d8f92dcc69d52e79c57cc2d83", func := "pennyfall/pennyfalllaw06.BoxSpans", spec := "boxSpans", unfollowed := true, recurses := true, plainKeys := false, apart := false, narrowed := true }
def BoxSpansUptoSaid : Prop := boxSpansUptoRow.holds Try.pinned (OpenSpec.upto boxSpansSpec)

/-- 'pennyfalllaw06.BoxWrongs', WHERE WHAT IT READS IS OF BULK AT MOST 1048576: true; the input reads as it did. -/
def boxWrongsUptoRow : OpenClaim := { program := "ythhfdfgfpjjceaa", sum := "3dde8cb7ab66a2149eeabf68c4a6a13c2cd4ef0d8f92dcc69d52e79c57cc2d83", func := "pennyfall/pennyfalllaw06.BoxWrongs", spec := "boxWrongs", unfollowed := true, recurses := true, plainKeys := false, apart := false, narrowed := true }
def BoxWrongsUptoSaid : Prop := boxWrongsUptoRow.holds Try.pinned (OpenSpec.upto boxWrongsSpec)

/-- 'pennyfalllaw06.BoxEither', WHERE WHAT IT READS IS OF BULK AT MOST 1048576: true; the input reads as it did. -/
def boxEitherUptoRow : OpenClaim := { program := "ythhfdfgfpjjceaa", sum := "3dde8cb7ab66a2149eeabf68c4a6a13c2cd4ef0d8f92dcc69d52e79c57cc2d83", func := "pennyfall/pennyfalllaw06.BoxEither", spec := "boxEither", unfollowed := true, recurses := true, plainKeys := false, apart := false, narrowed := true }
def BoxEitherUptoSaid : Prop := boxEitherUptoRow.holds Try.pinned (OpenSpec.upto boxEitherSpec)

/-- 'pennyfalllaw06.BoxHeld', WHERE WHAT IT READS IS OF BULK AT MOST 1048576: true; the input reads as it did. -/
def boxHeldUptoRow : OpenClaim := { program := "ythhfdfgfpjjceaa", sum := "3dde8cb7ab66a2149eeabf68c4a6a13c2cd4ef0d8f92dcc69d52e79c57cc2d83", func := "pennyfall/pennyfalllaw06.BoxHeld", spec := "boxHeld", unfollowed := true, recurses := true, plainKeys := false, apart := false, narrowed := true }
def BoxHeldUptoSaid : Prop := boxHeldUptoRow.holds Try.pinned (OpenSpec.upto boxHeldSpec)

/-- 'pennyfalllaw06.BoxReached', WHERE WHAT IT READS IS OF BULK AT MOST 1048576: true; the input reads as it did. -/
def boxReachedUptoRow : OpenClaim := { program := "ythhfdfgfpjjceaa", sum := "3dde8cb7ab66a2149eeabf68c4a6a13c2cd4ef0d8f92dcc69d52e79c57cc2d83", func := "pennyfall/pennyfalllaw06.BoxReached", spec := "boxReached", unfollowed := true, recurses := true, plainKeys := false, apart := false, narrowed := true }
def BoxReachedUptoSaid : Prop := boxReachedUptoRow.holds Try.pinned (OpenSpec.upto boxReachedSpec)

/-- 'pennyfalllaw06.BoxNarrower', WHERE WHAT IT READS IS OF BULK AT MOST 1048576: true; the input reads as it did. -/
def boxNarrowerUptoRow : OpenClaim := { program := "ythhfdfgfpjjceaa", sum := "3dde8cb7ab66a2149eeabf68c4a6a13c2cd4ef0d8f92dcc69d52e79c57cc2d83", func := "pennyfall/pennyfalllaw06.BoxNarrower", spec := "boxNarrower", unfollowed := true, recurses := true, plainKeys := false, apart := false, narrowed := true }
def BoxNarrowerUptoSaid : Prop := boxNarrowerUptoRow.holds Try.pinned (OpenSpec.upto boxNarrowerSpec)

/-- 'pennyfalllaw06.BoxTurned', WHERE WHAT IT READS IS OF BULK AT MOST 1048576: true; the input reads as it did. -/
def boxTurnedUptoRow : OpenClaim := { program := "ythhfdfgfpjjceaa", sum := "3dde8cb7ab66a2149eeabf68c4a6a13c2cd4ef0d8f92dcc69d52e79c57cc2d83", func := "pennyfall/pennyfalllaw06.BoxTurned", spec := "boxTurned", unfollowed := true, recurses := true, plainKeys := false, apart := false, narrowed := true }
def BoxTurnedUptoSaid : Prop := boxTurnedUptoRow.holds Try.pinned (OpenSpec.upto boxTurnedSpec)

/-- 'pennyfalllaw06.BoxTogether', WHERE WHAT IT READS IS OF BULK AT MOST 1048576: true; the input reads as it did. -/
def boxTogetherUptoRow : OpenClaim := { program := "ythhfdfgfpjjceaa", sum := "3dde8cb7ab66a2149eeabf68c4a6a13c2cd4ef0d8f92dcc69d52e79c57cc2d83", func := "pennyfall/pennyfalllaw06.BoxTogether", spec := "boxTogether", unfollowed := true, recurses := true, plainKeys := false, apart := false, narrowed := true }
def BoxTogetherUptoSaid : Prop := boxTogetherUptoRow.holds Try.pinned (OpenSpec.upto boxTogetherSpec)

/-- 'pennyfalllaw06.BoxFarther', WHERE WHAT IT READS IS OF BULK AT MOST 1048576: true; the input reads as it did. -/
def boxFartherUptoRow : OpenClaim := { program := "ythhfdfgfpjjceaa", sum := "3dde8cb7ab66a2149eeabf68c4a6a13c2cd4ef0d8f92dcc69d52e79c57cc2d83", func := "pennyfall/pennyfalllaw06.BoxFarther", spec := "boxFarther", unfollowed := true, recurses := true, plainKeys := false, apart := false, narrowed := true }
def BoxFartherUptoSaid : Prop := boxFartherUptoRow.holds Try.pinned (OpenSpec.upto boxFartherSpec)

/-- 'pennyfalllaw06.BoxFewest', WHERE WHAT IT READS IS OF BULK AT MOST 1048576: true; the input reads as it did. -/
def boxFewestUptoRow : OpenClaim := { program := "ythhfdfgfpjjceaa", sum := "3dde8cb7ab66a2149eeabf68c4a6a13c2cd4ef0d8f92dcc69d52e79c57cc2d83", func := "pennyfall/pennyfalllaw06.BoxFewest", spec := "boxFewest", unfollowed := true, recurses := true, plainKeys := false, apart := false, narrowed := true }
def BoxFewestUptoSaid : Prop := boxFewestUptoRow.holds Try.pinned (OpenSpec.upto boxFewestSpec)

/-- 'pennyfalllaw06.BoxKnown', WHERE WHAT IT READS IS OF BULK AT MOST 1048576: true; the input reads as it did. -/
def boxKnownUptoRow : OpenClaim := { program := "ythhfdfgfpjjceaa", sum := "3dde8cb7ab66a2149eeabf68c4a6a13c2cd4ef0d8f92dcc69d52e79c57cc2d83", func := "pennyfall/pennyfalllaw06.BoxKnown", spec := "boxKnown", unfollowed := true, recurses := true, plainKeys := false, apart := false, narrowed := true }
def BoxKnownUptoSaid : Prop := boxKnownUptoRow.holds Try.pinned (OpenSpec.upto boxKnownSpec)

end Rows
end Go.Proofs.Ythhfdfgfpjjceaa
