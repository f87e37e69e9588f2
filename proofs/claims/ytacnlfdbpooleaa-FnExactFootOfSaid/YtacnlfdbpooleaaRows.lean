/-
  No cell of these rows narrows 'for every input' (looked for: loops, veiled, ifaces, maps, wideKeys, modest, calm, conditions, laid).
  DERIVED. THE GIVEN ROWS OF THIS SEAT. 12 by the template 'for every input the law returns true; each argument reads behind the call as it read before'; 0 by the template 'total and deterministic' (their statements: YtacnlfdbpooleaaTotals.lean).
  GIVEN WITH THE SEED: the statements are not yours to turn. If you find one false, say at which input.
  Laid BY PROGRAM, IN A SANDBOX (cutbox-rows.mjs): the forced cells as the released guide's own fill.sh prints them over the translation 749da4914bf05cd5… (all of the seat's roots in one cut). By AI agents, Wed Nov 11 2026. No macro, syntax, notation, axiom, sorry.
-/
import Derived.Test.YtacnlfdbpooleaaChecked
import GoSem.Claim
import GoSem.ClaimJoined
import GoSem.ClaimMapViews
import Derived.JoinedTies
import Derived.KernelRfl
namespace Go.Proofs.Ytacnlfdbpooleaa
/- THE CELL 'sum', in the pinned program and in every row, IS THE sha256 OF THE DUMP (.gsa) THAT YtacnlfdbpooleaaProg.lean LOADS. Nothing in Lean hashes anything: it is a label: what it is worth is what the hold of that sum in a sandbox is worth. -/
noncomputable def Try.pinned : Pinned := { name := "ytacnlfdbpooleaa", sum := "749da4914bf05cd5df9f86896e7af949e49dc796b320954be6087f4798a15505", checked := Try.checked }
namespace Rows
def none {H : Type} : Left H := { results := [], args := [] }

/-- 'laws.FnExactAreCollinear': WHATEVER THE INPUT: true; the input reads as it did. -/
def fnExactAreCollinearSpec : ChangeSpec := { name := "fnExactAreCollinear", fn := fun _ => fun
  | [d1, d2, d3, d4] => { results := [.lit (.bool true)], args := [d1, d2, d3, d4] }
  | _ => none }
def fnExactAreCollinearRow : OpenClaim := { program := "ytacnlfdbpooleaa", sum := "749da4914bf05cd5df9f86896e7af949e49dc796b320954be6087f4798a15505", func := "loop.example/g01370/laws.FnExactAreCollinear", spec := "fnExactAreCollinear", plainKeys := false, apart := false }
def FnExactAreCollinearSaid : Prop := fnExactAreCollinearRow.holds Try.pinned (OpenSpec.ofChange fnExactAreCollinearSpec)

/-- ITS FALSE NEIGHBOUR: 'it returns false'. Refute it at one input. -/
def fnExactAreCollinearWrong : ChangeSpec := { name := "fnExactAreCollinear", fn := fun _ => fun
  | [d1, d2, d3, d4] => { results := [.lit (.bool false)], args := [d1, d2, d3, d4] }
  | _ => none }
def FnExactAreCollinearWrongFalsely : Prop := fnExactAreCollinearRow.holds Try.pinned (OpenSpec.ofChange fnExactAreCollinearWrong)

/-- 'laws.FnExactMidpointOf': WHATEVER THE INPUT: true; the input reads as it did. -/
def fnExactMidpointOfSpec : ChangeSpec := { name := "fnExactMidpointOf", fn := fun _ => fun
  | [d1, d2, d3] => { results := [.lit (.bool true)], args := [d1, d2, d3] }
  | _ => none }
def fnExactMidpointOfRow : OpenClaim := { program := "ytacnlfdbpooleaa", sum := "749da4914bf05cd5df9f86896e7af949e49dc796b320954be6087f4798a15505", func := "loop.example/g01370/laws.FnExactMidpointOf", spec := "fnExactMidpointOf", plainKeys := false, apart := false }
def FnExactMidpointOfSaid : Prop := fnExactMidpointOfRow.holds Try.pinned (OpenSpec.ofChange fnExactMidpointOfSpec)

/-- ITS FALSE NEIGHBOUR: 'it returns false'. Refute it at one input. -/
def fnExactMidpointOfWrong : ChangeSpec := { name := "fnExactMidpointOf", fn := fun _ => fun
  | [d1, d2, d3] => { results := [.lit (.bool false)], args := [d1, d2, d3] }
  | _ => none }
def FnExactMidpointOfWrongFalsely : Prop := fnExactMidpointOfRow.holds Try.pinned (OpenSpec.ofChange fnExactMidpointOfWrong)

/-- 'laws.FnExactCombinationOf': WHATEVER THE INPUT: true; the input reads as it did. -/
def fnExactCombinationOfSpec : ChangeSpec := { name := "fnExactCombinationOf", fn := fun _ => fun
  | [d1, d2, d3, d4] => { results := [.lit (.bool true)], args := [d1, d2, d3, d4] }
  | _ => none }
def fnExactCombinationOfRow : OpenClaim := { program := "ytacnlfdbpooleaa", sum := "749da4914bf05cd5df9f86896e7af949e49dc796b320954be6087f4798a15505", func := "loop.example/g01370/laws.FnExactCombinationOf", spec := "fnExactCombinationOf", plainKeys := false, apart := false }
def FnExactCombinationOfSaid : Prop := fnExactCombinationOfRow.holds Try.pinned (OpenSpec.ofChange fnExactCombinationOfSpec)

/-- ITS FALSE NEIGHBOUR: 'it returns false'. Refute it at one input. -/
def fnExactCombinationOfWrong : ChangeSpec := { name := "fnExactCombinationOf", fn := fun _ => fun
  | [d1, d2, d3, d4] => { results := [.lit (.bool false)], args := [d1, d2, d3, d4] }
  | _ => none }
def FnExactCombinationOfWrongFalsely : Prop := fnExactCombinationOfRow.holds Try.pinned (OpenSpec.ofChange fnExactCombinationOfWrong)

/-- 'laws.FnExactProductOf': WHATEVER THE INPUT: true; the input reads as it did. -/
def fnExactProductOfSpec : ChangeSpec := { name := "fnExactProductOf", fn := fun _ => fun
  | [d1, d2, d3, d4] => { results := [.lit (.bool true)], args := [d1, d2, d3, d4] }
  | _ => none }
def fnExactProductOfRow : OpenClaim := { program := "ytacnlfdbpooleaa", sum := "749da4914bf05cd5df9f86896e7af949e49dc796b320954be6087f4798a15505", func := "loop.example/g01370/laws.FnExactProductOf", spec := "fnExactProductOf", unfollowed := true, recurses := true, plainKeys := false, apart := false }
def FnExactProductOfSaid : Prop := fnExactProductOfRow.holds Try.pinned (OpenSpec.ofChange fnExactProductOfSpec)

/-- ITS FALSE NEIGHBOUR: 'it returns false'. Refute it at one input. -/
def fnExactProductOfWrong : ChangeSpec := { name := "fnExactProductOf", fn := fun _ => fun
  | [d1, d2, d3, d4] => { results := [.lit (.bool false)], args := [d1, d2, d3, d4] }
  | _ => none }
def FnExactProductOfWrongFalsely : Prop := fnExactProductOfRow.holds Try.pinned (OpenSpec.ofChange fnExactProductOfWrong)

/-- 'laws.FnExactQuadrance': WHATEVER THE INPUT: true; the input reads as it did. -/
def fnExactQuadranceSpec : ChangeSpec := { name := "fnExactQuadrance", fn := fun _ => fun
  | [d1, d2, d3, d4] => { results := [.lit (.bool true)], args := [d1, d2, d3, d4] }
  | _ => none }
def fnExactQuadranceRow : OpenClaim := { program := "ytacnlfdbpooleaa", sum := "749da4914bf05cd5df9f86896e7af949e49dc796b320954be6087f4798a15505", func := "loop.example/g01370/laws.FnExactQuadrance", spec := "fnExactQuadrance", unfollowed := true, recurses := true, plainKeys := false, apart := false }
def FnExactQuadranceSaid : Prop := fnExactQuadranceRow.holds Try.pinned (OpenSpec.ofChange fnExactQuadranceSpec)

/-- ITS FALSE NEIGHBOUR: 'it returns false'. Refute it at one input. -/
def fnExactQuadranceWrong : ChangeSpec := { name := "fnExactQuadrance", fn := fun _ => fun
  | [d1, d2, d3, d4] => { results := [.lit (.bool false)], args := [d1, d2, d3, d4] }
  | _ => none }
def FnExactQuadranceWrongFalsely : Prop := fnExactQuadranceRow.holds Try.pinned (OpenSpec.ofChange fnExactQuadranceWrong)

/-- 'laws.FnExactArePerpendicular': WHATEVER THE INPUT: true; the input reads as it did. -/
def fnExactArePerpendicularSpec : ChangeSpec := { name := "fnExactArePerpendicular", fn := fun _ => fun
  | [d1, d2, d3, d4] => { results := [.lit (.bool true)], args := [d1, d2, d3, d4] }
  | _ => none }
def fnExactArePerpendicularRow : OpenClaim := { program := "ytacnlfdbpooleaa", sum := "749da4914bf05cd5df9f86896e7af949e49dc796b320954be6087f4798a15505", func := "loop.example/g01370/laws.FnExactArePerpendicular", spec := "fnExactArePerpendicular", unfollowed := true, recurses := true, plainKeys := false, apart := false }
def FnExactArePerpendicularSaid : Prop := fnExactArePerpendicularRow.holds Try.pinned (OpenSpec.ofChange fnExactArePerpendicularSpec)

/-- ITS FALSE NEIGHBOUR: 'it returns false'. Refute it at one input. -/
def fnExactArePerpendicularWrong : ChangeSpec := { name := "fnExactArePerpendicular", fn := fun _ => fun
  | [d1, d2, d3, d4] => { results := [.lit (.bool false)], args := [d1, d2, d3, d4] }
  | _ => none }
def FnExactArePerpendicularWrongFalsely : Prop := fnExactArePerpendicularRow.holds Try.pinned (OpenSpec.ofChange fnExactArePerpendicularWrong)

/-- 'laws.FnExactPerpendicularThrough': WHATEVER THE INPUT: true; the input reads as it did. -/
def fnExactPerpendicularThroughSpec : ChangeSpec := { name := "fnExactPerpendicularThrough", fn := fun _ => fun
  | [d1, d2, d3, d4] => { results := [.lit (.bool true)], args := [d1, d2, d3, d4] }
  | _ => none }
def fnExactPerpendicularThroughRow : OpenClaim := { program := "ytacnlfdbpooleaa", sum := "749da4914bf05cd5df9f86896e7af949e49dc796b320954be6087f4798a15505", func := "loop.example/g01370/laws.FnExactPerpendicularThrough", spec := "fnExactPerpendicularThrough", unfollowed := true, recurses := true, plainKeys := false, apart := false }
def FnExactPerpendicularThroughSaid : Prop := fnExactPerpendicularThroughRow.holds Try.pinned (OpenSpec.ofChange fnExactPerpendicularThroughSpec)

/-- ITS FALSE NEIGHBOUR: 'it returns false'. Refute it at one input. -/
def fnExactPerpendicularThroughWrong : ChangeSpec := { name := "fnExactPerpendicularThrough", fn := fun _ => fun
  | [d1, d2, d3, d4] => { results := [.lit (.bool false)], args := [d1, d2, d3, d4] }
  | _ => none }
def FnExactPerpendicularThroughWrongFalsely : Prop := fnExactPerpendicularThroughRow.holds Try.pinned (OpenSpec.ofChange fnExactPerpendicularThroughWrong)

/-- 'laws.FnExactIsNullLine': WHATEVER THE INPUT: true; the input reads as it did. -/
def fnExactIsNullLineSpec : ChangeSpec := { name := "fnExactIsNullLine", fn := fun _ => fun
  | [d1, d2, d3] => { results := [.lit (.bool true)], args := [d1, d2, d3] }
  | _ => none }
def fnExactIsNullLineRow : OpenClaim := { program := "ytacnlfdbpooleaa", sum := "749da4914bf05cd5df9f86896e7af949e49dc796b320954be6087f4798a15505", func := "loop.example/g01370/laws.FnExactIsNullLine", spec := "fnExactIsNullLine", unfollowed := true, recurses := true, plainKeys := false, apart := false }
def FnExactIsNullLineSaid : Prop := fnExactIsNullLineRow.holds Try.pinned (OpenSpec.ofChange fnExactIsNullLineSpec)

/-- ITS FALSE NEIGHBOUR: 'it returns false'. Refute it at one input. -/
def fnExactIsNullLineWrong : ChangeSpec := { name := "fnExactIsNullLine", fn := fun _ => fun
  | [d1, d2, d3] => { results := [.lit (.bool false)], args := [d1, d2, d3] }
  | _ => none }
def FnExactIsNullLineWrongFalsely : Prop := fnExactIsNullLineRow.holds Try.pinned (OpenSpec.ofChange fnExactIsNullLineWrong)

/-- 'laws.FnExactFootOf': WHATEVER THE INPUT: true; the input reads as it did. -/
def fnExactFootOfSpec : ChangeSpec := { name := "fnExactFootOf", fn := fun _ => fun
  | [d1, d2, d3, d4] => { results := [.lit (.bool true)], args := [d1, d2, d3, d4] }
  | _ => none }
def fnExactFootOfRow : OpenClaim := { program := "ytacnlfdbpooleaa", sum := "749da4914bf05cd5df9f86896e7af949e49dc796b320954be6087f4798a15505", func := "loop.example/g01370/laws.FnExactFootOf", spec := "fnExactFootOf", unfollowed := true, recurses := true, plainKeys := false, apart := false }
def FnExactFootOfSaid : Prop := fnExactFootOfRow.holds Try.pinned (OpenSpec.ofChange fnExactFootOfSpec)

/-- ITS FALSE NEIGHBOUR: 'it returns false'. Refute it at one input. -/
def fnExactFootOfWrong : ChangeSpec := { name := "fnExactFootOf", fn := fun _ => fun
  | [d1, d2, d3, d4] => { results := [.lit (.bool false)], args := [d1, d2, d3, d4] }
  | _ => none }
def FnExactFootOfWrongFalsely : Prop := fnExactFootOfRow.holds Try.pinned (OpenSpec.ofChange fnExactFootOfWrong)

/-- 'laws.FnExactArchimedesOf': WHATEVER THE INPUT: true; the input reads as it did. -/
def fnExactArchimedesOfSpec : ChangeSpec := { name := "fnExactArchimedesOf", fn := fun _ => fun
  | [d1, d2, d3, d4] => { results := [.lit (.bool true)], args := [d1, d2, d3, d4] }
  | _ => none }
def fnExactArchimedesOfRow : OpenClaim := { program := "ytacnlfdbpooleaa", sum := "749da4914bf05cd5df9f86896e7af949e49dc796b320954be6087f4798a15505", func := "loop.example/g01370/laws.FnExactArchimedesOf", spec := "fnExactArchimedesOf", plainKeys := false, apart := false }
def FnExactArchimedesOfSaid : Prop := fnExactArchimedesOfRow.holds Try.pinned (OpenSpec.ofChange fnExactArchimedesOfSpec)

/-- ITS FALSE NEIGHBOUR: 'it returns false'. Refute it at one input. -/
def fnExactArchimedesOfWrong : ChangeSpec := { name := "fnExactArchimedesOf", fn := fun _ => fun
  | [d1, d2, d3, d4] => { results := [.lit (.bool false)], args := [d1, d2, d3, d4] }
  | _ => none }
def FnExactArchimedesOfWrongFalsely : Prop := fnExactArchimedesOfRow.holds Try.pinned (OpenSpec.ofChange fnExactArchimedesOfWrong)

/-- 'laws.FnExactHasRightAngle': WHATEVER THE INPUT: true; the input reads as it did. -/
def fnExactHasRightAngleSpec : ChangeSpec := { name := "fnExactHasRightAngle", fn := fun _ => fun
  | [d1, d2, d3, d4, d5] => { results := [.lit (.bool true)], args := [d1, d2, d3, d4, d5] }
  | _ => none }
def fnExactHasRightAngleRow : OpenClaim := { program := "ytacnlfdbpooleaa", sum := "749da4914bf05cd5df9f86896e7af949e49dc796b320954be6087f4798a15505", func := "loop.example/g01370/laws.FnExactHasRightAngle", spec := "fnExactHasRightAngle", unfollowed := true, recurses := true, plainKeys := false, apart := false }
def FnExactHasRightAngleSaid : Prop := fnExactHasRightAngleRow.holds Try.pinned (OpenSpec.ofChange fnExactHasRightAngleSpec)

/-- ITS FALSE NEIGHBOUR: 'it returns false'. Refute it at one input. -/
def fnExactHasRightAngleWrong : ChangeSpec := { name := "fnExactHasRightAngle", fn := fun _ => fun
  | [d1, d2, d3, d4, d5] => { results := [.lit (.bool false)], args := [d1, d2, d3, d4, d5] }
  | _ => none }
def FnExactHasRightAngleWrongFalsely : Prop := fnExactHasRightAngleRow.holds Try.pinned (OpenSpec.ofChange fnExactHasRightAngleWrong)

/-- 'laws.FnExactCountAt': WHATEVER THE INPUT: true; the input reads as it did. -/
def fnExactCountAtSpec : ChangeSpec := { name := "fnExactCountAt", fn := fun _ => fun
  | [d1, d2, d3] => { results := [.lit (.bool true)], args := [d1, d2, d3] }
  | _ => none }
def fnExactCountAtRow : OpenClaim := { program := "ytacnlfdbpooleaa", sum := "749da4914bf05cd5df9f86896e7af949e49dc796b320954be6087f4798a15505", func := "loop.example/g01370/laws.FnExactCountAt", spec := "fnExactCountAt", unfollowed := true, recurses := true, plainKeys := false, apart := false }
def FnExactCountAtSaid : Prop := fnExactCountAtRow.holds Try.pinned (OpenSpec.ofChange fnExactCountAtSpec)

/-- ITS FALSE NEIGHBOUR: 'it returns false'. Refute it at one input. -/
def fnExactCountAtWrong : ChangeSpec := { name := "fnExactCountAt", fn := fun _ => fun
  | [d1, d2, d3] => { results := [.lit (.bool false)], args := [d1, d2, d3] }
  | _ => none }
def FnExactCountAtWrongFalsely : Prop := fnExactCountAtRow.holds Try.pinned (OpenSpec.ofChange fnExactCountAtWrong)

/- THE SECOND FORM. 'bulk': how many values and letters a reading holds, each counted each time it is reached (what is shared counts as often as it is met; a slice's spare places count too). A statement '..UptoSaid' is the law's where the arguments, and the package variables that the reading takes, are together of bulk at most 1048576: NARROWER than '..Said'. Prove '..Said' where nothing that the law and all that it calls make is longer than what came in: it says more and counts as full. Else prove '..UptoSaid'. A law counts once. -/
mutual
def uptoBulk {H : Type} : DataW H → Nat
  | .lit (.string bytes) => bytes.length + 1
  | .lit _ => 1
  | .nil => 1
  | .ptr d => uptoBulk d + 1
  | .slice elems spare => uptoBulkAll elems + uptoBulkAll spare + 1
  | .agg parts => uptoBulkAll parts + 1
  | .iface _ d => uptoBulk d + 1
  | .map entries => uptoBulkEntries entries + 1
  | .held _ => 1
def uptoBulkAll {H : Type} : List (DataW H) → Nat
  | [] => 0
  | d :: r => uptoBulk d + uptoBulkAll r
def uptoBulkEntries {H : Type} : List (Lit × DataW H) → Nat
  | [] => 0
  | x :: r => uptoBulkEntry x + uptoBulkEntries r
def uptoBulkEntry {H : Type} : Lit × DataW H → Nat
  | (.string bytes, d) => bytes.length + uptoBulk d + 1
  | (_, d) => uptoBulk d + 1
 end
def uptoSmall : (H : Type) → List (DataW H) → Bool := fun _ ds => decide (uptoBulkAll ds ≤ 1048576)
def OpenSpec.upto (s : _root_.Go.ChangeSpec) : _root_.Go.OpenSpec := { _root_.Go.OpenSpec.ofChange s with cond := some uptoSmall }

/-- 'laws.FnExactAreCollinear', WHERE WHAT IT READS IS OF BULK AT MOST 1048576: true; the input reads as it did. -/
def fnExactAreCollinearUptoRow : OpenClaim := { program := "ytacnlfdbpooleaa", sum := "749da4914bf05cd5df9f86896e7af949e49dc796b320954be6087f4798a15505", func := "loop.example/g01370/laws.FnExactAreCollinear", spec := "fnExactAreCollinear", plainKeys := false, apart := false, narrowed := true }
def FnExactAreCollinearUptoSaid : Prop := fnExactAreCollinearUptoRow.holds Try.pinned (OpenSpec.upto fnExactAreCollinearSpec)

/-- 'laws.FnExactMidpointOf', WHERE WHAT IT READS IS OF BULK AT MOST 1048576: true; the input reads as it did. -/
def fnExactMidpointOfUptoRow : OpenClaim := { program := "ytacnlfdbpooleaa", sum := "749da4914bf05cd5df9f86896e7af949e49dc796b320954be6087f4798a15505", func := "loop.example/g01370/laws.FnExactMidpointOf", spec := "fnExactMidpointOf", plainKeys := false, apart := false, narrowed := true }
def FnExactMidpointOfUptoSaid : Prop := fnExactMidpointOfUptoRow.holds Try.pinned (OpenSpec.upto fnExactMidpointOfSpec)

/-- 'laws.FnExactCombinationOf', WHERE WHAT IT READS IS OF BULK AT MOST 1048576: true; the input reads as it did. -/
def fnExactCombinationOfUptoRow : OpenClaim := { program := "ytacnlfdbpooleaa", sum := "749da4914bf05cd5df9f86896e7af949e49dc796b320954be6087f4798a15505", func := "loop.example/g01370/laws.FnExactCombinationOf", spec := "fnExactCombinationOf", plainKeys := false, apart := false, narrowed := true }
def FnExactCombinationOfUptoSaid : Prop := fnExactCombinationOfUptoRow.holds Try.pinned (OpenSpec.upto fnExactCombinationOfSpec)

/-- 'laws.FnExactProductOf', WHERE WHAT IT READS IS OF BULK AT MOST 1048576: true; the input reads as it did. -/
def fnExactProductOfUptoRow : OpenClaim := { program := "ytacnlfdbpooleaa", sum := "749da4914bf05cd5df9f86896e7af949e49dc796b320954be6087f4798a15505", func := "loop.example/g01370/laws.FnExactProductOf", spec := "fnExactProductOf", unfollowed := true, recurses := true, plainKeys := false, apart := false, narrowed := true }
def FnExactProductOfUptoSaid : Prop := fnExactProductOfUptoRow.holds Try.pinned (OpenSpec.upto fnExactProductOfSpec)

/-- 'laws.FnExactQuadrance', WHERE WHAT IT READS IS OF BULK AT MOST 1048576: true; the input reads as it did. -/
def fnExactQuadranceUptoRow : OpenClaim := { program := "ytacnlfdbpooleaa", sum := "749da4914bf05cd5df9f86896e7af949e49dc796b320954be6087f4798a15505", func := "loop.example/g01370/laws.FnExactQuadrance", spec := "fnExactQuadrance", unfollowed := true, recurses := true, plainKeys := false, apart := false, narrowed := true }
def FnExactQuadranceUptoSaid : Prop := fnExactQuadranceUptoRow.holds Try.pinned (OpenSpec.upto fnExactQuadranceSpec)

/-- 'laws.FnExactArePerpendicular', WHERE WHAT IT READS IS OF BULK AT MOST 1048576: true; the input reads as it did. -/
def fnExactArePerpendicularUptoRow : OpenClaim := { program := "ytacnlfdbpooleaa", sum := "749da4914bf05cd5df9f86896e7af949e49dc796b320954be6087f4798a15505", func := "loop.example/g01370/laws.FnExactArePerpendicular", spec := "fnExactArePerpendicular", unfollowed := true, recurses := true, plainKeys := false, apart := false, narrowed := true }
def FnExactArePerpendicularUptoSaid : Prop := fnExactArePerpendicularUptoRow.holds Try.pinned (OpenSpec.upto fnExactArePerpendicularSpec)

/-- 'laws.FnExactPerpendicularThrough', WHERE WHAT IT READS IS OF BULK AT MOST 1048576: true; the input reads as it did. -/
def fnExactPerpendicularThroughUptoRow : OpenClaim := { program := "ytacnlfdbpooleaa", sum := "749da4914bf05cd5df9f86896e7af949e49dc796b320954be6087f4798a15505", func := "loop.example/g01370/laws.FnExactPerpendicularThrough", spec := "fnExactPerpendicularThrough", unfollowed := true, recurses := true, plainKeys := false, apart := false, narrowed := true }
def FnExactPerpendicularThroughUptoSaid : Prop := fnExactPerpendicularThroughUptoRow.holds Try.pinned (OpenSpec.upto fnExactPerpendicularThroughSpec)

/-- 'laws.FnExactIsNullLine', WHERE WHAT IT READS IS OF BULK AT MOST 1048576: true; the input reads as it did. -/
def fnExactIsNullLineUptoRow : OpenClaim := { program := "ytacnlfdbpooleaa", sum := "749da4914bf05cd5df9f86896e7af949e49dc796b320954be6087f4798a15505", func := "loop.example/g01370/laws.FnExactIsNullLine", spec := "fnExactIsNullLine", unfollowed := true, recurses := true, plainKeys := false, apart := false, narrowed := true }
def FnExactIsNullLineUptoSaid : Prop := fnExactIsNullLineUptoRow.holds Try.pinned (OpenSpec.upto fnExactIsNullLineSpec)

/-- 'laws.FnExactFootOf', WHERE WHAT IT READS IS OF BULK AT MOST 1048576: true; the input reads as it did. -/
def fnExactFootOfUptoRow : OpenClaim := { program := "ytacnlfdbpooleaa", sum := "749da4914bf05cd5df9f86896e7af949e49dc796b320954be6087f4798a15505", func := "loop.example/g01370/laws.FnExactFootOf", spec := "fnExactFootOf", unfollowed := true, recurses := true, plainKeys := false, apart := false, narrowed := true }
def FnExactFootOfUptoSaid : Prop := fnExactFootOfUptoRow.holds Try.pinned (OpenSpec.upto fnExactFootOfSpec)

/-- 'laws.FnExactArchimedesOf', WHERE WHAT IT READS IS OF BULK AT MOST 1048576: true; the input reads as it did. -/
def fnExactArchimedesOfUptoRow : OpenClaim := { program := "ytacnlfdbpooleaa", sum := "749da4914bf05cd5df9f86896e7af949e49dc796b320954be6087f4798a15505", func := "loop.example/g01370/laws.FnExactArchimedesOf", spec := "fnExactArchimedesOf", plainKeys := false, apart := false, narrowed := true }
def FnExactArchimedesOfUptoSaid : Prop := fnExactArchimedesOfUptoRow.holds Try.pinned (OpenSpec.upto fnExactArchimedesOfSpec)

/-- 'laws.FnExactHasRightAngle', WHERE WHAT IT READS IS OF BULK AT MOST 1048576: true; the input reads as it did. -/
def fnExactHasRightAngleUptoRow : OpenClaim := { program := "ytacnlfdbpooleaa", sum := "749da4914bf05cd5df9f86896e7af949e49dc796b320954be6087f4798a15505", func := "loop.example/g01370/laws.FnExactHasRightAngle", spec := "fnExactHasRightAngle", unfollowed := true, recurses := true, plainKeys := false, apart := false, narrowed := true }
def FnExactHasRightAngleUptoSaid : Prop := fnExactHasRightAngleUptoRow.holds Try.pinned (OpenSpec.upto fnExactHasRightAngleSpec)

/-- 'laws.FnExactCountAt', WHERE WHAT IT READS IS OF BULK AT MOST 1048576: true; the input reads as it did. -/
def fnExactCountAtUptoRow : OpenClaim := { program := "ytacnlfdbpooleaa", sum := "749da4914bf05cd5df9f86896e7af949e49dc796b320954be6087f4798a15505", func := "loop.example/g01370/laws.FnExactCountAt", spec := "fnExactCountAt", unfollowed := true, recurses := true, plainKeys := false, apart := false, narrowed := true }
def FnExactCountAtUptoSaid : Prop := fnExactCountAtUptoRow.holds Try.pinned (OpenSpec.upto fnExactCountAtSpec)

end Rows
end Go.Proofs.Ytacnlfdbpooleaa
