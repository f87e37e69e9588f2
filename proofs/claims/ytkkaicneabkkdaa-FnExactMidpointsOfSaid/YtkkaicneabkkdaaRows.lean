/-
  No cell of these rows narrows 'for every input' (looked for: loops, veiled, ifaces, maps, wideKeys, modest, calm, conditions, laid).
  DERIVED. THE GIVEN ROWS OF THIS SEAT. 6 by the template 'for every input the law returns true; each argument reads behind the call as it read before'; 0 by the template 'total and deterministic' (their statements: YtkkaicneabkkdaaTotals.lean).
  GIVEN WITH THE SEED: the statements are not yours to turn. If you find one false, say at which input.
  Laid BY PROGRAM, IN A SANDBOX (cutbox-rows.mjs): the forced cells as the released guide's own fill.sh prints them over the translation 66c986d5641288a6… (all of the seat's roots in one cut). By AI agents, Wed Nov 11 2026. No macro, syntax, notation, axiom, sorry.
-/
import Derived.Test.YtkkaicneabkkdaaChecked
import GoSem.Claim
import GoSem.ClaimJoined
import GoSem.ClaimMapViews
import Derived.JoinedTies
import Derived.KernelRfl
namespace Go.Proofs.Ytkkaicneabkkdaa
/- THE CELL 'sum', in the pinned program and in every row, IS THE sha256 OF THE DUMP (.gsa) THAT YtkkaicneabkkdaaProg.lean LOADS. Nothing in Lean hashes anything: it is a label: what it is worth is what the hold of that sum in a sandbox is worth. -/
noncomputable def Try.pinned : Pinned := { name := "ytkkaicneabkkdaa", sum := "66c986d5641288a634a6d21bd97b944421fed3c746b7ca36c6468ceeea124fbb", checked := Try.checked }
namespace Rows
def none {H : Type} : Left H := { results := [], args := [] }

/-- 'laws.FnExactJoinOf': WHATEVER THE INPUT: true; the input reads as it did. -/
def fnExactJoinOfSpec : ChangeSpec := { name := "fnExactJoinOf", fn := fun _ => fun
  | [d1, d2, d3] => { results := [.lit (.bool true)], args := [d1, d2, d3] }
  | _ => none }
def fnExactJoinOfRow : OpenClaim := { program := "ytkkaicneabkkdaa", sum := "66c986d5641288a634a6d21bd97b944421fed3c746b7ca36c6468ceeea124fbb", func := "loop.example/g01370/laws.FnExactJoinOf", spec := "fnExactJoinOf", unfollowed := true, recurses := true, apart := false }
def FnExactJoinOfSaid : Prop := fnExactJoinOfRow.holds Try.pinned (OpenSpec.ofChange fnExactJoinOfSpec)

/-- ITS FALSE NEIGHBOUR: 'it returns false'. Refute it at one input. -/
def fnExactJoinOfWrong : ChangeSpec := { name := "fnExactJoinOf", fn := fun _ => fun
  | [d1, d2, d3] => { results := [.lit (.bool false)], args := [d1, d2, d3] }
  | _ => none }
def FnExactJoinOfWrongFalsely : Prop := fnExactJoinOfRow.holds Try.pinned (OpenSpec.ofChange fnExactJoinOfWrong)

/-- 'laws.FnExactAreInLine': WHATEVER THE INPUT: true; the input reads as it did. -/
def fnExactAreInLineSpec : ChangeSpec := { name := "fnExactAreInLine", fn := fun _ => fun
  | [d1, d2, d3, d4] => { results := [.lit (.bool true)], args := [d1, d2, d3, d4] }
  | _ => none }
def fnExactAreInLineRow : OpenClaim := { program := "ytkkaicneabkkdaa", sum := "66c986d5641288a634a6d21bd97b944421fed3c746b7ca36c6468ceeea124fbb", func := "loop.example/g01370/laws.FnExactAreInLine", spec := "fnExactAreInLine", unfollowed := true, recurses := true, apart := false }
def FnExactAreInLineSaid : Prop := fnExactAreInLineRow.holds Try.pinned (OpenSpec.ofChange fnExactAreInLineSpec)

/-- ITS FALSE NEIGHBOUR: 'it returns false'. Refute it at one input. -/
def fnExactAreInLineWrong : ChangeSpec := { name := "fnExactAreInLine", fn := fun _ => fun
  | [d1, d2, d3, d4] => { results := [.lit (.bool false)], args := [d1, d2, d3, d4] }
  | _ => none }
def FnExactAreInLineWrongFalsely : Prop := fnExactAreInLineRow.holds Try.pinned (OpenSpec.ofChange fnExactAreInLineWrong)

/-- 'laws.FnExactSpreadOfJoins': WHATEVER THE INPUT: true; the input reads as it did. -/
def fnExactSpreadOfJoinsSpec : ChangeSpec := { name := "fnExactSpreadOfJoins", fn := fun _ => fun
  | [d1, d2, d3, d4] => { results := [.lit (.bool true)], args := [d1, d2, d3, d4] }
  | _ => none }
def fnExactSpreadOfJoinsRow : OpenClaim := { program := "ytkkaicneabkkdaa", sum := "66c986d5641288a634a6d21bd97b944421fed3c746b7ca36c6468ceeea124fbb", func := "loop.example/g01370/laws.FnExactSpreadOfJoins", spec := "fnExactSpreadOfJoins", unfollowed := true, recurses := true, apart := false }
def FnExactSpreadOfJoinsSaid : Prop := fnExactSpreadOfJoinsRow.holds Try.pinned (OpenSpec.ofChange fnExactSpreadOfJoinsSpec)

/-- ITS FALSE NEIGHBOUR: 'it returns false'. Refute it at one input. -/
def fnExactSpreadOfJoinsWrong : ChangeSpec := { name := "fnExactSpreadOfJoins", fn := fun _ => fun
  | [d1, d2, d3, d4] => { results := [.lit (.bool false)], args := [d1, d2, d3, d4] }
  | _ => none }
def FnExactSpreadOfJoinsWrongFalsely : Prop := fnExactSpreadOfJoinsRow.holds Try.pinned (OpenSpec.ofChange fnExactSpreadOfJoinsWrong)

/-- 'laws.FnExactMidpointsOf': WHATEVER THE INPUT: true; the input reads as it did. -/
def fnExactMidpointsOfSpec : ChangeSpec := { name := "fnExactMidpointsOf", fn := fun _ => fun
  | [d1, d2, d3] => { results := [.lit (.bool true)], args := [d1, d2, d3] }
  | _ => none }
def fnExactMidpointsOfRow : OpenClaim := { program := "ytkkaicneabkkdaa", sum := "66c986d5641288a634a6d21bd97b944421fed3c746b7ca36c6468ceeea124fbb", func := "loop.example/g01370/laws.FnExactMidpointsOf", spec := "fnExactMidpointsOf", unfollowed := true, recurses := true, apart := false }
def FnExactMidpointsOfSaid : Prop := fnExactMidpointsOfRow.holds Try.pinned (OpenSpec.ofChange fnExactMidpointsOfSpec)

/-- ITS FALSE NEIGHBOUR: 'it returns false'. Refute it at one input. -/
def fnExactMidpointsOfWrong : ChangeSpec := { name := "fnExactMidpointsOf", fn := fun _ => fun
  | [d1, d2, d3] => { results := [.lit (.bool false)], args := [d1, d2, d3] }
  | _ => none }
def FnExactMidpointsOfWrongFalsely : Prop := fnExactMidpointsOfRow.holds Try.pinned (OpenSpec.ofChange fnExactMidpointsOfWrong)

/-- 'laws.FnExactPoleOf': WHATEVER THE INPUT: true; the input reads as it did. -/
def fnExactPoleOfSpec : ChangeSpec := { name := "fnExactPoleOf", fn := fun _ => fun
  | [d1, d2, d3] => { results := [.lit (.bool true)], args := [d1, d2, d3] }
  | _ => none }
def fnExactPoleOfRow : OpenClaim := { program := "ytkkaicneabkkdaa", sum := "66c986d5641288a634a6d21bd97b944421fed3c746b7ca36c6468ceeea124fbb", func := "loop.example/g01370/laws.FnExactPoleOf", spec := "fnExactPoleOf", unfollowed := true, recurses := true, apart := false }
def FnExactPoleOfSaid : Prop := fnExactPoleOfRow.holds Try.pinned (OpenSpec.ofChange fnExactPoleOfSpec)

/-- ITS FALSE NEIGHBOUR: 'it returns false'. Refute it at one input. -/
def fnExactPoleOfWrong : ChangeSpec := { name := "fnExactPoleOf", fn := fun _ => fun
  | [d1, d2, d3] => { results := [.lit (.bool false)], args := [d1, d2, d3] }
  | _ => none }
def FnExactPoleOfWrongFalsely : Prop := fnExactPoleOfRow.holds Try.pinned (OpenSpec.ofChange fnExactPoleOfWrong)

/-- 'laws.FnExactConicThrough': WHATEVER THE INPUT: true; the input reads as it did. -/
def fnExactConicThroughSpec : ChangeSpec := { name := "fnExactConicThrough", fn := fun _ => fun
  | [d1, d2] => { results := [.lit (.bool true)], args := [d1, d2] }
  | _ => none }
def fnExactConicThroughRow : OpenClaim := { program := "ytkkaicneabkkdaa", sum := "66c986d5641288a634a6d21bd97b944421fed3c746b7ca36c6468ceeea124fbb", func := "loop.example/g01370/laws.FnExactConicThrough", spec := "fnExactConicThrough", unfollowed := true, recurses := true, apart := false }
def FnExactConicThroughSaid : Prop := fnExactConicThroughRow.holds Try.pinned (OpenSpec.ofChange fnExactConicThroughSpec)

/-- ITS FALSE NEIGHBOUR: 'it returns false'. Refute it at one input. -/
def fnExactConicThroughWrong : ChangeSpec := { name := "fnExactConicThrough", fn := fun _ => fun
  | [d1, d2] => { results := [.lit (.bool false)], args := [d1, d2] }
  | _ => none }
def FnExactConicThroughWrongFalsely : Prop := fnExactConicThroughRow.holds Try.pinned (OpenSpec.ofChange fnExactConicThroughWrong)

/- THE SECOND FORM. 'bulk': how many values and letters a reading holds, each counted each time it is reached (what is shared counts as often as it is met; a slice's spare places count too). A statement '..UptoSaid' is the law's where the arguments, and the package variables that the reading takes, are together of bulk at most 1048576: NARROWER than '..Said'. Prove '..Said' where nothing that the law and all that it calls make is longer than what came in: it says more and counts as full. Else prove '..UptoSaid'. A law counts once. -/
mutual
def uptoBulk {H : Type} : DataW H → Nat
  | .lit (.string bytes) => bytes.length + 1
  | .lit _ => 1
  | .nil => 1
  | .ptr d => uptoBulk d + 1
  | .slice elems spare => uptoBulkAll elems + uptoBulkAll spare + 1
  | .agg parts => uptoBulkAll parts + 1
  | .iface _ d => uptoBulk d + 1
  | .map entries => uptoBulkEntries entries + 1
  | .held _ => 1
def uptoBulkAll {H : Type} : List (DataW H) → Nat
  | [] => 0
  | d :: r => uptoBulk d + uptoBulkAll r
def uptoBulkEntries {H : Type} : List (Lit × DataW H) → Nat
  | [] => 0
  | x :: r => uptoBulkEntry x + uptoBulkEntries r
def uptoBulkEntry {H : Type} : Lit × DataW H → Nat
  | (.string bytes, d) => bytes.length + uptoBulk d + 1
  | (_, d) => uptoBulk d + 1
 end
def uptoSmall : (H : Type) → List (DataW H) → Bool := fun _ ds => decide (uptoBulkAll ds ≤ 1048576)
def OpenSpec.upto (s : _root_.Go.ChangeSpec) : _root_.Go.OpenSpec := { _root_.Go.OpenSpec.ofChange s with cond := some uptoSmall }

/-- 'laws.FnExactJoinOf', WHERE WHAT IT READS IS OF BULK AT MOST 1048576: true; the input reads as it did. -/
def fnExactJoinOfUptoRow : OpenClaim := { program := "ytkkaicneabkkdaa", sum := "66c986d5641288a634a6d21bd97b944421fed3c746b7ca36c6468ceeea124fbb", func := "loop.example/g01370/laws.FnExactJoinOf", spec := "fnExactJoinOf", unfollowed := true, recurses := true, apart := false, narrowed := true }
def FnExactJoinOfUptoSaid : Prop := fnExactJoinOfUptoRow.holds Try.pinned (OpenSpec.upto fnExactJoinOfSpec)

/-- 'laws.FnExactAreInLine', WHERE WHAT IT READS IS OF BULK AT MOST 1048576: true; the input reads as it did. -/
def fnExactAreInLineUptoRow : OpenClaim := { program := "ytkkaicneabkkdaa", sum := "66c986d5641288a634a6d21bd97b944421fed3c746b7ca36c6468ceeea124fbb", func := "loop.example/g01370/laws.FnExactAreInLine", spec := "fnExactAreInLine", unfollowed := true, recurses := true, apart := false, narrowed := true }
def FnExactAreInLineUptoSaid : Prop := fnExactAreInLineUptoRow.holds Try.pinned (OpenSpec.upto fnExactAreInLineSpec)

/-- 'laws.FnExactSpreadOfJoins', WHERE WHAT IT READS IS OF BULK AT MOST 1048576: true; the input reads as it did. -/
def fnExactSpreadOfJoinsUptoRow : OpenClaim := { program := "ytkkaicneabkkdaa", sum := "66c986d5641288a634a6d21bd97b944421fed3c746b7ca36c6468ceeea124fbb", func := "loop.example/g01370/laws.FnExactSpreadOfJoins", spec := "fnExactSpreadOfJoins", unfollowed := true, recurses := true, apart := false, narrowed := true }
def FnExactSpreadOfJoinsUptoSaid : Prop := fnExactSpreadOfJoinsUptoRow.holds Try.pinned (OpenSpec.upto fnExactSpreadOfJoinsSpec)

/-- 'laws.FnExactMidpointsOf', WHERE WHAT IT READS IS OF BULK AT MOST 1048576: true; the input reads as it did. -/
def fnExactMidpointsOfUptoRow : OpenClaim := { program := "ytkkaicneabkkdaa", sum := "66c986d5641288a634a6d21bd97b944421fed3c746b7ca36c6468ceeea124fbb", func := "loop.example/g01370/laws.FnExactMidpointsOf", spec := "fnExactMidpointsOf", unfollowed := true, recurses := true, apart := false, narrowed := true }
def FnExactMidpointsOfUptoSaid : Prop := fnExactMidpointsOfUptoRow.holds Try.pinned (OpenSpec.upto fnExactMidpointsOfSpec)

/-- 'laws.FnExactPoleOf', WHERE WHAT IT READS IS OF BULK AT MOST 1048576: true; the input reads as it did. -/
def fnExactPoleOfUptoRow : OpenClaim := { program := "ytkkaicneabkkdaa", sum := "66c986d5641288a634a6d21bd97b944421fed3c746b7ca36c6468ceeea124fbb", func := "loop.example/g01370/laws.FnExactPoleOf", spec := "fnExactPoleOf", unfollowed := true, recurses := true, apart := false, narrowed := true }
def FnExactPoleOfUptoSaid : Prop := fnExactPoleOfUptoRow.holds Try.pinned (OpenSpec.upto fnExactPoleOfSpec)

/-- 'laws.FnExactConicThrough', WHERE WHAT IT READS IS OF BULK AT MOST 1048576: true; the input reads as it did. -/
def fnExactConicThroughUptoRow : OpenClaim := { program := "ytkkaicneabkkdaa", sum := "66c986d5641288a634a6d21bd97b944421fed3c746b7ca36c6468ceeea124fbb", func := "loop.example/g01370/laws.FnExactConicThrough", spec := "fnExactConicThrough", unfollowed := true, recurses := true, apart := false, narrowed := true }
def FnExactConicThroughUptoSaid : Prop := fnExactConicThroughUptoRow.holds Try.pinned (OpenSpec.upto fnExactConicThroughSpec)

end Rows
end Go.Proofs.Ytkkaicneabkkdaa
