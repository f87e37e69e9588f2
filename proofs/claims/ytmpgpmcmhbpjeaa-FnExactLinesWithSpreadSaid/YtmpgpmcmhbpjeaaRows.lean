/-
  No cell of these rows narrows 'for every input' (looked for: loops, veiled, ifaces, maps, wideKeys, modest, calm, conditions, laid).
  DERIVED. THE GIVEN ROWS OF THIS SEAT. 5 by the template 'for every input the law returns true; each argument reads behind the call as it read before'; 0 by the template 'total and deterministic' (their statements: YtmpgpmcmhbpjeaaTotals.lean).
  GIVEN WITH THE SEED: the statements are not yours to turn. If you find one false, say at which input.
  Laid BY PROGRAM, IN A SANDBOX (cutbox-rows.mjs): the forced cells as the released guide's own fill.sh prints them over the translation 74eb26638902b8e9… (all of the seat's roots in one cut). By AI agents, Wed Nov 11 2026. No macro, syntax, notation, axiom, sorry.
-/
import Derived.Test.YtmpgpmcmhbpjeaaChecked
import GoSem.Claim
import GoSem.ClaimJoined
import GoSem.ClaimMapViews
import Derived.JoinedTies
import Derived.KernelRfl
namespace Go.Proofs.Ytmpgpmcmhbpjeaa
/- THE CELL 'sum', in the pinned program and in every row, IS THE sha256 OF THE DUMP (.gsa) THAT YtmpgpmcmhbpjeaaProg.lean LOADS. Nothing in Lean hashes anything: it is a label: what it is worth is what the hold of that sum in a sandbox is worth. -/
noncomputable def Try.pinned : Pinned := { name := "ytmpgpmcmhbpjeaa", sum := "74eb26638902b8e971ed6a3c1d8faaab91f7bb8667766cce6ea3db4ab26398d3", checked := Try.checked }
namespace Rows
def none {H : Type} : Left H := { results := [], args := [] }

/-- 'laws.FnExactPoleOf': WHATEVER THE INPUT: true; the input reads as it did. -/
def fnExactPoleOfSpec : ChangeSpec := { name := "fnExactPoleOf", fn := fun _ => fun
  | [d1, d2, d3] => { results := [.lit (.bool true)], args := [d1, d2, d3] }
  | _ => none }
def fnExactPoleOfRow : OpenClaim := { program := "ytmpgpmcmhbpjeaa", sum := "74eb26638902b8e971ed6a3c1d8faaab91f7bb8667766cce6ea3db4ab26398d3", func := "loop.example/g01370/laws.FnExactPoleOf", spec := "fnExactPoleOf", unfollowed := true, recurses := true, plainKeys := false, apart := false }
def FnExactPoleOfSaid : Prop := fnExactPoleOfRow.holds Try.pinned (OpenSpec.ofChange fnExactPoleOfSpec)

/-- ITS FALSE NEIGHBOUR: 'it returns false'. Refute it at one input. -/
def fnExactPoleOfWrong : ChangeSpec := { name := "fnExactPoleOf", fn := fun _ => fun
  | [d1, d2, d3] => { results := [.lit (.bool false)], args := [d1, d2, d3] }
  | _ => none }
def FnExactPoleOfWrongFalsely : Prop := fnExactPoleOfRow.holds Try.pinned (OpenSpec.ofChange fnExactPoleOfWrong)

/-- 'laws.FnExactConicThrough': WHATEVER THE INPUT: true; the input reads as it did. -/
def fnExactConicThroughSpec : ChangeSpec := { name := "fnExactConicThrough", fn := fun _ => fun
  | [d1, d2] => { results := [.lit (.bool true)], args := [d1, d2] }
  | _ => none }
def fnExactConicThroughRow : OpenClaim := { program := "ytmpgpmcmhbpjeaa", sum := "74eb26638902b8e971ed6a3c1d8faaab91f7bb8667766cce6ea3db4ab26398d3", func := "loop.example/g01370/laws.FnExactConicThrough", spec := "fnExactConicThrough", unfollowed := true, recurses := true, plainKeys := false, apart := false }
def FnExactConicThroughSaid : Prop := fnExactConicThroughRow.holds Try.pinned (OpenSpec.ofChange fnExactConicThroughSpec)

/-- ITS FALSE NEIGHBOUR: 'it returns false'. Refute it at one input. -/
def fnExactConicThroughWrong : ChangeSpec := { name := "fnExactConicThrough", fn := fun _ => fun
  | [d1, d2] => { results := [.lit (.bool false)], args := [d1, d2] }
  | _ => none }
def FnExactConicThroughWrongFalsely : Prop := fnExactConicThroughRow.holds Try.pinned (OpenSpec.ofChange fnExactConicThroughWrong)

/-- 'laws.FnExactLinesWithSpread': WHATEVER THE INPUT: true; the input reads as it did. -/
def fnExactLinesWithSpreadSpec : ChangeSpec := { name := "fnExactLinesWithSpread", fn := fun _ => fun
  | [d1, d2, d3, d4, d5] => { results := [.lit (.bool true)], args := [d1, d2, d3, d4, d5] }
  | _ => none }
def fnExactLinesWithSpreadRow : OpenClaim := { program := "ytmpgpmcmhbpjeaa", sum := "74eb26638902b8e971ed6a3c1d8faaab91f7bb8667766cce6ea3db4ab26398d3", func := "loop.example/g01370/laws.FnExactLinesWithSpread", spec := "fnExactLinesWithSpread", unfollowed := true, recurses := true, plainKeys := false, apart := false }
def FnExactLinesWithSpreadSaid : Prop := fnExactLinesWithSpreadRow.holds Try.pinned (OpenSpec.ofChange fnExactLinesWithSpreadSpec)

/-- ITS FALSE NEIGHBOUR: 'it returns false'. Refute it at one input. -/
def fnExactLinesWithSpreadWrong : ChangeSpec := { name := "fnExactLinesWithSpread", fn := fun _ => fun
  | [d1, d2, d3, d4, d5] => { results := [.lit (.bool false)], args := [d1, d2, d3, d4, d5] }
  | _ => none }
def FnExactLinesWithSpreadWrongFalsely : Prop := fnExactLinesWithSpreadRow.holds Try.pinned (OpenSpec.ofChange fnExactLinesWithSpreadWrong)

/-- 'laws.FnExactCountBySpread': WHATEVER THE INPUT: true; the input reads as it did. -/
def fnExactCountBySpreadSpec : ChangeSpec := { name := "fnExactCountBySpread", fn := fun _ => fun
  | [d1, d2, d3] => { results := [.lit (.bool true)], args := [d1, d2, d3] }
  | _ => none }
def fnExactCountBySpreadRow : OpenClaim := { program := "ytmpgpmcmhbpjeaa", sum := "74eb26638902b8e971ed6a3c1d8faaab91f7bb8667766cce6ea3db4ab26398d3", func := "loop.example/g01370/laws.FnExactCountBySpread", spec := "fnExactCountBySpread", unfollowed := true, recurses := true, plainKeys := false, apart := false }
def FnExactCountBySpreadSaid : Prop := fnExactCountBySpreadRow.holds Try.pinned (OpenSpec.ofChange fnExactCountBySpreadSpec)

/-- ITS FALSE NEIGHBOUR: 'it returns false'. Refute it at one input. -/
def fnExactCountBySpreadWrong : ChangeSpec := { name := "fnExactCountBySpread", fn := fun _ => fun
  | [d1, d2, d3] => { results := [.lit (.bool false)], args := [d1, d2, d3] }
  | _ => none }
def FnExactCountBySpreadWrongFalsely : Prop := fnExactCountBySpreadRow.holds Try.pinned (OpenSpec.ofChange fnExactCountBySpreadWrong)

/-- 'laws.FnExactBisectorsOf': WHATEVER THE INPUT: true; the input reads as it did. -/
def fnExactBisectorsOfSpec : ChangeSpec := { name := "fnExactBisectorsOf", fn := fun _ => fun
  | [d1, d2, d3, d4] => { results := [.lit (.bool true)], args := [d1, d2, d3, d4] }
  | _ => none }
def fnExactBisectorsOfRow : OpenClaim := { program := "ytmpgpmcmhbpjeaa", sum := "74eb26638902b8e971ed6a3c1d8faaab91f7bb8667766cce6ea3db4ab26398d3", func := "loop.example/g01370/laws.FnExactBisectorsOf", spec := "fnExactBisectorsOf", unfollowed := true, recurses := true, plainKeys := false, apart := false }
def FnExactBisectorsOfSaid : Prop := fnExactBisectorsOfRow.holds Try.pinned (OpenSpec.ofChange fnExactBisectorsOfSpec)

/-- ITS FALSE NEIGHBOUR: 'it returns false'. Refute it at one input. -/
def fnExactBisectorsOfWrong : ChangeSpec := { name := "fnExactBisectorsOf", fn := fun _ => fun
  | [d1, d2, d3, d4] => { results := [.lit (.bool false)], args := [d1, d2, d3, d4] }
  | _ => none }
def FnExactBisectorsOfWrongFalsely : Prop := fnExactBisectorsOfRow.holds Try.pinned (OpenSpec.ofChange fnExactBisectorsOfWrong)

/- THE SECOND FORM. 'bulk': how many values and letters a reading holds, each counted each time it is reached (what is shared counts as often as it is met; a slice's spare places count too). A statement '..UptoSaid' is the law's where the arguments, and the package variables that the reading takes, are together of bulk at most 1048576: NARROWER than '..Said'. Prove '..Said' where nothing that the law and all that it calls make is longer than what came in: it says more and counts as full. Else prove '..UptoSaid'. A law counts once. -/
mutual
def uptoBulk {H : Type} : DataW H → Nat
  | .lit (.string bytes) => bytes.length + 1
  | .lit _ => 1
  | .nil => 1
  | .ptr d => uptoBulk d + 1
  | .slice elems spare => uptoBulkAll elems + uptoBulkAll spare + 1
  | .agg parts => uptoBulkAll parts + 1
  | .iface _ d => uptoBulk d + 1
  | .map entries => uptoBulkEntries entries + 1
  | .held _ => 1
def uptoBulkAll {H : Type} : List (DataW H) → Nat
  | [] => 0
  | d :: r => uptoBulk d + uptoBulkAll r
def uptoBulkEntries {H : Type} : List (Lit × DataW H) → Nat
  | [] => 0
  | x :: r => uptoBulkEntry x + uptoBulkEntries r
def uptoBulkEntry {H : Type} : Lit × DataW H → Nat
  | (.string bytes, d) => bytes.length + uptoBulk d + 1
  | (_, d) => uptoBulk d + 1
 end
def uptoSmall : (H : Type) → List (DataW H) → Bool := fun _ ds => decide (uptoBulkAll ds ≤ 1048576)
def OpenSpec.upto (s : _root_.Go.ChangeSpec) : _root_.Go.OpenSpec := { _root_.Go.OpenSpec.ofChange s with cond := some uptoSmall }

/-- 'laws.FnExactPoleOf', WHERE WHAT IT READS IS OF BULK AT MOST 1048576: true; the input reads as it did. -/
def fnExactPoleOfUptoRow : OpenClaim := { program := "ytmpgpmcmhbpjeaa", sum := "74eb26638902b8e971ed6a3c1d8faaab91f7bb8667766cce6ea3db4ab26398d3", func := "loop.example/g01370/laws.FnExactPoleOf", spec := "fnExactPoleOf", unfollowed := true, recurses := true, plainKeys := false, apart := false, narrowed := true }
def FnExactPoleOfUptoSaid : Prop := fnExactPoleOfUptoRow.holds Try.pinned (OpenSpec.upto fnExactPoleOfSpec)

/-- 'laws.FnExactConicThrough', WHERE WHAT IT READS IS OF BULK AT MOST 1048576: true; the input reads as it did. -/
def fnExactConicThroughUptoRow : OpenClaim := { program := "ytmpgpmcmhbpjeaa", sum := "74eb26638902b8e971ed6a3c1d8faaab91f7bb8667766cce6ea3db4ab26398d3", func := "loop.example/g01370/laws.FnExactConicThrough", spec := "fnExactConicThrough", unfollowed := true, recurses := true, plainKeys := false, apart := false, narrowed := true }
def FnExactConicThroughUptoSaid : Prop := fnExactConicThroughUptoRow.holds Try.pinned (OpenSpec.upto fnExactConicThroughSpec)

/-- 'laws.FnExactLinesWithSpread', WHERE WHAT IT READS IS OF BULK AT MOST 1048576: true; the input reads as it did. -/
def fnExactLinesWithSpreadUptoRow : OpenClaim := { program := "ytmpgpmcmhbpjeaa", sum := "74eb26638902b8e971ed6a3c1d8faaab91f7bb8667766cce6ea3db4ab26398d3", func := "loop.example/g01370/laws.FnExactLinesWithSpread", spec := "fnExactLinesWithSpread", unfollowed := true, recurses := true, plainKeys := false, apart := false, narrowed := true }
def FnExactLinesWithSpreadUptoSaid : Prop := fnExactLinesWithSpreadUptoRow.holds Try.pinned (OpenSpec.upto fnExactLinesWithSpreadSpec)

/-- 'laws.FnExactCountBySpread', WHERE WHAT IT READS IS OF BULK AT MOST 1048576: true; the input reads as it did. -/
def fnExactCountBySpreadUptoRow : OpenClaim := { program := "ytmpgpmcmhbpjeaa", sum := "74eb26638902b8e971ed6a3c1d8faaab91f7bb8667766cce6ea3db4ab26398d3", func := "loop.example/g01370/laws.FnExactCountBySpread", spec := "fnExactCountBySpread", unfollowed := true, recurses := true, plainKeys := false, apart := false, narrowed := true }
def FnExactCountBySpreadUptoSaid : Prop := fnExactCountBySpreadUptoRow.holds Try.pinned (OpenSpec.upto fnExactCountBySpreadSpec)

/-- 'laws.FnExactBisectorsOf', WHERE WHAT IT READS IS OF BULK AT MOST 1048576: true; the input reads as it did. -/
def fnExactBisectorsOfUptoRow : OpenClaim := { program := "ytmpgpmcmhbpjeaa", sum := "74eb26638902b8e971ed6a3c1d8faaab91f7bb8667766cce6ea3db4ab26398d3", func := "loop.example/g01370/laws.FnExactBisectorsOf", spec := "fnExactBisectorsOf", unfollowed := true, recurses := true, plainKeys := false, apart := false, narrowed := true }
def FnExactBisectorsOfUptoSaid : Prop := fnExactBisectorsOfUptoRow.holds Try.pinned (OpenSpec.upto fnExactBisectorsOfSpec)

end Rows
end Go.Proofs.Ytmpgpmcmhbpjeaa
