/-
  No cell of these rows narrows 'for every input' (looked for: loops, veiled, ifaces, maps, wideKeys, modest, calm, conditions, laid).
  DERIVED. THE GIVEN ROWS OF THIS SEAT. 8 by the template 'for every input the law returns true; each argument reads behind the call as it read before'; 0 by the template 'total and deterministic' (their statements: YtklfgelmieecmabTotals.lean).
  GIVEN WITH THE SEED: the statements are not yours to turn. If you find one false, say at which input.
  Laid BY PROGRAM, IN A SANDBOX (cutbox-rows.mjs): the forced cells as the released guide's own fill.sh prints them over the translation d7fb7088622461ff… (all of the seat's roots in one cut). By AI agents, Wed Nov 11 2026. No macro, syntax, notation, axiom, sorry.
-/
import Derived.Test.YtklfgelmieecmabChecked
import GoSem.Claim
import GoSem.ClaimJoined
import GoSem.ClaimMapViews
import Derived.JoinedTies
import Derived.KernelRfl
namespace Go.Proofs.Ytklfgelmieecmab
/- THE CELL 'sum', in the pinned program and in every row, IS THE sha256 OF THE DUMP (.gsa) THAT YtklfgelmieecmabProg.lean LOADS. Nothing in Lean hashes anything: it is a label: what it is worth is what the hold of that sum in a sandbox is worth. -/
noncomputable def Try.pinned : Pinned := { name := "ytklfgelmieecmab", sum := "d7fb7088622461ff3f0726363b1a8318f3f53777b109f3b541c639e14168347d", checked := Try.checked }
namespace Rows
def none {H : Type} : Left H := { results := [], args := [] }

/-- 'laws.FnExactPointsOn': WHATEVER THE INPUT: true; the input reads as it did. -/
def fnExactPointsOnSpec : ChangeSpec := { name := "fnExactPointsOn", fn := fun _ => fun
  | [d1, d2] => { results := [.lit (.bool true)], args := [d1, d2] }
  | _ => none }
def fnExactPointsOnRow : OpenClaim := { program := "ytklfgelmieecmab", sum := "d7fb7088622461ff3f0726363b1a8318f3f53777b109f3b541c639e14168347d", func := "loop.example/g01370/laws.FnExactPointsOn", spec := "fnExactPointsOn", unfollowed := true, recurses := true, plainKeys := false, apart := false }
def FnExactPointsOnSaid : Prop := fnExactPointsOnRow.holds Try.pinned (OpenSpec.ofChange fnExactPointsOnSpec)

/-- ITS FALSE NEIGHBOUR: 'it returns false'. Refute it at one input. -/
def fnExactPointsOnWrong : ChangeSpec := { name := "fnExactPointsOn", fn := fun _ => fun
  | [d1, d2] => { results := [.lit (.bool false)], args := [d1, d2] }
  | _ => none }
def FnExactPointsOnWrongFalsely : Prop := fnExactPointsOnRow.holds Try.pinned (OpenSpec.ofChange fnExactPointsOnWrong)

/-- 'laws.FnExactLinesThrough': WHATEVER THE INPUT: true; the input reads as it did. -/
def fnExactLinesThroughSpec : ChangeSpec := { name := "fnExactLinesThrough", fn := fun _ => fun
  | [d1, d2] => { results := [.lit (.bool true)], args := [d1, d2] }
  | _ => none }
def fnExactLinesThroughRow : OpenClaim := { program := "ytklfgelmieecmab", sum := "d7fb7088622461ff3f0726363b1a8318f3f53777b109f3b541c639e14168347d", func := "loop.example/g01370/laws.FnExactLinesThrough", spec := "fnExactLinesThrough", unfollowed := true, recurses := true, plainKeys := false, apart := false }
def FnExactLinesThroughSaid : Prop := fnExactLinesThroughRow.holds Try.pinned (OpenSpec.ofChange fnExactLinesThroughSpec)

/-- ITS FALSE NEIGHBOUR: 'it returns false'. Refute it at one input. -/
def fnExactLinesThroughWrong : ChangeSpec := { name := "fnExactLinesThrough", fn := fun _ => fun
  | [d1, d2] => { results := [.lit (.bool false)], args := [d1, d2] }
  | _ => none }
def FnExactLinesThroughWrongFalsely : Prop := fnExactLinesThroughRow.holds Try.pinned (OpenSpec.ofChange fnExactLinesThroughWrong)

/-- 'laws.FnExactLinesWithSpread': WHATEVER THE INPUT: true; the input reads as it did. -/
def fnExactLinesWithSpreadSpec : ChangeSpec := { name := "fnExactLinesWithSpread", fn := fun _ => fun
  | [d1, d2, d3, d4, d5] => { results := [.lit (.bool true)], args := [d1, d2, d3, d4, d5] }
  | _ => none }
def fnExactLinesWithSpreadRow : OpenClaim := { program := "ytklfgelmieecmab", sum := "d7fb7088622461ff3f0726363b1a8318f3f53777b109f3b541c639e14168347d", func := "loop.example/g01370/laws.FnExactLinesWithSpread", spec := "fnExactLinesWithSpread", unfollowed := true, recurses := true, plainKeys := false, apart := false }
def FnExactLinesWithSpreadSaid : Prop := fnExactLinesWithSpreadRow.holds Try.pinned (OpenSpec.ofChange fnExactLinesWithSpreadSpec)

/-- ITS FALSE NEIGHBOUR: 'it returns false'. Refute it at one input. -/
def fnExactLinesWithSpreadWrong : ChangeSpec := { name := "fnExactLinesWithSpread", fn := fun _ => fun
  | [d1, d2, d3, d4, d5] => { results := [.lit (.bool false)], args := [d1, d2, d3, d4, d5] }
  | _ => none }
def FnExactLinesWithSpreadWrongFalsely : Prop := fnExactLinesWithSpreadRow.holds Try.pinned (OpenSpec.ofChange fnExactLinesWithSpreadWrong)

/-- 'laws.FnExactBisectorsOf': WHATEVER THE INPUT: true; the input reads as it did. -/
def fnExactBisectorsOfSpec : ChangeSpec := { name := "fnExactBisectorsOf", fn := fun _ => fun
  | [d1, d2, d3, d4] => { results := [.lit (.bool true)], args := [d1, d2, d3, d4] }
  | _ => none }
def fnExactBisectorsOfRow : OpenClaim := { program := "ytklfgelmieecmab", sum := "d7fb7088622461ff3f0726363b1a8318f3f53777b109f3b541c639e14168347d", func := "loop.example/g01370/laws.FnExactBisectorsOf", spec := "fnExactBisectorsOf", unfollowed := true, recurses := true, plainKeys := false, apart := false }
def FnExactBisectorsOfSaid : Prop := fnExactBisectorsOfRow.holds Try.pinned (OpenSpec.ofChange fnExactBisectorsOfSpec)

/-- ITS FALSE NEIGHBOUR: 'it returns false'. Refute it at one input. -/
def fnExactBisectorsOfWrong : ChangeSpec := { name := "fnExactBisectorsOf", fn := fun _ => fun
  | [d1, d2, d3, d4] => { results := [.lit (.bool false)], args := [d1, d2, d3, d4] }
  | _ => none }
def FnExactBisectorsOfWrongFalsely : Prop := fnExactBisectorsOfRow.holds Try.pinned (OpenSpec.ofChange fnExactBisectorsOfWrong)

/-- 'laws.FnExactCountBySpread': WHATEVER THE INPUT: true; the input reads as it did. -/
def fnExactCountBySpreadSpec : ChangeSpec := { name := "fnExactCountBySpread", fn := fun _ => fun
  | [d1, d2, d3] => { results := [.lit (.bool true)], args := [d1, d2, d3] }
  | _ => none }
def fnExactCountBySpreadRow : OpenClaim := { program := "ytklfgelmieecmab", sum := "d7fb7088622461ff3f0726363b1a8318f3f53777b109f3b541c639e14168347d", func := "loop.example/g01370/laws.FnExactCountBySpread", spec := "fnExactCountBySpread", unfollowed := true, recurses := true, plainKeys := false, apart := false }
def FnExactCountBySpreadSaid : Prop := fnExactCountBySpreadRow.holds Try.pinned (OpenSpec.ofChange fnExactCountBySpreadSpec)

/-- ITS FALSE NEIGHBOUR: 'it returns false'. Refute it at one input. -/
def fnExactCountBySpreadWrong : ChangeSpec := { name := "fnExactCountBySpread", fn := fun _ => fun
  | [d1, d2, d3] => { results := [.lit (.bool false)], args := [d1, d2, d3] }
  | _ => none }
def FnExactCountBySpreadWrongFalsely : Prop := fnExactCountBySpreadRow.holds Try.pinned (OpenSpec.ofChange fnExactCountBySpreadWrong)

/-- 'laws.FnExactNullLines': WHATEVER THE INPUT: true; the input reads as it did. -/
def fnExactNullLinesSpec : ChangeSpec := { name := "fnExactNullLines", fn := fun _ => fun
  | [d1, d2, d3] => { results := [.lit (.bool true)], args := [d1, d2, d3] }
  | _ => none }
def fnExactNullLinesRow : OpenClaim := { program := "ytklfgelmieecmab", sum := "d7fb7088622461ff3f0726363b1a8318f3f53777b109f3b541c639e14168347d", func := "loop.example/g01370/laws.FnExactNullLines", spec := "fnExactNullLines", unfollowed := true, recurses := true, plainKeys := false, apart := false }
def FnExactNullLinesSaid : Prop := fnExactNullLinesRow.holds Try.pinned (OpenSpec.ofChange fnExactNullLinesSpec)

/-- ITS FALSE NEIGHBOUR: 'it returns false'. Refute it at one input. -/
def fnExactNullLinesWrong : ChangeSpec := { name := "fnExactNullLines", fn := fun _ => fun
  | [d1, d2, d3] => { results := [.lit (.bool false)], args := [d1, d2, d3] }
  | _ => none }
def FnExactNullLinesWrongFalsely : Prop := fnExactNullLinesRow.holds Try.pinned (OpenSpec.ofChange fnExactNullLinesWrong)

/-- 'laws.FnExactPointsAt': WHATEVER THE INPUT: true; the input reads as it did. -/
def fnExactPointsAtSpec : ChangeSpec := { name := "fnExactPointsAt", fn := fun _ => fun
  | [d1, d2, d3, d4] => { results := [.lit (.bool true)], args := [d1, d2, d3, d4] }
  | _ => none }
def fnExactPointsAtRow : OpenClaim := { program := "ytklfgelmieecmab", sum := "d7fb7088622461ff3f0726363b1a8318f3f53777b109f3b541c639e14168347d", func := "loop.example/g01370/laws.FnExactPointsAt", spec := "fnExactPointsAt", unfollowed := true, recurses := true, plainKeys := false, apart := false }
def FnExactPointsAtSaid : Prop := fnExactPointsAtRow.holds Try.pinned (OpenSpec.ofChange fnExactPointsAtSpec)

/-- ITS FALSE NEIGHBOUR: 'it returns false'. Refute it at one input. -/
def fnExactPointsAtWrong : ChangeSpec := { name := "fnExactPointsAt", fn := fun _ => fun
  | [d1, d2, d3, d4] => { results := [.lit (.bool false)], args := [d1, d2, d3, d4] }
  | _ => none }
def FnExactPointsAtWrongFalsely : Prop := fnExactPointsAtRow.holds Try.pinned (OpenSpec.ofChange fnExactPointsAtWrong)

/-- 'laws.FnExactCountAt': WHATEVER THE INPUT: true; the input reads as it did. -/
def fnExactCountAtSpec : ChangeSpec := { name := "fnExactCountAt", fn := fun _ => fun
  | [d1, d2, d3] => { results := [.lit (.bool true)], args := [d1, d2, d3] }
  | _ => none }
def fnExactCountAtRow : OpenClaim := { program := "ytklfgelmieecmab", sum := "d7fb7088622461ff3f0726363b1a8318f3f53777b109f3b541c639e14168347d", func := "loop.example/g01370/laws.FnExactCountAt", spec := "fnExactCountAt", unfollowed := true, recurses := true, plainKeys := false, apart := false }
def FnExactCountAtSaid : Prop := fnExactCountAtRow.holds Try.pinned (OpenSpec.ofChange fnExactCountAtSpec)

/-- ITS FALSE NEIGHBOUR: 'it returns false'. Refute it at one input. -/
def fnExactCountAtWrong : ChangeSpec := { name := "fnExactCountAt", fn := fun _ => fun
  | [d1, d2, d3] => { results := [.lit (.bool false)], args := [d1, d2, d3] }
  | _ => none }
def FnExactCountAtWrongFalsely : Prop := fnExactCountAtRow.holds Try.pinned (OpenSpec.ofChange fnExactCountAtWrong)

/- THE SECOND FORM. 'bulk': how many values and letters a reading holds, each counted each time it is reached (what is shared counts as often as it is met; a slice's spare places count too). A statement '..UptoSaid' is the law's where the arguments, and the package variables that the reading takes, are together of bulk at most 1048576: NARROWER than '..Said'. Prove '..Said' where nothing that the law and all that it calls make is longer than what came in: it says more and counts as full. Else prove '..UptoSaid'. A law counts once. -/
mutual
def uptoBulk {H : Type} : DataW H → Nat
  | .lit (.string bytes) => bytes.length + 1
  | .lit _ => 1
  | .nil => 1
  | .ptr d => uptoBulk d + 1
  | .slice elems spare => uptoBulkAll elems + uptoBulkAll spare + 1
  | .agg parts => uptoBulkAll parts + 1
  | .iface _ d => uptoBulk d + 1
  | .map entries => uptoBulkEntries entries + 1
  | .held _ => 1
def uptoBulkAll {H : Type} : List (DataW H) → Nat
  | [] => 0
  | d :: r => uptoBulk d + uptoBulkAll r
def uptoBulkEntries {H : Type} : List (Lit × DataW H) → Nat
  | [] => 0
  | x :: r => uptoBulkEntry x + uptoBulkEntries r
def uptoBulkEntry {H : Type} : Lit × DataW H → Nat
  | (.string bytes, d) => bytes.length + uptoBulk d + 1
  | (_, d) => uptoBulk d + 1
 end
def uptoSmall : (H : Type) → List (DataW H) → Bool := fun _ ds => decide (uptoBulkAll ds ≤ 1048576)
def OpenSpec.upto (s : _root_.Go.ChangeSpec) : _root_.Go.OpenSpec := { _root_.Go.OpenSpec.ofChange s with cond := some uptoSmall }

/-- 'laws.FnExactPointsOn', WHERE WHAT IT READS IS OF BULK AT MOST 1048576: true; the input reads as it did. -/
def fnExactPointsOnUptoRow : OpenClaim := { program := "ytklfgelmieecmab", sum := "d7fb7088622461ff3f0726363b1a8318f3f53777b109f3b541c639e14168347d", func := "loop.example/g01370/laws.FnExactPointsOn", spec := "fnExactPointsOn", unfollowed := true, recurses := true, plainKeys := false, apart := false, narrowed := true }
def FnExactPointsOnUptoSaid : Prop := fnExactPointsOnUptoRow.holds Try.pinned (OpenSpec.upto fnExactPointsOnSpec)

/-- 'laws.FnExactLinesThrough', WHERE WHAT IT READS IS OF BULK AT MOST 1048576: true; the input reads as it did. -/
def fnExactLinesThroughUptoRow : OpenClaim := { program := "ytklfgelmieecmab", sum := "d7fb7088622461ff3f0726363b1a8318f3f53777b109f3b541c639e14168347d", func := "loop.example/g01370/laws.FnExactLinesThrough", spec := "fnExactLinesThrough", unfollowed := true, recurses := true, plainKeys := false, apart := false, narrowed := true }
def FnExactLinesThroughUptoSaid : Prop := fnExactLinesThroughUptoRow.holds Try.pinned (OpenSpec.upto fnExactLinesThroughSpec)

/-- 'laws.FnExactLinesWithSpread', WHERE WHAT IT READS IS OF BULK AT MOST 1048576: true; the input reads as it did. -/
def fnExactLinesWithSpreadUptoRow : OpenClaim := { program := "ytklfgelmieecmab", sum := "d7fb7088622461ff3f0726363b1a8318f3f53777b109f3b541c639e14168347d", func := "loop.example/g01370/laws.FnExactLinesWithSpread", spec := "fnExactLinesWithSpread", unfollowed := true, recurses := true, plainKeys := false, apart := false, narrowed := true }
def FnExactLinesWithSpreadUptoSaid : Prop := fnExactLinesWithSpreadUptoRow.holds Try.pinned (OpenSpec.upto fnExactLinesWithSpreadSpec)

/-- 'laws.FnExactBisectorsOf', WHERE WHAT IT READS IS OF BULK AT MOST 1048576: true; the input reads as it did. -/
def fnExactBisectorsOfUptoRow : OpenClaim := { program := "ytklfgelmieecmab", sum := "d7fb7088622461ff3f0726363b1a8318f3f53777b109f3b541c639e14168347d", func := "loop.example/g01370/laws.FnExactBisectorsOf", spec := "fnExactBisectorsOf", unfollowed := true, recurses := true, plainKeys := false, apart := false, narrowed := true }
def FnExactBisectorsOfUptoSaid : Prop := fnExactBisectorsOfUptoRow.holds Try.pinned (OpenSpec.upto fnExactBisectorsOfSpec)

/-- 'laws.FnExactCountBySpread', WHERE WHAT IT READS IS OF BULK AT MOST 1048576: true; the input reads as it did. -/
def fnExactCountBySpreadUptoRow : OpenClaim := { program := "ytklfgelmieecmab", sum := "d7fb7088622461ff3f0726363b1a8318f3f53777b109f3b541c639e14168347d", func := "loop.example/g01370/laws.FnExactCountBySpread", spec := "fnExactCountBySpread", unfollowed := true, recurses := true, plainKeys := false, apart := false, narrowed := true }
def FnExactCountBySpreadUptoSaid : Prop := fnExactCountBySpreadUptoRow.holds Try.pinned (OpenSpec.upto fnExactCountBySpreadSpec)

/-- 'laws.FnExactNullLines', WHERE WHAT IT READS IS OF BULK AT MOST 1048576: true; the input reads as it did. -/
def fnExactNullLinesUptoRow : OpenClaim := { program := "ytklfgelmieecmab", sum := "d7fb7088622461ff3f0726363b1a8318f3f53777b109f3b541c639e14168347d", func := "loop.example/g01370/laws.FnExactNullLines", spec := "fnExactNullLines", unfollowed := true, recurses := true, plainKeys := false, apart := false, narrowed := true }
def FnExactNullLinesUptoSaid : Prop := fnExactNullLinesUptoRow.holds Try.pinned (OpenSpec.upto fnExactNullLinesSpec)

/-- 'laws.FnExactPointsAt', WHERE WHAT IT READS IS OF BULK AT MOST 1048576: true; the input reads as it did. -/
def fnExactPointsAtUptoRow : OpenClaim := { program := "ytklfgelmieecmab", sum := "d7fb7088622461ff3f0726363b1a8318f3f53777b109f3b541c639e14168347d", func := "loop.example/g01370/laws.FnExactPointsAt", spec := "fnExactPointsAt", unfollowed := true, recurses := true, plainKeys := false, apart := false, narrowed := true }
def FnExactPointsAtUptoSaid : Prop := fnExactPointsAtUptoRow.holds Try.pinned (OpenSpec.upto fnExactPointsAtSpec)

/-- 'laws.FnExactCountAt', WHERE WHAT IT READS IS OF BULK AT MOST 1048576: true; the input reads as it did. -/
def fnExactCountAtUptoRow : OpenClaim := { program := "ytklfgelmieecmab", sum := "d7fb7088622461ff3f0726363b1a8318f3f53777b109f3b541c639e14168347d", func := "loop.example/g01370/laws.FnExactCountAt", spec := "fnExactCountAt", unfollowed := true, recurses := true, plainKeys := false, apart := false, narrowed := true }
def FnExactCountAtUptoSaid : Prop := fnExactCountAtUptoRow.holds Try.pinned (OpenSpec.upto fnExactCountAtSpec)

end Rows
end Go.Proofs.Ytklfgelmieecmab
