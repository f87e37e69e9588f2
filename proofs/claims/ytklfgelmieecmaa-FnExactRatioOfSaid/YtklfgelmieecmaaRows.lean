/-
  No cell of these rows narrows 'for every input' (looked for: loops, veiled, ifaces, maps, wideKeys, modest, calm, conditions, laid).
  DERIVED. THE GIVEN ROWS OF THIS SEAT. 9 by the template 'for every input the law returns true; each argument reads behind the call as it read before'; 0 by the template 'total and deterministic' (their statements: YtklfgelmieecmaaTotals.lean).
  GIVEN WITH THE SEED: the statements are not yours to turn. If you find one false, say at which input.
  Laid BY PROGRAM, IN A SANDBOX (cutbox-rows.mjs): the forced cells as the released guide's own fill.sh prints them over the translation afe3dd06d4a05480… (all of the seat's roots in one cut). By AI agents, Wed Nov 11 2026. No macro, syntax, notation, axiom, sorry.
-/
import Derived.Test.YtklfgelmieecmaaChecked
import GoSem.Claim
import GoSem.ClaimJoined
import GoSem.ClaimMapViews
import Derived.JoinedTies
import Derived.KernelRfl
namespace Go.Proofs.Ytklfgelmieecmaa
/- THE CELL 'sum', in the pinned program and in every row, IS THE sha256 OF THE DUMP (.gsa) THAT YtklfgelmieecmaaProg.lean LOADS. Nothing in Lean hashes anything: it is a label: what it is worth is what the hold of that sum in a sandbox is worth. -/
noncomputable def Try.pinned : Pinned := { name := "ytklfgelmieecmaa", sum := "afe3dd06d4a0548055673b37dc5a90d7355b5513fc9ac32720189310c28ff161", checked := Try.checked }
namespace Rows
def none {H : Type} : Left H := { results := [], args := [] }

/-- 'laws.FnExactCrossOf': WHATEVER THE INPUT: true; the input reads as it did. -/
def fnExactCrossOfSpec : ChangeSpec := { name := "fnExactCrossOf", fn := fun _ => fun
  | [d1, d2, d3, d4] => { results := [.lit (.bool true)], args := [d1, d2, d3, d4] }
  | _ => none }
def fnExactCrossOfRow : OpenClaim := { program := "ytklfgelmieecmaa", sum := "afe3dd06d4a0548055673b37dc5a90d7355b5513fc9ac32720189310c28ff161", func := "loop.example/g01370/laws.FnExactCrossOf", spec := "fnExactCrossOf", unfollowed := true, recurses := true, plainKeys := false, apart := false }
def FnExactCrossOfSaid : Prop := fnExactCrossOfRow.holds Try.pinned (OpenSpec.ofChange fnExactCrossOfSpec)

/-- ITS FALSE NEIGHBOUR: 'it returns false'. Refute it at one input. -/
def fnExactCrossOfWrong : ChangeSpec := { name := "fnExactCrossOf", fn := fun _ => fun
  | [d1, d2, d3, d4] => { results := [.lit (.bool false)], args := [d1, d2, d3, d4] }
  | _ => none }
def FnExactCrossOfWrongFalsely : Prop := fnExactCrossOfRow.holds Try.pinned (OpenSpec.ofChange fnExactCrossOfWrong)

/-- 'laws.FnExactSpreadOf': WHATEVER THE INPUT: true; the input reads as it did. -/
def fnExactSpreadOfSpec : ChangeSpec := { name := "fnExactSpreadOf", fn := fun _ => fun
  | [d1, d2, d3, d4] => { results := [.lit (.bool true)], args := [d1, d2, d3, d4] }
  | _ => none }
def fnExactSpreadOfRow : OpenClaim := { program := "ytklfgelmieecmaa", sum := "afe3dd06d4a0548055673b37dc5a90d7355b5513fc9ac32720189310c28ff161", func := "loop.example/g01370/laws.FnExactSpreadOf", spec := "fnExactSpreadOf", unfollowed := true, recurses := true, plainKeys := false, apart := false }
def FnExactSpreadOfSaid : Prop := fnExactSpreadOfRow.holds Try.pinned (OpenSpec.ofChange fnExactSpreadOfSpec)

/-- ITS FALSE NEIGHBOUR: 'it returns false'. Refute it at one input. -/
def fnExactSpreadOfWrong : ChangeSpec := { name := "fnExactSpreadOf", fn := fun _ => fun
  | [d1, d2, d3, d4] => { results := [.lit (.bool false)], args := [d1, d2, d3, d4] }
  | _ => none }
def FnExactSpreadOfWrongFalsely : Prop := fnExactSpreadOfRow.holds Try.pinned (OpenSpec.ofChange fnExactSpreadOfWrong)

/-- 'laws.FnExactTwistOf': WHATEVER THE INPUT: true; the input reads as it did. -/
def fnExactTwistOfSpec : ChangeSpec := { name := "fnExactTwistOf", fn := fun _ => fun
  | [d1, d2, d3, d4] => { results := [.lit (.bool true)], args := [d1, d2, d3, d4] }
  | _ => none }
def fnExactTwistOfRow : OpenClaim := { program := "ytklfgelmieecmaa", sum := "afe3dd06d4a0548055673b37dc5a90d7355b5513fc9ac32720189310c28ff161", func := "loop.example/g01370/laws.FnExactTwistOf", spec := "fnExactTwistOf", unfollowed := true, recurses := true, plainKeys := false, apart := false }
def FnExactTwistOfSaid : Prop := fnExactTwistOfRow.holds Try.pinned (OpenSpec.ofChange fnExactTwistOfSpec)

/-- ITS FALSE NEIGHBOUR: 'it returns false'. Refute it at one input. -/
def fnExactTwistOfWrong : ChangeSpec := { name := "fnExactTwistOf", fn := fun _ => fun
  | [d1, d2, d3, d4] => { results := [.lit (.bool false)], args := [d1, d2, d3, d4] }
  | _ => none }
def FnExactTwistOfWrongFalsely : Prop := fnExactTwistOfRow.holds Try.pinned (OpenSpec.ofChange fnExactTwistOfWrong)

/-- 'laws.FnExactSpreadAt': WHATEVER THE INPUT: true; the input reads as it did. -/
def fnExactSpreadAtSpec : ChangeSpec := { name := "fnExactSpreadAt", fn := fun _ => fun
  | [d1, d2, d3, d4, d5] => { results := [.lit (.bool true)], args := [d1, d2, d3, d4, d5] }
  | _ => none }
def fnExactSpreadAtRow : OpenClaim := { program := "ytklfgelmieecmaa", sum := "afe3dd06d4a0548055673b37dc5a90d7355b5513fc9ac32720189310c28ff161", func := "loop.example/g01370/laws.FnExactSpreadAt", spec := "fnExactSpreadAt", unfollowed := true, recurses := true, plainKeys := false, apart := false }
def FnExactSpreadAtSaid : Prop := fnExactSpreadAtRow.holds Try.pinned (OpenSpec.ofChange fnExactSpreadAtSpec)

/-- ITS FALSE NEIGHBOUR: 'it returns false'. Refute it at one input. -/
def fnExactSpreadAtWrong : ChangeSpec := { name := "fnExactSpreadAt", fn := fun _ => fun
  | [d1, d2, d3, d4, d5] => { results := [.lit (.bool false)], args := [d1, d2, d3, d4, d5] }
  | _ => none }
def FnExactSpreadAtWrongFalsely : Prop := fnExactSpreadAtRow.holds Try.pinned (OpenSpec.ofChange fnExactSpreadAtWrong)

/-- 'laws.FnExactSpreadRatio': WHATEVER THE INPUT: true; the input reads as it did. -/
def fnExactSpreadRatioSpec : ChangeSpec := { name := "fnExactSpreadRatio", fn := fun _ => fun
  | [d1, d2, d3, d4, d5] => { results := [.lit (.bool true)], args := [d1, d2, d3, d4, d5] }
  | _ => none }
def fnExactSpreadRatioRow : OpenClaim := { program := "ytklfgelmieecmaa", sum := "afe3dd06d4a0548055673b37dc5a90d7355b5513fc9ac32720189310c28ff161", func := "loop.example/g01370/laws.FnExactSpreadRatio", spec := "fnExactSpreadRatio", unfollowed := true, recurses := true, plainKeys := false, apart := false }
def FnExactSpreadRatioSaid : Prop := fnExactSpreadRatioRow.holds Try.pinned (OpenSpec.ofChange fnExactSpreadRatioSpec)

/-- ITS FALSE NEIGHBOUR: 'it returns false'. Refute it at one input. -/
def fnExactSpreadRatioWrong : ChangeSpec := { name := "fnExactSpreadRatio", fn := fun _ => fun
  | [d1, d2, d3, d4, d5] => { results := [.lit (.bool false)], args := [d1, d2, d3, d4, d5] }
  | _ => none }
def FnExactSpreadRatioWrongFalsely : Prop := fnExactSpreadRatioRow.holds Try.pinned (OpenSpec.ofChange fnExactSpreadRatioWrong)

/-- 'laws.FnExactAreTripleSpreads': WHATEVER THE INPUT: true; the input reads as it did. -/
def fnExactAreTripleSpreadsSpec : ChangeSpec := { name := "fnExactAreTripleSpreads", fn := fun _ => fun
  | [d1, d2, d3, d4] => { results := [.lit (.bool true)], args := [d1, d2, d3, d4] }
  | _ => none }
def fnExactAreTripleSpreadsRow : OpenClaim := { program := "ytklfgelmieecmaa", sum := "afe3dd06d4a0548055673b37dc5a90d7355b5513fc9ac32720189310c28ff161", func := "loop.example/g01370/laws.FnExactAreTripleSpreads", spec := "fnExactAreTripleSpreads", plainKeys := false, apart := false }
def FnExactAreTripleSpreadsSaid : Prop := fnExactAreTripleSpreadsRow.holds Try.pinned (OpenSpec.ofChange fnExactAreTripleSpreadsSpec)

/-- ITS FALSE NEIGHBOUR: 'it returns false'. Refute it at one input. -/
def fnExactAreTripleSpreadsWrong : ChangeSpec := { name := "fnExactAreTripleSpreads", fn := fun _ => fun
  | [d1, d2, d3, d4] => { results := [.lit (.bool false)], args := [d1, d2, d3, d4] }
  | _ => none }
def FnExactAreTripleSpreadsWrongFalsely : Prop := fnExactAreTripleSpreadsRow.holds Try.pinned (OpenSpec.ofChange fnExactAreTripleSpreadsWrong)

/-- 'laws.FnExactThirdSpreads': WHATEVER THE INPUT: true; the input reads as it did. -/
def fnExactThirdSpreadsSpec : ChangeSpec := { name := "fnExactThirdSpreads", fn := fun _ => fun
  | [d1, d2, d3] => { results := [.lit (.bool true)], args := [d1, d2, d3] }
  | _ => none }
def fnExactThirdSpreadsRow : OpenClaim := { program := "ytklfgelmieecmaa", sum := "afe3dd06d4a0548055673b37dc5a90d7355b5513fc9ac32720189310c28ff161", func := "loop.example/g01370/laws.FnExactThirdSpreads", spec := "fnExactThirdSpreads", plainKeys := false, apart := false }
def FnExactThirdSpreadsSaid : Prop := fnExactThirdSpreadsRow.holds Try.pinned (OpenSpec.ofChange fnExactThirdSpreadsSpec)

/-- ITS FALSE NEIGHBOUR: 'it returns false'. Refute it at one input. -/
def fnExactThirdSpreadsWrong : ChangeSpec := { name := "fnExactThirdSpreads", fn := fun _ => fun
  | [d1, d2, d3] => { results := [.lit (.bool false)], args := [d1, d2, d3] }
  | _ => none }
def FnExactThirdSpreadsWrongFalsely : Prop := fnExactThirdSpreadsRow.holds Try.pinned (OpenSpec.ofChange fnExactThirdSpreadsWrong)

/-- 'laws.FnExactSpreadsOfTriangle': WHATEVER THE INPUT: true; the input reads as it did. -/
def fnExactSpreadsOfTriangleSpec : ChangeSpec := { name := "fnExactSpreadsOfTriangle", fn := fun _ => fun
  | [d1, d2, d3, d4, d5] => { results := [.lit (.bool true)], args := [d1, d2, d3, d4, d5] }
  | _ => none }
def fnExactSpreadsOfTriangleRow : OpenClaim := { program := "ytklfgelmieecmaa", sum := "afe3dd06d4a0548055673b37dc5a90d7355b5513fc9ac32720189310c28ff161", func := "loop.example/g01370/laws.FnExactSpreadsOfTriangle", spec := "fnExactSpreadsOfTriangle", unfollowed := true, recurses := true, plainKeys := false, apart := false }
def FnExactSpreadsOfTriangleSaid : Prop := fnExactSpreadsOfTriangleRow.holds Try.pinned (OpenSpec.ofChange fnExactSpreadsOfTriangleSpec)

/-- ITS FALSE NEIGHBOUR: 'it returns false'. Refute it at one input. -/
def fnExactSpreadsOfTriangleWrong : ChangeSpec := { name := "fnExactSpreadsOfTriangle", fn := fun _ => fun
  | [d1, d2, d3, d4, d5] => { results := [.lit (.bool false)], args := [d1, d2, d3, d4, d5] }
  | _ => none }
def FnExactSpreadsOfTriangleWrongFalsely : Prop := fnExactSpreadsOfTriangleRow.holds Try.pinned (OpenSpec.ofChange fnExactSpreadsOfTriangleWrong)

/-- 'laws.FnExactRatioOf': WHATEVER THE INPUT: true; the input reads as it did. -/
def fnExactRatioOfSpec : ChangeSpec := { name := "fnExactRatioOf", fn := fun _ => fun
  | [d1, d2, d3, d4] => { results := [.lit (.bool true)], args := [d1, d2, d3, d4] }
  | _ => none }
def fnExactRatioOfRow : OpenClaim := { program := "ytklfgelmieecmaa", sum := "afe3dd06d4a0548055673b37dc5a90d7355b5513fc9ac32720189310c28ff161", func := "loop.example/g01370/laws.FnExactRatioOf", spec := "fnExactRatioOf", plainKeys := false, apart := false }
def FnExactRatioOfSaid : Prop := fnExactRatioOfRow.holds Try.pinned (OpenSpec.ofChange fnExactRatioOfSpec)

/-- ITS FALSE NEIGHBOUR: 'it returns false'. Refute it at one input. -/
def fnExactRatioOfWrong : ChangeSpec := { name := "fnExactRatioOf", fn := fun _ => fun
  | [d1, d2, d3, d4] => { results := [.lit (.bool false)], args := [d1, d2, d3, d4] }
  | _ => none }
def FnExactRatioOfWrongFalsely : Prop := fnExactRatioOfRow.holds Try.pinned (OpenSpec.ofChange fnExactRatioOfWrong)

/- THE SECOND FORM. 'bulk': how many values and letters a reading holds, each counted each time it is reached (what is shared counts as often as it is met; a slice's spare places count too). A statement '..UptoSaid' is the law's where the arguments, and the package variables that the reading takes, are together of bulk at most 1048576: NARROWER than '..Said'. Prove '..Said' where nothing that the law and all that it calls make is longer than what came in: it says more and counts as full. Else prove '..UptoSaid'. A law counts once. -/
mutual
def uptoBulk {H : Type} : DataW H → Nat
  | .lit (.string bytes) => bytes.length + 1
  | .lit _ => 1
  | .nil => 1
  | .ptr d => uptoBulk d + 1
  | .slice elems spare => uptoBulkAll elems + uptoBulkAll spare + 1
  | .agg parts => uptoBulkAll parts + 1
  | .iface _ d => uptoBulk d + 1
  | .map entries => uptoBulkEntries entries + 1
  | .held _ => 1
def uptoBulkAll {H : Type} : List (DataW H) → Nat
  | [] => 0
  | d :: r => uptoBulk d + uptoBulkAll r
def uptoBulkEntries {H : Type} : List (Lit × DataW H) → Nat
  | [] => 0
  | x :: r => uptoBulkEntry x + uptoBulkEntries r
def uptoBulkEntry {H : Type} : Lit × DataW H → Nat
  | (.string bytes, d) => bytes.length + uptoBulk d + 1
  | (_, d) => uptoBulk d + 1
 end
def uptoSmall : (H : Type) → List (DataW H) → Bool := fun _ ds => decide (uptoBulkAll ds ≤ 1048576)
def OpenSpec.upto (s : _root_.Go.ChangeSpec) : _root_.Go.OpenSpec := { _root_.Go.OpenSpec.ofChange s with cond := some uptoSmall }

/-- 'laws.FnExactCrossOf', WHERE WHAT IT READS IS OF BULK AT MOST 1048576: true; the input reads as it did. -/
def fnExactCrossOfUptoRow : OpenClaim := { program := "ytklfgelmieecmaa", sum := "afe3dd06d4a0548055673b37dc5a90d7355b5513fc9ac32720189310c28ff161", func := "loop.example/g01370/laws.FnExactCrossOf", spec := "fnExactCrossOf", unfollowed := true, recurses := true, plainKeys := false, apart := false, narrowed := true }
def FnExactCrossOfUptoSaid : Prop := fnExactCrossOfUptoRow.holds Try.pinned (OpenSpec.upto fnExactCrossOfSpec)

/-- 'laws.FnExactSpreadOf', WHERE WHAT IT READS IS OF BULK AT MOST 1048576: true; the input reads as it did. -/
def fnExactSpreadOfUptoRow : OpenClaim := { program := "ytklfgelmieecmaa", sum := "afe3dd06d4a0548055673b37dc5a90d7355b5513fc9ac32720189310c28ff161", func := "loop.example/g01370/laws.FnExactSpreadOf", spec := "fnExactSpreadOf", unfollowed := true, recurses := true, plainKeys := false, apart := false, narrowed := true }
def FnExactSpreadOfUptoSaid : Prop := fnExactSpreadOfUptoRow.holds Try.pinned (OpenSpec.upto fnExactSpreadOfSpec)

/-- 'laws.FnExactTwistOf', WHERE WHAT IT READS IS OF BULK AT MOST 1048576: true; the input reads as it did. -/
def fnExactTwistOfUptoRow : OpenClaim := { program := "ytklfgelmieecmaa", sum := "afe3dd06d4a0548055673b37dc5a90d7355b5513fc9ac32720189310c28ff161", func := "loop.example/g01370/laws.FnExactTwistOf", spec := "fnExactTwistOf", unfollowed := true, recurses := true, plainKeys := false, apart := false, narrowed := true }
def FnExactTwistOfUptoSaid : Prop := fnExactTwistOfUptoRow.holds Try.pinned (OpenSpec.upto fnExactTwistOfSpec)

/-- 'laws.FnExactSpreadAt', WHERE WHAT IT READS IS OF BULK AT MOST 1048576: true; the input reads as it did. -/
def fnExactSpreadAtUptoRow : OpenClaim := { program := "ytklfgelmieecmaa", sum := "afe3dd06d4a0548055673b37dc5a90d7355b5513fc9ac32720189310c28ff161", func := "loop.example/g01370/laws.FnExactSpreadAt", spec := "fnExactSpreadAt", unfollowed := true, recurses := true, plainKeys := false, apart := false, narrowed := true }
def FnExactSpreadAtUptoSaid : Prop := fnExactSpreadAtUptoRow.holds Try.pinned (OpenSpec.upto fnExactSpreadAtSpec)

/-- 'laws.FnExactSpreadRatio', WHERE WHAT IT READS IS OF BULK AT MOST 1048576: true; the input reads as it did. -/
def fnExactSpreadRatioUptoRow : OpenClaim := { program := "ytklfgelmieecmaa", sum := "afe3dd06d4a0548055673b37dc5a90d7355b5513fc9ac32720189310c28ff161", func := "loop.example/g01370/laws.FnExactSpreadRatio", spec := "fnExactSpreadRatio", unfollowed := true, recurses := true, plainKeys := false, apart := false, narrowed := true }
def FnExactSpreadRatioUptoSaid : Prop := fnExactSpreadRatioUptoRow.holds Try.pinned (OpenSpec.upto fnExactSpreadRatioSpec)

/-- 'laws.FnExactAreTripleSpreads', WHERE WHAT IT READS IS OF BULK AT MOST 1048576: true; the input reads as it did. -/
def fnExactAreTripleSpreadsUptoRow : OpenClaim := { program := "ytklfgelmieecmaa", sum := "afe3dd06d4a0548055673b37dc5a90d7355b5513fc9ac32720189310c28ff161", func := "loop.example/g01370/laws.FnExactAreTripleSpreads", spec := "fnExactAreTripleSpreads", plainKeys := false, apart := false, narrowed := true }
def FnExactAreTripleSpreadsUptoSaid : Prop := fnExactAreTripleSpreadsUptoRow.holds Try.pinned (OpenSpec.upto fnExactAreTripleSpreadsSpec)

/-- 'laws.FnExactThirdSpreads', WHERE WHAT IT READS IS OF BULK AT MOST 1048576: true; the input reads as it did. -/
def fnExactThirdSpreadsUptoRow : OpenClaim := { program := "ytklfgelmieecmaa", sum := "afe3dd06d4a0548055673b37dc5a90d7355b5513fc9ac32720189310c28ff161", func := "loop.example/g01370/laws.FnExactThirdSpreads", spec := "fnExactThirdSpreads", plainKeys := false, apart := false, narrowed := true }
def FnExactThirdSpreadsUptoSaid : Prop := fnExactThirdSpreadsUptoRow.holds Try.pinned (OpenSpec.upto fnExactThirdSpreadsSpec)

/-- 'laws.FnExactSpreadsOfTriangle', WHERE WHAT IT READS IS OF BULK AT MOST 1048576: true; the input reads as it did. -/
def fnExactSpreadsOfTriangleUptoRow : OpenClaim := { program := "ytklfgelmieecmaa", sum := "afe3dd06d4a0548055673b37dc5a90d7355b5513fc9ac32720189310c28ff161", func := "loop.example/g01370/laws.FnExactSpreadsOfTriangle", spec := "fnExactSpreadsOfTriangle", unfollowed := true, recurses := true, plainKeys := false, apart := false, narrowed := true }
def FnExactSpreadsOfTriangleUptoSaid : Prop := fnExactSpreadsOfTriangleUptoRow.holds Try.pinned (OpenSpec.upto fnExactSpreadsOfTriangleSpec)

/-- 'laws.FnExactRatioOf', WHERE WHAT IT READS IS OF BULK AT MOST 1048576: true; the input reads as it did. -/
def fnExactRatioOfUptoRow : OpenClaim := { program := "ytklfgelmieecmaa", sum := "afe3dd06d4a0548055673b37dc5a90d7355b5513fc9ac32720189310c28ff161", func := "loop.example/g01370/laws.FnExactRatioOf", spec := "fnExactRatioOf", plainKeys := false, apart := false, narrowed := true }
def FnExactRatioOfUptoSaid : Prop := fnExactRatioOfUptoRow.holds Try.pinned (OpenSpec.upto fnExactRatioOfSpec)

end Rows
end Go.Proofs.Ytklfgelmieecmaa
