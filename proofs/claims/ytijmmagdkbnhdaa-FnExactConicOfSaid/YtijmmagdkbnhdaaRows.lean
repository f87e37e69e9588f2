/-
  No cell of these rows narrows 'for every input' (looked for: loops, veiled, ifaces, maps, wideKeys, modest, calm, conditions, laid).
  DERIVED. THE GIVEN ROWS OF THIS SEAT. 12 by the template 'for every input the law returns true; each argument reads behind the call as it read before'; 0 by the template 'total and deterministic' (their statements: YtijmmagdkbnhdaaTotals.lean).
  GIVEN WITH THE SEED: the statements are not yours to turn. If you find one false, say at which input.
  Laid BY PROGRAM, IN A SANDBOX (cutbox-rows.mjs): the forced cells as the released guide's own fill.sh prints them over the translation 9866669d26c42ca3… (all of the seat's roots in one cut). By AI agents, Wed Nov 11 2026. No macro, syntax, notation, axiom, sorry.
-/
import Derived.Test.YtijmmagdkbnhdaaChecked
import GoSem.Claim
import GoSem.ClaimJoined
import GoSem.ClaimMapViews
import Derived.JoinedTies
import Derived.KernelRfl
namespace Go.Proofs.Ytijmmagdkbnhdaa
/- THE CELL 'sum', in the pinned program and in every row, IS THE sha256 OF THE DUMP (.gsa) THAT YtijmmagdkbnhdaaProg.lean LOADS. Nothing in Lean hashes anything: it is a label: what it is worth is what the hold of that sum in a sandbox is worth. -/
noncomputable def Try.pinned : Pinned := { name := "ytijmmagdkbnhdaa", sum := "9866669d26c42ca351b46ad11e010ba3753853ae06a6bfbf2fdf9cb668b2636c", checked := Try.checked }
namespace Rows
def none {H : Type} : Left H := { results := [], args := [] }

/-- 'laws.FnExactReflectionIn': WHATEVER THE INPUT: true; the input reads as it did. -/
def fnExactReflectionInSpec : ChangeSpec := { name := "fnExactReflectionIn", fn := fun _ => fun
  | [d1, d2, d3] => { results := [.lit (.bool true)], args := [d1, d2, d3] }
  | _ => none }
def fnExactReflectionInRow : OpenClaim := { program := "ytijmmagdkbnhdaa", sum := "9866669d26c42ca351b46ad11e010ba3753853ae06a6bfbf2fdf9cb668b2636c", func := "loop.example/g01370/laws.FnExactReflectionIn", spec := "fnExactReflectionIn", unfollowed := true, recurses := true, apart := false }
def FnExactReflectionInSaid : Prop := fnExactReflectionInRow.holds Try.pinned (OpenSpec.ofChange fnExactReflectionInSpec)

/-- ITS FALSE NEIGHBOUR: 'it returns false'. Refute it at one input. -/
def fnExactReflectionInWrong : ChangeSpec := { name := "fnExactReflectionIn", fn := fun _ => fun
  | [d1, d2, d3] => { results := [.lit (.bool false)], args := [d1, d2, d3] }
  | _ => none }
def FnExactReflectionInWrongFalsely : Prop := fnExactReflectionInRow.holds Try.pinned (OpenSpec.ofChange fnExactReflectionInWrong)

/-- 'laws.FnExactIsConic': WHATEVER THE INPUT: true; the input reads as it did. -/
def fnExactIsConicSpec : ChangeSpec := { name := "fnExactIsConic", fn := fun _ => fun
  | [d1, d2] => { results := [.lit (.bool true)], args := [d1, d2] }
  | _ => none }
def fnExactIsConicRow : OpenClaim := { program := "ytijmmagdkbnhdaa", sum := "9866669d26c42ca351b46ad11e010ba3753853ae06a6bfbf2fdf9cb668b2636c", func := "loop.example/g01370/laws.FnExactIsConic", spec := "fnExactIsConic", apart := false }
def FnExactIsConicSaid : Prop := fnExactIsConicRow.holds Try.pinned (OpenSpec.ofChange fnExactIsConicSpec)

/-- ITS FALSE NEIGHBOUR: 'it returns false'. Refute it at one input. -/
def fnExactIsConicWrong : ChangeSpec := { name := "fnExactIsConic", fn := fun _ => fun
  | [d1, d2] => { results := [.lit (.bool false)], args := [d1, d2] }
  | _ => none }
def FnExactIsConicWrongFalsely : Prop := fnExactIsConicRow.holds Try.pinned (OpenSpec.ofChange fnExactIsConicWrong)

/-- 'laws.FnExactConicOf': WHATEVER THE INPUT: true; the input reads as it did. -/
def fnExactConicOfSpec : ChangeSpec := { name := "fnExactConicOf", fn := fun _ => fun
  | [d1, d2] => { results := [.lit (.bool true)], args := [d1, d2] }
  | _ => none }
def fnExactConicOfRow : OpenClaim := { program := "ytijmmagdkbnhdaa", sum := "9866669d26c42ca351b46ad11e010ba3753853ae06a6bfbf2fdf9cb668b2636c", func := "loop.example/g01370/laws.FnExactConicOf", spec := "fnExactConicOf", apart := false }
def FnExactConicOfSaid : Prop := fnExactConicOfRow.holds Try.pinned (OpenSpec.ofChange fnExactConicOfSpec)

/-- ITS FALSE NEIGHBOUR: 'it returns false'. Refute it at one input. -/
def fnExactConicOfWrong : ChangeSpec := { name := "fnExactConicOf", fn := fun _ => fun
  | [d1, d2] => { results := [.lit (.bool false)], args := [d1, d2] }
  | _ => none }
def FnExactConicOfWrongFalsely : Prop := fnExactConicOfRow.holds Try.pinned (OpenSpec.ofChange fnExactConicOfWrong)

/-- 'laws.FnExactConicPoints': WHATEVER THE INPUT: true; the input reads as it did. -/
def fnExactConicPointsSpec : ChangeSpec := { name := "fnExactConicPoints", fn := fun _ => fun
  | [d1, d2] => { results := [.lit (.bool true)], args := [d1, d2] }
  | _ => none }
def fnExactConicPointsRow : OpenClaim := { program := "ytijmmagdkbnhdaa", sum := "9866669d26c42ca351b46ad11e010ba3753853ae06a6bfbf2fdf9cb668b2636c", func := "loop.example/g01370/laws.FnExactConicPoints", spec := "fnExactConicPoints", unfollowed := true, recurses := true, apart := false }
def FnExactConicPointsSaid : Prop := fnExactConicPointsRow.holds Try.pinned (OpenSpec.ofChange fnExactConicPointsSpec)

/-- ITS FALSE NEIGHBOUR: 'it returns false'. Refute it at one input. -/
def fnExactConicPointsWrong : ChangeSpec := { name := "fnExactConicPoints", fn := fun _ => fun
  | [d1, d2] => { results := [.lit (.bool false)], args := [d1, d2] }
  | _ => none }
def FnExactConicPointsWrongFalsely : Prop := fnExactConicPointsRow.holds Try.pinned (OpenSpec.ofChange fnExactConicPointsWrong)

/-- 'laws.FnExactKindOf': WHATEVER THE INPUT: true; the input reads as it did. -/
def fnExactKindOfSpec : ChangeSpec := { name := "fnExactKindOf", fn := fun _ => fun
  | [d1, d2] => { results := [.lit (.bool true)], args := [d1, d2] }
  | _ => none }
def fnExactKindOfRow : OpenClaim := { program := "ytijmmagdkbnhdaa", sum := "9866669d26c42ca351b46ad11e010ba3753853ae06a6bfbf2fdf9cb668b2636c", func := "loop.example/g01370/laws.FnExactKindOf", spec := "fnExactKindOf", apart := false }
def FnExactKindOfSaid : Prop := fnExactKindOfRow.holds Try.pinned (OpenSpec.ofChange fnExactKindOfSpec)

/-- ITS FALSE NEIGHBOUR: 'it returns false'. Refute it at one input. -/
def fnExactKindOfWrong : ChangeSpec := { name := "fnExactKindOf", fn := fun _ => fun
  | [d1, d2] => { results := [.lit (.bool false)], args := [d1, d2] }
  | _ => none }
def FnExactKindOfWrongFalsely : Prop := fnExactKindOfRow.holds Try.pinned (OpenSpec.ofChange fnExactKindOfWrong)

/-- 'laws.FnExactDeterminantOf': WHATEVER THE INPUT: true; the input reads as it did. -/
def fnExactDeterminantOfSpec : ChangeSpec := { name := "fnExactDeterminantOf", fn := fun _ => fun
  | [d1, d2] => { results := [.lit (.bool true)], args := [d1, d2] }
  | _ => none }
def fnExactDeterminantOfRow : OpenClaim := { program := "ytijmmagdkbnhdaa", sum := "9866669d26c42ca351b46ad11e010ba3753853ae06a6bfbf2fdf9cb668b2636c", func := "loop.example/g01370/laws.FnExactDeterminantOf", spec := "fnExactDeterminantOf", apart := false }
def FnExactDeterminantOfSaid : Prop := fnExactDeterminantOfRow.holds Try.pinned (OpenSpec.ofChange fnExactDeterminantOfSpec)

/-- ITS FALSE NEIGHBOUR: 'it returns false'. Refute it at one input. -/
def fnExactDeterminantOfWrong : ChangeSpec := { name := "fnExactDeterminantOf", fn := fun _ => fun
  | [d1, d2] => { results := [.lit (.bool false)], args := [d1, d2] }
  | _ => none }
def FnExactDeterminantOfWrongFalsely : Prop := fnExactDeterminantOfRow.holds Try.pinned (OpenSpec.ofChange fnExactDeterminantOfWrong)

/-- 'laws.FnExactCentreOf': WHATEVER THE INPUT: true; the input reads as it did. -/
def fnExactCentreOfSpec : ChangeSpec := { name := "fnExactCentreOf", fn := fun _ => fun
  | [d1, d2] => { results := [.lit (.bool true)], args := [d1, d2] }
  | _ => none }
def fnExactCentreOfRow : OpenClaim := { program := "ytijmmagdkbnhdaa", sum := "9866669d26c42ca351b46ad11e010ba3753853ae06a6bfbf2fdf9cb668b2636c", func := "loop.example/g01370/laws.FnExactCentreOf", spec := "fnExactCentreOf", apart := false }
def FnExactCentreOfSaid : Prop := fnExactCentreOfRow.holds Try.pinned (OpenSpec.ofChange fnExactCentreOfSpec)

/-- ITS FALSE NEIGHBOUR: 'it returns false'. Refute it at one input. -/
def fnExactCentreOfWrong : ChangeSpec := { name := "fnExactCentreOf", fn := fun _ => fun
  | [d1, d2] => { results := [.lit (.bool false)], args := [d1, d2] }
  | _ => none }
def FnExactCentreOfWrongFalsely : Prop := fnExactCentreOfRow.holds Try.pinned (OpenSpec.ofChange fnExactCentreOfWrong)

/-- 'laws.FnExactPolarOf': WHATEVER THE INPUT: true; the input reads as it did. -/
def fnExactPolarOfSpec : ChangeSpec := { name := "fnExactPolarOf", fn := fun _ => fun
  | [d1, d2, d3] => { results := [.lit (.bool true)], args := [d1, d2, d3] }
  | _ => none }
def fnExactPolarOfRow : OpenClaim := { program := "ytijmmagdkbnhdaa", sum := "9866669d26c42ca351b46ad11e010ba3753853ae06a6bfbf2fdf9cb668b2636c", func := "loop.example/g01370/laws.FnExactPolarOf", spec := "fnExactPolarOf", apart := false }
def FnExactPolarOfSaid : Prop := fnExactPolarOfRow.holds Try.pinned (OpenSpec.ofChange fnExactPolarOfSpec)

/-- ITS FALSE NEIGHBOUR: 'it returns false'. Refute it at one input. -/
def fnExactPolarOfWrong : ChangeSpec := { name := "fnExactPolarOf", fn := fun _ => fun
  | [d1, d2, d3] => { results := [.lit (.bool false)], args := [d1, d2, d3] }
  | _ => none }
def FnExactPolarOfWrongFalsely : Prop := fnExactPolarOfRow.holds Try.pinned (OpenSpec.ofChange fnExactPolarOfWrong)

/-- 'laws.FnExactPoleOf': WHATEVER THE INPUT: true; the input reads as it did. -/
def fnExactPoleOfSpec : ChangeSpec := { name := "fnExactPoleOf", fn := fun _ => fun
  | [d1, d2, d3] => { results := [.lit (.bool true)], args := [d1, d2, d3] }
  | _ => none }
def fnExactPoleOfRow : OpenClaim := { program := "ytijmmagdkbnhdaa", sum := "9866669d26c42ca351b46ad11e010ba3753853ae06a6bfbf2fdf9cb668b2636c", func := "loop.example/g01370/laws.FnExactPoleOf", spec := "fnExactPoleOf", unfollowed := true, recurses := true, apart := false }
def FnExactPoleOfSaid : Prop := fnExactPoleOfRow.holds Try.pinned (OpenSpec.ofChange fnExactPoleOfSpec)

/-- ITS FALSE NEIGHBOUR: 'it returns false'. Refute it at one input. -/
def fnExactPoleOfWrong : ChangeSpec := { name := "fnExactPoleOf", fn := fun _ => fun
  | [d1, d2, d3] => { results := [.lit (.bool false)], args := [d1, d2, d3] }
  | _ => none }
def FnExactPoleOfWrongFalsely : Prop := fnExactPoleOfRow.holds Try.pinned (OpenSpec.ofChange fnExactPoleOfWrong)

/-- 'laws.FnExactTangentOf': WHATEVER THE INPUT: true; the input reads as it did. -/
def fnExactTangentOfSpec : ChangeSpec := { name := "fnExactTangentOf", fn := fun _ => fun
  | [d1, d2, d3] => { results := [.lit (.bool true)], args := [d1, d2, d3] }
  | _ => none }
def fnExactTangentOfRow : OpenClaim := { program := "ytijmmagdkbnhdaa", sum := "9866669d26c42ca351b46ad11e010ba3753853ae06a6bfbf2fdf9cb668b2636c", func := "loop.example/g01370/laws.FnExactTangentOf", spec := "fnExactTangentOf", apart := false }
def FnExactTangentOfSaid : Prop := fnExactTangentOfRow.holds Try.pinned (OpenSpec.ofChange fnExactTangentOfSpec)

/-- ITS FALSE NEIGHBOUR: 'it returns false'. Refute it at one input. -/
def fnExactTangentOfWrong : ChangeSpec := { name := "fnExactTangentOf", fn := fun _ => fun
  | [d1, d2, d3] => { results := [.lit (.bool false)], args := [d1, d2, d3] }
  | _ => none }
def FnExactTangentOfWrongFalsely : Prop := fnExactTangentOfRow.holds Try.pinned (OpenSpec.ofChange fnExactTangentOfWrong)

/-- 'laws.FnExactConicThrough': WHATEVER THE INPUT: true; the input reads as it did. -/
def fnExactConicThroughSpec : ChangeSpec := { name := "fnExactConicThrough", fn := fun _ => fun
  | [d1, d2] => { results := [.lit (.bool true)], args := [d1, d2] }
  | _ => none }
def fnExactConicThroughRow : OpenClaim := { program := "ytijmmagdkbnhdaa", sum := "9866669d26c42ca351b46ad11e010ba3753853ae06a6bfbf2fdf9cb668b2636c", func := "loop.example/g01370/laws.FnExactConicThrough", spec := "fnExactConicThrough", unfollowed := true, recurses := true, apart := false }
def FnExactConicThroughSaid : Prop := fnExactConicThroughRow.holds Try.pinned (OpenSpec.ofChange fnExactConicThroughSpec)

/-- ITS FALSE NEIGHBOUR: 'it returns false'. Refute it at one input. -/
def fnExactConicThroughWrong : ChangeSpec := { name := "fnExactConicThrough", fn := fun _ => fun
  | [d1, d2] => { results := [.lit (.bool false)], args := [d1, d2] }
  | _ => none }
def FnExactConicThroughWrongFalsely : Prop := fnExactConicThroughRow.holds Try.pinned (OpenSpec.ofChange fnExactConicThroughWrong)

/-- 'laws.FnExactParabolaOf': WHATEVER THE INPUT: true; the input reads as it did. -/
def fnExactParabolaOfSpec : ChangeSpec := { name := "fnExactParabolaOf", fn := fun _ => fun
  | [d1, d2, d3, d4] => { results := [.lit (.bool true)], args := [d1, d2, d3, d4] }
  | _ => none }
def fnExactParabolaOfRow : OpenClaim := { program := "ytijmmagdkbnhdaa", sum := "9866669d26c42ca351b46ad11e010ba3753853ae06a6bfbf2fdf9cb668b2636c", func := "loop.example/g01370/laws.FnExactParabolaOf", spec := "fnExactParabolaOf", unfollowed := true, recurses := true, apart := false }
def FnExactParabolaOfSaid : Prop := fnExactParabolaOfRow.holds Try.pinned (OpenSpec.ofChange fnExactParabolaOfSpec)

/-- ITS FALSE NEIGHBOUR: 'it returns false'. Refute it at one input. -/
def fnExactParabolaOfWrong : ChangeSpec := { name := "fnExactParabolaOf", fn := fun _ => fun
  | [d1, d2, d3, d4] => { results := [.lit (.bool false)], args := [d1, d2, d3, d4] }
  | _ => none }
def FnExactParabolaOfWrongFalsely : Prop := fnExactParabolaOfRow.holds Try.pinned (OpenSpec.ofChange fnExactParabolaOfWrong)

/- THE SECOND FORM. 'bulk': how many values and letters a reading holds, each counted each time it is reached (what is shared counts as often as it is met; a slice's spare places count too). A statement '..UptoSaid' is the law's where the arguments, and the package variables that the reading takes, are together of bulk at most 1048576: NARROWER than '..Said'. Prove '..Said' where nothing that the law and all that it calls make is longer than what came in: it says more and counts as full. Else prove '..UptoSaid'. A law counts once. -/
mutual
def uptoBulk {H : Type} : DataW H → Nat
  | .lit (.string bytes) => bytes.length + 1
  | .lit _ => 1
  | .nil => 1
  | .ptr d => uptoBulk d + 1
  | .slice elems spare => uptoBulkAll elems + uptoBulkAll spare + 1
  | .agg parts => uptoBulkAll parts + 1
  | .iface _ d => uptoBulk d + 1
  | .map entries => uptoBulkEntries entries + 1
  | .held _ => 1
def uptoBulkAll {H : Type} : List (DataW H) → Nat
  | [] => 0
  | d :: r => uptoBulk d + uptoBulkAll r
def uptoBulkEntries {H : Type} : List (Lit × DataW H) → Nat
  | [] => 0
  | x :: r => uptoBulkEntry x + uptoBulkEntries r
def uptoBulkEntry {H : Type} : Lit × DataW H → Nat
  | (.string bytes, d) => bytes.length + uptoBulk d + 1
  | (_, d) => uptoBulk d + 1
 end
def uptoSmall : (H : Type) → List (DataW H) → Bool := fun _ ds => decide (uptoBulkAll ds ≤ 1048576)
def OpenSpec.upto (s : _root_.Go.ChangeSpec) : _root_.Go.OpenSpec := { _root_.Go.OpenSpec.ofChange s with cond := some uptoSmall }

/-- 'laws.FnExactReflectionIn', WHERE WHAT IT READS IS OF BULK AT MOST 1048576: true; the input reads as it did. -/
def fnExactReflectionInUptoRow : OpenClaim := { program := "ytijmmagdkbnhdaa", sum := "9866669d26c42ca351b46ad11e010ba3753853ae06a6bfbf2fdf9cb668b2636c", func := "loop.example/g01370/laws.FnExactReflectionIn", spec := "fnExactReflectionIn", unfollowed := true, recurses := true, apart := false, narrowed := true }
def FnExactReflectionInUptoSaid : Prop := fnExactReflectionInUptoRow.holds Try.pinned (OpenSpec.upto fnExactReflectionInSpec)

/-- 'laws.FnExactIsConic', WHERE WHAT IT READS IS OF BULK AT MOST 1048576: true; the input reads as it did. -/
def fnExactIsConicUptoRow : OpenClaim := { program := "ytijmmagdkbnhdaa", sum := "9866669d26c42ca351b46ad11e010ba3753853ae06a6bfbf2fdf9cb668b2636c", func := "loop.example/g01370/laws.FnExactIsConic", spec := "fnExactIsConic", apart := false, narrowed := true }
def FnExactIsConicUptoSaid : Prop := fnExactIsConicUptoRow.holds Try.pinned (OpenSpec.upto fnExactIsConicSpec)

/-- 'laws.FnExactConicOf', WHERE WHAT IT READS IS OF BULK AT MOST 1048576: true; the input reads as it did. -/
def fnExactConicOfUptoRow : OpenClaim := { program := "ytijmmagdkbnhdaa", sum := "9866669d26c42ca351b46ad11e010ba3753853ae06a6bfbf2fdf9cb668b2636c", func := "loop.example/g01370/laws.FnExactConicOf", spec := "fnExactConicOf", apart := false, narrowed := true }
def FnExactConicOfUptoSaid : Prop := fnExactConicOfUptoRow.holds Try.pinned (OpenSpec.upto fnExactConicOfSpec)

/-- 'laws.FnExactConicPoints', WHERE WHAT IT READS IS OF BULK AT MOST 1048576: true; the input reads as it did. -/
def fnExactConicPointsUptoRow : OpenClaim := { program := "ytijmmagdkbnhdaa", sum := "9866669d26c42ca351b46ad11e010ba3753853ae06a6bfbf2fdf9cb668b2636c", func := "loop.example/g01370/laws.FnExactConicPoints", spec := "fnExactConicPoints", unfollowed := true, recurses := true, apart := false, narrowed := true }
def FnExactConicPointsUptoSaid : Prop := fnExactConicPointsUptoRow.holds Try.pinned (OpenSpec.upto fnExactConicPointsSpec)

/-- 'laws.FnExactKindOf', WHERE WHAT IT READS IS OF BULK AT MOST 1048576: true; the input reads as it did. -/
def fnExactKindOfUptoRow : OpenClaim := { program := "ytijmmagdkbnhdaa", sum := "9866669d26c42ca351b46ad11e010ba3753853ae06a6bfbf2fdf9cb668b2636c", func := "loop.example/g01370/laws.FnExactKindOf", spec := "fnExactKindOf", apart := false, narrowed := true }
def FnExactKindOfUptoSaid : Prop := fnExactKindOfUptoRow.holds Try.pinned (OpenSpec.upto fnExactKindOfSpec)

/-- 'laws.FnExactDeterminantOf', WHERE WHAT IT READS IS OF BULK AT MOST 1048576: true; the input reads as it did. -/
def fnExactDeterminantOfUptoRow : OpenClaim := { program := "ytijmmagdkbnhdaa", sum := "9866669d26c42ca351b46ad11e010ba3753853ae06a6bfbf2fdf9cb668b2636c", func := "loop.example/g01370/laws.FnExactDeterminantOf", spec := "fnExactDeterminantOf", apart := false, narrowed := true }
def FnExactDeterminantOfUptoSaid : Prop := fnExactDeterminantOfUptoRow.holds Try.pinned (OpenSpec.upto fnExactDeterminantOfSpec)

/-- 'laws.FnExactCentreOf', WHERE WHAT IT READS IS OF BULK AT MOST 1048576: true; the input reads as it did. -/
def fnExactCentreOfUptoRow : OpenClaim := { program := "ytijmmagdkbnhdaa", sum := "9866669d26c42ca351b46ad11e010ba3753853ae06a6bfbf2fdf9cb668b2636c", func := "loop.example/g01370/laws.FnExactCentreOf", spec := "fnExactCentreOf", apart := false, narrowed := true }
def FnExactCentreOfUptoSaid : Prop := fnExactCentreOfUptoRow.holds Try.pinned (OpenSpec.upto fnExactCentreOfSpec)

/-- 'laws.FnExactPolarOf', WHERE WHAT IT READS IS OF BULK AT MOST 1048576: true; the input reads as it did. -/
def fnExactPolarOfUptoRow : OpenClaim := { program := "ytijmmagdkbnhdaa", sum := "9866669d26c42ca351b46ad11e010ba3753853ae06a6bfbf2fdf9cb668b2636c", func := "loop.example/g01370/laws.FnExactPolarOf", spec := "fnExactPolarOf", apart := false, narrowed := true }
def FnExactPolarOfUptoSaid : Prop := fnExactPolarOfUptoRow.holds Try.pinned (OpenSpec.upto fnExactPolarOfSpec)

/-- 'laws.FnExactPoleOf', WHERE WHAT IT READS IS OF BULK AT MOST 1048576: true; the input reads as it did. -/
def fnExactPoleOfUptoRow : OpenClaim := { program := "ytijmmagdkbnhdaa", sum := "9866669d26c42ca351b46ad11e010ba3753853ae06a6bfbf2fdf9cb668b2636c", func := "loop.example/g01370/laws.FnExactPoleOf", spec := "fnExactPoleOf", unfollowed := true, recurses := true, apart := false, narrowed := true }
def FnExactPoleOfUptoSaid : Prop := fnExactPoleOfUptoRow.holds Try.pinned (OpenSpec.upto fnExactPoleOfSpec)

/-- 'laws.FnExactTangentOf', WHERE WHAT IT READS IS OF BULK AT MOST 1048576: true; the input reads as it did. -/
def fnExactTangentOfUptoRow : OpenClaim := { program := "ytijmmagdkbnhdaa", sum := "9866669d26c42ca351b46ad11e010ba3753853ae06a6bfbf2fdf9cb668b2636c", func := "loop.example/g01370/laws.FnExactTangentOf", spec := "fnExactTangentOf", apart := false, narrowed := true }
def FnExactTangentOfUptoSaid : Prop := fnExactTangentOfUptoRow.holds Try.pinned (OpenSpec.upto fnExactTangentOfSpec)

/-- 'laws.FnExactConicThrough', WHERE WHAT IT READS IS OF BULK AT MOST 1048576: true; the input reads as it did. -/
def fnExactConicThroughUptoRow : OpenClaim := { program := "ytijmmagdkbnhdaa", sum := "9866669d26c42ca351b46ad11e010ba3753853ae06a6bfbf2fdf9cb668b2636c", func := "loop.example/g01370/laws.FnExactConicThrough", spec := "fnExactConicThrough", unfollowed := true, recurses := true, apart := false, narrowed := true }
def FnExactConicThroughUptoSaid : Prop := fnExactConicThroughUptoRow.holds Try.pinned (OpenSpec.upto fnExactConicThroughSpec)

/-- 'laws.FnExactParabolaOf', WHERE WHAT IT READS IS OF BULK AT MOST 1048576: true; the input reads as it did. -/
def fnExactParabolaOfUptoRow : OpenClaim := { program := "ytijmmagdkbnhdaa", sum := "9866669d26c42ca351b46ad11e010ba3753853ae06a6bfbf2fdf9cb668b2636c", func := "loop.example/g01370/laws.FnExactParabolaOf", spec := "fnExactParabolaOf", unfollowed := true, recurses := true, apart := false, narrowed := true }
def FnExactParabolaOfUptoSaid : Prop := fnExactParabolaOfUptoRow.holds Try.pinned (OpenSpec.upto fnExactParabolaOfSpec)

end Rows
end Go.Proofs.Ytijmmagdkbnhdaa
