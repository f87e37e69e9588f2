/-
  No cell of these rows narrows 'for every input' (looked for: loops, veiled, ifaces, maps, wideKeys, modest, calm, conditions, laid).
  DERIVED. THE GIVEN ROWS OF THIS SEAT. 5 by the template 'for every input the law returns true; each argument reads behind the call as it read before'; 0 by the template 'total and deterministic' (their statements: YtibfbdgenamlkaaTotals.lean).
  GIVEN WITH THE SEED: the statements are not yours to turn. If you find one false, say at which input.
  Laid BY PROGRAM, IN A SANDBOX (cutbox-rows.mjs): the forced cells as the released guide's own fill.sh prints them over the translation 6f7fa457d3279000… (all of the seat's roots in one cut). By AI agents, Wed Nov 11 2026. No macro, syntax, notation, axiom, sorry.
-/
import Derived.Test.YtibfbdgenamlkaaChecked
import GoSem.Claim
import GoSem.ClaimJoined
import GoSem.ClaimMapViews
import Derived.JoinedTies
import Derived.KernelRfl
namespace Go.Proofs.Ytibfbdgenamlkaa
/- THE CELL 'sum', in the pinned program and in every row, IS THE sha256 OF THE DUMP (.gsa) THAT YtibfbdgenamlkaaProg.lean LOADS. Nothing in Lean hashes anything: it is a label: what it is worth is what the hold of that sum in a sandbox is worth. -/
noncomputable def Try.pinned : Pinned := { name := "ytibfbdgenamlkaa", sum := "6f7fa457d3279000c832b02944fe7a6671079fafa94d671e47d922d1fab82ffa", checked := Try.checked }
namespace Rows
def none {H : Type} : Left H := { results := [], args := [] }

/-- 'laws.FnExactTurnsAbout': WHATEVER THE INPUT: true; the input reads as it did. -/
def fnExactTurnsAboutSpec : ChangeSpec := { name := "fnExactTurnsAbout", fn := fun _ => fun
  | [d1, d2, d3] => { results := [.lit (.bool true)], args := [d1, d2, d3] }
  | _ => none }
def fnExactTurnsAboutRow : OpenClaim := { program := "ytibfbdgenamlkaa", sum := "6f7fa457d3279000c832b02944fe7a6671079fafa94d671e47d922d1fab82ffa", func := "loop.example/g01370/laws.FnExactTurnsAbout", spec := "fnExactTurnsAbout", unfollowed := true, recurses := true, plainKeys := false, apart := false }
def FnExactTurnsAboutSaid : Prop := fnExactTurnsAboutRow.holds Try.pinned (OpenSpec.ofChange fnExactTurnsAboutSpec)

/-- ITS FALSE NEIGHBOUR: 'it returns false'. Refute it at one input. -/
def fnExactTurnsAboutWrong : ChangeSpec := { name := "fnExactTurnsAbout", fn := fun _ => fun
  | [d1, d2, d3] => { results := [.lit (.bool false)], args := [d1, d2, d3] }
  | _ => none }
def FnExactTurnsAboutWrongFalsely : Prop := fnExactTurnsAboutRow.holds Try.pinned (OpenSpec.ofChange fnExactTurnsAboutWrong)

/-- 'laws.FnExactCountTurns': WHATEVER THE INPUT: true; the input reads as it did. -/
def fnExactCountTurnsSpec : ChangeSpec := { name := "fnExactCountTurns", fn := fun _ => fun
  | [d1, d2] => { results := [.lit (.bool true)], args := [d1, d2] }
  | _ => none }
def fnExactCountTurnsRow : OpenClaim := { program := "ytibfbdgenamlkaa", sum := "6f7fa457d3279000c832b02944fe7a6671079fafa94d671e47d922d1fab82ffa", func := "loop.example/g01370/laws.FnExactCountTurns", spec := "fnExactCountTurns", unfollowed := true, recurses := true, plainKeys := false, apart := false }
def FnExactCountTurnsSaid : Prop := fnExactCountTurnsRow.holds Try.pinned (OpenSpec.ofChange fnExactCountTurnsSpec)

/-- ITS FALSE NEIGHBOUR: 'it returns false'. Refute it at one input. -/
def fnExactCountTurnsWrong : ChangeSpec := { name := "fnExactCountTurns", fn := fun _ => fun
  | [d1, d2] => { results := [.lit (.bool false)], args := [d1, d2] }
  | _ => none }
def FnExactCountTurnsWrongFalsely : Prop := fnExactCountTurnsRow.holds Try.pinned (OpenSpec.ofChange fnExactCountTurnsWrong)

/-- 'laws.FnExactIsDesk': WHATEVER THE INPUT: true; the input reads as it did. -/
def fnExactIsDeskSpec : ChangeSpec := { name := "fnExactIsDesk", fn := fun _ => fun
  | [d] => { results := [.lit (.bool true)], args := [d] }
  | _ => none }
def fnExactIsDeskRow : OpenClaim := { program := "ytibfbdgenamlkaa", sum := "6f7fa457d3279000c832b02944fe7a6671079fafa94d671e47d922d1fab82ffa", func := "loop.example/g01370/laws.FnExactIsDesk", spec := "fnExactIsDesk", plainKeys := false, apart := false }
def FnExactIsDeskSaid : Prop := fnExactIsDeskRow.holds Try.pinned (OpenSpec.ofChange fnExactIsDeskSpec)

/-- ITS FALSE NEIGHBOUR: 'it returns false'. Refute it at one input. -/
def fnExactIsDeskWrong : ChangeSpec := { name := "fnExactIsDesk", fn := fun _ => fun
  | [d] => { results := [.lit (.bool false)], args := [d] }
  | _ => none }
def FnExactIsDeskWrongFalsely : Prop := fnExactIsDeskRow.holds Try.pinned (OpenSpec.ofChange fnExactIsDeskWrong)

/-- 'laws.FnExactNewDesk': WHATEVER THE INPUT: true; the input reads as it did. -/
def fnExactNewDeskSpec : ChangeSpec := { name := "fnExactNewDesk", fn := fun _ => fun
  | [] => { results := [.lit (.bool true)], args := [] }
  | _ => none }
def fnExactNewDeskRow : OpenClaim := { program := "ytibfbdgenamlkaa", sum := "6f7fa457d3279000c832b02944fe7a6671079fafa94d671e47d922d1fab82ffa", func := "loop.example/g01370/laws.FnExactNewDesk", spec := "fnExactNewDesk", plainKeys := false, apart := false }
def FnExactNewDeskSaid : Prop := fnExactNewDeskRow.holds Try.pinned (OpenSpec.ofChange fnExactNewDeskSpec)

/-- ITS FALSE NEIGHBOUR: 'it returns false'. Refute it at one input. -/
def fnExactNewDeskWrong : ChangeSpec := { name := "fnExactNewDesk", fn := fun _ => fun
  | [] => { results := [.lit (.bool false)], args := [] }
  | _ => none }
def FnExactNewDeskWrongFalsely : Prop := fnExactNewDeskRow.holds Try.pinned (OpenSpec.ofChange fnExactNewDeskWrong)

/-- 'laws.FnExactConicThrough': WHATEVER THE INPUT: true; the input reads as it did. -/
def fnExactConicThroughSpec : ChangeSpec := { name := "fnExactConicThrough", fn := fun _ => fun
  | [d1, d2] => { results := [.lit (.bool true)], args := [d1, d2] }
  | _ => none }
def fnExactConicThroughRow : OpenClaim := { program := "ytibfbdgenamlkaa", sum := "6f7fa457d3279000c832b02944fe7a6671079fafa94d671e47d922d1fab82ffa", func := "loop.example/g01370/laws.FnExactConicThrough", spec := "fnExactConicThrough", unfollowed := true, recurses := true, plainKeys := false, apart := false }
def FnExactConicThroughSaid : Prop := fnExactConicThroughRow.holds Try.pinned (OpenSpec.ofChange fnExactConicThroughSpec)

/-- ITS FALSE NEIGHBOUR: 'it returns false'. Refute it at one input. -/
def fnExactConicThroughWrong : ChangeSpec := { name := "fnExactConicThrough", fn := fun _ => fun
  | [d1, d2] => { results := [.lit (.bool false)], args := [d1, d2] }
  | _ => none }
def FnExactConicThroughWrongFalsely : Prop := fnExactConicThroughRow.holds Try.pinned (OpenSpec.ofChange fnExactConicThroughWrong)

/- THE SECOND FORM. 'bulk': how many values and letters a reading holds, each counted each time it is reached (what is shared counts as often as it is met; a slice's spare places count too). A statement '..UptoSaid' is the law's where the arguments, and the package variables that the reading takes, are together of bulk at most 1048576: NARROWER than '..Said'. Prove '..Said' where nothing that the law and all that it calls make is longer than what came in: it says more and counts as full. Else prove '..UptoSaid'. A law counts once. -/
mutual
def uptoBulk {H : Type} : DataW H → Nat
  | .lit (.string bytes) => bytes.length + 1
  | .lit _ => 1
  | .nil => 1
  | .ptr d => uptoBulk d + 1
  | .slice elems spare => uptoBulkAll elems + uptoBulkAll spare + 1
  | .agg parts => uptoBulkAll parts + 1
  | .iface _ d => uptoBulk d + 1
  | .map entries => uptoBulkEntries entries + 1
  | .held _ => 1
def uptoBulkAll {H : Type} : List (DataW H) → Nat
  | [] => 0
  | d :: r => uptoBulk d + uptoBulkAll r
def uptoBulkEntries {H : Type} : List (Lit × DataW H) → Nat
  | [] => 0
  | x :: r => uptoBulkEntry x + uptoBulkEntries r
def uptoBulkEntry {H : Type} : Lit × DataW H → Nat
  | (.string bytes, d) => bytes.length + uptoBulk d + 1
  | (_, d) => uptoBulk d + 1
 end
def uptoSmall : (H : Type) → List (DataW H) → Bool := fun _ ds => decide (uptoBulkAll ds ≤ 1048576)
def OpenSpec.upto (s : _root_.Go.ChangeSpec) : _root_.Go.OpenSpec := { _root_.Go.OpenSpec.ofChange s with cond := some uptoSmall }

/-- 'laws.FnExactTurnsAbout', WHERE WHAT IT READS IS OF BULK AT MOST 1048576: true; the input reads as it did. -/
def fnExactTurnsAboutUptoRow : OpenClaim := { program := "ytibfbdgenamlkaa", sum := "6f7fa457d3279000c832b02944fe7a6671079fafa94d671e47d922d1fab82ffa", func := "loop.example/g01370/laws.FnExactTurnsAbout", spec := "fnExactTurnsAbout", unfollowed := true, recurses := true, plainKeys := false, apart := false, narrowed := true }
def FnExactTurnsAboutUptoSaid : Prop := fnExactTurnsAboutUptoRow.holds Try.pinned (OpenSpec.upto fnExactTurnsAboutSpec)

/-- 'laws.FnExactCountTurns', WHERE WHAT IT READS IS OF BULK AT MOST 1048576: true; the input reads as it did. -/
def fnExactCountTurnsUptoRow : OpenClaim := { program := "ytibfbdgenamlkaa", sum := "6f7fa457d3279000c832b02944fe7a6671079fafa94d671e47d922d1fab82ffa", func := "loop.example/g01370/laws.FnExactCountTurns", spec := "fnExactCountTurns", unfollowed := true, recurses := true, plainKeys := false, apart := false, narrowed := true }
def FnExactCountTurnsUptoSaid : Prop := fnExactCountTurnsUptoRow.holds Try.pinned (OpenSpec.upto fnExactCountTurnsSpec)

/-- 'laws.FnExactIsDesk', WHERE WHAT IT READS IS OF BULK AT MOST 1048576: true; the input reads as it did. -/
def fnExactIsDeskUptoRow : OpenClaim := { program := "ytibfbdgenamlkaa", sum := "6f7fa457d3279000c832b02944fe7a6671079fafa94d671e47d922d1fab82ffa", func := "loop.example/g01370/laws.FnExactIsDesk", spec := "fnExactIsDesk", plainKeys := false, apart := false, narrowed := true }
def FnExactIsDeskUptoSaid : Prop := fnExactIsDeskUptoRow.holds Try.pinned (OpenSpec.upto fnExactIsDeskSpec)

/-- 'laws.FnExactNewDesk', WHERE WHAT IT READS IS OF BULK AT MOST 1048576: true; the input reads as it did. -/
def fnExactNewDeskUptoRow : OpenClaim := { program := "ytibfbdgenamlkaa", sum := "6f7fa457d3279000c832b02944fe7a6671079fafa94d671e47d922d1fab82ffa", func := "loop.example/g01370/laws.FnExactNewDesk", spec := "fnExactNewDesk", plainKeys := false, apart := false, narrowed := true }
def FnExactNewDeskUptoSaid : Prop := fnExactNewDeskUptoRow.holds Try.pinned (OpenSpec.upto fnExactNewDeskSpec)

/-- 'laws.FnExactConicThrough', WHERE WHAT IT READS IS OF BULK AT MOST 1048576: true; the input reads as it did. -/
def fnExactConicThroughUptoRow : OpenClaim := { program := "ytibfbdgenamlkaa", sum := "6f7fa457d3279000c832b02944fe7a6671079fafa94d671e47d922d1fab82ffa", func := "loop.example/g01370/laws.FnExactConicThrough", spec := "fnExactConicThrough", unfollowed := true, recurses := true, plainKeys := false, apart := false, narrowed := true }
def FnExactConicThroughUptoSaid : Prop := fnExactConicThroughUptoRow.holds Try.pinned (OpenSpec.upto fnExactConicThroughSpec)

end Rows
end Go.Proofs.Ytibfbdgenamlkaa
