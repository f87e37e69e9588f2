/-
  What a call leaves that returns a slice of its own alone.
-/
import Derived.Test.YtkkaicneabkkdaaMgq0

namespace Go.Proofs.Ytkkaicneabkkdaa
open Go.RowKit

/-- What a call leaves that returns a slice of its own alone. -/
def OnePost (T : TypeId) (k : Nat) (L : List Int) (n : Nat) (w : World) (e : Ending) (w' : World) : Prop :=
  ∃ v, e = .returned v ∧ w'.ownsRow w.heap.size T k v n (ints L) ∧ Below w.heap.size w w'

end Go.Proofs.Ytkkaicneabkkdaa
