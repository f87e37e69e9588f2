/-
  ParabolaOf: the model's.
-/
import Derived.Test.YtijmmagdkbnhdaaSPar0
import Derived.Test.YtijmmagdkbnhdaaSPar1
import Derived.Test.YtijmmagdkbnhdaaSPar2
import Derived.Test.YtijmmagdkbnhdaaBaseMath
namespace Go.Proofs.Ytijmmagdkbnhdaa
open Go.RowKit

theorem specParabolaOf_any (p col a1 a2 l1 l2 l3 : Int) (w : World) :
    Calls Try.prog 51 #[.int .i64 p, .int .i64 col, .agg #[.int .i64 a1, .int .i64 a2], .agg #[.int .i64 l1, .int .i64 l2, .int .i64 l3]] w fun e w' =>
      e = .returned (.tuple #[.agg #[.int .i64 (paW1 p col a1 a2 l1 l2 l3), .int .i64 (paW2 p col a1 a2 l1 l2 l3), .int .i64 (paW3 p col a1 a2 l1 l2 l3), .int .i64 (paW4 p col a1 a2 l1 l2 l3), .int .i64 (paW5 p col a1 a2 l1 l2 l3), .int .i64 (paW6 p col a1 a2 l1 l2 l3)], .int .i64 (paC p col a1 a2 l1 l2 l3)]) ∧ Below w.heap.size w w' := by
  rcases bool_ways (col == 1) with h1 | h1
  · rcases bool_ways (col == 2) with h2 | h2
    · exact specPar0 p col a1 a2 l1 l2 l3 w h1 h2
    · exact specPar2 p col a1 a2 l1 l2 l3 w h1 h2
  · exact specPar1 p col a1 a2 l1 l2 l3 w h1

end Go.Proofs.Ytijmmagdkbnhdaa
