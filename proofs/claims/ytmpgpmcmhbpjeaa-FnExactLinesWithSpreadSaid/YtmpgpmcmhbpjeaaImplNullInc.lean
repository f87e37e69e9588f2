/-
  impl.arePerpendicular of a line with itself.
-/
import Derived.Test.YtmpgpmcmhbpjeaaImplPerpc
import Derived.Test.YtmpgpmcmhbpjeaaMgc0

namespace Go.Proofs.Ytmpgpmcmhbpjeaa
open Go.RowKit

theorem implNullIn (p c l1 l2 l3 : Int) (w : World) (hp : isP p = true) (hc : colB c = true) (h1 : 0 ≤ l1 ∧ l1 ≤ 31) (h2 : 0 ≤ l2 ∧ l2 ≤ 31) :
    Calls Try.prog 58 #[.int .i64 p, .int .i64 c, .agg #[.int .i64 l1, .int .i64 l2, .int .i64 l3], .agg #[.int .i64 l1, .int .i64 l2, .int .i64 l3]] w fun e w' => e = .returned (.bool (nullB p c l1 l2)) ∧ Below w.heap.size w w' := implPerp_any p c l1 l2 l3 l1 l2 l3 w hp hc h1 h2 h1 h2
end Go.Proofs.Ytmpgpmcmhbpjeaa
