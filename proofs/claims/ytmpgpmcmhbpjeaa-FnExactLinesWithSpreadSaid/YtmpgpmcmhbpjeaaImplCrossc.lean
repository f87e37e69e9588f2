/-
  impl.cross.
-/
import Derived.Test.YtmpgpmcmhbpjeaaImplCross0c
import Derived.Test.YtmpgpmcmhbpjeaaImplCross1c
import Derived.Test.YtmpgpmcmhbpjeaaImplCross2c
import Derived.Test.YtmpgpmcmhbpjeaaMgc0

namespace Go.Proofs.Ytmpgpmcmhbpjeaa
open Go.RowKit

theorem cross_any (p c l1 l2 l3 m1 m2 m3 : Int) (w : World) (hp : isP p = true) (hc : colB c = true) (hl1 : 0 ≤ l1 ∧ l1 < p) (hl2 : 0 ≤ l2 ∧ l2 < p) (hm1 : 0 ≤ m1 ∧ m1 < p) (hm2 : 0 ≤ m2 ∧ m2 < p) :
    Calls Try.prog 97 #[.int .i64 p, shV c, .agg #[.int .i64 l1, .int .i64 l2, .int .i64 l3], .agg #[.int .i64 m1, .int .i64 m2, .int .i64 m3]] w fun e w' =>
      e = .returned (.tuple #[.int .i64 (crV p c l1 l2 m1 m2), .int .i64 (crT p c l1 l2 m1 m2)]) ∧ Below w.heap.size w w' := by
  rcases colB_ways hc with rfl | rfl | rfl
  · exact cross0_any p l1 l2 l3 m1 m2 m3 w hp hl1 hl2 hm1 hm2
  · exact cross1_any p l1 l2 l3 m1 m2 m3 w hp hl1 hl2 hm1 hm2
  · exact cross2_any p l1 l2 l3 m1 m2 m3 w hp hl1 hl2 hm1 hm2

end Go.Proofs.Ytmpgpmcmhbpjeaa
