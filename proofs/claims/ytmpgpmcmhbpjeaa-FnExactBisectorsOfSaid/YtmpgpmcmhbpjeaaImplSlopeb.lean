/-
  impl.slopeOf.
-/
import Derived.Test.YtmpgpmcmhbpjeaaRows
import Derived.Test.YtmpgpmcmhbpjeaaMgb0

namespace Go.Proofs.Ytmpgpmcmhbpjeaa
open Go.RowKit

/-- A slice of two or more taken as an array of two. -/
theorem arrayAt2 {P : Program} {t e : TypeId} (h : P.underlying t = some (.array 2 e)) (a : Addr) (c : Nat) (w : World) : (Instr.arrayAt t (.slice (some a) 2 c)).run P w = .ok (.pointer (some a)) w := by
  simp [Instr.arrayAt, run_underlying h]

set_option maxRecDepth 20000 in
set_option maxHeartbeats 400000 in
theorem slope_any (a b c : Int) (w : World) :
    Calls Try.prog 98 #[.agg #[.int .i64 a, .int .i64 b, .int .i64 c]] w fun e w' => e = .returned (.agg #[.int .i64 a, .int .i64 b]) ∧ Below w.heap.size w w' := by
  have hat := @arrayAt2 Try.prog 24 2 (by kernel_rfl)
  go_enter Try.func98, Try.ntmps98
  go_wp2
  (refine bodyPost_ret (v := .agg #[.int .i64 a, .int .i64 b]) (by simp [results, Try.results98, go_sem]) rfl ⟨?_, ?_⟩)
  · rfl
  · (repeat (first | exact Below.refl _ _ | assumption | refine balloc ?_ _ | refine bdrewN ?_ _ | refine Below.drew ?_ | refine Below.setCell ?_ (by first | (simp; done) | (simp; omega)) _))

end Go.Proofs.Ytmpgpmcmhbpjeaa
