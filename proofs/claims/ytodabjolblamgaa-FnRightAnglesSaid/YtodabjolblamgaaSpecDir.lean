/-
  spec.l02Direction, spec.l02Perpendicular.
-/
import Derived.Test.YtodabjolblamgaaSpecProd1
import Derived.Deep.RegionHeld3
import Derived.Deep.DeepCutAuto
namespace Go.Proofs.Ytodabjolblamgaa
open Go.RowKit

set_option maxRecDepth 20000 in
set_option maxHeartbeats 400000 in
theorem specDir_any (p l1 l2 l3 : Int) (w : World) (hp : isP p = true) (h2 : 0 ≤ l2 ∧ l2 ≤ 31) :
    Calls Try.prog 87 #[.int .i64 p, .agg #[.int .i64 l1, .int .i64 l2, .int .i64 l3]] w fun e w' =>
      e = .returned (.agg #[.int .i64 (-l2 % p), .int .i64 l1]) ∧ Below w.heap.size w w' := by
  have hr := isP_range hp
  have e1 : IntKind.i64.wrap (-l2) = -l2 := wrapI _ (by omega)
  go_enter Try.func87, Try.ntmps87
  go_wp2_with fail
  (refine region_tail 7 (by kernel_rfl) (by kernel_rfl) ?_; simp only [List.take_succ_cons, List.take_zero, List.drop_succ_cons, List.drop_zero]; repeat still_step)
  (still_call (stillOf (mod_any _ _ _ (by omega) (by omega) (by omega) (by omega))); repeat still_step)
  refine wpStill_nil ?_
  go_wp2
  (refine bodyPost_ret (v := .agg #[.int .i64 (-l2 % p), .int .i64 l1]) (by simp [results, Try.results87, go_sem]) rfl ⟨?_, ?_⟩)
  · rfl
  · (repeat (first | exact Below.refl _ _ | assumption | refine balloc ?_ _ | refine bdrewN ?_ _ | refine Below.drew ?_ | refine Below.setCell ?_ (by first | (simp; done) | (simp; omega)) _))

end Go.Proofs.Ytodabjolblamgaa
