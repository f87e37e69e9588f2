/-
  spec.l01Parallel.
-/
import Derived.Test.YtjjeekmhpcllaaaMod
import Derived.Test.YtjjeekmhpcllaaaBaseMath
namespace Go.Proofs.Ytjjeekmhpcllaaa
open Go.RowKit

/-- The third number of the parallel through a point. -/
def par3 (p a1 a2 l1 l2 : Int) : Int := (-l1 * a1 - l2 * a2) % p

set_option maxRecDepth 20000 in
set_option maxHeartbeats 400000 in
theorem specParallel_any (p a1 a2 l1 l2 l3 : Int) (w : World) (hp : isP p = true) (ha1 : 0 ≤ a1 ∧ a1 ≤ 31) (ha2 : 0 ≤ a2 ∧ a2 ≤ 31) (hl1 : 0 ≤ l1 ∧ l1 ≤ 31) (hl2 : 0 ≤ l2 ∧ l2 ≤ 31) :
    Calls Try.prog 82 #[.int .i64 p, .agg #[.int .i64 l1, .int .i64 l2, .int .i64 l3], .agg #[.int .i64 a1, .int .i64 a2]] w fun e w' =>
      e = .returned (.agg #[.int .i64 l1, .int .i64 l2, .int .i64 (par3 p a1 a2 l1 l2)]) ∧ Below w.heap.size w w' := by
  have hr := isP_range hp
  have m1 := mulP hl1 ha1
  have m2 := mulP hl2 ha2
  have m3 := mulB (a := -l1) (b := a1) (by omega) (by omega)
  have e1 : IntKind.i64.wrap (-l1) = -l1 := IntWalk.i64_in _ (by omega)
  have e2 : IntKind.i64.wrap (-l1 * a1) = -l1 * a1 := IntWalk.i64_in _ (by omega)
  have e3 : IntKind.i64.wrap (l2 * a2) = l2 * a2 := IntWalk.i64_in _ (by omega)
  have e4 : IntKind.i64.wrap (-l1 * a1 - l2 * a2) = -l1 * a1 - l2 * a2 := IntWalk.i64_in _ (by omega)
  have HV := Lib.hid (show par3 p a1 a2 l1 l2 = (-l1 * a1 - l2 * a2) % p from rfl)
  go_enter Try.func82, Try.ntmps82
  go_wp2_with fail
  (refine region_tail 19 (by kernel_rfl) (by kernel_rfl) ?_; simp only [List.take_succ_cons, List.take_zero, List.drop_succ_cons, List.drop_zero]; repeat still_step)
  (still_call (stillOf (mod_any _ _ _ (by omega) (by omega) (by omega) (by omega))); repeat still_step)
  refine wpStill_nil ?_
  go_wp2
  (refine bodyPost_ret (v := .agg #[.int .i64 l1, .int .i64 l2, .int .i64 (par3 p a1 a2 l1 l2)]) (by simp [results, Try.results82, go_sem, HV.out]) rfl ⟨?_, ?_⟩)
  · rfl
  · (repeat (first | exact Below.refl _ _ | assumption | refine balloc ?_ _ | refine bdrewN ?_ _ | refine Below.drew ?_ | refine Below.setCell ?_ (by first | (simp; done) | (simp; omega)) _))

end Go.Proofs.Ytjjeekmhpcllaaa
