/-
  impl.polarRows.
-/
import Derived.Test.YtmpgpmcmhbpjeaaConMath
import Derived.Test.YtmpgpmcmhbpjeaaImplRest
import Derived.Deep.RegionHeld3
import Derived.Deep.DeepCutAuto
import Derived.Test.YtmpgpmcmhbpjeaaBaseMath
namespace Go.Proofs.Ytmpgpmcmhbpjeaa
open Go.RowKit

set_option linter.unusedVariables false in
set_option linter.unusedSimpArgs false in
set_option maxRecDepth 20000 in
set_option maxHeartbeats 4000000 in
theorem polarRows_any (p k1 k2 k3 k4 k5 k6 : Int)  (w : World) (hp : isP p = true) (hk1 : 0 ≤ k1 ∧ k1 ≤ 31) (hk2 : 0 ≤ k2 ∧ k2 ≤ 31) (hk3 : 0 ≤ k3 ∧ k3 ≤ 31) (hk4 : 0 ≤ k4 ∧ k4 ≤ 31) (hk5 : 0 ≤ k5 ∧ k5 ≤ 31) (hk6 : 0 ≤ k6 ∧ k6 ≤ 31) :
    Calls Try.prog 75 #[.int .i64 p, .agg #[.int .i64 k1, .int .i64 k2, .int .i64 k3, .int .i64 k4, .int .i64 k5, .int .i64 k6]] w fun e w' =>
      e = .returned (.agg #[.int .i64 (2 * k1 % p), .int .i64 (k2), .int .i64 (k4), .int .i64 (k2), .int .i64 (2 * k3 % p), .int .i64 (k5), .int .i64 (k4), .int .i64 (k5), .int .i64 (2 * k6 % p)]) ∧ Below w.heap.size w w' := by
  have hr := isP_range hp
  have e_1 : IntKind.i64.wrap (2 * k1) = 2 * k1 := wrapI _ (by omega)
  have d_2 := modR (2 * k1) hp
  have t_2 : (2 * k1).tmod p = (2 * k1) % p := Int.tmod_eq_emod_of_nonneg (by omega)
  have hpos : p ≠ 0 := by omega
  have e_3 : IntKind.i64.wrap (2 * k3) = 2 * k3 := wrapI _ (by omega)
  have d_4 := modR (2 * k3) hp
  have t_4 : (2 * k3).tmod p = (2 * k3) % p := Int.tmod_eq_emod_of_nonneg (by omega)
  have e_5 : IntKind.i64.wrap (2 * k6) = 2 * k6 := wrapI _ (by omega)
  have d_6 := modR (2 * k6) hp
  have t_6 : (2 * k6).tmod p = (2 * k6) % p := Int.tmod_eq_emod_of_nonneg (by omega)
  go_enter Try.func75, Try.ntmps75
  go_wp2
  go_quiet (fail)
  go_wp2_with fail
  (refine region_tail 22 (by kernel_rfl) (by kernel_rfl) ?_; simp only [List.take_succ_cons, List.take_zero, List.drop_succ_cons, List.drop_zero]; repeat still_step)
  refine wpStill_nil ?_
  have HV := Lib.hid (show 2 * k1 % p = (2 * k1) % p ∧ 2 * k3 % p = (2 * k3) % p ∧ 2 * k6 % p = (2 * k6) % p from by exact ⟨rfl, rfl, rfl⟩)
  go_wp2
  (refine bodyPost_ret (v := .agg #[.int .i64 (2 * k1 % p), .int .i64 (k2), .int .i64 (k4), .int .i64 (k2), .int .i64 (2 * k3 % p), .int .i64 (k5), .int .i64 (k4), .int .i64 (k5), .int .i64 (2 * k6 % p)]) (by simp [results, Try.results75, go_sem, HV.out.1, HV.out.2.1, HV.out.2.2, *]) rfl ⟨?_, ?_⟩)
  · rfl
  · (repeat (first | with_reducible exact Below.refl _ _ | with_reducible refine balloc ?_ _ | with_reducible refine bdrewN ?_ _ | with_reducible refine Below.drew ?_ | with_reducible refine bthen ?_ (by with_reducible assumption) | with_reducible refine Below.setCell ?_ (by first | (simp; done) | (simp; omega)) _))

end Go.Proofs.Ytmpgpmcmhbpjeaa
