/-
  spec.l08Determinant.
-/
import Derived.Test.YtmpgpmcmhbpjeaaConMath
import Derived.Test.YtmpgpmcmhbpjeaaMod
import Derived.Deep.RegionHeld3
import Derived.Deep.DeepCutAuto
import Derived.Test.YtmpgpmcmhbpjeaaBaseMath
namespace Go.Proofs.Ytmpgpmcmhbpjeaa
open Go.RowKit

set_option linter.unusedVariables false in
set_option linter.unusedSimpArgs false in
set_option maxRecDepth 20000 in
set_option maxHeartbeats 4000000 in
theorem specDtm_any (p k1 k2 k3 k4 k5 k6 : Int)  (w : World) (hp : isP p = true) (hk1 : 0 ≤ k1 ∧ k1 ≤ 31) (hk2 : 0 ≤ k2 ∧ k2 ≤ 31) (hk3 : 0 ≤ k3 ∧ k3 ≤ 31) (hk4 : 0 ≤ k4 ∧ k4 ≤ 31) (hk5 : 0 ≤ k5 ∧ k5 ≤ 31) (hk6 : 0 ≤ k6 ∧ k6 ≤ 31) :
    Calls Try.prog 34 #[.int .i64 p, .agg #[.int .i64 k1, .int .i64 k2, .int .i64 k3, .int .i64 k4, .int .i64 k5, .int .i64 k6]] w fun e w' =>
      e = .returned (.int .i64 (dtm p k1 k2 k3 k4 k5 k6)) ∧ Below w.heap.size w w' := by
  have hr := isP_range hp
  have e_1 : IntKind.i64.wrap (2 * k1) = 2 * k1 := wrapI _ (by omega)
  have e_2 : IntKind.i64.wrap (2 * k3) = 2 * k3 := wrapI _ (by omega)
  have e_3 : IntKind.i64.wrap (2 * k6) = 2 * k6 := wrapI _ (by omega)
  have mu_1 := mulNN 62 62 3844 (by decide) (a := 2 * k3) (b := 2 * k6) (by omega) (by omega)
  have mu_2 := mulNN 31 31 961 (by decide) (a := k5) (b := k5) (by omega) (by omega)
  have mu_3 := mulSS 62 3844 238328 (by decide) (by decide) (a := 2 * k1) (b := (2 * k3) * (2 * k6) - (k5 * k5)) (by omega) (by omega)
  have mu_4 := mulNN 31 62 1922 (by decide) (a := k2) (b := 2 * k6) (by omega) (by omega)
  have mu_5 := mulNN 31 31 961 (by decide) (a := k5) (b := k4) (by omega) (by omega)
  have mu_6 := mulSS 31 1922 59582 (by decide) (by decide) (a := k2) (b := k2 * (2 * k6) - (k5 * k4)) (by omega) (by omega)
  have mu_7 := mulNN 31 31 961 (by decide) (a := k2) (b := k5) (by omega) (by omega)
  have mu_8 := mulNN 62 31 1922 (by decide) (a := 2 * k3) (b := k4) (by omega) (by omega)
  have mu_9 := mulSS 31 1922 59582 (by decide) (by decide) (a := k4) (b := k2 * k5 - ((2 * k3) * k4)) (by omega) (by omega)
  obtain ⟨v1, hv1⟩ : ∃ v : Int, v = ((2 * k1) * ((2 * k3) * (2 * k6) - (k5 * k5)) - (k2 * (k2 * (2 * k6) - (k5 * k4))) + (k4 * (k2 * k5 - ((2 * k3) * k4)))) % p := ⟨_, rfl⟩
  have rv1 := modR ((2 * k1) * ((2 * k3) * (2 * k6) - (k5 * k5)) - (k2 * (k2 * (2 * k6) - (k5 * k4))) + (k4 * (k2 * k5 - ((2 * k3) * k4)))) hp
  rw [← hv1] at rv1
  have Hv1 := Lib.hid hv1
  clear hv1
  go_enter Try.func34, Try.ntmps34
  go_wp2
  go_quiet (fail)
  go_wp2_with fail
  refine Calls.mono (mod_any _ _ _ (by omega) (by omega) (by omega) (by omega)) ?_
  rw [← Hv1.out]
  rintro e w' ⟨rfl, rfl⟩
  have HV := Lib.hid (show dtm p k1 k2 k3 k4 k5 k6 = v1 from by
    try rw [Hv1.out]
    all_goals (rfl))
  go_wp2
  (refine bodyPost_ret (v := .int .i64 (dtm p k1 k2 k3 k4 k5 k6)) (by simp [results, Try.results34, go_sem, HV.out, *]) rfl ⟨?_, ?_⟩)
  · rfl
  · (repeat (first | with_reducible exact Below.refl _ _ | with_reducible refine balloc ?_ _ | with_reducible refine bdrewN ?_ _ | with_reducible refine Below.drew ?_ | with_reducible refine bthen ?_ (by with_reducible assumption) | with_reducible refine Below.setCell ?_ (by first | (simp; done) | (simp; omega)) _))

end Go.Proofs.Ytmpgpmcmhbpjeaa
