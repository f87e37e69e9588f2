/-
  spec.l08Value.
-/
import Derived.Test.YtijmmagdkbnhdaaConMath
import Derived.Test.YtijmmagdkbnhdaaMod
import Derived.Deep.RegionHeld3
import Derived.Deep.DeepCutAuto
import Derived.Test.YtijmmagdkbnhdaaBaseMath
namespace Go.Proofs.Ytijmmagdkbnhdaa
open Go.RowKit

set_option linter.unusedVariables false in
set_option linter.unusedSimpArgs false in
set_option maxRecDepth 20000 in
set_option maxHeartbeats 4000000 in
theorem specCv_any (p k1 k2 k3 k4 k5 k6 a1 a2 : Int)  (w : World) (hp : isP p = true) (hk1 : 0 ≤ k1 ∧ k1 ≤ 31) (hk2 : 0 ≤ k2 ∧ k2 ≤ 31) (hk3 : 0 ≤ k3 ∧ k3 ≤ 31) (hk4 : 0 ≤ k4 ∧ k4 ≤ 31) (hk5 : 0 ≤ k5 ∧ k5 ≤ 31) (hk6 : 0 ≤ k6 ∧ k6 ≤ 31) (ha1 : 0 ≤ a1 ∧ a1 ≤ 31) (ha2 : 0 ≤ a2 ∧ a2 ≤ 31) :
    Calls Try.prog 93 #[.int .i64 p, .agg #[.int .i64 k1, .int .i64 k2, .int .i64 k3, .int .i64 k4, .int .i64 k5, .int .i64 k6], .agg #[.int .i64 a1, .int .i64 a2]] w fun e w' =>
      e = .returned (.int .i64 (cvl p k1 k2 k3 k4 k5 k6 a1 a2)) ∧ Below w.heap.size w w' := by
  have hr := isP_range hp
  have mu_1 := mulNN 31 31 961 (by decide) (a := k1) (b := a1) (by omega) (by omega)
  have mu_2 := mulNN 961 31 29791 (by decide) (a := k1 * a1) (b := a1) (by omega) (by omega)
  have mu_3 := mulNN 31 31 961 (by decide) (a := k2) (b := a1) (by omega) (by omega)
  have mu_4 := mulNN 961 31 29791 (by decide) (a := k2 * a1) (b := a2) (by omega) (by omega)
  have mu_5 := mulNN 31 31 961 (by decide) (a := k3) (b := a2) (by omega) (by omega)
  have mu_6 := mulNN 961 31 29791 (by decide) (a := k3 * a2) (b := a2) (by omega) (by omega)
  have mu_7 := mulNN 31 31 961 (by decide) (a := k4) (b := a1) (by omega) (by omega)
  have mu_8 := mulNN 31 31 961 (by decide) (a := k5) (b := a2) (by omega) (by omega)
  obtain ⟨v1, hv1⟩ : ∃ v : Int, v = ((k1 * a1) * a1 + ((k2 * a1) * a2) + ((k3 * a2) * a2) + (k4 * a1) + (k5 * a2) + k6) % p := ⟨_, rfl⟩
  have rv1 := modR ((k1 * a1) * a1 + ((k2 * a1) * a2) + ((k3 * a2) * a2) + (k4 * a1) + (k5 * a2) + k6) hp
  rw [← hv1] at rv1
  have Hv1 := Lib.hid hv1
  clear hv1
  go_enter Try.func93, Try.ntmps93
  go_wp2
  go_quiet (fail)
  go_wp2_with fail
  refine Calls.mono (mod_any _ _ _ (by omega) (by omega) (by omega) (by omega)) ?_
  rw [← Hv1.out]
  rintro e w' ⟨rfl, rfl⟩
  have HV := Lib.hid (show cvl p k1 k2 k3 k4 k5 k6 a1 a2 = v1 from by
    try rw [Hv1.out]
    all_goals (rfl))
  go_wp2
  (refine bodyPost_ret (v := .int .i64 (cvl p k1 k2 k3 k4 k5 k6 a1 a2)) (by simp [results, Try.results93, go_sem, HV.out, *]) rfl ⟨?_, ?_⟩)
  · rfl
  · (repeat (first | with_reducible exact Below.refl _ _ | with_reducible refine balloc ?_ _ | with_reducible refine bdrewN ?_ _ | with_reducible refine Below.drew ?_ | with_reducible refine bthen ?_ (by with_reducible assumption) | with_reducible refine Below.setCell ?_ (by first | (simp; done) | (simp; omega)) _))

end Go.Proofs.Ytijmmagdkbnhdaa
