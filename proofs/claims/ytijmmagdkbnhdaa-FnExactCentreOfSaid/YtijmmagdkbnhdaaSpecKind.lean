/-
  spec.l08Kind.
-/
import Derived.Test.YtijmmagdkbnhdaaConMath
import Derived.Test.YtijmmagdkbnhdaaMod
import Derived.Test.YtijmmagdkbnhdaaSquareOf
import Derived.Deep.RegionHeld3
import Derived.Deep.DeepCutAuto
import Derived.Test.YtijmmagdkbnhdaaBaseMath
namespace Go.Proofs.Ytijmmagdkbnhdaa
open Go.RowKit

set_option linter.unusedVariables false in
set_option linter.unusedSimpArgs false in
set_option maxRecDepth 20000 in
set_option maxHeartbeats 4000000 in
theorem specKind_any (p k1 k2 k3 k4 k5 k6 : Int)  (w : World) (hp : isP p = true) (hk1 : 0 ≤ k1 ∧ k1 ≤ 31) (hk2 : 0 ≤ k2 ∧ k2 ≤ 31) (hk3 : 0 ≤ k3 ∧ k3 ≤ 31) (hk4 : 0 ≤ k4 ∧ k4 ≤ 31) (hk5 : 0 ≤ k5 ∧ k5 ≤ 31) (hk6 : 0 ≤ k6 ∧ k6 ≤ 31) :
    Calls Try.prog 76 #[.int .i64 p, .agg #[.int .i64 k1, .int .i64 k2, .int .i64 k3, .int .i64 k4, .int .i64 k5, .int .i64 k6]] w fun e w' =>
      e = .returned (.int .i64 (squareV p (dsc p k1 k2 k3))) ∧ Below w.heap.size w w' := by
  have hr := isP_range hp
  have mu_1 := mulNN 31 31 961 (by decide) (a := k2) (b := k2) (by omega) (by omega)
  have mu_2 := mulNN 124 31 3844 (by decide) (a := 4 * k1) (b := k3) (by omega) (by omega)
  obtain ⟨v1, hv1⟩ : ∃ v : Int, v = (k2 * k2 - ((4 * k1) * k3)) % p := ⟨_, rfl⟩
  have rv1 := modR (k2 * k2 - ((4 * k1) * k3)) hp
  rw [← hv1] at rv1
  have Hv1 := Lib.hid hv1
  clear hv1
  obtain ⟨v2, hv2⟩ : ∃ v : Int, v = squareV p v1 := ⟨_, rfl⟩
  have rv2 := squareV_r p v1
  rw [← hv2] at rv2
  have Hv2 := Lib.hid hv2
  clear hv2
  go_enter Try.func76, Try.ntmps76
  go_wp2_with fail
  refine Calls.mono (mod_any _ _ _ (by omega) (by omega) (by omega) (by omega)) ?_
  rw [← Hv1.out]
  rintro e w' ⟨rfl, rfl⟩
  go_wp2_with fail
  refine Calls.mono (square_any _ _ _ (by omega) (by omega)) ?_
  rw [← Hv2.out]
  rintro e w' ⟨rfl, rfl⟩
  have HV := Lib.hid (show squareV p (dsc p k1 k2 k3) = v2 from by
    try rw [Hv2.out]
    try rw [Hv1.out]
    all_goals (rfl))
  go_wp2
  (refine bodyPost_ret (v := .int .i64 (squareV p (dsc p k1 k2 k3))) (by simp [results, Try.results76, go_sem, HV.out, *]) rfl ⟨?_, ?_⟩)
  · rfl
  · (repeat (first | with_reducible exact Below.refl _ _ | with_reducible refine balloc ?_ _ | with_reducible refine bdrewN ?_ _ | with_reducible refine Below.drew ?_ | with_reducible refine bthen ?_ (by with_reducible assumption) | with_reducible refine Below.setCell ?_ (by first | (simp; done) | (simp; omega)) _))

end Go.Proofs.Ytijmmagdkbnhdaa
