/-
  spec.l07Sign.
-/
import Derived.Test.YtibfbdgenamlkaaMgq0
import Derived.Test.YtibfbdgenamlkaaModq
import Derived.Deep.RegionHeld3
import Derived.Deep.DeepCutAuto

namespace Go.Proofs.Ytibfbdgenamlkaa
open Go.RowKit

set_option linter.unusedVariables false in
set_option linter.unusedSimpArgs false in
set_option maxRecDepth 20000 in
set_option maxHeartbeats 4000000 in
theorem specSign_any (p m1 m2 m3 m4 m5 m6 : Int)  (w : World) (hp : isP p = true) (hm1 : 0 ≤ m1 ∧ m1 ≤ 31) (hm2 : 0 ≤ m2 ∧ m2 ≤ 31) (hm3 : 0 ≤ m3 ∧ m3 ≤ 31) (hm4 : 0 ≤ m4 ∧ m4 ≤ 31) (hm5 : 0 ≤ m5 ∧ m5 ≤ 31) (hm6 : 0 ≤ m6 ∧ m6 ≤ 31) :
    Calls Try.prog 56 #[.int .i64 p, .agg #[.int .i64 m1, .int .i64 m2, .int .i64 m3, .int .i64 m4, .int .i64 m5, .int .i64 m6]] w fun e w' =>
      e = .returned (.int .i64 (sgn p m1 m2 m3 m4)) ∧ Below w.heap.size w w' := by
  have hr := isP_range hp
  have mu_1 := mulNN 31 31 961 (by decide) (a := m1) (b := m4) (by omega) (by omega)
  have mu_2 := mulNN 31 31 961 (by decide) (a := m2) (b := m3) (by omega) (by omega)
  obtain ⟨v1, hv1⟩ : ∃ v : Int, v = (m1 * m4 - (m2 * m3)) % p := ⟨_, rfl⟩
  have rv1 := modR (m1 * m4 - (m2 * m3)) hp
  rw [← hv1] at rv1
  have Hv1 := Lib.hid hv1
  clear hv1
  go_enter Try.func56, Try.ntmps56
  go_wp2_with fail
  refine Calls.mono (mod_any _ _ _ (by omega) (by omega) (by omega) (by omega)) ?_
  rw [← Hv1.out]
  rintro e w' ⟨rfl, rfl⟩
  have HV := Lib.hid (show sgn p m1 m2 m3 m4 = v1 from by
    try rw [Hv1.out]
    all_goals (rfl))
  go_wp2
  (refine bodyPost_ret (v := .int .i64 (sgn p m1 m2 m3 m4)) (by simp [results, Try.results56, go_sem, HV.out, *]) rfl ⟨?_, ?_⟩)
  · rfl
  · (repeat (first | with_reducible exact Below.refl _ _ | with_reducible refine balloc ?_ _ | with_reducible refine bdrewN ?_ _ | with_reducible refine Below.drew ?_ | with_reducible refine bthen ?_ (by with_reducible assumption) | with_reducible refine Below.setCell ?_ (by first | (simp; done) | (simp; omega)) _))

end Go.Proofs.Ytibfbdgenamlkaa
