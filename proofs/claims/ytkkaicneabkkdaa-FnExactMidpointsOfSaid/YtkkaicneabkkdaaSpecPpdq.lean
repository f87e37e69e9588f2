/-
  spec.l09Product.
-/
import Derived.Test.YtkkaicneabkkdaaMgq0
import Derived.Deep.RegionHeld3
import Derived.Deep.DeepCutAuto

namespace Go.Proofs.Ytkkaicneabkkdaa
open Go.RowKit

set_option linter.unusedVariables false in
set_option linter.unusedSimpArgs false in
set_option maxRecDepth 20000 in
set_option maxHeartbeats 4000000 in
theorem specPpd_any (p a1 a2 a3 b1 b2 b3 : Int)  (w : World) (hp : isP p = true) (ha1 : 0 ≤ a1 ∧ a1 ≤ 31) (ha2 : 0 ≤ a2 ∧ a2 ≤ 31) (ha3 : 0 ≤ a3 ∧ a3 ≤ 31) (hb1 : 0 ≤ b1 ∧ b1 ≤ 31) (hb2 : 0 ≤ b2 ∧ b2 ≤ 31) (hb3 : 0 ≤ b3 ∧ b3 ≤ 31) :
    Calls Try.prog 38 #[.int .i64 p, .agg #[.int .i64 a1, .int .i64 a2, .int .i64 a3], .agg #[.int .i64 b1, .int .i64 b2, .int .i64 b3]] w fun e w' =>
      e = .returned (.int .i64 (ppd p a1 a2 a3 b1 b2 b3)) ∧ Below w.heap.size w w' := by
  have hr := isP_range hp
  have mu_1 := mulNN 31 31 961 (by decide) (a := a1) (b := b1) (by omega) (by omega)
  have mu_2 := mulNN 31 31 961 (by decide) (a := a2) (b := b2) (by omega) (by omega)
  have mu_3 := mulNN 31 31 961 (by decide) (a := a3) (b := b3) (by omega) (by omega)
  obtain ⟨v1, hv1⟩ : ∃ v : Int, v = (a1 * b1 + (a2 * b2) - (a3 * b3)) % p := ⟨_, rfl⟩
  have rv1 := modR (a1 * b1 + (a2 * b2) - (a3 * b3)) hp
  rw [← hv1] at rv1
  have Hv1 := Lib.hid hv1
  clear hv1
  go_enter Try.func38, Try.ntmps38
  go_wp2_with fail
  refine Calls.mono (mod_any _ _ _ (by omega) (by omega) (by omega) (by omega)) ?_
  rw [← Hv1.out]
  rintro e w' ⟨rfl, rfl⟩
  have HV := Lib.hid (show ppd p a1 a2 a3 b1 b2 b3 = v1 from by
    try rw [Hv1.out]
    all_goals (rfl))
  go_wp2
  (refine bodyPost_ret (v := .int .i64 (ppd p a1 a2 a3 b1 b2 b3)) (by simp [results, Try.results38, go_sem, HV.out, *]) rfl ⟨?_, ?_⟩)
  · rfl
  · (repeat (first | with_reducible exact Below.refl _ _ | with_reducible refine balloc ?_ _ | with_reducible refine bdrewN ?_ _ | with_reducible refine Below.drew ?_ | with_reducible refine bthen ?_ (by with_reducible assumption) | with_reducible refine Below.setCell ?_ (by first | (simp; done) | (simp; omega)) _))

end Go.Proofs.Ytkkaicneabkkdaa
