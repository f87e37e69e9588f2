/-
  impl.isOnLine.
-/
import Derived.Test.YtmpgpmcmhbpjeabMgq0
import Derived.Test.YtmpgpmcmhbpjeabImplRestq
import Derived.Deep.RegionHeld3
import Derived.Deep.DeepCutAuto

namespace Go.Proofs.Ytmpgpmcmhbpjeab
open Go.RowKit

set_option linter.unusedSimpArgs false in
set_option maxRecDepth 20000 in
set_option maxHeartbeats 4000000 in
theorem implOn_any (p a1 a2 l1 l2 l3 : Int) (w : World) (hp : isP p = true) (ha1 : 0 ≤ a1 ∧ a1 ≤ 31) (ha2 : 0 ≤ a2 ∧ a2 ≤ 31) (hl1 : 0 ≤ l1 ∧ l1 ≤ 31) (hl2 : 0 ≤ l2 ∧ l2 ≤ 31) (hl3 : 0 ≤ l3 ∧ l3 ≤ 31) :
    Calls Try.prog 53 #[.int .i64 p, .agg #[.int .i64 a1, .int .i64 a2], .agg #[.int .i64 l1, .int .i64 l2, .int .i64 l3]] w fun e w' =>
      e = .returned (.bool (onB p a1 a2 l1 l2 l3)) ∧ Below w.heap.size w w' := by
  have hr := isP_range hp
  have mu_1 := mulNN 31 31 961 (by decide) (a := l1) (b := a1) (by omega) (by omega)
  have mu_2 := mulNN 31 31 961 (by decide) (a := l2) (b := a2) (by omega) (by omega)
  obtain ⟨v1, hv1⟩ : ∃ v : Int, v = (l1 * a1 + (l2 * a2) + l3) % p := ⟨_, rfl⟩
  have rv1 := modR (l1 * a1 + (l2 * a2) + l3) hp
  rw [← hv1] at rv1
  have Hv1 := Lib.hid hv1
  clear hv1
  go_enter Try.func53, Try.ntmps53
  go_wp2_with fail
  refine Calls.mono (rest_any _ _ _ (by omega) (by omega) (by omega) (by omega)) ?_
  rw [← Hv1.out]
  rintro e w' ⟨rfl, rfl⟩
  have HV := Lib.hid (show onB p a1 a2 l1 l2 l3 = (v1 == 0) from by
    try rw [Hv1.out]
    all_goals (rfl))
  go_wp2
  (refine bodyPost_ret (v := .bool (onB p a1 a2 l1 l2 l3)) (by simp [results, Try.results53, go_sem, HV.out, *]) rfl ⟨?_, ?_⟩)
  · rfl
  · (repeat (first | with_reducible exact Below.refl _ _ | with_reducible refine balloc ?_ _ | with_reducible refine bdrewN ?_ _ | with_reducible refine Below.drew ?_ | with_reducible refine bthen ?_ (by with_reducible assumption) | with_reducible refine Below.setCell ?_ (by first | (simp; done) | (simp; omega)) _))

end Go.Proofs.Ytmpgpmcmhbpjeab
