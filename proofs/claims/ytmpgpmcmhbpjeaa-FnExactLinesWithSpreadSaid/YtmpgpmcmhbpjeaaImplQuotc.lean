/-
  impl.quotient.
-/
import Derived.Test.YtmpgpmcmhbpjeaaMgc0
import Derived.Test.YtmpgpmcmhbpjeaaImplInvc

namespace Go.Proofs.Ytmpgpmcmhbpjeaa
open Go.RowKit

set_option linter.unusedSimpArgs false in
set_option maxRecDepth 20000 in
set_option maxHeartbeats 4000000 in
theorem quotient_any (p a b : Int) (w : World) (hp : isP p = true) (ha : 0 ≤ a ∧ a ≤ 8388608) (hb : 0 ≤ b ∧ b ≤ 8388608) :
    Calls Try.prog 77 #[.int .i64 p, .int .i64 a, .int .i64 b] w fun e w' =>
      e = .returned (.int .i64 (a * inv p b % p)) ∧ Below w.heap.size w w' := by
  have hr := isP_range hp
  obtain ⟨v1, hv1⟩ : ∃ v : Int, v = inv p b := ⟨_, rfl⟩
  have rv1 := inv_range b hp
  rw [← hv1] at rv1
  have Hv1 := Lib.hid hv1
  clear hv1
  have mu_1 := mulNN 8388608 30 251658240 (by decide) (a := a) (b := v1) (by omega) (by omega)
  have d_1 := modR (a * v1) hp
  have hpos : p ≠ 0 := by omega
  go_enter Try.func77, Try.ntmps77
  go_wp2_with fail
  refine Calls.mono (implInverse_any _ _ _ hp (by omega) (by omega)) ?_
  rw [← Hv1.out]
  rintro e w' ⟨rfl, rfl⟩
  have HV := Lib.hid (show a * inv p b % p = (a * v1) % p from by
    rw [Hv1.out])
  go_wp2
  (refine bodyPost_ret (v := .int .i64 (a * inv p b % p)) (by simp [results, Try.results77, go_sem, HV.out, *]) rfl ⟨?_, ?_⟩)
  · rfl
  · (repeat (first | with_reducible exact Below.refl _ _ | with_reducible refine balloc ?_ _ | with_reducible refine bdrewN ?_ _ | with_reducible refine Below.drew ?_ | with_reducible refine bthen ?_ (by with_reducible assumption) | with_reducible refine Below.setCell ?_ (by first | (simp; done) | (simp; omega)) _))

end Go.Proofs.Ytmpgpmcmhbpjeaa
