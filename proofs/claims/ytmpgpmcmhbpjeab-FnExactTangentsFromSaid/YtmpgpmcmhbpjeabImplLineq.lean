/-
  The program's lines through points: impl.lineThrough.
-/
import Derived.Test.YtmpgpmcmhbpjeabImplDiffq
import Derived.Test.YtmpgpmcmhbpjeabImplMadeq

namespace Go.Proofs.Ytmpgpmcmhbpjeab
open Go.RowKit

set_option maxRecDepth 20000 in
set_option maxHeartbeats 400000 in
theorem implThrough_any (p a1 a2 b1 b2 : Int) (w : World) (hp : isP p = true) (ha1 : 0 ≤ a1 ∧ a1 < p) (ha2 : 0 ≤ a2 ∧ a2 < p) (hb1 : 0 ≤ b1 ∧ b1 < p) (hb2 : 0 ≤ b2 ∧ b2 < p) (hne : ¬ (a1 = b1 ∧ a2 = b2)) :
    Calls Try.prog 83 #[.int .i64 p, .agg #[.int .i64 a1, .int .i64 a2], .agg #[.int .i64 b1, .int .i64 b2]] w fun e w' =>
      e = .returned (.agg #[.int .i64 (th1 p a1 a2 b1 b2), .int .i64 (th2 p a1 a2 b1 b2), .int .i64 (th3 p a1 a2 b1 b2)]) ∧ Below w.heap.size w w' := by
  have hr := isP_range hp
  obtain ⟨d1, hd1⟩ : ∃ d, d = (b1 - a1) % p := ⟨_, rfl⟩
  obtain ⟨d2, hd2⟩ : ∃ d, d = (b2 - a2) % p := ⟨_, rfl⟩
  have r1 := modR (b1 - a1) hp
  have r2 := modR (b2 - a2) hp
  rw [← hd1] at r1
  rw [← hd2] at r2
  have m1 := mulP (a := d1) (b := a2) (by omega) (by omega)
  have m2 := mulP (a := d2) (b := a1) (by omega) (by omega)
  have e0 : IntKind.i64.wrap (-d1) = -d1 := wrapI _ (by omega)
  have e1 : IntKind.i64.wrap (d1 * a2) = d1 * a2 := wrapI _ (by omega)
  have e2 : IntKind.i64.wrap (d2 * a1) = d2 * a1 := wrapI _ (by omega)
  have e3 : IntKind.i64.wrap (d1 * a2 - d2 * a1) = d1 * a2 - d2 * a1 := wrapI _ (by omega)
  have HV := Lib.hid (thEq hp ha1 ha2 hb1 hb2 hne)
  rw [← hd1, ← hd2] at HV
  have HD1 := Lib.hid hd1
  have HD2 := Lib.hid hd2
  clear hd1 hd2 hne
  go_enter Try.func83, Try.ntmps83
  go_wp2_with fail
  refine Calls.mono (difference_any p b1 b2 a1 a2 _ hp (by omega) (by omega) (by omega) (by omega)) ?_
  rw [← HD1.out, ← HD2.out]
  rintro e w1 ⟨rfl, hB1⟩
  (obtain ⟨hB1c, hB1f⟩ := bcell hB1; have hB1s := hB1.size; (try simp at hB1s); (try have hB1q1 := Nat.lt_of_succ_le hB1s); (try have hB1q2 := Nat.lt_of_succ_lt hB1q1); (try have hB1q3 := Nat.lt_of_succ_lt hB1q2); (try have hB1zw0 : w.heap.size < w1.heap.size := (by omega)); (try have hB1zw1 : w.heap.size + 1 < w1.heap.size := (by omega)); (try have hB1zw2 : w.heap.size + 1 + 1 < w1.heap.size := (by omega)); (try have hB1zw3 : w.heap.size + 1 + 1 + 1 < w1.heap.size := (by omega)); (try have hB1zw4 : w.heap.size + 1 + 1 + 1 + 1 < w1.heap.size := (by omega)))
  go_wp2_with fail
  (refine region_tail 21 (by kernel_rfl) (by kernel_rfl) ?_; simp only [List.take_succ_cons, List.take_zero, List.drop_succ_cons, List.drop_zero]; repeat still_step)
  (still_call (stillOf (rest_any _ _ _ (by omega) (by omega) (by omega) (by omega))); repeat still_step)
  (still_call (stillOf (rest_any _ _ _ (by omega) (by omega) (by omega) (by omega))); repeat still_step)
  refine wpStill_nil ?_
  (go_wp2_with fail; refine Calls.mono (lineMadeBy_any p d2 (-d1 % p) ((d1 * a2 - d2 * a1) % p) _ hp r2 (modR _ hp) (modR _ hp)) ?_; rintro e w2 ⟨rfl, hB2⟩; obtain ⟨hB2c, hB2f⟩ := bcell hB2; have hB2s := hB2.size; (try simp at hB2s); (try have hB2q1 := Nat.lt_of_succ_le hB2s); (try have hB2q2 := Nat.lt_of_succ_lt hB2q1); (try have hB2q3 := Nat.lt_of_succ_lt hB2q2); (try have hB2zw0 : w.heap.size < w2.heap.size := (by omega)); (try have hB2zw1 : w.heap.size + 1 < w2.heap.size := (by omega)); (try have hB2zw2 : w.heap.size + 1 + 1 < w2.heap.size := (by omega)); (try have hB2zw3 : w.heap.size + 1 + 1 + 1 < w2.heap.size := (by omega)); (try have hB2zw4 : w.heap.size + 1 + 1 + 1 + 1 < w2.heap.size := (by omega)); (try have hB2zw10 : w1.heap.size < w2.heap.size := (by omega)); (try have hB2zw11 : w1.heap.size + 1 < w2.heap.size := (by omega)); (try have hB2zw12 : w1.heap.size + 1 + 1 < w2.heap.size := (by omega)); (try have hB2zw13 : w1.heap.size + 1 + 1 + 1 < w2.heap.size := (by omega)); (try have hB2zw14 : w1.heap.size + 1 + 1 + 1 + 1 < w2.heap.size := (by omega)))
  go_wp2
  (refine bodyPost_ret (v := .agg #[.int .i64 (th1 p a1 a2 b1 b2), .int .i64 (th2 p a1 a2 b1 b2), .int .i64 (th3 p a1 a2 b1 b2)]) (by simp [results, Try.results83, go_sem, HV.out.1, HV.out.2.1, HV.out.2.2, *]) rfl ⟨?_, ?_⟩)
  · rfl
  · (repeat (first | exact Below.refl _ _ | refine balloc ?_ _ | refine bdrewN ?_ _ | refine Below.drew ?_ | refine bthen ?_ hB1 | refine bthen ?_ hB2 | refine Below.setCell ?_ (by first | (simp; done) | (simp; omega)) _))

end Go.Proofs.Ytmpgpmcmhbpjeab
