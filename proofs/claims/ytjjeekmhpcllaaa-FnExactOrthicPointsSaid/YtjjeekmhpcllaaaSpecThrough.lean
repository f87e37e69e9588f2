/-
  The model's lines: spec.l01Through.
-/
import Derived.Test.YtjjeekmhpcllaaaSpecNormal
namespace Go.Proofs.Ytjjeekmhpcllaaa
open Go.RowKit

set_option maxRecDepth 20000 in
set_option maxHeartbeats 1000000 in
theorem specThrough_any (p a1 a2 b1 b2 : Int) (w : World) (hp : isP p = true) (ha1 : 0 ≤ a1 ∧ a1 ≤ 31) (ha2 : 0 ≤ a2 ∧ a2 ≤ 31) (hb1 : 0 ≤ b1 ∧ b1 ≤ 31) (hb2 : 0 ≤ b2 ∧ b2 ≤ 31) :
    Calls Try.prog 57 #[.int .i64 p, .agg #[.int .i64 a1, .int .i64 a2], .agg #[.int .i64 b1, .int .i64 b2]] w fun e w' =>
      e = .returned (.agg #[.int .i64 (th1 p a1 a2 b1 b2), .int .i64 (th2 p a1 a2 b1 b2), .int .i64 (th3 p a1 a2 b1 b2)]) ∧ Below w.heap.size w w' := by
  have hr := isP_range hp
  have m1 := mulP (a := a1) (b := b2) ha1 hb2
  have m2 := mulP (a := b1) (b := a2) hb1 ha2
  have HV := Lib.hid (show th1 p a1 a2 b1 b2 = mk1 p (a2 - b2) (b1 - a1) (a1 * b2 - b1 * a2) ∧ th2 p a1 a2 b1 b2 = mk2 p (a2 - b2) (b1 - a1) (a1 * b2 - b1 * a2) ∧ th3 p a1 a2 b1 b2 = mk3 p (a2 - b2) (b1 - a1) (a1 * b2 - b1 * a2) from ⟨rfl, rfl, rfl⟩)
  go_enter Try.func57, Try.ntmps57
  (go_wp2_with fail; refine Calls.mono (normal_any _ _ _ _ _ hp (by omega) (by omega) (by omega)) ?_; rintro e w1 ⟨rfl, hB1⟩; obtain ⟨hB1c, hB1f⟩ := bcell hB1; have hB1s := hB1.size; (try simp at hB1s); (try have hB1q1 := Nat.lt_of_succ_le hB1s); (try have hB1q2 := Nat.lt_of_succ_lt hB1q1); (try have hB1q3 := Nat.lt_of_succ_lt hB1q2); (try have hB1zw0 : w.heap.size < w1.heap.size := (by omega)); (try have hB1zw1 : w.heap.size + 1 < w1.heap.size := (by omega)); (try have hB1zw2 : w.heap.size + 1 + 1 < w1.heap.size := (by omega)); (try have hB1zw3 : w.heap.size + 1 + 1 + 1 < w1.heap.size := (by omega)); (try have hB1zw4 : w.heap.size + 1 + 1 + 1 + 1 < w1.heap.size := (by omega)))
  go_wp2
  (refine bodyPost_ret (v := .agg #[.int .i64 (th1 p a1 a2 b1 b2), .int .i64 (th2 p a1 a2 b1 b2), .int .i64 (th3 p a1 a2 b1 b2)]) (by simp [results, Try.results57, go_sem, HV.out.1, HV.out.2.1, HV.out.2.2, *]) rfl ⟨?_, ?_⟩)
  · rfl
  · (repeat (first | exact Below.refl _ _ | refine balloc ?_ _ | refine bdrewN ?_ _ | refine Below.drew ?_ | refine bthen ?_ hB1 | refine Below.setCell ?_ (by first | (simp; done) | (simp; omega)) _))

end Go.Proofs.Ytjjeekmhpcllaaa
