/-
  The laws' own desks: laws.toDesk, laws.eqDesk.
-/
import Derived.Test.YtibfbdgenamlkaaArr
import Derived.Test.YtibfbdgenamlkaaArrPtEq
import Derived.Test.YtibfbdgenamlkaaBaseMath
import Derived.LoopN
import Derived.Deep.QuietTactic
namespace Go.Proofs.Ytibfbdgenamlkaa
open Go.RowKit

set_option maxRecDepth 20000 in
set_option maxHeartbeats 1000000 in
theorem toPointA3_any (x0 y0 x1 y1 x2 y2 : Int) (w : World) :
    Calls Try.prog 38 #[.agg #[.int .i64 x0, .int .i64 y0, .int .i64 x1, .int .i64 y1, .int .i64 x2, .int .i64 y2]] w fun e w' => e = .returned (.agg #[.int .i64 x0, .int .i64 y0, .int .i64 x1, .int .i64 y1, .int .i64 x2, .int .i64 y2]) ∧ Below w.heap.size w w' := by
  go_enter Try.func38, Try.ntmps38
  go_wp2
  refine wp_loop_rounds 4 ?_
  rw [rounds_succ]
  (go_wp2_with fail; refine Calls.mono (toPoint_any _ _ _) ?_; rintro e w1 ⟨rfl, hB1⟩; obtain ⟨hB1c, hB1f⟩ := bcell hB1; have hB1s := hB1.size; (try simp at hB1s); (try have hB1q1 := Nat.lt_of_succ_le hB1s); (try have hB1q2 := Nat.lt_of_succ_lt hB1q1); (try have hB1q3 := Nat.lt_of_succ_lt hB1q2); (try have hB1zw0 : w.heap.size < w1.heap.size := (by omega)); (try have hB1zw1 : w.heap.size + 1 < w1.heap.size := (by omega)); (try have hB1zw2 : w.heap.size + 1 + 1 < w1.heap.size := (by omega)); (try have hB1zw3 : w.heap.size + 1 + 1 + 1 < w1.heap.size := (by omega)); (try have hB1zw4 : w.heap.size + 1 + 1 + 1 + 1 < w1.heap.size := (by omega)))
  go_wp2
  rw [rounds_succ]
  (go_wp2_with fail; refine Calls.mono (toPoint_any _ _ _) ?_; rintro e w2 ⟨rfl, hB2⟩; obtain ⟨hB2c, hB2f⟩ := bcell hB2; have hB2s := hB2.size; (try simp at hB2s); (try have hB2q1 := Nat.lt_of_succ_le hB2s); (try have hB2q2 := Nat.lt_of_succ_lt hB2q1); (try have hB2q3 := Nat.lt_of_succ_lt hB2q2); (try have hB2zw0 : w.heap.size < w2.heap.size := (by omega)); (try have hB2zw1 : w.heap.size + 1 < w2.heap.size := (by omega)); (try have hB2zw2 : w.heap.size + 1 + 1 < w2.heap.size := (by omega)); (try have hB2zw3 : w.heap.size + 1 + 1 + 1 < w2.heap.size := (by omega)); (try have hB2zw4 : w.heap.size + 1 + 1 + 1 + 1 < w2.heap.size := (by omega)); (try have hB2zw10 : w1.heap.size < w2.heap.size := (by omega)); (try have hB2zw11 : w1.heap.size + 1 < w2.heap.size := (by omega)); (try have hB2zw12 : w1.heap.size + 1 + 1 < w2.heap.size := (by omega)); (try have hB2zw13 : w1.heap.size + 1 + 1 + 1 < w2.heap.size := (by omega)); (try have hB2zw14 : w1.heap.size + 1 + 1 + 1 + 1 < w2.heap.size := (by omega)))
  go_wp2
  rw [rounds_succ]
  (go_wp2_with fail; refine Calls.mono (toPoint_any _ _ _) ?_; rintro e w3 ⟨rfl, hB3⟩; obtain ⟨hB3c, hB3f⟩ := bcell hB3; have hB3s := hB3.size; (try simp at hB3s); (try have hB3q1 := Nat.lt_of_succ_le hB3s); (try have hB3q2 := Nat.lt_of_succ_lt hB3q1); (try have hB3q3 := Nat.lt_of_succ_lt hB3q2); (try have hB3zw0 : w.heap.size < w3.heap.size := (by omega)); (try have hB3zw1 : w.heap.size + 1 < w3.heap.size := (by omega)); (try have hB3zw2 : w.heap.size + 1 + 1 < w3.heap.size := (by omega)); (try have hB3zw3 : w.heap.size + 1 + 1 + 1 < w3.heap.size := (by omega)); (try have hB3zw4 : w.heap.size + 1 + 1 + 1 + 1 < w3.heap.size := (by omega)); (try have hB3zw20 : w2.heap.size < w3.heap.size := (by omega)); (try have hB3zw21 : w2.heap.size + 1 < w3.heap.size := (by omega)); (try have hB3zw22 : w2.heap.size + 1 + 1 < w3.heap.size := (by omega)); (try have hB3zw23 : w2.heap.size + 1 + 1 + 1 < w3.heap.size := (by omega)); (try have hB3zw24 : w2.heap.size + 1 + 1 + 1 + 1 < w3.heap.size := (by omega)); (try have hB3zw10 : w1.heap.size < w3.heap.size := (by omega)); (try have hB3zw11 : w1.heap.size + 1 < w3.heap.size := (by omega)); (try have hB3zw12 : w1.heap.size + 1 + 1 < w3.heap.size := (by omega)); (try have hB3zw13 : w1.heap.size + 1 + 1 + 1 < w3.heap.size := (by omega)); (try have hB3zw14 : w1.heap.size + 1 + 1 + 1 + 1 < w3.heap.size := (by omega)))
  go_wp2
  rw [rounds_succ]
  go_wp2
  (refine bodyPost_ret (v := .agg #[.int .i64 x0, .int .i64 y0, .int .i64 x1, .int .i64 y1, .int .i64 x2, .int .i64 y2]) (by simp [results, Try.results38, go_sem, *]) rfl ⟨rfl, ?_⟩)
  (repeat (first | with_reducible exact Below.refl _ _ | with_reducible refine balloc ?_ _ | with_reducible refine bdrewN ?_ _ | with_reducible refine Below.drew ?_ | with_reducible refine bthen ?_ (by with_reducible assumption) | with_reducible refine Below.setCell ?_ (by first | (simp; done) | (simp; omega)) _))

set_option maxRecDepth 20000 in
set_option maxHeartbeats 1000000 in
theorem toDesk_any (q k x0 y0 x1 y1 x2 y2 : Int) (w : World) :
    Calls Try.prog 17 #[.agg #[.int .i64 q, .int .i64 k, .int .i64 x0, .int .i64 y0, .int .i64 x1, .int .i64 y1, .int .i64 x2, .int .i64 y2]] w fun e w' => e = .returned (.agg #[.int .i64 q, .int .i64 k, .int .i64 x0, .int .i64 y0, .int .i64 x1, .int .i64 y1, .int .i64 x2, .int .i64 y2]) ∧ Below w.heap.size w w' := by
  go_enter Try.func17, Try.ntmps17
  (go_wp2_with fail; refine Calls.mono (toPointA3_any _ _ _ _ _ _ _) ?_; rintro e w1 ⟨rfl, hB1⟩; obtain ⟨hB1c, hB1f⟩ := bcell hB1; have hB1s := hB1.size; (try simp at hB1s); (try have hB1q1 := Nat.lt_of_succ_le hB1s); (try have hB1q2 := Nat.lt_of_succ_lt hB1q1); (try have hB1q3 := Nat.lt_of_succ_lt hB1q2); (try have hB1zw0 : w.heap.size < w1.heap.size := (by omega)); (try have hB1zw1 : w.heap.size + 1 < w1.heap.size := (by omega)); (try have hB1zw2 : w.heap.size + 1 + 1 < w1.heap.size := (by omega)); (try have hB1zw3 : w.heap.size + 1 + 1 + 1 < w1.heap.size := (by omega)); (try have hB1zw4 : w.heap.size + 1 + 1 + 1 + 1 < w1.heap.size := (by omega)))
  go_wp2
  (refine bodyPost_ret (v := .agg #[.int .i64 q, .int .i64 k, .int .i64 x0, .int .i64 y0, .int .i64 x1, .int .i64 y1, .int .i64 x2, .int .i64 y2]) (by simp [results, Try.results17, go_sem, *]) rfl ⟨rfl, ?_⟩)
  (repeat (first | with_reducible exact Below.refl _ _ | with_reducible refine balloc ?_ _ | with_reducible refine bdrewN ?_ _ | with_reducible refine Below.drew ?_ | with_reducible refine bthen ?_ (by with_reducible assumption) | with_reducible refine Below.setCell ?_ (by first | (simp; done) | (simp; omega)) _))

end Go.Proofs.Ytibfbdgenamlkaa
