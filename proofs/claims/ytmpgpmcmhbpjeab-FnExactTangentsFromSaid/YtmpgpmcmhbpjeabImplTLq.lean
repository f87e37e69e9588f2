/-
  impl.perpendicularThrough.
-/
import Derived.Test.YtmpgpmcmhbpjeabImplMadeq
import Derived.Test.YtmpgpmcmhbpjeabImplDirq
import Derived.Test.YtmpgpmcmhbpjeabMgq0

namespace Go.Proofs.Ytmpgpmcmhbpjeab
open Go.RowKit

set_option maxRecDepth 20000 in
set_option maxHeartbeats 1000000 in
theorem implTL_any (p c l1 l2 l3 a1 a2 : Int) (w : World) (hp : isP p = true) (hc : colB c = true) (h1 : 0 ≤ l1 ∧ l1 < p) (h2 : 0 ≤ l2 ∧ l2 < p) (ha1 : 0 ≤ a1 ∧ a1 < p) (ha2 : 0 ≤ a2 ∧ a2 < p) :
    Calls Try.prog 82 #[.int .i64 p, .int .i64 c, .agg #[.int .i64 l1, .int .i64 l2, .int .i64 l3], .agg #[.int .i64 a1, .int .i64 a2]] w fun e w' =>
      e = .returned (.agg #[.int .i64 (pt1 p c l1 l2 a1 a2), .int .i64 (pt2 p c l1 l2 a1 a2), .int .i64 (pt3 p c l1 l2 a1 a2)]) ∧ Below w.heap.size w w' := by
  have hr := isP_range hp
  obtain ⟨d, hd⟩ : ∃ d, d = -l2 % p := ⟨_, rfl⟩
  have rd := modR (-l2) hp
  rw [← hd] at rd
  obtain ⟨t1, t2, t3⟩ := tl_impl (a1 := a1) (a2 := a2) hp hc rd h1
  obtain ⟨u, hu⟩ : ∃ u, u = uOf c d l1 := ⟨_, rfl⟩
  obtain ⟨v, hv⟩ : ∃ v, v = vOf p c d l1 := ⟨_, rfl⟩
  have uv := uv_r (c := c) hp rd h1
  rw [← hu] at t1 uv
  rw [← hv] at t2 uv
  have rw' := modR (-(prd p c d l1 a1 a2)) hp
  have rp := prd_r c d l1 a1 a2 hp
  have HV := Lib.hid (show pt1 p c l1 l2 a1 a2 = mk1 p u v (-(prd p c d l1 a1 a2) % p) ∧ pt2 p c l1 l2 a1 a2 = mk2 p u v (-(prd p c d l1 a1 a2) % p) ∧ pt3 p c l1 l2 a1 a2 = mk3 p u v (-(prd p c d l1 a1 a2) % p) by
    rw [pt1, pt2, pt3, ← hd, tl1, tl2, tl3, ← hu, ← hv, t3]; exact ⟨rfl, rfl, rfl⟩)
  have HD := Lib.hid (show -l2 % p = d ∧ prd p c d l1 1 0 = u ∧ prd p c d l1 0 1 = v from ⟨hd.symm, t1, t2⟩)
  clear hd t1 t2 t3 hu hv
  go_enter Try.func82, Try.ntmps82
  go_wp2_with fail
  refine Calls.mono (implDir_any _ _ _ _ _ hp (by omega)) ?_
  rw [HD.out.1]
  rintro e w1 ⟨rfl, hB1⟩
  (obtain ⟨hB1c, hB1f⟩ := bcell hB1; have hB1s := hB1.size; (try simp at hB1s); (try have hB1q1 := Nat.lt_of_succ_le hB1s); (try have hB1q2 := Nat.lt_of_succ_lt hB1q1); (try have hB1q3 := Nat.lt_of_succ_lt hB1q2); (try have hB1zw0 : w.heap.size < w1.heap.size := (by omega)); (try have hB1zw1 : w.heap.size + 1 < w1.heap.size := (by omega)); (try have hB1zw2 : w.heap.size + 1 + 1 < w1.heap.size := (by omega)); (try have hB1zw3 : w.heap.size + 1 + 1 + 1 < w1.heap.size := (by omega)); (try have hB1zw4 : w.heap.size + 1 + 1 + 1 + 1 < w1.heap.size := (by omega)))
  go_wp2_with fail
  refine Calls.mono (implProduct_any _ _ _ _ _ _ _ hp hc (by omega) (by omega) (by omega) (by omega)) ?_
  rw [HD.out.2.1]
  rintro e w2 ⟨rfl, hB2⟩
  (obtain ⟨hB2c, hB2f⟩ := bcell hB2; have hB2s := hB2.size; (try simp at hB2s); (try have hB2q1 := Nat.lt_of_succ_le hB2s); (try have hB2q2 := Nat.lt_of_succ_lt hB2q1); (try have hB2q3 := Nat.lt_of_succ_lt hB2q2); (try have hB2zw0 : w.heap.size < w2.heap.size := (by omega)); (try have hB2zw1 : w.heap.size + 1 < w2.heap.size := (by omega)); (try have hB2zw2 : w.heap.size + 1 + 1 < w2.heap.size := (by omega)); (try have hB2zw3 : w.heap.size + 1 + 1 + 1 < w2.heap.size := (by omega)); (try have hB2zw4 : w.heap.size + 1 + 1 + 1 + 1 < w2.heap.size := (by omega)); (try have hB2zw10 : w1.heap.size < w2.heap.size := (by omega)); (try have hB2zw11 : w1.heap.size + 1 < w2.heap.size := (by omega)); (try have hB2zw12 : w1.heap.size + 1 + 1 < w2.heap.size := (by omega)); (try have hB2zw13 : w1.heap.size + 1 + 1 + 1 < w2.heap.size := (by omega)); (try have hB2zw14 : w1.heap.size + 1 + 1 + 1 + 1 < w2.heap.size := (by omega)))
  go_wp2_with fail
  refine Calls.mono (implProduct_any _ _ _ _ _ _ _ hp hc (by omega) (by omega) (by omega) (by omega)) ?_
  rw [HD.out.2.2]
  rintro e w3 ⟨rfl, hB3⟩
  (obtain ⟨hB3c, hB3f⟩ := bcell hB3; have hB3s := hB3.size; (try simp at hB3s); (try have hB3q1 := Nat.lt_of_succ_le hB3s); (try have hB3q2 := Nat.lt_of_succ_lt hB3q1); (try have hB3q3 := Nat.lt_of_succ_lt hB3q2); (try have hB3zw0 : w.heap.size < w3.heap.size := (by omega)); (try have hB3zw1 : w.heap.size + 1 < w3.heap.size := (by omega)); (try have hB3zw2 : w.heap.size + 1 + 1 < w3.heap.size := (by omega)); (try have hB3zw3 : w.heap.size + 1 + 1 + 1 < w3.heap.size := (by omega)); (try have hB3zw4 : w.heap.size + 1 + 1 + 1 + 1 < w3.heap.size := (by omega)); (try have hB3zw20 : w2.heap.size < w3.heap.size := (by omega)); (try have hB3zw21 : w2.heap.size + 1 < w3.heap.size := (by omega)); (try have hB3zw22 : w2.heap.size + 1 + 1 < w3.heap.size := (by omega)); (try have hB3zw23 : w2.heap.size + 1 + 1 + 1 < w3.heap.size := (by omega)); (try have hB3zw24 : w2.heap.size + 1 + 1 + 1 + 1 < w3.heap.size := (by omega)); (try have hB3zw10 : w1.heap.size < w3.heap.size := (by omega)); (try have hB3zw11 : w1.heap.size + 1 < w3.heap.size := (by omega)); (try have hB3zw12 : w1.heap.size + 1 + 1 < w3.heap.size := (by omega)); (try have hB3zw13 : w1.heap.size + 1 + 1 + 1 < w3.heap.size := (by omega)); (try have hB3zw14 : w1.heap.size + 1 + 1 + 1 + 1 < w3.heap.size := (by omega)))
  (go_wp2_with fail; refine Calls.mono (implProduct_any _ _ _ _ _ _ _ hp hc (by omega) (by omega) (by omega) (by omega)) ?_; rintro e w4 ⟨rfl, hB4⟩; obtain ⟨hB4c, hB4f⟩ := bcell hB4; have hB4s := hB4.size; (try simp at hB4s); (try have hB4q1 := Nat.lt_of_succ_le hB4s); (try have hB4q2 := Nat.lt_of_succ_lt hB4q1); (try have hB4q3 := Nat.lt_of_succ_lt hB4q2); (try have hB4zw0 : w.heap.size < w4.heap.size := (by omega)); (try have hB4zw1 : w.heap.size + 1 < w4.heap.size := (by omega)); (try have hB4zw2 : w.heap.size + 1 + 1 < w4.heap.size := (by omega)); (try have hB4zw3 : w.heap.size + 1 + 1 + 1 < w4.heap.size := (by omega)); (try have hB4zw4 : w.heap.size + 1 + 1 + 1 + 1 < w4.heap.size := (by omega)); (try have hB4zw30 : w3.heap.size < w4.heap.size := (by omega)); (try have hB4zw31 : w3.heap.size + 1 < w4.heap.size := (by omega)); (try have hB4zw32 : w3.heap.size + 1 + 1 < w4.heap.size := (by omega)); (try have hB4zw33 : w3.heap.size + 1 + 1 + 1 < w4.heap.size := (by omega)); (try have hB4zw34 : w3.heap.size + 1 + 1 + 1 + 1 < w4.heap.size := (by omega)); (try have hB4zw20 : w2.heap.size < w4.heap.size := (by omega)); (try have hB4zw21 : w2.heap.size + 1 < w4.heap.size := (by omega)); (try have hB4zw22 : w2.heap.size + 1 + 1 < w4.heap.size := (by omega)); (try have hB4zw23 : w2.heap.size + 1 + 1 + 1 < w4.heap.size := (by omega)); (try have hB4zw24 : w2.heap.size + 1 + 1 + 1 + 1 < w4.heap.size := (by omega)); (try have hB4zw10 : w1.heap.size < w4.heap.size := (by omega)); (try have hB4zw11 : w1.heap.size + 1 < w4.heap.size := (by omega)); (try have hB4zw12 : w1.heap.size + 1 + 1 < w4.heap.size := (by omega)); (try have hB4zw13 : w1.heap.size + 1 + 1 + 1 < w4.heap.size := (by omega)); (try have hB4zw14 : w1.heap.size + 1 + 1 + 1 + 1 < w4.heap.size := (by omega)))
  (go_wp2_with fail; refine Calls.mono (rest_any _ _ _ (by omega) (by omega) (by omega) (by omega)) ?_; rintro e w' ⟨rfl, rfl⟩)
  (go_wp2_with fail; refine Calls.mono (lineMadeBy_any _ _ _ _ _ hp uv.1 uv.2 rw') ?_; rintro e w5 ⟨rfl, hB5⟩; obtain ⟨hB5c, hB5f⟩ := bcell hB5; have hB5s := hB5.size; (try simp at hB5s); (try have hB5q1 := Nat.lt_of_succ_le hB5s); (try have hB5q2 := Nat.lt_of_succ_lt hB5q1); (try have hB5q3 := Nat.lt_of_succ_lt hB5q2); (try have hB5zw0 : w.heap.size < w5.heap.size := (by omega)); (try have hB5zw1 : w.heap.size + 1 < w5.heap.size := (by omega)); (try have hB5zw2 : w.heap.size + 1 + 1 < w5.heap.size := (by omega)); (try have hB5zw3 : w.heap.size + 1 + 1 + 1 < w5.heap.size := (by omega)); (try have hB5zw4 : w.heap.size + 1 + 1 + 1 + 1 < w5.heap.size := (by omega)); (try have hB5zw40 : w4.heap.size < w5.heap.size := (by omega)); (try have hB5zw41 : w4.heap.size + 1 < w5.heap.size := (by omega)); (try have hB5zw42 : w4.heap.size + 1 + 1 < w5.heap.size := (by omega)); (try have hB5zw43 : w4.heap.size + 1 + 1 + 1 < w5.heap.size := (by omega)); (try have hB5zw44 : w4.heap.size + 1 + 1 + 1 + 1 < w5.heap.size := (by omega)); (try have hB5zw30 : w3.heap.size < w5.heap.size := (by omega)); (try have hB5zw31 : w3.heap.size + 1 < w5.heap.size := (by omega)); (try have hB5zw32 : w3.heap.size + 1 + 1 < w5.heap.size := (by omega)); (try have hB5zw33 : w3.heap.size + 1 + 1 + 1 < w5.heap.size := (by omega)); (try have hB5zw34 : w3.heap.size + 1 + 1 + 1 + 1 < w5.heap.size := (by omega)); (try have hB5zw20 : w2.heap.size < w5.heap.size := (by omega)); (try have hB5zw21 : w2.heap.size + 1 < w5.heap.size := (by omega)); (try have hB5zw22 : w2.heap.size + 1 + 1 < w5.heap.size := (by omega)); (try have hB5zw23 : w2.heap.size + 1 + 1 + 1 < w5.heap.size := (by omega)); (try have hB5zw24 : w2.heap.size + 1 + 1 + 1 + 1 < w5.heap.size := (by omega)); (try have hB5zw10 : w1.heap.size < w5.heap.size := (by omega)); (try have hB5zw11 : w1.heap.size + 1 < w5.heap.size := (by omega)); (try have hB5zw12 : w1.heap.size + 1 + 1 < w5.heap.size := (by omega)); (try have hB5zw13 : w1.heap.size + 1 + 1 + 1 < w5.heap.size := (by omega)); (try have hB5zw14 : w1.heap.size + 1 + 1 + 1 + 1 < w5.heap.size := (by omega)))
  go_wp2
  (refine bodyPost_ret (v := .agg #[.int .i64 (pt1 p c l1 l2 a1 a2), .int .i64 (pt2 p c l1 l2 a1 a2), .int .i64 (pt3 p c l1 l2 a1 a2)]) (by simp [results, Try.results82, go_sem, HV.out.1, HV.out.2.1, HV.out.2.2, *]) rfl ⟨?_, ?_⟩)
  · rfl
  · (repeat (first | exact Below.refl _ _ | refine balloc ?_ _ | refine bdrewN ?_ _ | refine Below.drew ?_ | refine bthen ?_ hB1 | refine bthen ?_ hB2 | refine bthen ?_ hB3 | refine bthen ?_ hB4 | refine bthen ?_ hB5 | refine Below.setCell ?_ (by first | (simp; done) | (simp; omega)) _))

end Go.Proofs.Ytmpgpmcmhbpjeab
