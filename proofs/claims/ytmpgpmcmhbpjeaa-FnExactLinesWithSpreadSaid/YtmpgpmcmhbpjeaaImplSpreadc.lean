/-
  impl.spread.
-/
import Derived.Test.YtmpgpmcmhbpjeaaImplCrossc
import Derived.Test.YtmpgpmcmhbpjeaaMgc0

namespace Go.Proofs.Ytmpgpmcmhbpjeaa
open Go.RowKit

set_option linter.unusedSimpArgs false in
set_option maxRecDepth 20000 in
set_option maxHeartbeats 4000000 in
theorem spread_any (p c l1 l2 l3 m1 m2 m3 : Int) (w : World) (hp : isP p = true) (hc : colB c = true) (hl1 : 0 ≤ l1 ∧ l1 < p) (hl2 : 0 ≤ l2 ∧ l2 < p) (hm1 : 0 ≤ m1 ∧ m1 < p) (hm2 : 0 ≤ m2 ∧ m2 < p) :
    Calls Try.prog 62 #[.int .i64 p, shV c, .agg #[.int .i64 l1, .int .i64 l2, .int .i64 l3], .agg #[.int .i64 m1, .int .i64 m2, .int .i64 m3]] w fun e w' =>
      e = .returned (.tuple #[.int .i64 (spV p c l1 l2 m1 m2), .int .i64 (crT p c l1 l2 m1 m2)]) ∧ Below w.heap.size w w' := by
  have hr := isP_range hp
  go_enter Try.func62, Try.ntmps62
  rcases bool_ways (nullB p c l1 l2) with hd1 | hd1
  · skip
    rcases bool_ways (nullB p c m1 m2) with hd2 | hd2
    · skip
      have c_1 : crT p c l1 l2 m1 m2 = 0 := by simp [crT, crV, hd1, hd2]
      obtain ⟨v1, hv1⟩ : ∃ v : Int, v = crO p c l1 l2 m1 m2 := ⟨_, rfl⟩
      have rv1 := crO_r c l1 l2 m1 m2 hp
      rw [← hv1] at rv1
      have Hv1 := Lib.hid hv1
      clear hv1
      have c_2 : crV p c l1 l2 m1 m2 = v1 := by rw [Hv1.out]; simp [crT, crV, hd1, hd2]
      obtain ⟨v2, hv2⟩ : ∃ v : Int, v = (1 - v1) % p := ⟨_, rfl⟩
      have rv2 := modR (1 - v1) hp
      rw [← hv2] at rv2
      have Hv2 := Lib.hid hv2
      clear hv2
      go_wp2_with fail
      refine Calls.mono (cross_any _ _ _ _ _ _ _ _ _ hp hc (by omega) (by omega) (by omega) (by omega)) ?_
      rintro e w1 ⟨rfl, hB1⟩
      (obtain ⟨hB1c, hB1f⟩ := bcell hB1; have hB1s := hB1.size; (try simp at hB1s); (try have hB1q1 := Nat.lt_of_succ_le hB1s); (try have hB1q2 := Nat.lt_of_succ_lt hB1q1); (try have hB1q3 := Nat.lt_of_succ_lt hB1q2); (try have hB1zw0 : w.heap.size < w1.heap.size := (by omega)); (try have hB1zw1 : w.heap.size + 1 < w1.heap.size := (by omega)); (try have hB1zw2 : w.heap.size + 1 + 1 < w1.heap.size := (by omega)); (try have hB1zw3 : w.heap.size + 1 + 1 + 1 < w1.heap.size := (by omega)); (try have hB1zw4 : w.heap.size + 1 + 1 + 1 + 1 < w1.heap.size := (by omega)))
      go_wp2_with fail
      refine Calls.mono (rest_any _ _ _ (by omega) (by omega) (by omega) (by omega)) ?_
      rw [← Hv2.out]
      rintro e w' ⟨rfl, rfl⟩
      have HV := Lib.hid (show spV p c l1 l2 m1 m2 = v2 ∧ crT p c l1 l2 m1 m2 = 0 from by
        try simp only [Hv2.out, Hv1.out]
        simp [spV, crT, spO, hd1, hd2])
      go_wp2
      (refine bodyPost_ret (v := .tuple #[.int .i64 (spV p c l1 l2 m1 m2), .int .i64 (crT p c l1 l2 m1 m2)]) (by simp [results, Try.results62, go_sem, HV.out.1, HV.out.2, *]) rfl ⟨?_, ?_⟩)
      · rfl
      · (repeat (first | with_reducible exact Below.refl _ _ | with_reducible refine balloc ?_ _ | with_reducible refine bdrewN ?_ _ | with_reducible refine Below.drew ?_ | with_reducible refine bthen ?_ (by with_reducible assumption) | with_reducible refine Below.setCell ?_ (by first | (simp; done) | (simp; omega)) _))
    · skip
      have c_1 : crT p c l1 l2 m1 m2 = 5 := by simp [crT, crV, hd1, hd2]
      have c_2 : crV p c l1 l2 m1 m2 = 0 := by simp [crT, crV, hd1, hd2]
      go_wp2_with fail
      refine Calls.mono (cross_any _ _ _ _ _ _ _ _ _ hp hc (by omega) (by omega) (by omega) (by omega)) ?_
      rintro e w1 ⟨rfl, hB1⟩
      (obtain ⟨hB1c, hB1f⟩ := bcell hB1; have hB1s := hB1.size; (try simp at hB1s); (try have hB1q1 := Nat.lt_of_succ_le hB1s); (try have hB1q2 := Nat.lt_of_succ_lt hB1q1); (try have hB1q3 := Nat.lt_of_succ_lt hB1q2); (try have hB1zw0 : w.heap.size < w1.heap.size := (by omega)); (try have hB1zw1 : w.heap.size + 1 < w1.heap.size := (by omega)); (try have hB1zw2 : w.heap.size + 1 + 1 < w1.heap.size := (by omega)); (try have hB1zw3 : w.heap.size + 1 + 1 + 1 < w1.heap.size := (by omega)); (try have hB1zw4 : w.heap.size + 1 + 1 + 1 + 1 < w1.heap.size := (by omega)))
      have HV := Lib.hid (show spV p c l1 l2 m1 m2 = 0 ∧ crT p c l1 l2 m1 m2 = 5 from by
        simp [spV, crT, spO, hd1, hd2])
      go_wp2
      (refine bodyPost_ret (v := .tuple #[.int .i64 (spV p c l1 l2 m1 m2), .int .i64 (crT p c l1 l2 m1 m2)]) (by simp [results, Try.results62, go_sem, HV.out.1, HV.out.2, *]) rfl ⟨?_, ?_⟩)
      · rfl
      · (repeat (first | with_reducible exact Below.refl _ _ | with_reducible refine balloc ?_ _ | with_reducible refine bdrewN ?_ _ | with_reducible refine Below.drew ?_ | with_reducible refine bthen ?_ (by with_reducible assumption) | with_reducible refine Below.setCell ?_ (by first | (simp; done) | (simp; omega)) _))
  · skip
    have c_1 : crT p c l1 l2 m1 m2 = 5 := by simp [crT, crV, hd1]
    have c_2 : crV p c l1 l2 m1 m2 = 0 := by simp [crT, crV, hd1]
    go_wp2_with fail
    refine Calls.mono (cross_any _ _ _ _ _ _ _ _ _ hp hc (by omega) (by omega) (by omega) (by omega)) ?_
    rintro e w1 ⟨rfl, hB1⟩
    (obtain ⟨hB1c, hB1f⟩ := bcell hB1; have hB1s := hB1.size; (try simp at hB1s); (try have hB1q1 := Nat.lt_of_succ_le hB1s); (try have hB1q2 := Nat.lt_of_succ_lt hB1q1); (try have hB1q3 := Nat.lt_of_succ_lt hB1q2); (try have hB1zw0 : w.heap.size < w1.heap.size := (by omega)); (try have hB1zw1 : w.heap.size + 1 < w1.heap.size := (by omega)); (try have hB1zw2 : w.heap.size + 1 + 1 < w1.heap.size := (by omega)); (try have hB1zw3 : w.heap.size + 1 + 1 + 1 < w1.heap.size := (by omega)); (try have hB1zw4 : w.heap.size + 1 + 1 + 1 + 1 < w1.heap.size := (by omega)))
    have HV := Lib.hid (show spV p c l1 l2 m1 m2 = 0 ∧ crT p c l1 l2 m1 m2 = 5 from by
      simp [spV, crT, spO, hd1])
    go_wp2
    (refine bodyPost_ret (v := .tuple #[.int .i64 (spV p c l1 l2 m1 m2), .int .i64 (crT p c l1 l2 m1 m2)]) (by simp [results, Try.results62, go_sem, HV.out.1, HV.out.2, *]) rfl ⟨?_, ?_⟩)
    · rfl
    · (repeat (first | with_reducible exact Below.refl _ _ | with_reducible refine balloc ?_ _ | with_reducible refine bdrewN ?_ _ | with_reducible refine Below.drew ?_ | with_reducible refine bthen ?_ (by with_reducible assumption) | with_reducible refine Below.setCell ?_ (by first | (simp; done) | (simp; omega)) _))

end Go.Proofs.Ytmpgpmcmhbpjeaa
