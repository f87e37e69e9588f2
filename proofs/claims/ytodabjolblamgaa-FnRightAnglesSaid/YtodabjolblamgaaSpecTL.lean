/-
  spec.l02Through.
-/
import Derived.Test.YtodabjolblamgaaSpecNormal
import Derived.Test.YtodabjolblamgaaBaseMath
namespace Go.Proofs.Ytodabjolblamgaa
open Go.RowKit

set_option maxRecDepth 20000 in
set_option maxHeartbeats 1000000 in
theorem specTL_any (p c d1 d2 a1 a2 : Int) (w : World) (hp : isP p = true) (hc : colB c = true) (h1 : 0 ≤ d1 ∧ d1 < p) (h2 : 0 ≤ d2 ∧ d2 < p) (ha1 : 0 ≤ a1 ∧ a1 < p) (ha2 : 0 ≤ a2 ∧ a2 < p) :
    Calls Try.prog 83 #[.int .i64 p, .int .i64 c, .agg #[.int .i64 d1, .int .i64 d2], .agg #[.int .i64 a1, .int .i64 a2]] w fun e w' =>
      e = .returned (.agg #[.int .i64 (tl1 p c d1 d2 a1 a2), .int .i64 (tl2 p c d1 d2 a1 a2), .int .i64 (tl3 p c d1 d2 a1 a2)]) ∧ Below w.heap.size w w' := by
  have hr := isP_range hp
  obtain ⟨u, hu⟩ : ∃ u, u = uOf c d1 d2 := ⟨_, rfl⟩
  obtain ⟨v, hv⟩ : ∃ v, v = vOf p c d1 d2 := ⟨_, rfl⟩
  have uv := uv_r (c := c) hp h1 h2
  rw [← hu, ← hv] at uv
  have m1 := mulP (a := u) (b := a1) (by omega) (by omega)
  have m2 := mulP (a := v) (b := a2) (by omega) (by omega)
  have mw := modR31 (-(u * a1 + v * a2)) hp
  have HV := Lib.hid (show tl1 p c d1 d2 a1 a2 = mk1 p u v (-(u * a1 + v * a2) % p) ∧ tl2 p c d1 d2 a1 a2 = mk2 p u v (-(u * a1 + v * a2) % p) ∧ tl3 p c d1 d2 a1 a2 = mk3 p u v (-(u * a1 + v * a2) % p) by
    rw [tl1, tl2, tl3, tw, ← hu, ← hv]; exact ⟨rfl, rfl, rfl⟩)
  rcases colB_ways hc with rfl | rfl | rfl
  · obtain rfl : u = d1 := hu
    obtain rfl : v = d2 := hv
    go_enter Try.func83, Try.ntmps83
    go_wp2
    go_quiet (fail)
    (go_wp2_with fail; refine Calls.mono (mod_any _ _ _ (by omega) (by omega) (by omega) (by omega)) ?_; rintro e w' ⟨rfl, rfl⟩)
    (go_wp2_with fail; refine Calls.mono (normal_any _ _ _ _ _ hp (by omega) (by omega) (by omega)) ?_; rintro e w1 ⟨rfl, hB1⟩; obtain ⟨hB1c, hB1f⟩ := bcell hB1; have hB1s := hB1.size; (try simp at hB1s); (try have hB1q1 := Nat.lt_of_succ_le hB1s); (try have hB1q2 := Nat.lt_of_succ_lt hB1q1); (try have hB1q3 := Nat.lt_of_succ_lt hB1q2); (try have hB1zw0 : w.heap.size < w1.heap.size := (by omega)); (try have hB1zw1 : w.heap.size + 1 < w1.heap.size := (by omega)); (try have hB1zw2 : w.heap.size + 1 + 1 < w1.heap.size := (by omega)); (try have hB1zw3 : w.heap.size + 1 + 1 + 1 < w1.heap.size := (by omega)); (try have hB1zw4 : w.heap.size + 1 + 1 + 1 + 1 < w1.heap.size := (by omega)))
    go_wp2
    (refine bodyPost_ret (v := .agg #[.int .i64 (tl1 p 0 u v a1 a2), .int .i64 (tl2 p 0 u v a1 a2), .int .i64 (tl3 p 0 u v a1 a2)]) (by simp [results, Try.results83, go_sem, HV.out.1, HV.out.2.1, HV.out.2.2, *]) rfl ⟨?_, ?_⟩)
    · rfl
    · (repeat (first | exact Below.refl _ _ | refine balloc ?_ _ | refine bdrewN ?_ _ | refine Below.drew ?_ | refine bthen ?_ hB1 | refine Below.setCell ?_ (by first | (simp; done) | (simp; omega)) _))
  · obtain rfl : u = d1 := hu
    have HU := Lib.hid (show -d2 % p = v from hv.symm)
    clear hv
    go_enter Try.func83, Try.ntmps83
    go_wp2
    go_quiet (fail)
    go_wp2_with fail
    refine Calls.mono (mod_any _ _ _ (by omega) (by omega) (by omega) (by omega)) ?_
    rw [HU.out]
    rintro e w' ⟨rfl, rfl⟩
    (go_wp2_with fail; refine Calls.mono (mod_any _ _ _ (by omega) (by omega) (by omega) (by omega)) ?_; rintro e w' ⟨rfl, rfl⟩)
    (go_wp2_with fail; refine Calls.mono (normal_any _ _ _ _ _ hp (by omega) (by omega) (by omega)) ?_; rintro e w1 ⟨rfl, hB1⟩; obtain ⟨hB1c, hB1f⟩ := bcell hB1; have hB1s := hB1.size; (try simp at hB1s); (try have hB1q1 := Nat.lt_of_succ_le hB1s); (try have hB1q2 := Nat.lt_of_succ_lt hB1q1); (try have hB1q3 := Nat.lt_of_succ_lt hB1q2); (try have hB1zw0 : w.heap.size < w1.heap.size := (by omega)); (try have hB1zw1 : w.heap.size + 1 < w1.heap.size := (by omega)); (try have hB1zw2 : w.heap.size + 1 + 1 < w1.heap.size := (by omega)); (try have hB1zw3 : w.heap.size + 1 + 1 + 1 < w1.heap.size := (by omega)); (try have hB1zw4 : w.heap.size + 1 + 1 + 1 + 1 < w1.heap.size := (by omega)))
    go_wp2
    (refine bodyPost_ret (v := .agg #[.int .i64 (tl1 p 1 u d2 a1 a2), .int .i64 (tl2 p 1 u d2 a1 a2), .int .i64 (tl3 p 1 u d2 a1 a2)]) (by simp [results, Try.results83, go_sem, HV.out.1, HV.out.2.1, HV.out.2.2, *]) rfl ⟨?_, ?_⟩)
    · rfl
    · (repeat (first | exact Below.refl _ _ | refine balloc ?_ _ | refine bdrewN ?_ _ | refine Below.drew ?_ | refine bthen ?_ hB1 | refine Below.setCell ?_ (by first | (simp; done) | (simp; omega)) _))
  · obtain rfl : u = d2 := hu
    obtain rfl : v = d1 := hv
    go_enter Try.func83, Try.ntmps83
    go_wp2
    go_quiet (fail)
    (go_wp2_with fail; refine Calls.mono (mod_any _ _ _ (by omega) (by omega) (by omega) (by omega)) ?_; rintro e w' ⟨rfl, rfl⟩)
    (go_wp2_with fail; refine Calls.mono (normal_any _ _ _ _ _ hp (by omega) (by omega) (by omega)) ?_; rintro e w1 ⟨rfl, hB1⟩; obtain ⟨hB1c, hB1f⟩ := bcell hB1; have hB1s := hB1.size; (try simp at hB1s); (try have hB1q1 := Nat.lt_of_succ_le hB1s); (try have hB1q2 := Nat.lt_of_succ_lt hB1q1); (try have hB1q3 := Nat.lt_of_succ_lt hB1q2); (try have hB1zw0 : w.heap.size < w1.heap.size := (by omega)); (try have hB1zw1 : w.heap.size + 1 < w1.heap.size := (by omega)); (try have hB1zw2 : w.heap.size + 1 + 1 < w1.heap.size := (by omega)); (try have hB1zw3 : w.heap.size + 1 + 1 + 1 < w1.heap.size := (by omega)); (try have hB1zw4 : w.heap.size + 1 + 1 + 1 + 1 < w1.heap.size := (by omega)))
    go_wp2
    (refine bodyPost_ret (v := .agg #[.int .i64 (tl1 p 2 v u a1 a2), .int .i64 (tl2 p 2 v u a1 a2), .int .i64 (tl3 p 2 v u a1 a2)]) (by simp [results, Try.results83, go_sem, HV.out.1, HV.out.2.1, HV.out.2.2, *]) rfl ⟨?_, ?_⟩)
    · rfl
    · (repeat (first | exact Below.refl _ _ | refine balloc ?_ _ | refine bdrewN ?_ _ | refine Below.drew ?_ | refine bthen ?_ hB1 | refine Below.setCell ?_ (by first | (simp; done) | (simp; omega)) _))

end Go.Proofs.Ytodabjolblamgaa
