/-
  Right angles: what the law asks.
-/
import Derived.Test.YtodabjolblamgaaLawBig
import Derived.Test.YtodabjolblamgaaMoveMath
import Derived.Test.YtodabjolblamgaaEHasRightAngle
import Derived.Test.YtodabjolblamgaaEQuadrance
import Derived.Test.YtodabjolblamgaaEArchimedesOf
import Derived.Test.YtodabjolblamgaaIDoubledArea
namespace Go.Proofs.Ytodabjolblamgaa
open Go.RowKit

variable {p col a1 a2 b1 b2 c1 c2 : Int}
theorem ra_in (h : raC p col a1 a2 b1 b2 c1 c2 = 0) : isP p = true ∧ colB col = true ∧ numsIn p [a1, a2, b1, b2, c1, c2] = true := by
  obtain ⟨hp, h⟩ := code0.1 h; obtain ⟨hc, hn⟩ := Bool.and_eq_true_iff.1 h; exact ⟨hp, hc, hn⟩
theorem ra_no (h : ¬ raC p col a1 a2 b1 b2 c1 c2 = 0) : raV1 p col a1 a2 b1 b2 c1 c2 = false := if_neg h
theorem ra_q1 (h : raC p col a1 a2 b1 b2 c1 c2 = 0) : qdC p col b1 b2 c1 c2 = 0 := by
  obtain ⟨hp, hc, hn⟩ := ra_in h
  refine code0.2 ⟨hp, ?_⟩
  simp only [numsIn, List.all_cons, List.all_nil, Bool.and_eq_true, Bool.and_true, hc] at hn ⊢
  simp [hn]
theorem ra_q2 (h : raC p col a1 a2 b1 b2 c1 c2 = 0) : qdC p col a1 a2 c1 c2 = 0 := by
  obtain ⟨hp, hc, hn⟩ := ra_in h
  refine code0.2 ⟨hp, ?_⟩
  simp only [numsIn, List.all_cons, List.all_nil, Bool.and_eq_true, Bool.and_true, hc] at hn ⊢
  simp [hn]
theorem ra_q3 (h : raC p col a1 a2 b1 b2 c1 c2 = 0) : qdC p col a1 a2 b1 b2 = 0 := by
  obtain ⟨hp, hc, hn⟩ := ra_in h
  refine code0.2 ⟨hp, ?_⟩
  simp only [numsIn, List.all_cons, List.all_nil, Bool.and_eq_true, Bool.and_true, hc] at hn ⊢
  simp [hn]
theorem ra_d (h : raC p col a1 a2 b1 b2 c1 c2 = 0) : daC p a1 a2 b1 b2 c1 c2 = 0 := by
  obtain ⟨hp, hc, hn⟩ := ra_in h
  exact code0.2 ⟨hp, hn⟩
theorem inB_of {x : Int} (h : 0 ≤ x ∧ x < p) : inB x 0 (p - 1) = true := by simp [inB]; omega
theorem qdV_r31 (p col a1 a2 b1 b2 : Int) (hp : isP p = true) : 0 ≤ qdV1 p col a1 a2 b1 b2 ∧ qdV1 p col a1 a2 b1 b2 ≤ 30 := by
  have := isP_range hp
  unfold qdV1; split
  · have := qdr_r col a1 a2 b1 b2 hp; omega
  · omega
theorem qdV_eq (h : qdC p col a1 a2 b1 b2 = 0) : qdV1 p col a1 a2 b1 b2 = qdr p col a1 a2 b1 b2 := if_pos h
theorem daV_r31 (p a1 a2 b1 b2 c1 c2 : Int) (hp : isP p = true) : 0 ≤ daV p a1 a2 b1 b2 c1 c2 ∧ daV p a1 a2 b1 b2 c1 c2 ≤ 30 := by
  have := isP_range hp
  unfold daV; split
  · have := modR (((b1 - a1) * (c2 - a2) - (b2 - a2) * (c1 - a1))) hp; unfold area; omega
  · omega
theorem aoV_r31 (p x y z : Int) (hp : isP p = true) : 0 ≤ aoV1 p x y z ∧ aoV1 p x y z ≤ 30 := by
  have := isP_range hp
  unfold aoV1; split
  · have := modR ((x + y + z) * (x + y + z) - 2 * (x * x + y * y + z * z)) hp; omega
  · omega
theorem ra_ao (h : raC p col a1 a2 b1 b2 c1 c2 = 0) : aoC p (qdV1 p col b1 b2 c1 c2) (qdV1 p col a1 a2 c1 c2) (qdV1 p col a1 a2 b1 b2) = 0 := by
  obtain ⟨hp, hc, hn⟩ := ra_in h
  rw [qdV_eq (ra_q1 h), qdV_eq (ra_q2 h), qdV_eq (ra_q3 h)]
  refine code0.2 ⟨hp, ?_⟩
  simp [numsIn, inB_of (qdr_r _ _ _ _ _ hp)]
theorem half0 {x y : Int} (hp : isP p = true) (hx : 0 ≤ x ∧ x < p) (e : y % p = (2 * x) % p) : (y % p == 0) = (x == 0) := by
  apply Bool.eq_iff_iff.2
  rw [beq_iff_eq, beq_iff_eq, e]
  simp only [isP, decide_eq_true_eq] at hp
  rcases hp with rfl | rfl | rfl | rfl | rfl | rfl | rfl | rfl | rfl | rfl <;> omega
theorem ra_law1 (h : raC p col a1 a2 b1 b2 c1 c2 = 0) : ((qdV1 p col a1 a2 c1 c2 + qdV1 p col a1 a2 b1 b2 - qdV1 p col b1 b2 c1 c2).tmod p == 0) = raV1 p col a1 a2 b1 b2 c1 c2 := by
  obtain ⟨hp, hc, hn⟩ := ra_in h
  rw [qdV_eq (ra_q1 h), qdV_eq (ra_q2 h), qdV_eq (ra_q3 h), tmod0_iff]
  unfold raV1; rw [if_pos h]
  refine half0 hp (prd_lt _ _ _ _ _ hp) ?_
  obtain ⟨n, rfl⟩ := Int.eq_ofNat_of_zero_le (by have := isP_range hp; omega : 0 ≤ p)
  haveI := neZero_of hp
  rw [← K_ext]
  simp only [K_add, K_sub, K_mul, K_two, qdr, prd_K, K_mod]
  rcases colB_ways hc with rfl | rfl | rfl <;> simp [show ¬ ((1 : Int) = 0) by decide, show ¬ ((2 : Int) = 0) by decide, show ¬ ((2 : Int) = 1) by decide] <;> grind -lia
theorem ra_law2 (h : raC p col a1 a2 b1 b2 c1 c2 = 0) (h0 : ¬ 0 < col) : ((4 * daV p a1 a2 b1 b2 c1 c2 * daV p a1 a2 b1 b2 c1 c2 - aoV1 p (qdV1 p col b1 b2 c1 c2) (qdV1 p col a1 a2 c1 c2) (qdV1 p col a1 a2 b1 b2)).tmod p == 0) = true := by
  obtain ⟨hp, hc, hn⟩ := ra_in h
  have e := ra_ao h
  apply tmod0
  rw [show aoV1 p (qdV1 p col b1 b2 c1 c2) (qdV1 p col a1 a2 c1 c2) (qdV1 p col a1 a2 b1 b2) = _ from if_pos e, show daV p a1 a2 b1 b2 c1 c2 = area p a1 a2 b1 b2 c1 c2 from if_pos (ra_d h)]
  rw [qdV_eq (ra_q1 h), qdV_eq (ra_q2 h), qdV_eq (ra_q3 h)]
  obtain ⟨n, rfl⟩ := Int.eq_ofNat_of_zero_le (by have := isP_range hp; omega : 0 ≤ p)
  haveI := neZero_of hp
  rw [← Int.zero_emod, ← K_ext]
  simp only [K_add, K_sub, K_mul, K_two, K_four, K_zero, qdr, area, prd_K, K_mod]
  rcases colB_ways hc with rfl | rfl | rfl
  · simp; grind -lia
  · omega
  · omega
theorem ra_law3 (h : raC p col a1 a2 b1 b2 c1 c2 = 0) (h0 : 0 < col) : ((-(4 * daV p a1 a2 b1 b2 c1 c2 * daV p a1 a2 b1 b2 c1 c2) - aoV1 p (qdV1 p col b1 b2 c1 c2) (qdV1 p col a1 a2 c1 c2) (qdV1 p col a1 a2 b1 b2)).tmod p == 0) = true := by
  obtain ⟨hp, hc, hn⟩ := ra_in h
  have e := ra_ao h
  apply tmod0
  rw [show aoV1 p (qdV1 p col b1 b2 c1 c2) (qdV1 p col a1 a2 c1 c2) (qdV1 p col a1 a2 b1 b2) = _ from if_pos e, show daV p a1 a2 b1 b2 c1 c2 = area p a1 a2 b1 b2 c1 c2 from if_pos (ra_d h)]
  rw [qdV_eq (ra_q1 h), qdV_eq (ra_q2 h), qdV_eq (ra_q3 h)]
  obtain ⟨n, rfl⟩ := Int.eq_ofNat_of_zero_le (by have := isP_range hp; omega : 0 ≤ p)
  haveI := neZero_of hp
  rw [← Int.zero_emod, ← K_ext]
  simp only [K_add, K_sub, K_mul, K_neg, K_two, K_four, K_zero, qdr, area, prd_K, K_mod]
  rcases colB_ways hc with rfl | rfl | rfl
  · omega
  · simp; grind -lia
  · simp; grind -lia

end Go.Proofs.Ytodabjolblamgaa
