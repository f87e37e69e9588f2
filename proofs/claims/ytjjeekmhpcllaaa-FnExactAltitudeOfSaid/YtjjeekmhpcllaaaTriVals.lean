/-
  Triangles: their altitudes, medians, bisectors of sides, orthocentres and circumcentres as numbers; no program.
-/
import Derived.Test.YtjjeekmhpcllaaaTriMath
namespace Go.Proofs.Ytjjeekmhpcllaaa
open Go.RowKit

/-- The altitude at a. -/
def al1 (p c a1 a2 b1 b2 c1 c2 : Int) : Int := tl1 p c ((b1 - c1) % p) ((b2 - c2) % p) a1 a2
def al2 (p c a1 a2 b1 b2 c1 c2 : Int) : Int := tl2 p c ((b1 - c1) % p) ((b2 - c2) % p) a1 a2
def al3 (p c a1 a2 b1 b2 c1 c2 : Int) : Int := tl3 p c ((b1 - c1) % p) ((b2 - c2) % p) a1 a2
/-- The orthocentre. -/
def orX (p c a1 a2 b1 b2 c1 c2 : Int) : Int := meX p (al1 p c a1 a2 b1 b2 c1 c2) (al2 p c a1 a2 b1 b2 c1 c2) (al3 p c a1 a2 b1 b2 c1 c2) (al1 p c b1 b2 a1 a2 c1 c2) (al2 p c b1 b2 a1 a2 c1 c2) (al3 p c b1 b2 a1 a2 c1 c2)
def orY (p c a1 a2 b1 b2 c1 c2 : Int) : Int := meY p (al1 p c a1 a2 b1 b2 c1 c2) (al2 p c a1 a2 b1 b2 c1 c2) (al3 p c a1 a2 b1 b2 c1 c2) (al1 p c b1 b2 a1 a2 c1 c2) (al2 p c b1 b2 a1 a2 c1 c2) (al3 p c b1 b2 a1 a2 c1 c2)
/-- The points with equal quadrances to two points. -/
def bi1 (p c a1 a2 b1 b2 : Int) : Int := tl1 p c ((a1 - b1) % p) ((a2 - b2) % p) (mid p a1 b1) (mid p a2 b2)
def bi2 (p c a1 a2 b1 b2 : Int) : Int := tl2 p c ((a1 - b1) % p) ((a2 - b2) % p) (mid p a1 b1) (mid p a2 b2)
def bi3 (p c a1 a2 b1 b2 : Int) : Int := tl3 p c ((a1 - b1) % p) ((a2 - b2) % p) (mid p a1 b1) (mid p a2 b2)
/-- The circumcentre. -/
def ccX (p c a1 a2 b1 b2 c1 c2 : Int) : Int := meX p (bi1 p c a1 a2 b1 b2) (bi2 p c a1 a2 b1 b2) (bi3 p c a1 a2 b1 b2) (bi1 p c a1 a2 c1 c2) (bi2 p c a1 a2 c1 c2) (bi3 p c a1 a2 c1 c2)
def ccY (p c a1 a2 b1 b2 c1 c2 : Int) : Int := meY p (bi1 p c a1 a2 b1 b2) (bi2 p c a1 a2 b1 b2) (bi3 p c a1 a2 b1 b2) (bi1 p c a1 a2 c1 c2) (bi2 p c a1 a2 c1 c2) (bi3 p c a1 a2 c1 c2)
section
variable {p c a1 a2 b1 b2 c1 c2 : Int}
theorem al1_r (p c a1 a2 b1 b2 c1 c2 : Int) (h : isP p = true) : 0 ≤ al1 p c a1 a2 b1 b2 c1 c2 ∧ al1 p c a1 a2 b1 b2 c1 c2 < p := modR _ h
theorem al2_r (p c a1 a2 b1 b2 c1 c2 : Int) (h : isP p = true) : 0 ≤ al2 p c a1 a2 b1 b2 c1 c2 ∧ al2 p c a1 a2 b1 b2 c1 c2 < p := modR _ h
theorem al3_r (p c a1 a2 b1 b2 c1 c2 : Int) (h : isP p = true) : 0 ≤ al3 p c a1 a2 b1 b2 c1 c2 ∧ al3 p c a1 a2 b1 b2 c1 c2 < p := modR _ h
theorem orX_r (p c a1 a2 b1 b2 c1 c2 : Int) (h : isP p = true) : 0 ≤ orX p c a1 a2 b1 b2 c1 c2 ∧ orX p c a1 a2 b1 b2 c1 c2 < p := modR _ h
theorem orY_r (p c a1 a2 b1 b2 c1 c2 : Int) (h : isP p = true) : 0 ≤ orY p c a1 a2 b1 b2 c1 c2 ∧ orY p c a1 a2 b1 b2 c1 c2 < p := modR _ h
theorem bi1_r (p c a1 a2 b1 b2 : Int) (h : isP p = true) : 0 ≤ bi1 p c a1 a2 b1 b2 ∧ bi1 p c a1 a2 b1 b2 < p := modR _ h
theorem bi2_r (p c a1 a2 b1 b2 : Int) (h : isP p = true) : 0 ≤ bi2 p c a1 a2 b1 b2 ∧ bi2 p c a1 a2 b1 b2 < p := modR _ h
theorem bi3_r (p c a1 a2 b1 b2 : Int) (h : isP p = true) : 0 ≤ bi3 p c a1 a2 b1 b2 ∧ bi3 p c a1 a2 b1 b2 < p := modR _ h
theorem ccX_r (p c a1 a2 b1 b2 c1 c2 : Int) (h : isP p = true) : 0 ≤ ccX p c a1 a2 b1 b2 c1 c2 ∧ ccX p c a1 a2 b1 b2 c1 c2 < p := modR _ h
theorem ccY_r (p c a1 a2 b1 b2 c1 c2 : Int) (h : isP p = true) : 0 ≤ ccY p c a1 a2 b1 b2 c1 c2 ∧ ccY p c a1 a2 b1 b2 c1 c2 < p := modR _ h
theorem mid_r (p a b : Int) (h : isP p = true) : 0 ≤ mid p a b ∧ mid p a b < p := modR _ h
theorem area_no (h : (area p a1 a2 b1 b2 c1 c2 == 0) = false) : ¬ (area p a1 a2 b1 b2 c1 c2 = 0) := by simpa using h
theorem tri_ab (h : (area p a1 a2 b1 b2 c1 c2 == 0) = false) : ¬ (a1 = b1 ∧ a2 = b2) := by
  rintro ⟨rfl, rfl⟩; exact area_no h (by simp [area])
theorem tri_ac (h : (area p a1 a2 b1 b2 c1 c2 == 0) = false) : ¬ (a1 = c1 ∧ a2 = c2) := by
  rintro ⟨rfl, rfl⟩; exact area_no h (by simp [area])
theorem tri_bc (h : (area p a1 a2 b1 b2 c1 c2 == 0) = false) : ¬ (b1 = c1 ∧ b2 = c2) := by
  rintro ⟨rfl, rfl⟩; exact area_no h (by rw [area, Int.mul_comm, Int.sub_self, Int.zero_emod])
theorem K_area {n : Nat} [NeZero n] (h : (area n a1 a2 b1 b2 c1 c2 == 0) = false) : (K n b1 - K n a1) * (K n c2 - K n a2) - (K n b2 - K n a2) * (K n c1 - K n a1) ≠ 0 := fun e => by
  refine area_no h ((K_eq_zero (n := n)).1 ?_)
  simp only [K_sub, K_mul]; exact e
theorem dir_ne {x1 x2 y1 y2 : Int} (hp : isP p = true) (hx1 : 0 ≤ x1 ∧ x1 < p) (hx2 : 0 ≤ x2 ∧ x2 < p) (hy1 : 0 ≤ y1 ∧ y1 < p) (hy2 : 0 ≤ y2 ∧ y2 < p) (h : ¬ (x1 = y1 ∧ x2 = y2)) : ¬ ((x1 - y1) % p % p = 0 ∧ (x2 - y2) % p % p = 0) := by
  obtain ⟨n, rfl⟩ := Int.eq_ofNat_of_zero_le (by have := isP_range hp; omega : 0 ≤ p)
  haveI := neZero_of hp
  rintro ⟨h1, h2⟩
  rw [← K_eq_zero, K_mod, K_sub] at h1 h2
  exact h ⟨K_inj hx1 hy1 (by grind), K_inj hx2 hy2 (by grind)⟩
/-- The altitudes at a and b are apart, and so are the bisectors of the sides at a. -/
theorem alt_cross (hp : isP p = true) (h : (area p a1 a2 b1 b2 c1 c2 == 0) = false) : ((b1 - c1) % p * ((a2 - c2) % p) - (b2 - c2) % p * ((a1 - c1) % p)) % p ≠ 0 := by
  obtain ⟨n, rfl⟩ := Int.eq_ofNat_of_zero_le (by have := isP_range hp; omega : 0 ≤ p)
  haveI := neZero_of hp
  have hk := K_area h
  intro e
  rw [← K_eq_zero] at e
  simp only [K_sub, K_mul, K_mod] at e
  apply hk; grind
theorem bi_cross (hp : isP p = true) (h : (area p a1 a2 b1 b2 c1 c2 == 0) = false) : ((a1 - b1) % p * ((a2 - c2) % p) - (a2 - b2) % p * ((a1 - c1) % p)) % p ≠ 0 := by
  obtain ⟨n, rfl⟩ := Int.eq_ofNat_of_zero_le (by have := isP_range hp; omega : 0 ≤ p)
  haveI := neZero_of hp
  have hk := K_area h
  intro e
  rw [← K_eq_zero] at e
  simp only [K_sub, K_mul, K_mod] at e
  apply hk; grind
/-- A point is not the midpoint of the two others. -/
theorem mid_ne (hp : isP p = true) (h : (area p a1 a2 b1 b2 c1 c2 == 0) = false) : ¬ (a1 = mid p b1 c1 ∧ a2 = mid p b2 c2) := by
  have h2 := half_two hp
  obtain ⟨n, rfl⟩ := Int.eq_ofNat_of_zero_le (by have := isP_range hp; omega : 0 ≤ p)
  haveI := neZero_of hp
  have hk := K_area h
  rintro ⟨e1, e2⟩
  have k2 := congrArg (K n) h2
  rw [K_mul, K_add, K_self, K_one, K_two] at k2
  have f1 := congrArg (K n) e1
  have f2 := congrArg (K n) e2
  rw [mid, K_mod, K_mul, K_mod, K_add] at f1 f2
  obtain ⟨H, hH⟩ : ∃ H, H = K n (((n : Int) + 1) / 2) := ⟨_, rfl⟩
  rw [← hH] at k2 f1 f2
  have g1 : 2 * K n a1 = K n b1 + K n c1 := by rw [f1]; grind
  have g2 : 2 * K n a2 = K n b2 + K n c2 := by rw [f2]; grind
  apply hk; grind
/-- The altitude at b by c and a is that by a and c. -/
theorem alt_flip (hp : isP p = true) (hc : colB c = true) (ha1 : 0 ≤ a1 ∧ a1 < p) (ha2 : 0 ≤ a2 ∧ a2 < p) (hc1 : 0 ≤ c1 ∧ c1 < p) (hc2 : 0 ≤ c2 ∧ c2 < p) (hne : ¬ (a1 = c1 ∧ a2 = c2)) :
    al1 p c b1 b2 c1 c2 a1 a2 = al1 p c b1 b2 a1 a2 c1 c2 ∧ al2 p c b1 b2 c1 c2 a1 a2 = al2 p c b1 b2 a1 a2 c1 c2 ∧ al3 p c b1 b2 c1 c2 a1 a2 = al3 p c b1 b2 a1 a2 c1 c2 := by
  refine tl_flip b1 b2 hp hc (dir_ne hp ha1 ha2 hc1 hc2 hne) ?_ ?_
  all_goals
    obtain ⟨n, rfl⟩ := Int.eq_ofNat_of_zero_le (by have := isP_range hp; omega : 0 ≤ p)
    haveI := neZero_of hp
    rw [← K_ext]; simp only [K_mod, K_neg, K_sub]; grind
/-- The line through two points, the other way round. -/
theorem th_comm (hp : isP p = true) (ha1 : 0 ≤ a1 ∧ a1 < p) (ha2 : 0 ≤ a2 ∧ a2 < p) (hb1 : 0 ≤ b1 ∧ b1 < p) (hb2 : 0 ≤ b2 ∧ b2 < p) (hne : ¬ (a1 = b1 ∧ a2 = b2)) :
    th1 p b1 b2 a1 a2 = th1 p a1 a2 b1 b2 ∧ th2 p b1 b2 a1 a2 = th2 p a1 a2 b1 b2 ∧ th3 p b1 b2 a1 a2 = th3 p a1 a2 b1 b2 := by
  obtain ⟨n, rfl⟩ := Int.eq_ofNat_of_zero_le (by have := isP_range hp; omega : 0 ≤ p)
  haveI := neZero_of hp
  unfold th1 th2 th3
  refine mk_ratio hp (u := -1) (fun e => K_one_ne hp (by rw [K_neg, K_one] at e; rw [K_one]; grind)) ?_ ?_ ?_ ?_
  · rintro ⟨h1, h2⟩
    rw [K_sub] at h1 h2
    exact hne ⟨K_inj ha1 hb1 (by grind), K_inj ha2 hb2 (by grind)⟩
  all_goals
    simp only [K_sub, K_neg, K_mul, K_one]
    grind
end

end Go.Proofs.Ytjjeekmhpcllaaa
