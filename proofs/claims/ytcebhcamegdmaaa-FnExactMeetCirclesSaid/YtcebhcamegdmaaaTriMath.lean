/-
  Triangles: altitudes, medians, their meets; no program.
  Triangles: their altitudes, medians, bisectors of sides, orthocentres and circumcentres as numbers; no program.
  The code of a prime, a check and a triangle; no program.
-/
import Derived.Test.YtcebhcamegdmaaaBaseMath

namespace Go.Proofs.Ytcebhcamegdmaaa
open Go.RowKit

section
variable {n : Nat} [NeZero n]
theorem uv_ratio {c d1 d2 e1 e2 u : Int} (hc : colB c = true) (h1 : K n e1 = K n u * K n d1) (h2 : K n e2 = K n u * K n d2) :
    K n (uOf c e1 e2) = K n u * K n (uOf c d1 d2) ∧ K n (vOf n c e1 e2) = K n u * K n (vOf n c d1 d2) := by
  rcases colB_ways hc with rfl | rfl | rfl
  · exact ⟨h1, h2⟩
  · refine ⟨h1, ?_⟩
    rw [show vOf n 1 e1 e2 = -e2 % (n : Int) from rfl, show vOf n 1 d1 d2 = -d2 % (n : Int) from rfl, K_mod, K_mod, K_neg, K_neg, h2]; grind
  · exact ⟨h2, h1⟩
theorem uv_zero {c d1 d2 : Int} (hc : colB c = true) (h : K n (uOf c d1 d2) = 0 ∧ K n (vOf n c d1 d2) = 0) : K n d1 = 0 ∧ K n d2 = 0 := by
  rcases colB_ways hc with rfl | rfl | rfl
  · exact h
  · refine ⟨h.1, ?_⟩
    have h2 := h.2
    rw [show vOf n 1 d1 d2 = -d2 % (n : Int) from rfl, K_mod, K_neg] at h2; grind
  · exact ⟨h.2, h.1⟩
/-- Directions in one ratio make one line. -/
theorem tl_ratio (hp : isP (n : Int) = true) {c d1 d2 e1 e2 u : Int} (hc : colB c = true) (a1 a2 : Int) (hu : K n u ≠ 0) (hd : ¬ (K n d1 = 0 ∧ K n d2 = 0)) (h1 : K n e1 = K n u * K n d1) (h2 : K n e2 = K n u * K n d2) :
    tl1 n c e1 e2 a1 a2 = tl1 n c d1 d2 a1 a2 ∧ tl2 n c e1 e2 a1 a2 = tl2 n c d1 d2 a1 a2 ∧ tl3 n c e1 e2 a1 a2 = tl3 n c d1 d2 a1 a2 := by
  obtain ⟨g1, g2⟩ := uv_ratio hc h1 h2
  exact mk_ratio hp hu (fun h => hd (uv_zero hc h)) g1 g2 (by unfold tw; simp only [K_mod, K_neg, K_add, K_mul, g1, g2]; grind)
theorem K_nrm_ne (hp : isP (n : Int) = true) {a b : Int} (h : ¬ (K n a = 0 ∧ K n b = 0)) : K n (nrm n a b) ≠ 0 := fun e => by
  rcases K_nrm hp h with ⟨_, h2⟩ | ⟨_, _, h2⟩ <;> exact K_one_ne hp (by rw [K_one, ← h2, e]; grind)
theorem K_det_tl {c d1 d2 e1 e2 a1 a2 b1 b2 : Int} (hc : colB c = true) :
    ∃ s : Fin n, (s = 1 ∨ s = -1) ∧ K n (detM (tl1 n c d1 d2 a1 a2) (tl2 n c d1 d2 a1 a2) (tl1 n c e1 e2 b1 b2) (tl2 n c e1 e2 b1 b2)) =
      s * (K n (nrm n (uOf c d1 d2) (vOf n c d1 d2)) * K n (nrm n (uOf c e1 e2) (vOf n c e1 e2)) * (K n d1 * K n e2 - K n d2 * K n e1)) := by
  unfold detM tl1 tl2 mk1 mk2
  simp only [K_sub, K_mul, K_mod]
  rcases colB_ways hc with rfl | rfl | rfl
  · refine ⟨1, .inl rfl, ?_⟩
    rw [show vOf n 0 d1 d2 = d2 from rfl, show vOf n 0 e1 e2 = e2 from rfl, show uOf 0 d1 d2 = d1 from rfl, show uOf 0 e1 e2 = e1 from rfl]; grind
  · refine ⟨-1, .inr rfl, ?_⟩
    have h1 : K n (vOf n 1 d1 d2) = - K n d2 := by rw [show vOf n 1 d1 d2 = -d2 % (n : Int) from rfl, K_mod, K_neg]
    have h2 : K n (vOf n 1 e1 e2) = - K n e2 := by rw [show vOf n 1 e1 e2 = -e2 % (n : Int) from rfl, K_mod, K_neg]
    rw [h1, h2, show uOf 1 d1 d2 = d1 from rfl, show uOf 1 e1 e2 = e1 from rfl]; grind
  · refine ⟨-1, .inr rfl, ?_⟩
    rw [show vOf n 2 d1 d2 = d1 from rfl, show vOf n 2 e1 e2 = e1 from rfl, show uOf 2 d1 d2 = d2 from rfl, show uOf 2 e1 e2 = e2 from rfl]; grind
theorem K_unit (s x : Fin n) (hs : s = 1 ∨ s = -1) (h : s * x = 0) : x = 0 := by
  rcases hs with rfl | rfl <;> grind
theorem K_mulz (hp : isP (n : Int) = true) {x y : Int} (hx : K n x ≠ 0) (hy : K n y ≠ 0) : K n x * K n y ≠ 0 := fun e => by
  rcases K_noz hp e with h | h
  · exact hx h
  · exact hy h
/-- Lines with directions that are not in one ratio are not parallel. -/
theorem K_det_ne (hp : isP (n : Int) = true) {c d1 d2 e1 e2 : Int} (a1 a2 b1 b2 : Int) (hc : colB c = true) (h : K n (d1 * e2 - d2 * e1) ≠ 0) :
    K n (detM (tl1 n c d1 d2 a1 a2) (tl2 n c d1 d2 a1 a2) (tl1 n c e1 e2 b1 b2) (tl2 n c e1 e2 b1 b2)) ≠ 0 := fun e => by
  obtain ⟨s, hs, hk⟩ := K_det_tl (n := n) (c := c) (d1 := d1) (d2 := d2) (e1 := e1) (e2 := e2) (a1 := a1) (a2 := a2) (b1 := b1) (b2 := b2) hc
  rw [e] at hk
  have hz := K_unit s _ hs hk.symm
  rw [← K_mul, ← K_mul d1, ← K_mul d2, ← K_sub] at hz
  have hd : ¬ (K n d1 = 0 ∧ K n d2 = 0) := fun q => h (by rw [K_sub, K_mul, K_mul, q.1, q.2]; grind)
  have he : ¬ (K n e1 = 0 ∧ K n e2 = 0) := fun q => h (by rw [K_sub, K_mul, K_mul, q.1, q.2]; grind)
  rcases K_noz hp hz with h1 | h1
  · rw [K_mul] at h1
    exact K_mulz hp (K_nrm_ne hp fun q => hd (uv_zero hc q)) (K_nrm_ne hp fun q => he (uv_zero hc q)) h1
  · exact h h1
end
section
variable {p c : Int}
theorem tl_flip {d1 d2 e1 e2 : Int} (a1 a2 : Int) (hp : isP p = true) (hc : colB c = true) (hd : ¬ (d1 % p = 0 ∧ d2 % p = 0)) (h1 : e1 % p = -d1 % p) (h2 : e2 % p = -d2 % p) :
    tl1 p c e1 e2 a1 a2 = tl1 p c d1 d2 a1 a2 ∧ tl2 p c e1 e2 a1 a2 = tl2 p c d1 d2 a1 a2 ∧ tl3 p c e1 e2 a1 a2 = tl3 p c d1 d2 a1 a2 := by
  obtain ⟨n, rfl⟩ := Int.eq_ofNat_of_zero_le (by have := isP_range hp; omega : 0 ≤ p)
  haveI := neZero_of hp
  rw [← K_ext, K_neg] at h1 h2
  refine tl_ratio hp hc a1 a2 (u := -1) (fun e => K_one_ne hp (by rw [K_neg, K_one] at e; rw [K_one]; grind)) (fun q => hd ⟨K_eq_zero.1 q.1, K_eq_zero.1 q.2⟩) ?_ ?_
  · rw [h1, K_neg, K_one]; grind
  · rw [h2, K_neg, K_one]; grind
/-- The altitude: the program's, by the side's line, and the model's, by its direction. -/
theorem alt_eq {b1 b2 c1 c2 : Int} (a1 a2 : Int) (hp : isP p = true) (hc : colB c = true) (hb1 : 0 ≤ b1 ∧ b1 < p) (hb2 : 0 ≤ b2 ∧ b2 < p) (hc1 : 0 ≤ c1 ∧ c1 < p) (hc2 : 0 ≤ c2 ∧ c2 < p) (hne : ¬ (b1 = c1 ∧ b2 = c2)) :
    pt1 p c (th1 p b1 b2 c1 c2) (th2 p b1 b2 c1 c2) a1 a2 = tl1 p c ((b1 - c1) % p) ((b2 - c2) % p) a1 a2 ∧
    pt2 p c (th1 p b1 b2 c1 c2) (th2 p b1 b2 c1 c2) a1 a2 = tl2 p c ((b1 - c1) % p) ((b2 - c2) % p) a1 a2 ∧
    pt3 p c (th1 p b1 b2 c1 c2) (th2 p b1 b2 c1 c2) a1 a2 = tl3 p c ((b1 - c1) % p) ((b2 - c2) % p) a1 a2 := by
  obtain ⟨n, rfl⟩ := Int.eq_ofNat_of_zero_le (by have := isP_range hp; omega : 0 ≤ p)
  haveI := neZero_of hp
  obtain ⟨l, hl, e1, e2⟩ := K_dir hp hb1 hb2 hc1 hc2 hne
  unfold pt1 pt2 pt3
  refine tl_ratio hp hc a1 a2 (u := -l) (fun e => hl (by rw [K_neg] at e; grind)) ?_ ?_ ?_
  · rintro ⟨h1, h2⟩
    rw [K_mod, K_sub] at h1 h2
    exact hne ⟨K_inj hb1 hc1 (by grind), K_inj hb2 hc2 (by grind)⟩
  · rw [e1]; simp only [K_mod, K_neg, K_sub]; grind
  · rw [e2]; simp only [K_mod, K_neg, K_sub]; grind
theorem tl_line {d1 d2 : Int} (a1 a2 : Int) (hp : isP p = true) (hc : colB c = true) (hd : ¬ (d1 % p = 0 ∧ d2 % p = 0)) : lineB p (tl1 p c d1 d2 a1 a2) (tl2 p c d1 d2 a1 a2) (tl3 p c d1 d2 a1 a2) = true := by
  obtain ⟨n, rfl⟩ := Int.eq_ofNat_of_zero_le (by have := isP_range hp; omega : 0 ≤ p)
  haveI := neZero_of hp
  exact mk_line hp _ (fun h => hd (by have := uv_zero hc h; exact ⟨K_eq_zero.1 this.1, K_eq_zero.1 this.2⟩))
theorem tl_det {d1 d2 e1 e2 : Int} (a1 a2 b1 b2 : Int) (hp : isP p = true) (hc : colB c = true) (h : (d1 * e2 - d2 * e1) % p ≠ 0) :
    detM (tl1 p c d1 d2 a1 a2) (tl2 p c d1 d2 a1 a2) (tl1 p c e1 e2 b1 b2) (tl2 p c e1 e2 b1 b2) % p ≠ 0 := by
  obtain ⟨n, rfl⟩ := Int.eq_ofNat_of_zero_le (by have := isP_range hp; omega : 0 ≤ p)
  haveI := neZero_of hp
  have := K_det_ne hp a1 a2 b1 b2 hc (fun e => h (K_eq_zero.1 e))
  exact fun e => this (K_eq_zero.2 e)
theorem tl_apart {d1 d2 e1 e2 : Int} (a1 a2 b1 b2 : Int) (hp : isP p = true) (hc : colB c = true) (h : (d1 * e2 - d2 * e1) % p ≠ 0) :
    ¬ (tl1 p c d1 d2 a1 a2 = tl1 p c e1 e2 b1 b2 ∧ tl2 p c d1 d2 a1 a2 = tl2 p c e1 e2 b1 b2) := fun q => by
  have hne := tl_det a1 a2 b1 b2 hp hc h
  rw [q.1, q.2] at hne
  apply hne
  rw [detM, Int.mul_comm, Int.sub_self, Int.zero_emod]
end

end Go.Proofs.Ytcebhcamegdmaaa

namespace Go.Proofs.Ytcebhcamegdmaaa
open Go.RowKit

/-- The altitude at a. -/
def al1 (p c a1 a2 b1 b2 c1 c2 : Int) : Int := tl1 p c ((b1 - c1) % p) ((b2 - c2) % p) a1 a2
def al2 (p c a1 a2 b1 b2 c1 c2 : Int) : Int := tl2 p c ((b1 - c1) % p) ((b2 - c2) % p) a1 a2
def al3 (p c a1 a2 b1 b2 c1 c2 : Int) : Int := tl3 p c ((b1 - c1) % p) ((b2 - c2) % p) a1 a2
/-- The orthocentre. -/
def orX (p c a1 a2 b1 b2 c1 c2 : Int) : Int := meX p (al1 p c a1 a2 b1 b2 c1 c2) (al2 p c a1 a2 b1 b2 c1 c2) (al3 p c a1 a2 b1 b2 c1 c2) (al1 p c b1 b2 a1 a2 c1 c2) (al2 p c b1 b2 a1 a2 c1 c2) (al3 p c b1 b2 a1 a2 c1 c2)
def orY (p c a1 a2 b1 b2 c1 c2 : Int) : Int := meY p (al1 p c a1 a2 b1 b2 c1 c2) (al2 p c a1 a2 b1 b2 c1 c2) (al3 p c a1 a2 b1 b2 c1 c2) (al1 p c b1 b2 a1 a2 c1 c2) (al2 p c b1 b2 a1 a2 c1 c2) (al3 p c b1 b2 a1 a2 c1 c2)
/-- The points with equal quadrances to two points. -/
def bi1 (p c a1 a2 b1 b2 : Int) : Int := tl1 p c ((a1 - b1) % p) ((a2 - b2) % p) (mid p a1 b1) (mid p a2 b2)
def bi2 (p c a1 a2 b1 b2 : Int) : Int := tl2 p c ((a1 - b1) % p) ((a2 - b2) % p) (mid p a1 b1) (mid p a2 b2)
def bi3 (p c a1 a2 b1 b2 : Int) : Int := tl3 p c ((a1 - b1) % p) ((a2 - b2) % p) (mid p a1 b1) (mid p a2 b2)
/-- The circumcentre. -/
def ccX (p c a1 a2 b1 b2 c1 c2 : Int) : Int := meX p (bi1 p c a1 a2 b1 b2) (bi2 p c a1 a2 b1 b2) (bi3 p c a1 a2 b1 b2) (bi1 p c a1 a2 c1 c2) (bi2 p c a1 a2 c1 c2) (bi3 p c a1 a2 c1 c2)
def ccY (p c a1 a2 b1 b2 c1 c2 : Int) : Int := meY p (bi1 p c a1 a2 b1 b2) (bi2 p c a1 a2 b1 b2) (bi3 p c a1 a2 b1 b2) (bi1 p c a1 a2 c1 c2) (bi2 p c a1 a2 c1 c2) (bi3 p c a1 a2 c1 c2)
section
variable {p c a1 a2 b1 b2 c1 c2 : Int}
theorem al1_r (p c a1 a2 b1 b2 c1 c2 : Int) (h : isP p = true) : 0 ≤ al1 p c a1 a2 b1 b2 c1 c2 ∧ al1 p c a1 a2 b1 b2 c1 c2 < p := modR _ h
theorem al2_r (p c a1 a2 b1 b2 c1 c2 : Int) (h : isP p = true) : 0 ≤ al2 p c a1 a2 b1 b2 c1 c2 ∧ al2 p c a1 a2 b1 b2 c1 c2 < p := modR _ h
theorem al3_r (p c a1 a2 b1 b2 c1 c2 : Int) (h : isP p = true) : 0 ≤ al3 p c a1 a2 b1 b2 c1 c2 ∧ al3 p c a1 a2 b1 b2 c1 c2 < p := modR _ h
theorem orX_r (p c a1 a2 b1 b2 c1 c2 : Int) (h : isP p = true) : 0 ≤ orX p c a1 a2 b1 b2 c1 c2 ∧ orX p c a1 a2 b1 b2 c1 c2 < p := modR _ h
theorem orY_r (p c a1 a2 b1 b2 c1 c2 : Int) (h : isP p = true) : 0 ≤ orY p c a1 a2 b1 b2 c1 c2 ∧ orY p c a1 a2 b1 b2 c1 c2 < p := modR _ h
theorem bi1_r (p c a1 a2 b1 b2 : Int) (h : isP p = true) : 0 ≤ bi1 p c a1 a2 b1 b2 ∧ bi1 p c a1 a2 b1 b2 < p := modR _ h
theorem bi2_r (p c a1 a2 b1 b2 : Int) (h : isP p = true) : 0 ≤ bi2 p c a1 a2 b1 b2 ∧ bi2 p c a1 a2 b1 b2 < p := modR _ h
theorem bi3_r (p c a1 a2 b1 b2 : Int) (h : isP p = true) : 0 ≤ bi3 p c a1 a2 b1 b2 ∧ bi3 p c a1 a2 b1 b2 < p := modR _ h
theorem ccX_r (p c a1 a2 b1 b2 c1 c2 : Int) (h : isP p = true) : 0 ≤ ccX p c a1 a2 b1 b2 c1 c2 ∧ ccX p c a1 a2 b1 b2 c1 c2 < p := modR _ h
theorem ccY_r (p c a1 a2 b1 b2 c1 c2 : Int) (h : isP p = true) : 0 ≤ ccY p c a1 a2 b1 b2 c1 c2 ∧ ccY p c a1 a2 b1 b2 c1 c2 < p := modR _ h
theorem mid_r (p a b : Int) (h : isP p = true) : 0 ≤ mid p a b ∧ mid p a b < p := modR _ h
theorem area_no (h : (area p a1 a2 b1 b2 c1 c2 == 0) = false) : ¬ (area p a1 a2 b1 b2 c1 c2 = 0) := by simpa using h
theorem tri_ab (h : (area p a1 a2 b1 b2 c1 c2 == 0) = false) : ¬ (a1 = b1 ∧ a2 = b2) := by
  rintro ⟨rfl, rfl⟩; exact area_no h (by simp [area])
theorem tri_ac (h : (area p a1 a2 b1 b2 c1 c2 == 0) = false) : ¬ (a1 = c1 ∧ a2 = c2) := by
  rintro ⟨rfl, rfl⟩; exact area_no h (by simp [area])
theorem tri_bc (h : (area p a1 a2 b1 b2 c1 c2 == 0) = false) : ¬ (b1 = c1 ∧ b2 = c2) := by
  rintro ⟨rfl, rfl⟩; exact area_no h (by rw [area, Int.mul_comm, Int.sub_self, Int.zero_emod])
theorem K_area {n : Nat} [NeZero n] (h : (area n a1 a2 b1 b2 c1 c2 == 0) = false) : (K n b1 - K n a1) * (K n c2 - K n a2) - (K n b2 - K n a2) * (K n c1 - K n a1) ≠ 0 := fun e => by
  refine area_no h ((K_eq_zero (n := n)).1 ?_)
  simp only [K_sub, K_mul]; exact e
theorem dir_ne {x1 x2 y1 y2 : Int} (hp : isP p = true) (hx1 : 0 ≤ x1 ∧ x1 < p) (hx2 : 0 ≤ x2 ∧ x2 < p) (hy1 : 0 ≤ y1 ∧ y1 < p) (hy2 : 0 ≤ y2 ∧ y2 < p) (h : ¬ (x1 = y1 ∧ x2 = y2)) : ¬ ((x1 - y1) % p % p = 0 ∧ (x2 - y2) % p % p = 0) := by
  obtain ⟨n, rfl⟩ := Int.eq_ofNat_of_zero_le (by have := isP_range hp; omega : 0 ≤ p)
  haveI := neZero_of hp
  rintro ⟨h1, h2⟩
  rw [← K_eq_zero, K_mod, K_sub] at h1 h2
  exact h ⟨K_inj hx1 hy1 (by grind), K_inj hx2 hy2 (by grind)⟩
/-- The altitudes at a and b are apart, and so are the bisectors of the sides at a. -/
theorem alt_cross (hp : isP p = true) (h : (area p a1 a2 b1 b2 c1 c2 == 0) = false) : ((b1 - c1) % p * ((a2 - c2) % p) - (b2 - c2) % p * ((a1 - c1) % p)) % p ≠ 0 := by
  obtain ⟨n, rfl⟩ := Int.eq_ofNat_of_zero_le (by have := isP_range hp; omega : 0 ≤ p)
  haveI := neZero_of hp
  have hk := K_area h
  intro e
  rw [← K_eq_zero] at e
  simp only [K_sub, K_mul, K_mod] at e
  apply hk; grind
theorem bi_cross (hp : isP p = true) (h : (area p a1 a2 b1 b2 c1 c2 == 0) = false) : ((a1 - b1) % p * ((a2 - c2) % p) - (a2 - b2) % p * ((a1 - c1) % p)) % p ≠ 0 := by
  obtain ⟨n, rfl⟩ := Int.eq_ofNat_of_zero_le (by have := isP_range hp; omega : 0 ≤ p)
  haveI := neZero_of hp
  have hk := K_area h
  intro e
  rw [← K_eq_zero] at e
  simp only [K_sub, K_mul, K_mod] at e
  apply hk; grind
/-- A point is not the midpoint of the two others. -/
theorem mid_ne (hp : isP p = true) (h : (area p a1 a2 b1 b2 c1 c2 == 0) = false) : ¬ (a1 = mid p b1 c1 ∧ a2 = mid p b2 c2) := by
  have h2 := half_two hp
  obtain ⟨n, rfl⟩ := Int.eq_ofNat_of_zero_le (by have := isP_range hp; omega : 0 ≤ p)
  haveI := neZero_of hp
  have hk := K_area h
  rintro ⟨e1, e2⟩
  have k2 := congrArg (K n) h2
  rw [K_mul, K_add, K_self, K_one, K_two] at k2
  have f1 := congrArg (K n) e1
  have f2 := congrArg (K n) e2
  rw [mid, K_mod, K_mul, K_mod, K_add] at f1 f2
  obtain ⟨H, hH⟩ : ∃ H, H = K n (((n : Int) + 1) / 2) := ⟨_, rfl⟩
  rw [← hH] at k2 f1 f2
  have g1 : 2 * K n a1 = K n b1 + K n c1 := by rw [f1]; grind
  have g2 : 2 * K n a2 = K n b2 + K n c2 := by rw [f2]; grind
  apply hk; grind
/-- The altitude at b by c and a is that by a and c. -/
theorem alt_flip (hp : isP p = true) (hc : colB c = true) (ha1 : 0 ≤ a1 ∧ a1 < p) (ha2 : 0 ≤ a2 ∧ a2 < p) (hc1 : 0 ≤ c1 ∧ c1 < p) (hc2 : 0 ≤ c2 ∧ c2 < p) (hne : ¬ (a1 = c1 ∧ a2 = c2)) :
    al1 p c b1 b2 c1 c2 a1 a2 = al1 p c b1 b2 a1 a2 c1 c2 ∧ al2 p c b1 b2 c1 c2 a1 a2 = al2 p c b1 b2 a1 a2 c1 c2 ∧ al3 p c b1 b2 c1 c2 a1 a2 = al3 p c b1 b2 a1 a2 c1 c2 := by
  refine tl_flip b1 b2 hp hc (dir_ne hp ha1 ha2 hc1 hc2 hne) ?_ ?_
  all_goals
    obtain ⟨n, rfl⟩ := Int.eq_ofNat_of_zero_le (by have := isP_range hp; omega : 0 ≤ p)
    haveI := neZero_of hp
    rw [← K_ext]; simp only [K_mod, K_neg, K_sub]; grind
/-- The line through two points, the other way round. -/
theorem th_comm (hp : isP p = true) (ha1 : 0 ≤ a1 ∧ a1 < p) (ha2 : 0 ≤ a2 ∧ a2 < p) (hb1 : 0 ≤ b1 ∧ b1 < p) (hb2 : 0 ≤ b2 ∧ b2 < p) (hne : ¬ (a1 = b1 ∧ a2 = b2)) :
    th1 p b1 b2 a1 a2 = th1 p a1 a2 b1 b2 ∧ th2 p b1 b2 a1 a2 = th2 p a1 a2 b1 b2 ∧ th3 p b1 b2 a1 a2 = th3 p a1 a2 b1 b2 := by
  obtain ⟨n, rfl⟩ := Int.eq_ofNat_of_zero_le (by have := isP_range hp; omega : 0 ≤ p)
  haveI := neZero_of hp
  unfold th1 th2 th3
  refine mk_ratio hp (u := -1) (fun e => K_one_ne hp (by rw [K_neg, K_one] at e; rw [K_one]; grind)) ?_ ?_ ?_ ?_
  · rintro ⟨h1, h2⟩
    rw [K_sub] at h1 h2
    exact hne ⟨K_inj ha1 hb1 (by grind), K_inj ha2 hb2 (by grind)⟩
  all_goals
    simp only [K_sub, K_neg, K_mul, K_one]
    grind
end

end Go.Proofs.Ytcebhcamegdmaaa

namespace Go.Proofs.Ytcebhcamegdmaaa
open Go.RowKit

def tcC (p : Int) (r : Bool) (a1 a2 b1 b2 c1 c2 : Int) : Int := if isP p = true then (if (r && numsIn p [a1, a2, b1, b2, c1, c2]) = true then (if (area p a1 a2 b1 b2 c1 c2 == 0) = true then 5 else 0) else 2) else 1
theorem colB0 : colB 0 = true := rfl

end Go.Proofs.Ytcebhcamegdmaaa
