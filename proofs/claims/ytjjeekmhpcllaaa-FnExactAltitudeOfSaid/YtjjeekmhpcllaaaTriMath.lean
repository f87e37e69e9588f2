/-
  Triangles: altitudes, medians, their meets; no program.
-/
import Derived.Test.YtjjeekmhpcllaaaAtMath
import Derived.Test.YtjjeekmhpcllaaaFootMath
import Derived.Test.YtjjeekmhpcllaaaAreaMath
import Derived.Test.YtjjeekmhpcllaaaVecMath
namespace Go.Proofs.Ytjjeekmhpcllaaa
open Go.RowKit

section
variable {n : Nat} [NeZero n]
theorem uv_ratio {c d1 d2 e1 e2 u : Int} (hc : colB c = true) (h1 : K n e1 = K n u * K n d1) (h2 : K n e2 = K n u * K n d2) :
    K n (uOf c e1 e2) = K n u * K n (uOf c d1 d2) ∧ K n (vOf n c e1 e2) = K n u * K n (vOf n c d1 d2) := by
  rcases colB_ways hc with rfl | rfl | rfl
  · exact ⟨h1, h2⟩
  · refine ⟨h1, ?_⟩
    rw [show vOf n 1 e1 e2 = -e2 % (n : Int) from rfl, show vOf n 1 d1 d2 = -d2 % (n : Int) from rfl, K_mod, K_mod, K_neg, K_neg, h2]; grind
  · exact ⟨h2, h1⟩
theorem uv_zero {c d1 d2 : Int} (hc : colB c = true) (h : K n (uOf c d1 d2) = 0 ∧ K n (vOf n c d1 d2) = 0) : K n d1 = 0 ∧ K n d2 = 0 := by
  rcases colB_ways hc with rfl | rfl | rfl
  · exact h
  · refine ⟨h.1, ?_⟩
    have h2 := h.2
    rw [show vOf n 1 d1 d2 = -d2 % (n : Int) from rfl, K_mod, K_neg] at h2; grind
  · exact ⟨h.2, h.1⟩
/-- Directions in one ratio make one line. -/
theorem tl_ratio (hp : isP (n : Int) = true) {c d1 d2 e1 e2 u : Int} (hc : colB c = true) (a1 a2 : Int) (hu : K n u ≠ 0) (hd : ¬ (K n d1 = 0 ∧ K n d2 = 0)) (h1 : K n e1 = K n u * K n d1) (h2 : K n e2 = K n u * K n d2) :
    tl1 n c e1 e2 a1 a2 = tl1 n c d1 d2 a1 a2 ∧ tl2 n c e1 e2 a1 a2 = tl2 n c d1 d2 a1 a2 ∧ tl3 n c e1 e2 a1 a2 = tl3 n c d1 d2 a1 a2 := by
  obtain ⟨g1, g2⟩ := uv_ratio hc h1 h2
  exact mk_ratio hp hu (fun h => hd (uv_zero hc h)) g1 g2 (by unfold tw; simp only [K_mod, K_neg, K_add, K_mul, g1, g2]; grind)
theorem K_nrm_ne (hp : isP (n : Int) = true) {a b : Int} (h : ¬ (K n a = 0 ∧ K n b = 0)) : K n (nrm n a b) ≠ 0 := fun e => by
  rcases K_nrm hp h with ⟨_, h2⟩ | ⟨_, _, h2⟩ <;> exact K_one_ne hp (by rw [K_one, ← h2, e]; grind)
theorem K_det_tl {c d1 d2 e1 e2 a1 a2 b1 b2 : Int} (hc : colB c = true) :
    ∃ s : Fin n, (s = 1 ∨ s = -1) ∧ K n (detM (tl1 n c d1 d2 a1 a2) (tl2 n c d1 d2 a1 a2) (tl1 n c e1 e2 b1 b2) (tl2 n c e1 e2 b1 b2)) =
      s * (K n (nrm n (uOf c d1 d2) (vOf n c d1 d2)) * K n (nrm n (uOf c e1 e2) (vOf n c e1 e2)) * (K n d1 * K n e2 - K n d2 * K n e1)) := by
  unfold detM tl1 tl2 mk1 mk2
  simp only [K_sub, K_mul, K_mod]
  rcases colB_ways hc with rfl | rfl | rfl
  · refine ⟨1, .inl rfl, ?_⟩
    rw [show vOf n 0 d1 d2 = d2 from rfl, show vOf n 0 e1 e2 = e2 from rfl, show uOf 0 d1 d2 = d1 from rfl, show uOf 0 e1 e2 = e1 from rfl]; grind
  · refine ⟨-1, .inr rfl, ?_⟩
    have h1 : K n (vOf n 1 d1 d2) = - K n d2 := by rw [show vOf n 1 d1 d2 = -d2 % (n : Int) from rfl, K_mod, K_neg]
    have h2 : K n (vOf n 1 e1 e2) = - K n e2 := by rw [show vOf n 1 e1 e2 = -e2 % (n : Int) from rfl, K_mod, K_neg]
    rw [h1, h2, show uOf 1 d1 d2 = d1 from rfl, show uOf 1 e1 e2 = e1 from rfl]; grind
  · refine ⟨-1, .inr rfl, ?_⟩
    rw [show vOf n 2 d1 d2 = d1 from rfl, show vOf n 2 e1 e2 = e1 from rfl, show uOf 2 d1 d2 = d2 from rfl, show uOf 2 e1 e2 = e2 from rfl]; grind
theorem K_unit (s x : Fin n) (hs : s = 1 ∨ s = -1) (h : s * x = 0) : x = 0 := by
  rcases hs with rfl | rfl <;> grind
theorem K_mulz (hp : isP (n : Int) = true) {x y : Int} (hx : K n x ≠ 0) (hy : K n y ≠ 0) : K n x * K n y ≠ 0 := fun e => by
  rcases K_noz hp e with h | h
  · exact hx h
  · exact hy h
/-- Lines with directions that are not in one ratio are not parallel. -/
theorem K_det_ne (hp : isP (n : Int) = true) {c d1 d2 e1 e2 : Int} (a1 a2 b1 b2 : Int) (hc : colB c = true) (h : K n (d1 * e2 - d2 * e1) ≠ 0) :
    K n (detM (tl1 n c d1 d2 a1 a2) (tl2 n c d1 d2 a1 a2) (tl1 n c e1 e2 b1 b2) (tl2 n c e1 e2 b1 b2)) ≠ 0 := fun e => by
  obtain ⟨s, hs, hk⟩ := K_det_tl (n := n) (c := c) (d1 := d1) (d2 := d2) (e1 := e1) (e2 := e2) (a1 := a1) (a2 := a2) (b1 := b1) (b2 := b2) hc
  rw [e] at hk
  have hz := K_unit s _ hs hk.symm
  rw [← K_mul, ← K_mul d1, ← K_mul d2, ← K_sub] at hz
  have hd : ¬ (K n d1 = 0 ∧ K n d2 = 0) := fun q => h (by rw [K_sub, K_mul, K_mul, q.1, q.2]; grind)
  have he : ¬ (K n e1 = 0 ∧ K n e2 = 0) := fun q => h (by rw [K_sub, K_mul, K_mul, q.1, q.2]; grind)
  rcases K_noz hp hz with h1 | h1
  · rw [K_mul] at h1
    exact K_mulz hp (K_nrm_ne hp fun q => hd (uv_zero hc q)) (K_nrm_ne hp fun q => he (uv_zero hc q)) h1
  · exact h h1
end
section
variable {p c : Int}
theorem tl_flip {d1 d2 e1 e2 : Int} (a1 a2 : Int) (hp : isP p = true) (hc : colB c = true) (hd : ¬ (d1 % p = 0 ∧ d2 % p = 0)) (h1 : e1 % p = -d1 % p) (h2 : e2 % p = -d2 % p) :
    tl1 p c e1 e2 a1 a2 = tl1 p c d1 d2 a1 a2 ∧ tl2 p c e1 e2 a1 a2 = tl2 p c d1 d2 a1 a2 ∧ tl3 p c e1 e2 a1 a2 = tl3 p c d1 d2 a1 a2 := by
  obtain ⟨n, rfl⟩ := Int.eq_ofNat_of_zero_le (by have := isP_range hp; omega : 0 ≤ p)
  haveI := neZero_of hp
  rw [← K_ext, K_neg] at h1 h2
  refine tl_ratio hp hc a1 a2 (u := -1) (fun e => K_one_ne hp (by rw [K_neg, K_one] at e; rw [K_one]; grind)) (fun q => hd ⟨K_eq_zero.1 q.1, K_eq_zero.1 q.2⟩) ?_ ?_
  · rw [h1, K_neg, K_one]; grind
  · rw [h2, K_neg, K_one]; grind
/-- The altitude: the program's, by the side's line, and the model's, by its direction. -/
theorem alt_eq {b1 b2 c1 c2 : Int} (a1 a2 : Int) (hp : isP p = true) (hc : colB c = true) (hb1 : 0 ≤ b1 ∧ b1 < p) (hb2 : 0 ≤ b2 ∧ b2 < p) (hc1 : 0 ≤ c1 ∧ c1 < p) (hc2 : 0 ≤ c2 ∧ c2 < p) (hne : ¬ (b1 = c1 ∧ b2 = c2)) :
    pt1 p c (th1 p b1 b2 c1 c2) (th2 p b1 b2 c1 c2) a1 a2 = tl1 p c ((b1 - c1) % p) ((b2 - c2) % p) a1 a2 ∧
    pt2 p c (th1 p b1 b2 c1 c2) (th2 p b1 b2 c1 c2) a1 a2 = tl2 p c ((b1 - c1) % p) ((b2 - c2) % p) a1 a2 ∧
    pt3 p c (th1 p b1 b2 c1 c2) (th2 p b1 b2 c1 c2) a1 a2 = tl3 p c ((b1 - c1) % p) ((b2 - c2) % p) a1 a2 := by
  obtain ⟨n, rfl⟩ := Int.eq_ofNat_of_zero_le (by have := isP_range hp; omega : 0 ≤ p)
  haveI := neZero_of hp
  obtain ⟨l, hl, e1, e2⟩ := K_dir hp hb1 hb2 hc1 hc2 hne
  unfold pt1 pt2 pt3
  refine tl_ratio hp hc a1 a2 (u := -l) (fun e => hl (by rw [K_neg] at e; grind)) ?_ ?_ ?_
  · rintro ⟨h1, h2⟩
    rw [K_mod, K_sub] at h1 h2
    exact hne ⟨K_inj hb1 hc1 (by grind), K_inj hb2 hc2 (by grind)⟩
  · rw [e1]; simp only [K_mod, K_neg, K_sub]; grind
  · rw [e2]; simp only [K_mod, K_neg, K_sub]; grind
theorem tl_line {d1 d2 : Int} (a1 a2 : Int) (hp : isP p = true) (hc : colB c = true) (hd : ¬ (d1 % p = 0 ∧ d2 % p = 0)) : lineB p (tl1 p c d1 d2 a1 a2) (tl2 p c d1 d2 a1 a2) (tl3 p c d1 d2 a1 a2) = true := by
  obtain ⟨n, rfl⟩ := Int.eq_ofNat_of_zero_le (by have := isP_range hp; omega : 0 ≤ p)
  haveI := neZero_of hp
  exact mk_line hp _ (fun h => hd (by have := uv_zero hc h; exact ⟨K_eq_zero.1 this.1, K_eq_zero.1 this.2⟩))
theorem tl_det {d1 d2 e1 e2 : Int} (a1 a2 b1 b2 : Int) (hp : isP p = true) (hc : colB c = true) (h : (d1 * e2 - d2 * e1) % p ≠ 0) :
    detM (tl1 p c d1 d2 a1 a2) (tl2 p c d1 d2 a1 a2) (tl1 p c e1 e2 b1 b2) (tl2 p c e1 e2 b1 b2) % p ≠ 0 := by
  obtain ⟨n, rfl⟩ := Int.eq_ofNat_of_zero_le (by have := isP_range hp; omega : 0 ≤ p)
  haveI := neZero_of hp
  have := K_det_ne hp a1 a2 b1 b2 hc (fun e => h (K_eq_zero.1 e))
  exact fun e => this (K_eq_zero.2 e)
theorem tl_apart {d1 d2 e1 e2 : Int} (a1 a2 b1 b2 : Int) (hp : isP p = true) (hc : colB c = true) (h : (d1 * e2 - d2 * e1) % p ≠ 0) :
    ¬ (tl1 p c d1 d2 a1 a2 = tl1 p c e1 e2 b1 b2 ∧ tl2 p c d1 d2 a1 a2 = tl2 p c e1 e2 b1 b2) := fun q => by
  have hne := tl_det a1 a2 b1 b2 hp hc h
  rw [q.1, q.2] at hne
  apply hne
  rw [detM, Int.mul_comm, Int.sub_self, Int.zero_emod]
end

end Go.Proofs.Ytjjeekmhpcllaaa
