/-
  Products and inverses of maps: their numbers; no program.
-/
import Derived.Test.YthfckpfiechloaaMoveMath
namespace Go.Proofs.Ythfckpfiechloaa
open Go.RowKit

/-- A row of a product's matrix: the second map's row at the first one's column. -/
def pd (p a b m1 m2 m3 m4 x y : Int) : Int := ld p a b (ld p m1 m2 x y) (ld p m3 m4 x y)
theorem pd_r (a b m1 m2 m3 m4 x y : Int) {p : Int} (h : isP p = true) : 0 ≤ pd p a b m1 m2 m3 m4 x y ∧ pd p a b m1 m2 m3 m4 x y < p := modR _ h
def mm (p a b u m1 m2 m3 m4 m5 m6 x y : Int) : Int := mv p a b u (mv p m1 m2 m5 x y) (mv p m3 m4 m6 x y)
theorem mm_r (a b u m1 m2 m3 m4 m5 m6 x y : Int) {p : Int} (h : isP p = true) : 0 ≤ mm p a b u m1 m2 m3 m4 m5 m6 x y ∧ mm p a b u m1 m2 m3 m4 m5 m6 x y < p := modR _ h
section
variable {p : Int} (hp : isP p = true) (a b u m1 m2 m3 m4 m5 m6 : Int)
include hp
theorem pd_x : (mm p a b u m1 m2 m3 m4 m5 m6 1 0 - mm p a b u m1 m2 m3 m4 m5 m6 0 0) % p = pd p a b m1 m2 m3 m4 1 0 := by
  obtain ⟨n, rfl⟩ := Int.eq_ofNat_of_zero_le (by have := isP_range hp; omega : 0 ≤ p)
  haveI := neZero_of hp
  unfold pd mm ld mv
  rw [← K_ext]
  simp only [K_mod, K_sub, K_add, K_mul, K_zero, K_one]
  grind
theorem pd_y : (mm p a b u m1 m2 m3 m4 m5 m6 0 1 - mm p a b u m1 m2 m3 m4 m5 m6 0 0) % p = pd p a b m1 m2 m3 m4 0 1 := by
  obtain ⟨n, rfl⟩ := Int.eq_ofNat_of_zero_le (by have := isP_range hp; omega : 0 ≤ p)
  haveI := neZero_of hp
  unfold pd mm ld mv
  rw [← K_ext]
  simp only [K_mod, K_sub, K_add, K_mul, K_zero, K_one]
  grind
theorem pd_o : mm p a b u m1 m2 m3 m4 m5 m6 0 0 = mv p a b u m5 m6 := by
  obtain ⟨n, rfl⟩ := Int.eq_ofNat_of_zero_le (by have := isP_range hp; omega : 0 ≤ p)
  haveI := neZero_of hp
  unfold mm mv
  rw [← K_ext]
  simp only [K_mod, K_add, K_mul, K_zero]
  grind
end
/-- The inverse of a move. -/
def im1 (p m1 m2 m3 m4 : Int) : Int := sgn p m1 m2 m3 m4 * m4 % p
def im2 (p m1 m2 m3 m4 : Int) : Int := -sgn p m1 m2 m3 m4 * m2 % p
def im3 (p m1 m2 m3 m4 : Int) : Int := -sgn p m1 m2 m3 m4 * m3 % p
def im4 (p m1 m2 m3 m4 : Int) : Int := sgn p m1 m2 m3 m4 * m1 % p
def im5 (p m1 m2 m3 m4 m5 m6 : Int) : Int := (0 - ld p (im1 p m1 m2 m3 m4) (im2 p m1 m2 m3 m4) m5 m6) % p
def im6 (p m1 m2 m3 m4 m5 m6 : Int) : Int := (0 - ld p (im3 p m1 m2 m3 m4) (im4 p m1 m2 m3 m4) m5 m6) % p
theorem im_r {p m1 m2 m3 m4 m5 m6 : Int} (h : isP p = true) : (0 ≤ im1 p m1 m2 m3 m4 ∧ im1 p m1 m2 m3 m4 < p) ∧ (0 ≤ im2 p m1 m2 m3 m4 ∧ im2 p m1 m2 m3 m4 < p) ∧ (0 ≤ im3 p m1 m2 m3 m4 ∧ im3 p m1 m2 m3 m4 < p) ∧ (0 ≤ im4 p m1 m2 m3 m4 ∧ im4 p m1 m2 m3 m4 < p) ∧ (0 ≤ im5 p m1 m2 m3 m4 m5 m6 ∧ im5 p m1 m2 m3 m4 m5 m6 < p) ∧ (0 ≤ im6 p m1 m2 m3 m4 m5 m6 ∧ im6 p m1 m2 m3 m4 m5 m6 < p) := ⟨modR _ h, modR _ h, modR _ h, modR _ h, modR _ h, modR _ h⟩
theorem mv_0 (p a b x y : Int) : mv p a b 0 x y = ld p a b x y := by unfold mv ld; rw [Int.add_zero]

end Go.Proofs.Ythfckpfiechloaa
