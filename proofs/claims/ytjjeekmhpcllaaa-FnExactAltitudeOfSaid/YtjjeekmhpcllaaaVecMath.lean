/-
  Sums, multiples, combinations and midpoints of points, number by number; no program.
-/
import Derived.Test.YtjjeekmhpcllaaaLineVals
namespace Go.Proofs.Ytjjeekmhpcllaaa
open Go.RowKit

/-- A number of the combination of two points. -/
def cmb (p a b t : Int) : Int := (a + t * (b - a)) % p
theorem cmb_spec {p : Int} (a b t : Int) (hp : isP p = true) : (a + t * ((b - a) % p) % p) % p = cmb p a b t := by
  obtain ⟨n, rfl⟩ := Int.eq_ofNat_of_zero_le (by have := isP_range hp; omega : 0 ≤ p)
  haveI := neZero_of hp
  rw [cmb, ← K_ext]
  simp only [K_add, K_sub, K_mul, K_mod]
theorem cmb_impl {p : Int} (a b t : Int) (hp : isP p = true) : (a + t * ((b - a) % p)) % p = cmb p a b t := by
  obtain ⟨n, rfl⟩ := Int.eq_ofNat_of_zero_le (by have := isP_range hp; omega : 0 ≤ p)
  haveI := neZero_of hp
  rw [cmb, ← K_ext]
  simp only [K_add, K_sub, K_mul, K_mod]
/-- A number of the midpoint of two points. -/
def mid (p a b : Int) : Int := (p + 1) / 2 * ((a + b) % p) % p
theorem half_two {p : Int} (hp : isP p = true) : 2 * ((p + 1) / 2) = p + 1 := by
  rw [isP_iff] at hp; omega
theorem mid_ring {n : Nat} [NeZero n] (A B H I : Fin n) (e : 2 * H = 1) (k : 2 * I = 1) : A + I * (B - A) = H * (A + B) := by
  have h : H = I := by
    have h1 : H * (2 * I) = I * (2 * H) := by grind
    rw [k, e] at h1
    grind
  have h2 : A = I * (2 * A) := by
    have : I * (2 * A) = A * (2 * I) := by grind
    rw [this, k]; grind
  subst h
  grind
theorem mid_impl {p : Int} (a b : Int) (hp : isP p = true) : cmb p a b (inv p 2) = mid p a b := by
  have h2 := half_two hp
  have hr := isP_range hp
  obtain ⟨n, rfl⟩ := Int.eq_ofNat_of_zero_le (by omega : 0 ≤ p)
  haveI := neZero_of hp
  obtain ⟨h, hh⟩ : ∃ h, h = ((n : Int) + 1) / 2 := ⟨_, rfl⟩
  rw [mid, cmb, ← K_ext, ← hh]
  rw [← hh] at h2
  have e := congrArg (K n) h2
  have k2 : K n 2 ≠ 0 := K_small (by omega) (by omega)
  have ki := K_inv hp k2
  rw [K_add, K_self, K_one, K_mul] at e
  simp only [K_add, K_sub, K_mul, K_mod]
  rw [K_two] at e ki
  exact mid_ring _ _ _ _ (by rw [e]; grind) ki

end Go.Proofs.Ytjjeekmhpcllaaa
