/-
  Spreads: null lines, crosses, triple spreads; no program.
-/
import Derived.Test.YtjjeekmhpcllaaaModMath
import Derived.Test.YtjjeekmhpcllaaaProdMath
import Derived.Test.YtjjeekmhpcllaaaLineVals
namespace Go.Proofs.Ytjjeekmhpcllaaa
open Go.RowKit

/-- The product of two points by a colour, its rest not yet taken. -/
def rawp (c a1 a2 b1 b2 : Int) : Int := if c = 0 then a1 * b1 + a2 * b2 else if c = 1 then a1 * b1 - a2 * b2 else a1 * b2 + a2 * b1
theorem prd_raw (p c a1 a2 b1 b2 : Int) : prd p c a1 a2 b1 b2 = rawp c a1 a2 b1 b2 % p := rfl
theorem rawp_r {c a1 a2 b1 b2 : Int} (ha1 : 0 ≤ a1 ∧ a1 ≤ 31) (ha2 : 0 ≤ a2 ∧ a2 ≤ 31) (hb1 : 0 ≤ b1 ∧ b1 ≤ 31) (hb2 : 0 ≤ b2 ∧ b2 ≤ 31) : -961 ≤ rawp c a1 a2 b1 b2 ∧ rawp c a1 a2 b1 b2 ≤ 1922 := by
  have m1 := mulP ha1 hb1
  have m2 := mulP ha2 hb2
  have m3 := mulP ha1 hb2
  have m4 := mulP ha2 hb1
  unfold rawp
  split
  · omega
  · split <;> omega
/-- A line is null by a colour. -/
def nullB (p c l1 l2 : Int) : Bool := prd p c (-l2 % p) l1 (-l2 % p) l1 == 0
/-- The product of two lines' directions, the cross, the spread. -/
def crD (p c l1 l2 m1 m2 : Int) : Int := prd p c (-l2 % p) l1 (-m2 % p) m1
def crO (p c l1 l2 m1 m2 : Int) : Int := crD p c l1 l2 m1 m2 * crD p c l1 l2 m1 m2 % p * inv p (prd p c (-l2 % p) l1 (-l2 % p) l1 * prd p c (-m2 % p) m1 (-m2 % p) m1) % p
def crT (p c l1 l2 m1 m2 : Int) : Int := if (nullB p c l1 l2 || nullB p c m1 m2) = true then 5 else 0
def crV (p c l1 l2 m1 m2 : Int) : Int := if (nullB p c l1 l2 || nullB p c m1 m2) = true then 0 else crO p c l1 l2 m1 m2
def spO (p c l1 l2 m1 m2 : Int) : Int := (1 - crO p c l1 l2 m1 m2) % p
def spV (p c l1 l2 m1 m2 : Int) : Int := if (nullB p c l1 l2 || nullB p c m1 m2) = true then 0 else spO p c l1 l2 m1 m2
def twO (p c l1 l2 m1 m2 : Int) : Int := (1 - crO p c l1 l2 m1 m2) % p * inv p (crO p c l1 l2 m1 m2) % p
theorem crO_r {p : Int} (c l1 l2 m1 m2 : Int) (h : isP p = true) : 0 ≤ crO p c l1 l2 m1 m2 ∧ crO p c l1 l2 m1 m2 < p := modR _ h
theorem spO_r {p : Int} (c l1 l2 m1 m2 : Int) (h : isP p = true) : 0 ≤ spO p c l1 l2 m1 m2 ∧ spO p c l1 l2 m1 m2 < p := modR _ h
/-- What the program takes for a cross: its test, its number. -/
theorem mul_zero_iff {p x y : Int} (hp : isP p = true) : (x * y % p == 0) = (x % p == 0 || y % p == 0) := by
  have hr := isP_range hp
  obtain ⟨n, rfl⟩ := Int.eq_ofNat_of_zero_le (by omega : 0 ≤ p)
  haveI := neZero_of hp
  rw [Bool.eq_iff_iff]
  simp only [Bool.or_eq_true, beq_iff_eq]
  constructor
  · intro h
    have h1 : K n x * K n y = 0 := by rw [← K_mul]; exact K_eq_zero.2 h
    rcases K_noz hp h1 with h2 | h2
    · exact .inl (K_eq_zero.1 h2)
    · exact .inr (K_eq_zero.1 h2)
  · rintro (h | h)
    · rw [Int.mul_emod, h, Int.zero_mul, Int.zero_emod]
    · rw [Int.mul_emod, h, Int.mul_zero, Int.zero_emod]
theorem quad_null {p : Int} (c l1 l2 m1 m2 : Int) (hp : isP p = true) : ((rawp c (-l2 % p) l1 (-l2 % p) l1 * rawp c (-m2 % p) m1 (-m2 % p) m1) % p == 0) = (nullB p c l1 l2 || nullB p c m1 m2) := by
  rw [mul_zero_iff hp]; rfl
theorem cross_bad {p c l1 l2 m1 m2 : Int} (hp : isP p = true) (h : ((rawp c (-l2 % p) l1 (-l2 % p) l1 * rawp c (-m2 % p) m1 (-m2 % p) m1) % p == 0) = true) :
    crV p c l1 l2 m1 m2 = 0 ∧ crT p c l1 l2 m1 m2 = 5 := by
  rw [quad_null _ _ _ _ _ hp] at h
  simp [crV, crT, h]
theorem cross_good {p c l1 l2 m1 m2 : Int} (hp : isP p = true) (h : ((rawp c (-l2 % p) l1 (-l2 % p) l1 * rawp c (-m2 % p) m1 (-m2 % p) m1) % p == 0) = false) :
    crV p c l1 l2 m1 m2 = rawp c (-l2 % p) l1 (-m2 % p) m1 * rawp c (-l2 % p) l1 (-m2 % p) m1 * inv p ((rawp c (-l2 % p) l1 (-l2 % p) l1 * rawp c (-m2 % p) m1 (-m2 % p) m1) % p) % p ∧ crT p c l1 l2 m1 m2 = 0 := by
  rw [quad_null _ _ _ _ _ hp] at h
  refine ⟨?_, by simp [crT, h]⟩
  have e : crV p c l1 l2 m1 m2 = crO p c l1 l2 m1 m2 := by simp [crV, h]
  have hi : inv p (prd p c (-l2 % p) l1 (-l2 % p) l1 * prd p c (-m2 % p) m1 (-m2 % p) m1) = inv p ((rawp c (-l2 % p) l1 (-l2 % p) l1 * rawp c (-m2 % p) m1 (-m2 % p) m1) % p) := by
    rw [← inv_mod]; congr 1; rw [prd_raw, prd_raw, ← Int.mul_emod]
  rw [e, crO, hi, crD, prd_raw]
  rw [← Int.mul_emod, Int.mul_emod (rawp c (-l2 % p) l1 (-m2 % p) m1 * rawp c (-l2 % p) l1 (-m2 % p) m1 % p), Int.emod_emod, ← Int.mul_emod]
/-- Triple spreads. -/
def tripB (p r s t : Int) : Bool := ((r + s + t) * (r + s + t) - 2 * (r * r + s * s + t * t) - 4 * r * s * t) % p == 0

end Go.Proofs.Ytjjeekmhpcllaaa
