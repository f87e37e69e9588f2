/-
  Radical lines: their numbers, and that two ways to them agree; no program.
-/
import Derived.Test.YtcebhcamegdmaaaCircVals
namespace Go.Proofs.Ytcebhcamegdmaaa
open Go.RowKit

def rdU (c d1 d2 : Int) : Int := if (c == 1) = true then d1 else if (c == 2) = true then d2 else d1
def rdV (c d1 d2 : Int) : Int := if (c == 1) = true then -d2 else if (c == 2) = true then d1 else d2
/-- The numbers that make the radical line. -/
def rdA (p c k1 k2 m1 m2 : Int) : Int := 2 * rdU c ((m1 - k1) % p) ((m2 - k2) % p)
def rdB (p c k1 k2 m1 m2 : Int) : Int := 2 * rdV c ((m1 - k1) % p) ((m2 - k2) % p)
def rdC (p c k1 k2 k3 m1 m2 m3 : Int) : Int := qdr p c 0 0 k1 k2 - qdr p c 0 0 m1 m2 - k3 + m3
def rd1 (p c k1 k2 k3 m1 m2 m3 : Int) : Int := mk1 p (rdA p c k1 k2 m1 m2) (rdB p c k1 k2 m1 m2) (rdC p c k1 k2 k3 m1 m2 m3)
def rd2 (p c k1 k2 k3 m1 m2 m3 : Int) : Int := mk2 p (rdA p c k1 k2 m1 m2) (rdB p c k1 k2 m1 m2) (rdC p c k1 k2 k3 m1 m2 m3)
def rd3 (p c k1 k2 k3 m1 m2 m3 : Int) : Int := mk3 p (rdA p c k1 k2 m1 m2) (rdB p c k1 k2 m1 m2) (rdC p c k1 k2 k3 m1 m2 m3)
theorem rd1_r (p c k1 k2 k3 m1 m2 m3 : Int) (h : isP p = true) : 0 ≤ rd1 p c k1 k2 k3 m1 m2 m3 ∧ rd1 p c k1 k2 k3 m1 m2 m3 < p := modR _ h
theorem rd2_r (p c k1 k2 k3 m1 m2 m3 : Int) (h : isP p = true) : 0 ≤ rd2 p c k1 k2 k3 m1 m2 m3 ∧ rd2 p c k1 k2 k3 m1 m2 m3 < p := modR _ h
theorem rd3_r (p c k1 k2 k3 m1 m2 m3 : Int) (h : isP p = true) : 0 ≤ rd3 p c k1 k2 k3 m1 m2 m3 ∧ rd3 p c k1 k2 k3 m1 m2 m3 < p := modR _ h
theorem mk_r (p a b c : Int) (h : isP p = true) : (0 ≤ mk1 p a b c ∧ mk1 p a b c < p) ∧ (0 ≤ mk2 p a b c ∧ mk2 p a b c < p) ∧ (0 ≤ mk3 p a b c ∧ mk3 p a b c < p) := ⟨modR _ h, modR _ h, modR _ h⟩
/-- Numbers that are alike modulo the prime make one line. -/
theorem mk_cong {p a b c a' b' c' : Int} (ha : a % p = a' % p) (hb : b % p = b' % p) (hc : c % p = c' % p) : mk1 p a b c = mk1 p a' b' c' ∧ mk2 p a b c = mk2 p a' b' c' ∧ mk3 p a b c = mk3 p a' b' c' := by
  have hn : nrm p a b = nrm p a' b' := by rw [← nrm_mod p a b, ← nrm_mod p a' b', ha, hb]
  refine ⟨?_, ?_, ?_⟩
  · rw [mk1, mk1, hn, Int.mul_emod, ha, ← Int.mul_emod]
  · rw [mk2, mk2, hn, Int.mul_emod, hb, ← Int.mul_emod]
  · rw [mk3, mk3, hn, Int.mul_emod, hc, ← Int.mul_emod]
/-- The power for one circle less the power for the other at a point. -/
def lss (p c k1 k2 k3 m1 m2 m3 a1 a2 : Int) : Int := pw p c k1 k2 k3 a1 a2 - pw p c m1 m2 m3 a1 a2
theorem lss_r (p c k1 k2 k3 m1 m2 m3 a1 a2 : Int) (h : isP p = true) : -30 ≤ lss p c k1 k2 k3 m1 m2 m3 a1 a2 ∧ lss p c k1 k2 k3 m1 m2 m3 a1 a2 ≤ 30 := by
  have h1 := pw_r c k1 k2 k3 a1 a2 h
  have h2 := pw_r c m1 m2 m3 a1 a2 h
  have h3 := isP_range h
  unfold lss; omega
section
variable {p c k1 k2 k3 m1 m2 m3 : Int}
set_option linter.unusedSimpArgs false in
theorem rdA_eq (hp : isP p = true) (hc : colB c = true) : (lss p c k1 k2 k3 m1 m2 m3 1 0 - lss p c k1 k2 k3 m1 m2 m3 0 0) % p % p = rdA p c k1 k2 m1 m2 % p := by
  obtain ⟨n, rfl⟩ := Int.eq_ofNat_of_zero_le (by have := isP_range hp; omega : 0 ≤ p)
  haveI := neZero_of hp
  rw [← K_ext]
  unfold lss pw qdr rdA rdU
  rcases colB_ways hc with rfl | rfl | rfl <;> simp [prd, K_mod, K_add, K_sub, K_mul, K_neg, K_one, K_zero, K_two] <;> grind
set_option linter.unusedSimpArgs false in
theorem rdB_eq (hp : isP p = true) (hc : colB c = true) : (lss p c k1 k2 k3 m1 m2 m3 0 1 - lss p c k1 k2 k3 m1 m2 m3 0 0) % p % p = rdB p c k1 k2 m1 m2 % p := by
  obtain ⟨n, rfl⟩ := Int.eq_ofNat_of_zero_le (by have := isP_range hp; omega : 0 ≤ p)
  haveI := neZero_of hp
  rw [← K_ext]
  unfold lss pw qdr rdB rdV
  rcases colB_ways hc with rfl | rfl | rfl <;> simp [prd, K_mod, K_add, K_sub, K_mul, K_neg, K_one, K_zero, K_two] <;> grind
set_option linter.unusedSimpArgs false in
theorem rdC_eq (hp : isP p = true) (hc : colB c = true) : lss p c k1 k2 k3 m1 m2 m3 0 0 % p % p = rdC p c k1 k2 k3 m1 m2 m3 % p := by
  obtain ⟨n, rfl⟩ := Int.eq_ofNat_of_zero_le (by have := isP_range hp; omega : 0 ≤ p)
  haveI := neZero_of hp
  rw [← K_ext]
  unfold lss pw qdr rdC qdr
  rcases colB_ways hc with rfl | rfl | rfl <;> simp [prd, K_mod, K_add, K_sub, K_mul, K_neg, K_one, K_zero, K_two] <;> grind
theorem rd_eq (hp : isP p = true) (hc : colB c = true) :
    rd1 p c k1 k2 k3 m1 m2 m3 = mk1 p ((lss p c k1 k2 k3 m1 m2 m3 1 0 - lss p c k1 k2 k3 m1 m2 m3 0 0) % p) ((lss p c k1 k2 k3 m1 m2 m3 0 1 - lss p c k1 k2 k3 m1 m2 m3 0 0) % p) (lss p c k1 k2 k3 m1 m2 m3 0 0 % p) ∧
    rd2 p c k1 k2 k3 m1 m2 m3 = mk2 p ((lss p c k1 k2 k3 m1 m2 m3 1 0 - lss p c k1 k2 k3 m1 m2 m3 0 0) % p) ((lss p c k1 k2 k3 m1 m2 m3 0 1 - lss p c k1 k2 k3 m1 m2 m3 0 0) % p) (lss p c k1 k2 k3 m1 m2 m3 0 0 % p) ∧
    rd3 p c k1 k2 k3 m1 m2 m3 = mk3 p ((lss p c k1 k2 k3 m1 m2 m3 1 0 - lss p c k1 k2 k3 m1 m2 m3 0 0) % p) ((lss p c k1 k2 k3 m1 m2 m3 0 1 - lss p c k1 k2 k3 m1 m2 m3 0 0) % p) (lss p c k1 k2 k3 m1 m2 m3 0 0 % p) :=
  mk_cong (rdA_eq hp hc).symm (rdB_eq hp hc).symm (rdC_eq hp hc).symm
end

end Go.Proofs.Ytcebhcamegdmaaa
