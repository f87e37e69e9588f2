/-
  Lines that numbers make, points on lines, parallels: the numbers, and what does not turn them; no program.
-/
import Derived.Test.YtjjeekmhpcllaaaModMath
import Derived.Test.YtjjeekmhpcllaaaLineMath
namespace Go.Proofs.Ytjjeekmhpcllaaa
open Go.RowKit

theorem mulP {a b : Int} (ha : 0 ≤ a ∧ a ≤ 31) (hb : 0 ≤ b ∧ b ≤ 31) : 0 ≤ a * b ∧ a * b ≤ 961 :=
  ⟨Int.mul_nonneg ha.1 hb.1, by have := Int.mul_le_mul ha.2 hb.2 hb.1 (by omega); omega⟩
theorem mulB {a b : Int} (ha : -8192 ≤ a ∧ a ≤ 8192) (hb : -8192 ≤ b ∧ b ≤ 8192) : -67108864 ≤ a * b ∧ a * b ≤ 67108864 := by
  have h : (a * b).natAbs ≤ 8192 * 8192 := by rw [Int.natAbs_mul]; exact Nat.mul_le_mul (by omega) (by omega)
  omega
theorem wrapI (x : Int) (h : -1099511627776 ≤ x ∧ x ≤ 1099511627776) : IntKind.i64.wrap x = x := IntWalk.i64_in _ (by omega)
theorem modR (x : Int) {p : Int} (h : isP p = true) : 0 ≤ x % p ∧ x % p < p := by
  have := isP_range h
  exact ⟨Int.emod_nonneg _ (by omega), Int.emod_lt_of_pos _ (by omega)⟩
theorem modR31 (x : Int) {p : Int} (h : isP p = true) : 0 ≤ x % p ∧ x % p ≤ 31 := by
  have := isP_range h; have := modR x h; omega
theorem invR31 (x : Int) {p : Int} (h : isP p = true) : 0 ≤ inv p x ∧ inv p x ≤ 31 := by
  have := isP_range h; have := inv_range x h; omega
theorem nums2 {p a b : Int} (h : numsIn p [a, b] = true) : (0 ≤ a ∧ a < p) ∧ (0 ≤ b ∧ b < p) := by
  simp [numsIn, inB] at h; omega
theorem nums3 {p a b c : Int} (h : numsIn p [a, b, c] = true) : (0 ≤ a ∧ a < p) ∧ (0 ≤ b ∧ b < p) ∧ (0 ≤ c ∧ c < p) := by
  simp [numsIn, inB] at h; omega
theorem nums4 {p a b c d : Int} (h : numsIn p [a, b, c, d] = true) : (0 ≤ a ∧ a < p) ∧ (0 ≤ b ∧ b < p) ∧ (0 ≤ c ∧ c < p) ∧ (0 ≤ d ∧ d < p) := by
  simp [numsIn, inB] at h; omega
theorem nums6 {p a b c d e f : Int} (h : numsIn p [a, b, c, d, e, f] = true) : (0 ≤ a ∧ a < p) ∧ (0 ≤ b ∧ b < p) ∧ (0 ≤ c ∧ c < p) ∧ (0 ≤ d ∧ d < p) ∧ (0 ≤ e ∧ e < p) ∧ (0 ≤ f ∧ f < p) := by
  simp [numsIn, inB] at h; omega
theorem lead_ways {a b : Int} (h : leadB a b = true) : a = 1 ∨ a = 0 ∧ b = 1 := by
  simpa [leadB] using h

/-- What the first number that is not 0 is divided by. -/
def nrm (p a b : Int) : Int := if a % p = 0 then inv p b else inv p a
theorem inv_mod (p a : Int) : inv p (a % p) = inv p a := by unfold inv; rw [Int.emod_emod]
theorem nrm_mod (p a b : Int) : nrm p (a % p) (b % p) = nrm p a b := by unfold nrm; rw [Int.emod_emod, inv_mod, inv_mod]
theorem nrm_range {p : Int} (a b : Int) (h : isP p = true) : 0 ≤ nrm p a b ∧ nrm p a b ≤ 31 := by
  unfold nrm; split <;> exact invR31 _ h
/-- The numbers of the line that a, b, c make. -/
def mk1 (p a b _c : Int) : Int := a * nrm p a b % p
def mk2 (p a b _c : Int) : Int := b * nrm p a b % p
def mk3 (p a b c : Int) : Int := c * nrm p a b % p

section
variable {n : Nat} [NeZero n]
theorem K_nrm (hp : isP (n : Int) = true) {a b : Int} (h : ¬ (K n a = 0 ∧ K n b = 0)) : (K n a ≠ 0 ∧ K n a * K n (nrm n a b) = 1) ∨ (K n a = 0 ∧ K n b ≠ 0 ∧ K n b * K n (nrm n a b) = 1) := by
  unfold nrm
  by_cases ha : K n a = 0
  · have hb : K n b ≠ 0 := fun e => h ⟨ha, e⟩
    rw [if_pos (K_eq_zero.1 ha)]
    exact .inr ⟨ha, hb, K_inv hp hb⟩
  · rw [if_neg (fun e => ha (K_eq_zero.2 e))]
    exact .inl ⟨ha, K_inv hp ha⟩
/-- Numbers that are in one ratio make one line. -/
theorem mk_ratio (hp : isP (n : Int) = true) {a b c a' b' c' u : Int} (hu : K n u ≠ 0) (h : ¬ (K n a = 0 ∧ K n b = 0)) (ea : K n a' = K n u * K n a) (eb : K n b' = K n u * K n b) (ec : K n c' = K n u * K n c) :
    mk1 n a' b' c' = mk1 n a b c ∧ mk2 n a' b' c' = mk2 n a b c ∧ mk3 n a' b' c' = mk3 n a b c := by
  have hU := K_inv hp hu
  have h' : ¬ (K n a' = 0 ∧ K n b' = 0) := by
    rintro ⟨h1, h2⟩
    exact h ⟨by rw [ea] at h1; grind, by rw [eb] at h2; grind⟩
  unfold mk1 mk2 mk3
  simp only [← K_ext (n := n), K_mul]
  rw [ea, eb, ec]
  rcases K_nrm hp h with ⟨h1, h2⟩ | ⟨h1, h2, h3⟩ <;> rcases K_nrm hp h' with ⟨g1, g2⟩ | ⟨g1, g2, g3⟩
  · rw [ea] at g2
    refine ⟨?_, ?_, ?_⟩ <;> grind
  · rw [ea] at g1; exfalso; exact h1 (by grind)
  · rw [ea, h1] at g1; exfalso; exact g1 (by grind)
  · rw [eb] at g3
    refine ⟨?_, ?_, ?_⟩ <;> grind
end
/-- The numbers of the line through two points. -/
def th1 (p a1 a2 b1 b2 : Int) : Int := mk1 p (a2 - b2) (b1 - a1) (a1 * b2 - b1 * a2)
def th2 (p a1 a2 b1 b2 : Int) : Int := mk2 p (a2 - b2) (b1 - a1) (a1 * b2 - b1 * a2)
def th3 (p a1 a2 b1 b2 : Int) : Int := mk3 p (a2 - b2) (b1 - a1) (a1 * b2 - b1 * a2)
theorem thEq {p a1 a2 b1 b2 : Int} (hp : isP p = true) (ha1 : 0 ≤ a1 ∧ a1 < p) (ha2 : 0 ≤ a2 ∧ a2 < p) (hb1 : 0 ≤ b1 ∧ b1 < p) (hb2 : 0 ≤ b2 ∧ b2 < p) (hne : ¬ (a1 = b1 ∧ a2 = b2)) :
    th1 p a1 a2 b1 b2 = mk1 p ((b2 - a2) % p) (-((b1 - a1) % p) % p) (((b1 - a1) % p * a2 - (b2 - a2) % p * a1) % p) ∧
    th2 p a1 a2 b1 b2 = mk2 p ((b2 - a2) % p) (-((b1 - a1) % p) % p) (((b1 - a1) % p * a2 - (b2 - a2) % p * a1) % p) ∧
    th3 p a1 a2 b1 b2 = mk3 p ((b2 - a2) % p) (-((b1 - a1) % p) % p) (((b1 - a1) % p * a2 - (b2 - a2) % p * a1) % p) := by
  obtain ⟨n, rfl⟩ := Int.eq_ofNat_of_zero_le (by have := isP_range hp; omega : 0 ≤ p)
  haveI := neZero_of hp
  have hu : K n (-1) ≠ 0 := by
    intro e
    have h1 := K_eq_zero.1 e
    have := isP_ne hp
    rw [show ((-1 : Int) % (n : Int)) = n - 1 from by
      rw [Int.emod_eq_add_self_emod, Int.emod_eq_of_lt (by omega) (by omega)]; omega] at h1
    omega
  unfold th1 th2 th3
  refine mk_ratio hp hu ?_ ?_ ?_ ?_
  · rintro ⟨h1, h2⟩
    rw [K_mod, K_sub] at h1
    rw [K_mod, K_neg, K_mod, K_sub] at h2
    exact hne ⟨K_inj ha1 hb1 (by grind), K_inj ha2 hb2 (by grind)⟩
  all_goals
    simp only [K_mod, K_sub, K_neg, K_mul, K_one]
    grind
end Go.Proofs.Ytjjeekmhpcllaaa
