/-
  The spread at a point: the line through two points has the direction of their difference; no program.
-/
import Derived.Test.YtjjeekmhpcllaaaSpreadMath
namespace Go.Proofs.Ytjjeekmhpcllaaa
open Go.RowKit

/-- The spread at a of b and c. -/
def atD (p col a1 a2 b1 b2 c1 c2 : Int) : Int := prd p col ((b1 - a1) % p) ((b2 - a2) % p) ((c1 - a1) % p) ((c2 - a2) % p)
def atO (p col a1 a2 b1 b2 c1 c2 : Int) : Int := (1 - atD p col a1 a2 b1 b2 c1 c2 * atD p col a1 a2 b1 b2 c1 c2 % p * inv p (qdr p col a1 a2 b1 b2 * qdr p col a1 a2 c1 c2)) % p
def atT (p col a1 a2 b1 b2 c1 c2 : Int) : Int := if (qdr p col a1 a2 b1 b2 == 0 || qdr p col a1 a2 c1 c2 == 0) = true then 5 else 0
theorem atO_r {p : Int} (col a1 a2 b1 b2 c1 c2 : Int) (h : isP p = true) : 0 ≤ atO p col a1 a2 b1 b2 c1 c2 ∧ atO p col a1 a2 b1 b2 c1 c2 < p := modR _ h
theorem qdr_r {p : Int} (c a1 a2 b1 b2 : Int) (h : isP p = true) : 0 ≤ qdr p c a1 a2 b1 b2 ∧ qdr p c a1 a2 b1 b2 < p := modR _ h
theorem ne_of {a b c d : Int} (h : (a == c && b == d) = false) : ¬ (a = c ∧ b = d) := by
  rintro ⟨rfl, rfl⟩; simp at h

section
variable {n : Nat} [NeZero n]
/-- Products go with factors. -/
theorem K_raw {c : Int} (hc : colB c = true) {x1 x2 y1 y2 u1 u2 v1 v2 l m : Int} (e1 : K n x1 = K n l * K n u1) (e2 : K n x2 = K n l * K n u2) (f1 : K n y1 = K n m * K n v1) (f2 : K n y2 = K n m * K n v2) :
    K n (rawp c x1 x2 y1 y2) = K n l * K n m * K n (rawp c u1 u2 v1 v2) := by
  rcases colB_ways hc with rfl | rfl | rfl
  · show K n (x1 * y1 + x2 * y2) = K n l * K n m * K n (u1 * v1 + u2 * v2)
    simp only [K_add, K_mul, e1, e2, f1, f2]; grind
  · show K n (x1 * y1 - x2 * y2) = K n l * K n m * K n (u1 * v1 - u2 * v2)
    simp only [K_sub, K_mul, e1, e2, f1, f2]; grind
  · show K n (x1 * y2 + x2 * y1) = K n l * K n m * K n (u1 * v2 + u2 * v1)
    simp only [K_add, K_mul, e1, e2, f1, f2]; grind
/-- The direction of the line through two points. -/
theorem K_dir (hp : isP (n : Int) = true) {a1 a2 b1 b2 : Int} (ha1 : 0 ≤ a1 ∧ a1 < n) (ha2 : 0 ≤ a2 ∧ a2 < n) (hb1 : 0 ≤ b1 ∧ b1 < n) (hb2 : 0 ≤ b2 ∧ b2 < n) (hne : ¬ (a1 = b1 ∧ a2 = b2)) :
    ∃ l : Int, K n l ≠ 0 ∧ K n (-th2 n a1 a2 b1 b2 % n) = K n l * K n ((b1 - a1) % n) ∧ K n (th1 n a1 a2 b1 b2) = K n l * K n ((b2 - a2) % n) := by
  have h : ¬ (K n (a2 - b2) = 0 ∧ K n (b1 - a1) = 0) := by
    rintro ⟨h1, h2⟩
    rw [K_sub] at h1 h2
    exact hne ⟨K_inj ha1 hb1 (by grind), K_inj ha2 hb2 (by grind)⟩
  refine ⟨-nrm n (a2 - b2) (b1 - a1), ?_, ?_, ?_⟩
  · rw [K_neg]
    rcases K_nrm hp h with ⟨_, h2⟩ | ⟨_, _, h2⟩ <;> intro e <;> have e' : K n (nrm n (a2 - b2) (b1 - a1)) = 0 := by grind
    · rw [e'] at h2; exact absurd h2 (by have := K_small (n := n) (x := 1) ⟨by omega, by have := isP_ne hp; omega⟩ (by omega); rw [K_one] at this; grind)
    · rw [e'] at h2; exact absurd h2 (by have := K_small (n := n) (x := 1) ⟨by omega, by have := isP_ne hp; omega⟩ (by omega); rw [K_one] at this; grind)
  · unfold th2 mk2
    simp only [K_mod, K_neg, K_mul, K_sub]; grind
  · unfold th1 mk1
    simp only [K_mod, K_neg, K_mul, K_sub]; grind
end

theorem null_th {p c a1 a2 b1 b2 : Int} (hp : isP p = true) (hc : colB c = true) (ha1 : 0 ≤ a1 ∧ a1 < p) (ha2 : 0 ≤ a2 ∧ a2 < p) (hb1 : 0 ≤ b1 ∧ b1 < p) (hb2 : 0 ≤ b2 ∧ b2 < p) (hne : ¬ (a1 = b1 ∧ a2 = b2)) :
    nullB p c (th1 p a1 a2 b1 b2) (th2 p a1 a2 b1 b2) = (qdr p c a1 a2 b1 b2 == 0) := by
  obtain ⟨n, rfl⟩ := Int.eq_ofNat_of_zero_le (by have := isP_range hp; omega : 0 ≤ p)
  haveI := neZero_of hp
  obtain ⟨l, hl, e1, e2⟩ := K_dir hp ha1 ha2 hb1 hb2 hne
  have h := K_raw hc e1 e2 e1 e2
  unfold nullB qdr
  rw [prd_raw, prd_raw, Bool.eq_iff_iff]
  simp only [beq_iff_eq, ← K_eq_zero]
  rw [h]
  constructor
  · intro h0
    have : K n (l * l * rawp c ((b1 - a1) % n) ((b2 - a2) % n) ((b1 - a1) % n) ((b2 - a2) % n)) = 0 := by rw [K_mul, K_mul]; exact h0
    rw [K_mul] at this
    rcases K_noz hp this with h1 | h1
    · rw [K_mul] at h1
      have h2 : K n l * K n l = 0 := h1
      rcases K_noz hp h2 with h3 | h3 <;> exact absurd h3 hl
    · exact h1
  · intro h0; rw [h0]; grind
/-- A line with equal points is none, and the quadrance is 0. -/
theorem qdr_same (p c a1 a2 : Int) : qdr p c a1 a2 a1 a2 = 0 := by
  unfold qdr prd
  rw [Int.sub_self, Int.sub_self, Int.zero_emod]
  split
  · simp
  · split <;> simp
theorem spread_th {p col a1 a2 b1 b2 c1 c2 : Int} (hp : isP p = true) (hc : colB col = true) (ha1 : 0 ≤ a1 ∧ a1 < p) (ha2 : 0 ≤ a2 ∧ a2 < p) (hb1 : 0 ≤ b1 ∧ b1 < p) (hb2 : 0 ≤ b2 ∧ b2 < p) (hc1 : 0 ≤ c1 ∧ c1 < p) (hc2 : 0 ≤ c2 ∧ c2 < p)
    (hb : ¬ (a1 = b1 ∧ a2 = b2)) (hcc : ¬ (a1 = c1 ∧ a2 = c2)) (q1 : (qdr p col a1 a2 b1 b2 == 0) = false) (q2 : (qdr p col a1 a2 c1 c2 == 0) = false) :
    spO p col (th1 p a1 a2 b1 b2) (th2 p a1 a2 b1 b2) (th1 p a1 a2 c1 c2) (th2 p a1 a2 c1 c2) = atO p col a1 a2 b1 b2 c1 c2 := by
  obtain ⟨n, rfl⟩ := Int.eq_ofNat_of_zero_le (by have := isP_range hp; omega : 0 ≤ p)
  haveI := neZero_of hp
  obtain ⟨l, hl, e1, e2⟩ := K_dir hp ha1 ha2 hb1 hb2 hb
  obtain ⟨m, hm, f1, f2⟩ := K_dir hp ha1 ha2 hc1 hc2 hcc
  have n1 := null_th hp hc ha1 ha2 hb1 hb2 hb
  have n2 := null_th hp hc ha1 ha2 hc1 hc2 hcc
  rw [q1] at n1; rw [q2] at n2
  have k1 : K n (qdr n col a1 a2 b1 b2) ≠ 0 := K_small (qdr_r _ _ _ _ _ hp) (by simpa using q1)
  have k2 : K n (qdr n col a1 a2 c1 c2) ≠ 0 := K_small (qdr_r _ _ _ _ _ hp) (by simpa using q2)
  unfold nullB at n1 n2
  have k3 : K n (prd n col (-th2 n a1 a2 b1 b2 % n) (th1 n a1 a2 b1 b2) (-th2 n a1 a2 b1 b2 % n) (th1 n a1 a2 b1 b2)) ≠ 0 := K_small (prd_lt _ _ _ _ _ hp) (by simpa using n1)
  have k4 : K n (prd n col (-th2 n a1 a2 c1 c2 % n) (th1 n a1 a2 c1 c2) (-th2 n a1 a2 c1 c2 % n) (th1 n a1 a2 c1 c2)) ≠ 0 := K_small (prd_lt _ _ _ _ _ hp) (by simpa using n2)
  have i1 := K_inv hp (y := qdr n col a1 a2 b1 b2 * qdr n col a1 a2 c1 c2) (by rw [K_mul]; intro h; rcases K_noz hp h with h | h; exact k1 h; exact k2 h)
  have i2 := K_inv hp (y := prd n col (-th2 n a1 a2 b1 b2 % n) (th1 n a1 a2 b1 b2) (-th2 n a1 a2 b1 b2 % n) (th1 n a1 a2 b1 b2) * prd n col (-th2 n a1 a2 c1 c2 % n) (th1 n a1 a2 c1 c2) (-th2 n a1 a2 c1 c2 % n) (th1 n a1 a2 c1 c2)) (by rw [K_mul]; intro h; rcases K_noz hp h with h | h; exact k3 h; exact k4 h)
  have r1 := K_raw hc e1 e2 e1 e2
  have r2 := K_raw hc f1 f2 f1 f2
  have r3 := K_raw hc e1 e2 f1 f2
  unfold spO crO crD atO atD
  simp only [← K_ext (n := n), K_sub, K_mul, K_mod, K_one] at i1 i2 ⊢
  obtain ⟨I1, hI1⟩ : ∃ x, x = inv n (qdr n col a1 a2 b1 b2 * qdr n col a1 a2 c1 c2) := ⟨_, rfl⟩
  obtain ⟨I2, hI2⟩ : ∃ x, x = inv n (prd n col (-th2 n a1 a2 b1 b2 % n) (th1 n a1 a2 b1 b2) (-th2 n a1 a2 b1 b2 % n) (th1 n a1 a2 b1 b2) * prd n col (-th2 n a1 a2 c1 c2 % n) (th1 n a1 a2 c1 c2) (-th2 n a1 a2 c1 c2 % n) (th1 n a1 a2 c1 c2)) := ⟨_, rfl⟩
  rw [← hI1] at i1 ⊢
  rw [← hI2] at i2 ⊢
  unfold qdr at i1
  simp only [prd_raw, K_mod, r1, r2, r3] at i1 i2 ⊢
  grind

theorem qdr_comm {p : Int} (hp : isP p = true) {c : Int} (hc : colB c = true) (a1 a2 b1 b2 : Int) : qdr p c b1 b2 a1 a2 = qdr p c a1 a2 b1 b2 := by
  obtain ⟨n, rfl⟩ := Int.eq_ofNat_of_zero_le (by have := isP_range hp; omega : 0 ≤ p)
  haveI := neZero_of hp
  unfold qdr
  rw [prd_raw, prd_raw, ← K_ext (n := n)]
  have h := K_raw (n := n) hc (x1 := (a1 - b1) % n) (x2 := (a2 - b2) % n) (y1 := (a1 - b1) % n) (y2 := (a2 - b2) % n) (u1 := (b1 - a1) % n) (u2 := (b2 - a2) % n) (v1 := (b1 - a1) % n) (v2 := (b2 - a2) % n) (l := -1) (m := -1)
    (by simp only [K_mod, K_sub, K_neg, K_one]; grind) (by simp only [K_mod, K_sub, K_neg, K_one]; grind) (by simp only [K_mod, K_sub, K_neg, K_one]; grind) (by simp only [K_mod, K_sub, K_neg, K_one]; grind)
  rw [h]; simp only [K_neg, K_one]; grind
theorem th1_r {p : Int} (a1 a2 b1 b2 : Int) (h : isP p = true) : 0 ≤ th1 p a1 a2 b1 b2 ∧ th1 p a1 a2 b1 b2 < p := modR _ h
theorem th2_r {p : Int} (a1 a2 b1 b2 : Int) (h : isP p = true) : 0 ≤ th2 p a1 a2 b1 b2 ∧ th2 p a1 a2 b1 b2 < p := modR _ h
theorem th3_r {p : Int} (a1 a2 b1 b2 : Int) (h : isP p = true) : 0 ≤ th3 p a1 a2 b1 b2 ∧ th3 p a1 a2 b1 b2 < p := modR _ h
section
variable {p col a1 a2 b1 b2 c1 c2 : Int}
theorem atT_ab (h : (a1 == b1 && a2 == b2) = true) : atT p col a1 a2 b1 b2 c1 c2 = 5 := by
  simp only [Bool.and_eq_true, beq_iff_eq] at h
  obtain ⟨rfl, rfl⟩ := h
  simp [atT, qdr_same]
theorem atT_ac (h : (a1 == c1 && a2 == c2) = true) : atT p col a1 a2 b1 b2 c1 c2 = 5 := by
  simp only [Bool.and_eq_true, beq_iff_eq] at h
  obtain ⟨rfl, rfl⟩ := h
  simp [atT, qdr_same]
theorem atT_n1 (hp : isP p = true) (hc : colB col = true) (hb : (a1 == b1 && a2 == b2) = false) (h : nullB p col (th1 p a1 a2 b1 b2) (th2 p a1 a2 b1 b2) = true) (ha1 : 0 ≤ a1 ∧ a1 < p) (ha2 : 0 ≤ a2 ∧ a2 < p) (hb1 : 0 ≤ b1 ∧ b1 < p) (hb2 : 0 ≤ b2 ∧ b2 < p) : atT p col a1 a2 b1 b2 c1 c2 = 5 := by
  rw [null_th hp hc ha1 ha2 hb1 hb2 (ne_of hb)] at h
  simp only [atT, h, Bool.true_or, if_true]
theorem atT_n2 (hp : isP p = true) (hc : colB col = true) (hb : (a1 == c1 && a2 == c2) = false) (h : nullB p col (th1 p a1 a2 c1 c2) (th2 p a1 a2 c1 c2) = true) (ha1 : 0 ≤ a1 ∧ a1 < p) (ha2 : 0 ≤ a2 ∧ a2 < p) (hb1 : 0 ≤ c1 ∧ c1 < p) (hb2 : 0 ≤ c2 ∧ c2 < p) : atT p col a1 a2 b1 b2 c1 c2 = 5 := by
  rw [null_th hp hc ha1 ha2 hb1 hb2 (ne_of hb)] at h
  simp only [atT, h, Bool.or_true, if_true]
theorem atT_0 (hp : isP p = true) (hc : colB col = true) (hb : (a1 == b1 && a2 == b2) = false) (hcc : (a1 == c1 && a2 == c2) = false) (h1 : nullB p col (th1 p a1 a2 b1 b2) (th2 p a1 a2 b1 b2) = false) (h2 : nullB p col (th1 p a1 a2 c1 c2) (th2 p a1 a2 c1 c2) = false) (ha1 : 0 ≤ a1 ∧ a1 < p) (ha2 : 0 ≤ a2 ∧ a2 < p) (hb1 : 0 ≤ b1 ∧ b1 < p) (hb2 : 0 ≤ b2 ∧ b2 < p) (hc1 : 0 ≤ c1 ∧ c1 < p) (hc2 : 0 ≤ c2 ∧ c2 < p) : atT p col a1 a2 b1 b2 c1 c2 = 0 := by
  rw [null_th hp hc ha1 ha2 hb1 hb2 (ne_of hb)] at h1
  rw [null_th hp hc ha1 ha2 hc1 hc2 (ne_of hcc)] at h2
  simp [atT, h1, h2]
theorem atV_is (hp : isP p = true) (hc : colB col = true) (hb : (a1 == b1 && a2 == b2) = false) (hcc : (a1 == c1 && a2 == c2) = false) (h1 : nullB p col (th1 p a1 a2 b1 b2) (th2 p a1 a2 b1 b2) = false) (h2 : nullB p col (th1 p a1 a2 c1 c2) (th2 p a1 a2 c1 c2) = false) (ha1 : 0 ≤ a1 ∧ a1 < p) (ha2 : 0 ≤ a2 ∧ a2 < p) (hb1 : 0 ≤ b1 ∧ b1 < p) (hb2 : 0 ≤ b2 ∧ b2 < p) (hc1 : 0 ≤ c1 ∧ c1 < p) (hc2 : 0 ≤ c2 ∧ c2 < p) :
    atO p col a1 a2 b1 b2 c1 c2 = spO p col (th1 p a1 a2 b1 b2) (th2 p a1 a2 b1 b2) (th1 p a1 a2 c1 c2) (th2 p a1 a2 c1 c2) := by
  rw [null_th hp hc ha1 ha2 hb1 hb2 (ne_of hb)] at h1
  rw [null_th hp hc ha1 ha2 hc1 hc2 (ne_of hcc)] at h2
  exact (spread_th hp hc ha1 ha2 hb1 hb2 hc1 hc2 (ne_of hb) (ne_of hcc) h1 h2).symm
end

end Go.Proofs.Ytjjeekmhpcllaaa
