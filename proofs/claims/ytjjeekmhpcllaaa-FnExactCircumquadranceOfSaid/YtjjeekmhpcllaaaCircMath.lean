/-
  The circumcentre is the only point with equal quadrances to three points; no program.
-/
import Derived.Test.YtjjeekmhpcllaaaTriMath
namespace Go.Proofs.Ytjjeekmhpcllaaa
open Go.RowKit

section
variable {n : Nat} [NeZero n]
theorem K_half (hp : isP (n : Int) = true) : 2 * K n (((n : Int) + 1) / 2) = 1 := by
  have h2 := half_two hp
  have k2 := congrArg (K n) h2
  rw [K_mul, K_add, K_self, K_one, K_two] at k2
  rw [k2]; grind
theorem K_mid (hp : isP (n : Int) = true) (a b : Int) : 2 * K n (mid n a b) = K n a + K n b := by
  have h := K_half hp
  rw [mid, K_mod, K_mul, K_mod, K_add]
  obtain ⟨H, hH⟩ : ∃ H, H = K n (((n : Int) + 1) / 2) := ⟨_, rfl⟩
  rw [← hH] at h ⊢
  grind
theorem halve {H x : Fin n} (h : 2 * H = 1) (e : 2 * x = 0) : x = 0 := by
  have : H * (2 * x) = 0 := by rw [e]; grind
  grind
/-- Equal quadrances to two points: on the line between them. -/
theorem K_qdr_cmp (hp : isP (n : Int) = true) {c a1 a2 b1 b2 x1 x2 : Int} (hc : colB c = true) :
    K n (qdr n c x1 x2 b1 b2) = K n (qdr n c x1 x2 a1 a2) ↔ K n (uOf c ((a1 - b1) % n) ((a2 - b2) % n)) * (K n (mid n a1 b1) - K n x1) + K n (vOf n c ((a1 - b1) % n) ((a2 - b2) % n)) * (K n (mid n a2 b2) - K n x2) = 0 := by
  have hH := K_half hp
  have m1 := K_mid hp a1 b1
  have m2 := K_mid hp a2 b2
  obtain ⟨M1, e1⟩ : ∃ M, M = K n (mid n a1 b1) := ⟨_, rfl⟩
  obtain ⟨M2, e2⟩ : ∃ M, M = K n (mid n a2 b2) := ⟨_, rfl⟩
  obtain ⟨H, e3⟩ : ∃ M, M = K n (((n : Int) + 1) / 2) := ⟨_, rfl⟩
  rw [← e1] at m1; rw [← e2] at m2; rw [← e3] at hH; rw [← e1, ← e2]
  unfold qdr
  rcases colB_ways hc with rfl | rfl | rfl
  · rw [show uOf 0 ((a1 - b1) % (n : Int)) ((a2 - b2) % n) = (a1 - b1) % n from rfl, show vOf n 0 ((a1 - b1) % (n : Int)) ((a2 - b2) % n) = (a2 - b2) % n from rfl, prd_0, prd_0]
    simp only [K_mod, K_add, K_mul, K_sub]
    constructor
    · intro h; exact halve hH (by grind)
    · intro h; grind
  · rw [show uOf 1 ((a1 - b1) % (n : Int)) ((a2 - b2) % n) = (a1 - b1) % n from rfl, show vOf n 1 ((a1 - b1) % (n : Int)) ((a2 - b2) % n) = -((a2 - b2) % n) % n from rfl, prd_1, prd_1]
    simp only [K_mod, K_neg, K_mul, K_sub]
    constructor
    · intro h; exact halve hH (by grind)
    · intro h; grind
  · rw [show uOf 2 ((a1 - b1) % (n : Int)) ((a2 - b2) % n) = (a2 - b2) % n from rfl, show vOf n 2 ((a1 - b1) % (n : Int)) ((a2 - b2) % n) = (a1 - b1) % n from rfl, prd_2, prd_2]
    simp only [K_mod, K_add, K_mul, K_sub]
    constructor
    · intro h; exact halve hH (by grind)
    · intro h; grind
theorem meet_ring {l1 l2 l3 m1 m2 m3 I x y : Fin n} (hI : (l1 * m2 - l2 * m1) * I = 1) : (l1 * x + l2 * y + l3 = 0 ∧ m1 * x + m2 * y + m3 = 0) ↔ (x = (l2 * m3 - m2 * l3) * I ∧ y = (m1 * l3 - l1 * m3) * I) := by
  constructor
  · rintro ⟨h1, h2⟩
    constructor <;> grind
  · rintro ⟨rfl, rfl⟩
    constructor <;> grind
theorem line_ring {U V N J m1 m2 x y : Fin n} (hN : N * J = 1) : U * N * x + V * N * y + -(U * m1 + V * m2) * N = 0 ↔ U * (m1 - x) + V * (m2 - y) = 0 := by
  constructor
  · intro h
    have : (U * N * x + V * N * y + -(U * m1 + V * m2) * N) * J = 0 := by rw [h]; grind
    grind
  · intro h; grind
end
theorem cc_iff {p c a1 a2 b1 b2 c1 c2 x1 x2 : Int} (hp : isP p = true) (hc : colB c = true) (hx1 : 0 ≤ x1 ∧ x1 < p) (hx2 : 0 ≤ x2 ∧ x2 < p) (ha1 : 0 ≤ a1 ∧ a1 < p) (ha2 : 0 ≤ a2 ∧ a2 < p) (hb1 : 0 ≤ b1 ∧ b1 < p) (hb2 : 0 ≤ b2 ∧ b2 < p) (hc1 : 0 ≤ c1 ∧ c1 < p) (hc2 : 0 ≤ c2 ∧ c2 < p)
    (ht : (area p a1 a2 b1 b2 c1 c2 == 0) = false) :
    (qdr p c x1 x2 b1 b2 = qdr p c x1 x2 a1 a2 ∧ qdr p c x1 x2 c1 c2 = qdr p c x1 x2 a1 a2) ↔ (x1 = ccX p c a1 a2 b1 b2 c1 c2 ∧ x2 = ccY p c a1 a2 b1 b2 c1 c2) := by
  have hd := tl_det (mid p a1 b1) (mid p a2 b2) (mid p a1 c1) (mid p a2 c2) hp hc (bi_cross hp ht)
  have nd1 := dir_ne hp ha1 ha2 hb1 hb2 (tri_ab ht)
  have nd2 := dir_ne hp ha1 ha2 hc1 hc2 (tri_ac ht)
  have rX := ccX_r p c a1 a2 b1 b2 c1 c2 hp
  have rY := ccY_r p c a1 a2 b1 b2 c1 c2 hp
  have qa := qdr_r c x1 x2 a1 a2 hp
  have qb := qdr_r c x1 x2 b1 b2 hp
  have qc := qdr_r c x1 x2 c1 c2 hp
  obtain ⟨n, rfl⟩ := Int.eq_ofNat_of_zero_le (by have := isP_range hp; omega : 0 ≤ p)
  haveI := neZero_of hp
  have kin : ∀ {x y : Int}, (0 ≤ x ∧ x < (n : Int)) → (0 ≤ y ∧ y < (n : Int)) → (x = y ↔ K n x = K n y) := fun hx hy => ⟨fun e => by rw [e], K_inj hx hy⟩
  rw [kin qb qa, kin qc qa, kin hx1 rX, kin hx2 rY, K_qdr_cmp hp hc, K_qdr_cmp hp hc]
  have n1 : K n (nrm n (uOf c ((a1 - b1) % n) ((a2 - b2) % n)) (vOf n c ((a1 - b1) % n) ((a2 - b2) % n))) ≠ 0 := K_nrm_ne hp fun q => nd1 (by have := uv_zero hc q; exact ⟨K_eq_zero.1 this.1, K_eq_zero.1 this.2⟩)
  have n2 : K n (nrm n (uOf c ((a1 - c1) % n) ((a2 - c2) % n)) (vOf n c ((a1 - c1) % n) ((a2 - c2) % n))) ≠ 0 := K_nrm_ne hp fun q => nd2 (by have := uv_zero hc q; exact ⟨K_eq_zero.1 this.1, K_eq_zero.1 this.2⟩)
  have j1 := K_inv hp n1
  have j2 := K_inv hp n2
  have hI := K_inv hp (fun e => hd (K_eq_zero.1 e))
  unfold ccX ccY meX meY
  rw [show detM (bi1 n c a1 a2 b1 b2) (bi2 n c a1 a2 b1 b2) (bi1 n c a1 a2 c1 c2) (bi2 n c a1 a2 c1 c2) = detM (tl1 n c ((a1 - b1) % n) ((a2 - b2) % n) (mid n a1 b1) (mid n a2 b2)) (tl2 n c ((a1 - b1) % n) ((a2 - b2) % n) (mid n a1 b1) (mid n a2 b2)) (tl1 n c ((a1 - c1) % n) ((a2 - c2) % n) (mid n a1 c1) (mid n a2 c2)) (tl2 n c ((a1 - c1) % n) ((a2 - c2) % n) (mid n a1 c1) (mid n a2 c2)) from rfl]
  generalize inv (n : Int) (detM (tl1 n c ((a1 - b1) % n) ((a2 - b2) % n) (mid n a1 b1) (mid n a2 b2)) (tl2 n c ((a1 - b1) % n) ((a2 - b2) % n) (mid n a1 b1) (mid n a2 b2)) (tl1 n c ((a1 - c1) % n) ((a2 - c2) % n) (mid n a1 c1) (mid n a2 c2)) (tl2 n c ((a1 - c1) % n) ((a2 - c2) % n) (mid n a1 c1) (mid n a2 c2))) = I at hI ⊢
  unfold bi1 bi2 bi3
  unfold detM tl1 tl2 mk1 mk2 at hI
  unfold tl1 tl2 tl3 mk1 mk2 mk3 tw
  simp only [K_mod, K_mul, K_sub, K_add, K_neg] at hI ⊢
  rw [← line_ring j1, ← line_ring j2]
  exact meet_ring hI

end Go.Proofs.Ytjjeekmhpcllaaa
