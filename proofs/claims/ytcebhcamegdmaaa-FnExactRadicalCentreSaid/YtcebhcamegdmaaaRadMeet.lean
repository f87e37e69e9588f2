/-
  The radical centre: the meet of two radical lines is that of any two; no program.
-/
import Derived.Test.YtcebhcamegdmaaaRadVals
import Derived.Test.YtcebhcamegdmaaaMeetSpec
namespace Go.Proofs.Ytcebhcamegdmaaa
open Go.RowKit

section
variable {p c k1 k2 k3 m1 m2 m3 n1 n2 n3 : Int}
theorem rdA_add (hp : isP p = true) (hc : colB c = true) : rdA p c k1 k2 n1 n2 % p = (rdA p c k1 k2 m1 m2 + rdA p c m1 m2 n1 n2) % p := by
  obtain ⟨n, rfl⟩ := Int.eq_ofNat_of_zero_le (by have := isP_range hp; omega : 0 ≤ p)
  haveI := neZero_of hp
  rw [← K_ext]
  unfold rdA rdU
  rcases colB_ways hc with rfl | rfl | rfl <;> simp [K_mod, K_add, K_sub, K_mul] <;> grind
theorem rdB_add (hp : isP p = true) (hc : colB c = true) : rdB p c k1 k2 n1 n2 % p = (rdB p c k1 k2 m1 m2 + rdB p c m1 m2 n1 n2) % p := by
  obtain ⟨n, rfl⟩ := Int.eq_ofNat_of_zero_le (by have := isP_range hp; omega : 0 ≤ p)
  haveI := neZero_of hp
  rw [← K_ext]
  unfold rdB rdV
  rcases colB_ways hc with rfl | rfl | rfl <;> simp [K_mod, K_add, K_sub, K_mul, K_neg] <;> grind
theorem rdC_add : rdC p c k1 k2 k3 n1 n2 n3 = rdC p c k1 k2 k3 m1 m2 m3 + rdC p c m1 m2 m3 n1 n2 n3 := by unfold rdC; omega
/-- The determinant of two radical lines' numbers is, but for a unit, the doubled area of the centres. -/
theorem rd_det (hp : isP p = true) (hc : colB c = true) (h : (area p k1 k2 m1 m2 n1 n2 == 0) = false) : detM (rdA p c k1 k2 m1 m2) (rdB p c k1 k2 m1 m2) (rdA p c m1 m2 n1 n2) (rdB p c m1 m2 n1 n2) % p ≠ 0 := by
  obtain ⟨n, rfl⟩ := Int.eq_ofNat_of_zero_le (by have := isP_range hp; omega : 0 ≤ p)
  haveI := neZero_of hp
  have hA := K_area h
  have h2 : K n 2 ≠ 0 := K_small ⟨by decide, by have := isP_range hp; omega⟩ (by decide)
  intro e
  rw [← K_eq_zero] at e
  have h4 : K n (2 * 2) ≠ 0 := by rw [K_mul]; exact K_mulz hp h2 h2
  have hm : K n (2 * 2) * K n ((m1 - k1) * (n2 - k2) - (m2 - k2) * (n1 - k1)) ≠ 0 := K_mulz hp h4 (by simpa only [K_sub, K_mul] using hA)
  simp only [K_mul, K_sub] at hm
  apply hm
  clear hm h4 h2 hA h
  unfold detM rdA rdB rdU rdV at e
  rcases colB_ways hc with rfl | rfl | rfl <;> simp [K_mod, K_sub, K_mul, K_neg] at e ⊢ <;> clear hc hp <;> grind
theorem mk_det_ne (hp : isP p = true) {a b r a' b' r' : Int} (h : detM a b a' b' % p ≠ 0) : detM (mk1 p a b r) (mk2 p a b r) (mk1 p a' b' r') (mk2 p a' b' r') % p ≠ 0 := by
  obtain ⟨n, rfl⟩ := Int.eq_ofNat_of_zero_le (by have := isP_range hp; omega : 0 ≤ p)
  haveI := neZero_of hp
  have hd : K n (a * b' - b * a') ≠ 0 := fun e => h (by rw [detM]; exact K_eq_zero.1 e)
  have h1 : ¬ (K n a = 0 ∧ K n b = 0) := fun q => hd (by simp only [K_sub, K_mul, q.1, q.2]; grind)
  have h2 : ¬ (K n a' = 0 ∧ K n b' = 0) := fun q => hd (by simp only [K_sub, K_mul, q.1, q.2]; grind)
  have hm : K n (nrm n a b) * K n (nrm n a' b') ≠ 0 := K_mulz hp (K_nrm_ne hp h1) (K_nrm_ne hp h2)
  have hm' : K n (nrm n a b * nrm n a' b') * K n (a * b' - b * a') ≠ 0 := K_mulz hp (by rw [K_mul]; exact hm) hd
  intro e
  rw [← K_eq_zero] at e
  apply hm'
  unfold detM mk1 mk2 at e
  simp only [K_mod, K_sub, K_mul] at e ⊢
  grind
theorem meet_two {n : Nat} [NeZero n] {l1 l2 l3 m1 m2 m3 I x y : Fin n} (hI : (l1 * m2 - l2 * m1) * I = 1) : (l1 * x + l2 * y + l3 = 0 ∧ m1 * x + m2 * y + m3 = 0) ↔ (x = (l2 * m3 - m2 * l3) * I ∧ y = (m1 * l3 - l1 * m3) * I) := by
  constructor
  · rintro ⟨h1, h2⟩
    constructor <;> grind
  · rintro ⟨rfl, rfl⟩
    constructor <;> grind
theorem third_ring {n : Nat} [NeZero n] {A B C A' B' C' A2 B2 C2 N1 N2 N3 J1 J2 I2 I3 : Fin n} (h1 : N1 * J1 = 1) (h2 : N2 * J2 = 1) (eA : A2 = A + A') (eB : B2 = B + B') (eC : C2 = C + C')
    (hI2 : (A * N1 * (B2 * N2) - B * N1 * (A2 * N2)) * I2 = 1) (hI3 : (A * N1 * (B' * N3) - B * N1 * (A' * N3)) * I3 = 1) :
    (B * N1 * (C2 * N2) - B2 * N2 * (C * N1)) * I2 = (B * N1 * (C' * N3) - B' * N3 * (C * N1)) * I3 ∧ (A2 * N2 * (C * N1) - A * N1 * (C2 * N2)) * I2 = (A' * N3 * (C * N1) - A * N1 * (C' * N3)) * I3 := by
  obtain ⟨x, hx⟩ : ∃ x, x = (B * N1 * (C2 * N2) - B2 * N2 * (C * N1)) * I2 := ⟨_, rfl⟩
  obtain ⟨y, hy⟩ : ∃ y, y = (A2 * N2 * (C * N1) - A * N1 * (C2 * N2)) * I2 := ⟨_, rfl⟩
  obtain ⟨g1, g2⟩ := (meet_two hI2).2 ⟨hx, hy⟩
  rw [← hx, ← hy]
  clear hx hy
  have k1 : A * x + B * y + C = 0 := by
    have : (A * N1 * x + B * N1 * y + C * N1) * J1 = 0 := by rw [g1]; grind
    grind
  have k2 : A2 * x + B2 * y + C2 = 0 := by
    have : (A2 * N2 * x + B2 * N2 * y + C2 * N2) * J2 = 0 := by rw [g2]; grind
    grind
  have k3 : A' * x + B' * y + C' = 0 := by grind
  exact (meet_two hI3).1 ⟨g1, by grind⟩
/-- The radical centre. -/
def rcX (p c k1 k2 k3 m1 m2 m3 n1 n2 n3 : Int) : Int := meX p (rd1 p c k1 k2 k3 m1 m2 m3) (rd2 p c k1 k2 k3 m1 m2 m3) (rd3 p c k1 k2 k3 m1 m2 m3) (rd1 p c m1 m2 m3 n1 n2 n3) (rd2 p c m1 m2 m3 n1 n2 n3) (rd3 p c m1 m2 m3 n1 n2 n3)
def rcY (p c k1 k2 k3 m1 m2 m3 n1 n2 n3 : Int) : Int := meY p (rd1 p c k1 k2 k3 m1 m2 m3) (rd2 p c k1 k2 k3 m1 m2 m3) (rd3 p c k1 k2 k3 m1 m2 m3) (rd1 p c m1 m2 m3 n1 n2 n3) (rd2 p c m1 m2 m3 n1 n2 n3) (rd3 p c m1 m2 m3 n1 n2 n3)
theorem rcX_r (p c k1 k2 k3 m1 m2 m3 n1 n2 n3 : Int) (h : isP p = true) : 0 ≤ rcX p c k1 k2 k3 m1 m2 m3 n1 n2 n3 ∧ rcX p c k1 k2 k3 m1 m2 m3 n1 n2 n3 < p := modR _ h
theorem rcY_r (p c k1 k2 k3 m1 m2 m3 n1 n2 n3 : Int) (h : isP p = true) : 0 ≤ rcY p c k1 k2 k3 m1 m2 m3 n1 n2 n3 ∧ rcY p c k1 k2 k3 m1 m2 m3 n1 n2 n3 < p := modR _ h
set_option linter.unusedSimpArgs false in
/-- The radical centre of three circles: the meet of the first two's line with that of any other two. -/
theorem rd_third (hp : isP p = true) (hc : colB c = true) (h : (area p k1 k2 m1 m2 n1 n2 == 0) = false) :
    meX p (rd1 p c k1 k2 k3 m1 m2 m3) (rd2 p c k1 k2 k3 m1 m2 m3) (rd3 p c k1 k2 k3 m1 m2 m3) (rd1 p c k1 k2 k3 n1 n2 n3) (rd2 p c k1 k2 k3 n1 n2 n3) (rd3 p c k1 k2 k3 n1 n2 n3) =
    meX p (rd1 p c k1 k2 k3 m1 m2 m3) (rd2 p c k1 k2 k3 m1 m2 m3) (rd3 p c k1 k2 k3 m1 m2 m3) (rd1 p c m1 m2 m3 n1 n2 n3) (rd2 p c m1 m2 m3 n1 n2 n3) (rd3 p c m1 m2 m3 n1 n2 n3) ∧
    meY p (rd1 p c k1 k2 k3 m1 m2 m3) (rd2 p c k1 k2 k3 m1 m2 m3) (rd3 p c k1 k2 k3 m1 m2 m3) (rd1 p c k1 k2 k3 n1 n2 n3) (rd2 p c k1 k2 k3 n1 n2 n3) (rd3 p c k1 k2 k3 n1 n2 n3) =
    meY p (rd1 p c k1 k2 k3 m1 m2 m3) (rd2 p c k1 k2 k3 m1 m2 m3) (rd3 p c k1 k2 k3 m1 m2 m3) (rd1 p c m1 m2 m3 n1 n2 n3) (rd2 p c m1 m2 m3 n1 n2 n3) (rd3 p c m1 m2 m3 n1 n2 n3) := by
  obtain ⟨A, hA⟩ : ∃ x, x = rdA p c k1 k2 m1 m2 := ⟨_, rfl⟩
  obtain ⟨B, hB⟩ : ∃ x, x = rdB p c k1 k2 m1 m2 := ⟨_, rfl⟩
  obtain ⟨C, hC⟩ : ∃ x, x = rdC p c k1 k2 k3 m1 m2 m3 := ⟨_, rfl⟩
  obtain ⟨A', hA'⟩ : ∃ x, x = rdA p c m1 m2 n1 n2 := ⟨_, rfl⟩
  obtain ⟨B', hB'⟩ : ∃ x, x = rdB p c m1 m2 n1 n2 := ⟨_, rfl⟩
  obtain ⟨C', hC'⟩ : ∃ x, x = rdC p c m1 m2 m3 n1 n2 n3 := ⟨_, rfl⟩
  obtain ⟨A2, hA2⟩ : ∃ x, x = rdA p c k1 k2 n1 n2 := ⟨_, rfl⟩
  obtain ⟨B2, hB2⟩ : ∃ x, x = rdB p c k1 k2 n1 n2 := ⟨_, rfl⟩
  obtain ⟨C2, hC2⟩ : ∃ x, x = rdC p c k1 k2 k3 n1 n2 n3 := ⟨_, rfl⟩
  have eA : A2 % p = (A + A') % p := by rw [hA2, hA, hA']; exact rdA_add hp hc
  have eB : B2 % p = (B + B') % p := by rw [hB2, hB, hB']; exact rdB_add hp hc
  have eC : C2 = C + C' := by rw [hC2, hC, hC']; exact rdC_add
  have hd := rd_det hp hc h
  rw [← hA, ← hB, ← hA', ← hB'] at hd
  unfold rd1 rd2 rd3
  rw [← hA, ← hB, ← hC, ← hA', ← hB', ← hC', ← hA2, ← hB2, ← hC2]
  clear hA hB hC hA' hB' hC' hA2 hB2 hC2 h
  obtain ⟨n, rfl⟩ := Int.eq_ofNat_of_zero_le (by have := isP_range hp; omega : 0 ≤ p)
  haveI := neZero_of hp
  rw [← K_ext] at eA eB
  rw [K_add] at eA eB
  have hd' : K n (A * B' - B * A') ≠ 0 := fun e => hd (by rw [detM]; exact K_eq_zero.1 e)
  have hd2 : detM A B A2 B2 % (n : Int) ≠ 0 := fun e => hd' (by
    rw [← K_eq_zero] at e
    unfold detM at e
    simp only [K_sub, K_mul, eA, eB] at e ⊢
    grind)
  have h1 : ¬ (K n A = 0 ∧ K n B = 0) := fun q => hd' (by simp only [K_sub, K_mul, q.1, q.2]; grind)
  have h2 : ¬ (K n A2 = 0 ∧ K n B2 = 0) := fun q => hd2 (by rw [← K_eq_zero, detM]; simp only [K_sub, K_mul, q.1, q.2]; grind)
  have j1 := K_inv hp (K_nrm_ne hp h1)
  have j2 := K_inv hp (K_nrm_ne hp h2)
  have hI2 := K_inv hp (show K n (detM (mk1 n A B C) (mk2 n A B C) (mk1 n A2 B2 C2) (mk2 n A2 B2 C2)) ≠ 0 from fun e => mk_det_ne hp hd2 (K_eq_zero.1 e))
  have hI3 := K_inv hp (show K n (detM (mk1 n A B C) (mk2 n A B C) (mk1 n A' B' C') (mk2 n A' B' C')) ≠ 0 from fun e => mk_det_ne hp hd (K_eq_zero.1 e))
  unfold meX meY
  rw [← K_ext, ← K_ext]
  simp only [K_mod, K_mul]
  generalize K n (inv n (detM (mk1 n A B C) (mk2 n A B C) (mk1 n A2 B2 C2) (mk2 n A2 B2 C2))) = I2 at hI2 ⊢
  generalize K n (inv n (detM (mk1 n A B C) (mk2 n A B C) (mk1 n A' B' C') (mk2 n A' B' C'))) = I3 at hI3 ⊢
  unfold detM mk1 mk2 at hI2 hI3
  unfold mk1 mk2 mk3
  simp only [K_mod, K_mul, K_sub] at hI2 hI3 ⊢
  exact third_ring j1 j2 eA eB (by rw [eC, K_add]) hI2 hI3
theorem mt_rad (hp : isP p = true) (hc : colB c = true) (h : (area p k1 k2 m1 m2 n1 n2 == 0) = false) (hd : detM (rd1 p c k1 k2 k3 m1 m2 m3) (rd2 p c k1 k2 k3 m1 m2 m3) (rd1 p c k1 k2 k3 n1 n2 n3) (rd2 p c k1 k2 k3 n1 n2 n3) % p ≠ 0) :
    mtX p (rd1 p c k1 k2 k3 m1 m2 m3) (rd2 p c k1 k2 k3 m1 m2 m3) (rd3 p c k1 k2 k3 m1 m2 m3) (rd1 p c k1 k2 k3 n1 n2 n3) (rd2 p c k1 k2 k3 n1 n2 n3) (rd3 p c k1 k2 k3 n1 n2 n3) = rcX p c k1 k2 k3 m1 m2 m3 n1 n2 n3 ∧
    mtY p (rd1 p c k1 k2 k3 m1 m2 m3) (rd2 p c k1 k2 k3 m1 m2 m3) (rd3 p c k1 k2 k3 m1 m2 m3) (rd1 p c k1 k2 k3 n1 n2 n3) (rd2 p c k1 k2 k3 n1 n2 n3) (rd3 p c k1 k2 k3 n1 n2 n3) = rcY p c k1 k2 k3 m1 m2 m3 n1 n2 n3 := by
  rw [mtX, mtY, if_neg hd, if_neg hd, (rd_third hp hc h).1, (rd_third hp hc h).2]
  exact ⟨rfl, rfl⟩
/-- The radical lines of three circles whose centres make a triangle are lines, and no two of them are parallel. -/
theorem rd_lines (hp : isP p = true) (hc : colB c = true) (h : (area p k1 k2 m1 m2 n1 n2 == 0) = false) :
    lineB p (rd1 p c k1 k2 k3 m1 m2 m3) (rd2 p c k1 k2 k3 m1 m2 m3) (rd3 p c k1 k2 k3 m1 m2 m3) = true ∧ lineB p (rd1 p c m1 m2 m3 n1 n2 n3) (rd2 p c m1 m2 m3 n1 n2 n3) (rd3 p c m1 m2 m3 n1 n2 n3) = true ∧
    ¬ (rd1 p c k1 k2 k3 m1 m2 m3 = rd1 p c m1 m2 m3 n1 n2 n3 ∧ rd2 p c k1 k2 k3 m1 m2 m3 = rd2 p c m1 m2 m3 n1 n2 n3) ∧
    detM (rd1 p c k1 k2 k3 m1 m2 m3) (rd2 p c k1 k2 k3 m1 m2 m3) (rd1 p c k1 k2 k3 n1 n2 n3) (rd2 p c k1 k2 k3 n1 n2 n3) % p ≠ 0 := by
  have hd := rd_det hp hc h
  have eA := rdA_add (k1 := k1) (k2 := k2) (m1 := m1) (m2 := m2) (n1 := n1) (n2 := n2) hp hc
  have eB := rdB_add (k1 := k1) (k2 := k2) (m1 := m1) (m2 := m2) (n1 := n1) (n2 := n2) hp hc
  have hne := mk_det_ne (r := rdC p c k1 k2 k3 m1 m2 m3) (r' := rdC p c m1 m2 m3 n1 n2 n3) hp hd
  obtain ⟨n, rfl⟩ := Int.eq_ofNat_of_zero_le (by have := isP_range hp; omega : 0 ≤ p)
  haveI := neZero_of hp
  rw [← K_ext, K_add] at eA eB
  have hd' : K n (rdA n c k1 k2 m1 m2 * rdB n c m1 m2 n1 n2 - rdB n c k1 k2 m1 m2 * rdA n c m1 m2 n1 n2) ≠ 0 := fun e => hd (by rw [detM]; exact K_eq_zero.1 e)
  refine ⟨mk_line hp _ (fun q => hd' (by simp only [K_sub, K_mul, q.1, q.2]; grind)), mk_line hp _ (fun q => hd' (by simp only [K_sub, K_mul, q.1, q.2]; grind)), ?_, ?_⟩
  · rintro ⟨e1, e2⟩
    unfold rd1 at e1
    unfold rd2 at e2
    apply hne
    rw [← e1, ← e2, detM, Int.mul_comm, Int.sub_self, Int.zero_emod]
  · unfold rd1 rd2
    refine mk_det_ne hp (fun e => hd' ?_)
    rw [← K_eq_zero] at e
    unfold detM at e
    simp only [K_sub, K_mul, eA, eB] at e ⊢
    grind
end
end Go.Proofs.Ytcebhcamegdmaaa
