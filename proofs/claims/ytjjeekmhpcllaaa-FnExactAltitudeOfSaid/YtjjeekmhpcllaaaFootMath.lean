/-
  Feet: the perpendicular line is a line, and it is parallel just where the line is null; no program.
-/
import Derived.Test.YtjjeekmhpcllaaaDirMath
namespace Go.Proofs.Ytjjeekmhpcllaaa
open Go.RowKit

section
variable {n : Nat} [NeZero n]
theorem K_one_ne (hp : isP (n : Int) = true) : K n 1 ≠ 0 := K_small (by have := isP_range hp; omega) (by omega)
theorem mk_line (hp : isP (n : Int) = true) {a b : Int} (c : Int) (h : ¬ (K n a = 0 ∧ K n b = 0)) : lineB n (mk1 n a b c) (mk2 n a b c) (mk3 n a b c) = true := by
  have hr := isP_range hp
  have r1 := modR (a * nrm n a b) hp
  have r2 := modR (b * nrm n a b) hp
  have r3 := modR (c * nrm n a b) hp
  refine lineB_of ?_ ?_
  · rcases K_nrm hp h with ⟨_, h2⟩ | ⟨h1, _, h3⟩
    · have e : mk1 n a b c = 1 := K_inj (n := n) r1 (by omega) (by rw [mk1, K_mod, K_mul, h2, K_one])
      simp [leadB, e]
    · have e1 : mk1 n a b c = 0 := K_inj (n := n) r1 (by omega) (by rw [mk1, K_mod, K_mul, h1, K_zero]; grind)
      have e2 : mk2 n a b c = 1 := K_inj (n := n) r2 (by omega) (by rw [mk2, K_mod, K_mul, h3, K_one])
      simp [leadB, e1, e2]
  · rw [numsIn3, inB_true (by rw [mk1]; omega), inB_true (by rw [mk2]; omega), inB_true (by rw [mk3]; omega)]
    rfl
theorem uv_key {c l1 l2 : Int} (hc : colB c = true) (h : K n (uOf c (-l2 % n) l1) = 0 ∧ K n (vOf n c (-l2 % n) l1) = 0) : K n l1 = 0 ∧ K n l2 = 0 := by
  obtain ⟨h1, h2⟩ := h
  rcases colB_ways hc with rfl | rfl | rfl
  · rw [show uOf 0 (-l2 % (n : Int)) l1 = -l2 % n from rfl, K_mod, K_neg] at h1
    rw [show vOf n 0 (-l2 % (n : Int)) l1 = l1 from rfl] at h2
    exact ⟨h2, by grind⟩
  · rw [show uOf 1 (-l2 % (n : Int)) l1 = -l2 % n from rfl, K_mod, K_neg] at h1
    rw [show vOf n 1 (-l2 % (n : Int)) l1 = -l1 % n from rfl, K_mod, K_neg] at h2
    exact ⟨by grind, by grind⟩
  · rw [show uOf 2 (-l2 % (n : Int)) l1 = l1 from rfl] at h1
    rw [show vOf n 2 (-l2 % (n : Int)) l1 = -l2 % n from rfl, K_mod, K_neg] at h2
    exact ⟨h1, by grind⟩
theorem uv_nz (hp : isP (n : Int) = true) {c l1 l2 : Int} (hc : colB c = true) (hl : leadB l1 l2 = true) : ¬ (K n (uOf c (-l2 % n) l1) = 0 ∧ K n (vOf n c (-l2 % n) l1) = 0) := fun h => by
  have hk := uv_key hc h
  rcases lead_ways hl with rfl | ⟨_, rfl⟩
  · exact K_one_ne hp hk.1
  · exact K_one_ne hp hk.2
theorem uv_prd {c l1 l2 : Int} (hc : colB c = true) : K n l1 * K n (vOf n c (-l2 % n) l1) - K n l2 * K n (uOf c (-l2 % n) l1) = K n (prd n c (-l2 % n) l1 (-l2 % n) l1) := by
  rcases colB_ways hc with rfl | rfl | rfl
  · rw [show uOf 0 (-l2 % (n : Int)) l1 = -l2 % n from rfl, show vOf n 0 (-l2 % (n : Int)) l1 = l1 from rfl, prd_0]
    simp only [K_mod, K_neg, K_add, K_mul]; grind
  · rw [show uOf 1 (-l2 % (n : Int)) l1 = -l2 % n from rfl, show vOf n 1 (-l2 % (n : Int)) l1 = -l1 % n from rfl, prd_1]
    simp only [K_mod, K_neg, K_sub, K_mul]; grind
  · rw [show uOf 2 (-l2 % (n : Int)) l1 = l1 from rfl, show vOf n 2 (-l2 % (n : Int)) l1 = -l2 % n from rfl, prd_2]
    simp only [K_mod, K_neg, K_add, K_mul]; grind
theorem det_pt (hp : isP (n : Int) = true) {c l1 l2 a1 a2 : Int} (hc : colB c = true) (hl : leadB l1 l2 = true) : detM l1 l2 (pt1 n c l1 l2 a1 a2) (pt2 n c l1 l2 a1 a2) % n = 0 ↔ perpB n c l1 l2 l1 l2 = true := by
  have hnz := uv_nz hp hc hl
  have hN : K n (nrm n (uOf c (-l2 % n) l1) (vOf n c (-l2 % n) l1)) ≠ 0 := fun e => by
    rcases K_nrm hp hnz with ⟨_, h2⟩ | ⟨_, _, h2⟩ <;>
      exact K_one_ne hp (by rw [K_one, ← h2, e]; grind)
  have e : K n (detM l1 l2 (pt1 n c l1 l2 a1 a2) (pt2 n c l1 l2 a1 a2)) = K n (nrm n (uOf c (-l2 % n) l1) (vOf n c (-l2 % n) l1)) * K n (prd n c (-l2 % n) l1 (-l2 % n) l1) := by
    rw [← uv_prd hc, detM, pt1, pt2, tl1, tl2, mk1, mk2]
    simp only [K_sub, K_mul, K_mod]
    grind
  rw [← K_eq_zero, e, perpB, beq_iff_eq]
  have hb := prd_lt c (-l2 % n) l1 (-l2 % n) l1 hp
  constructor
  · intro h
    rw [← K_mul] at h
    rcases K_noz hp (x := nrm n (uOf c (-l2 % n) l1) (vOf n c (-l2 % n) l1)) (y := prd n c (-l2 % n) l1 (-l2 % n) l1) (by rw [← K_mul]; exact h) with h1 | h1
    · exact absurd h1 hN
    · rcases Int.lt_or_eq_of_le hb.1 with h2 | h2
      · exact absurd h1 (K_small hb (by omega))
      · exact h2.symm
  · intro h; rw [h, K_zero]; grind
end
theorem pt_line {p c l1 l2 : Int} (a1 a2 : Int) (hp : isP p = true) (hc : colB c = true) (hl : leadB l1 l2 = true) : lineB p (pt1 p c l1 l2 a1 a2) (pt2 p c l1 l2 a1 a2) (pt3 p c l1 l2 a1 a2) = true := by
  obtain ⟨n, rfl⟩ := Int.eq_ofNat_of_zero_le (by have := isP_range hp; omega : 0 ≤ p)
  haveI := neZero_of hp
  exact mk_line hp _ (uv_nz hp hc hl)
theorem pt_det {p c l1 l2 : Int} (a1 a2 : Int) (hp : isP p = true) (hc : colB c = true) (hl : leadB l1 l2 = true) : detM l1 l2 (pt1 p c l1 l2 a1 a2) (pt2 p c l1 l2 a1 a2) % p = 0 ↔ perpB p c l1 l2 l1 l2 = true := by
  obtain ⟨n, rfl⟩ := Int.eq_ofNat_of_zero_le (by have := isP_range hp; omega : 0 ≤ p)
  haveI := neZero_of hp
  exact det_pt hp hc hl
theorem pt_same {p c l1 l2 l3 : Int} (a1 a2 : Int) (hp : isP p = true) (hc : colB c = true) (hb : lineB p l1 l2 l3 = true) : (l1 = pt1 p c l1 l2 a1 a2 ∧ l2 = pt2 p c l1 l2 a1 a2) ↔ perpB p c l1 l2 l1 l2 = true := by
  have hl := lineB_in hb
  have hm := lineB_in (pt_line (l1 := l1) (l2 := l2) a1 a2 hp hc hl.1)
  have n1 := nums3 hl.2
  have n2 := nums3 hm.2
  rw [← pt_det a1 a2 hp hc hl.1]
  exact (det_zero hp hl.1 hm.1 ⟨n1.1, n1.2.1⟩ ⟨n2.1, n2.2.1⟩).symm

end Go.Proofs.Ytjjeekmhpcllaaa
