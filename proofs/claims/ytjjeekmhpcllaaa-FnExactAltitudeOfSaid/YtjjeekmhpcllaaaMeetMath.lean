/-
  The meet of two lines: its numbers; no program.
-/
import Derived.Test.YtjjeekmhpcllaaaLineVals
namespace Go.Proofs.Ytjjeekmhpcllaaa
open Go.RowKit

def detM (l1 l2 m1 m2 : Int) : Int := l1 * m2 - l2 * m1
def meX (p l1 l2 l3 m1 m2 m3 : Int) : Int := (l2 * m3 - m2 * l3) * inv p (detM l1 l2 m1 m2) % p
def meY (p l1 l2 l3 m1 m2 m3 : Int) : Int := (m1 * l3 - l1 * m3) * inv p (detM l1 l2 m1 m2) % p

/-- Lines are parallel just where the determinant is 0. -/
theorem det_zero {p l1 l2 m1 m2 : Int} (hp : isP p = true) (hl : leadB l1 l2 = true) (hm : leadB m1 m2 = true) (hr : (0 ≤ l1 ∧ l1 < p) ∧ (0 ≤ l2 ∧ l2 < p)) (gr : (0 ≤ m1 ∧ m1 < p) ∧ (0 ≤ m2 ∧ m2 < p)) :
    detM l1 l2 m1 m2 % p = 0 ↔ (l1 = m1 ∧ l2 = m2) := by
  have h31 := isP_range hp
  unfold detM
  rcases lead_ways hl with rfl | ⟨rfl, rfl⟩ <;> rcases lead_ways hm with rfl | ⟨rfl, rfl⟩
  · rw [Int.one_mul, Int.mul_one]
    constructor
    · intro h
      have h1 := Int.emod_emod_of_dvd m2 (Int.dvd_refl p)
      have h2 : m2 % p = l2 % p := Int.emod_eq_emod_iff_emod_sub_eq_zero.2 h
      rw [Int.emod_eq_of_lt gr.2.1 gr.2.2, Int.emod_eq_of_lt hr.2.1 hr.2.2] at h2
      exact ⟨rfl, h2.symm⟩
    · rintro ⟨_, rfl⟩
      simp
  · rw [show (1 : Int) * 1 - l2 * 0 = 1 by simp, Int.emod_eq_of_lt (by omega) (by omega)]
    omega
  · rw [show (0 : Int) * m2 - 1 * 1 = -1 by simp]
    constructor
    · intro h
      rw [Int.emod_eq_add_self_emod, Int.emod_eq_of_lt (by omega) (by omega)] at h
      omega
    · omega
  · simp
theorem meX_impl (p l1 l2 l3 m1 m2 m3 : Int) : (l2 * m3 - m2 * l3) % p * inv p ((l1 * m2 - m1 * l2) % p) % p = meX p l1 l2 l3 m1 m2 m3 := by
  rw [meX, detM, inv_mod, Int.mul_comm m1 l2, Int.mul_emod ((l2 * m3 - m2 * l3) % p), Int.emod_emod, ← Int.mul_emod]
theorem meY_impl (p l1 l2 l3 m1 m2 m3 : Int) : (l3 * m1 - m3 * l1) % p * inv p ((l1 * m2 - m1 * l2) % p) % p = meY p l1 l2 l3 m1 m2 m3 := by
  rw [meY, detM, inv_mod, Int.mul_comm m1 l2, Int.mul_comm l3 m1, Int.mul_comm m3 l1, Int.mul_emod ((m1 * l3 - l1 * m3) % p), Int.emod_emod, ← Int.mul_emod]
theorem tmod_emod (x p : Int) : x.tmod p % p = x % p := by
  rw [Int.tmod_def, Int.sub_mul_emod_self_left]
theorem meX_spec (p l1 l2 l3 m1 m2 m3 : Int) : (l2 * m3 - m2 * l3).tmod p * inv p (detM l1 l2 m1 m2 % p) % p = meX p l1 l2 l3 m1 m2 m3 := by
  rw [meX, inv_mod, Int.mul_emod ((l2 * m3 - m2 * l3).tmod p), tmod_emod, ← Int.mul_emod]
theorem meY_spec (p l1 l2 l3 m1 m2 m3 : Int) : (m1 * l3 - l1 * m3).tmod p * inv p (detM l1 l2 m1 m2 % p) % p = meY p l1 l2 l3 m1 m2 m3 := by
  rw [meY, inv_mod, Int.mul_emod ((m1 * l3 - l1 * m3).tmod p), tmod_emod, ← Int.mul_emod]

end Go.Proofs.Ytjjeekmhpcllaaa
