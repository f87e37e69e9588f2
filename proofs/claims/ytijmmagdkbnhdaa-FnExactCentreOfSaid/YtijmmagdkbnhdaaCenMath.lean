/-
  Centres of conics: the meet of two lines; no program.
-/
import Derived.Test.YtijmmagdkbnhdaaConMath
namespace Go.Proofs.Ytijmmagdkbnhdaa
open Go.RowKit

def ceX (p k1 k2 k3 k4 k5 : Int) : Int := meX p (mk1 p (2 * k1) k2 k4) (mk2 p (2 * k1) k2 k4) (mk3 p (2 * k1) k2 k4) (mk1 p k2 (2 * k3) k5) (mk2 p k2 (2 * k3) k5) (mk3 p k2 (2 * k3) k5)
def ceY (p k1 k2 k3 k4 k5 : Int) : Int := meY p (mk1 p (2 * k1) k2 k4) (mk2 p (2 * k1) k2 k4) (mk3 p (2 * k1) k2 k4) (mk1 p k2 (2 * k3) k5) (mk2 p k2 (2 * k3) k5) (mk3 p k2 (2 * k3) k5)
set_option linter.unusedSimpArgs false in
theorem ce_r (k1 k2 k3 k4 k5 : Int) {p : Int} (h : isP p = true) : (0 ≤ ceX p k1 k2 k3 k4 k5 ∧ ceX p k1 k2 k3 k4 k5 < p) ∧ (0 ≤ ceY p k1 k2 k3 k4 k5 ∧ ceY p k1 k2 k3 k4 k5 < p) := ⟨modR _ h, modR _ h⟩
section
variable {p : Int} (hp : isP p = true) (a b c : Int)
include hp
set_option linter.unusedSimpArgs false in
theorem mk_mod1 : mk1 p (a % p) b c = mk1 p a b c ∧ mk2 p (a % p) b c = mk2 p a b c ∧ mk3 p (a % p) b c = mk3 p a b c := by
  have h : nrm p (a % p) b = nrm p a b := by unfold nrm; rw [Int.emod_emod, inv_mod]
  unfold mk1 mk2 mk3
  rw [h]
  refine ⟨?_, rfl, rfl⟩
  obtain ⟨n, rfl⟩ := Int.eq_ofNat_of_zero_le (by have := isP_range hp; omega : 0 ≤ p)
  haveI := neZero_of hp
  rw [← K_ext]
  simp only [K_mod, K_mul]
set_option linter.unusedSimpArgs false in
theorem mk_mod2 : mk1 p a (b % p) c = mk1 p a b c ∧ mk2 p a (b % p) c = mk2 p a b c ∧ mk3 p a (b % p) c = mk3 p a b c := by
  have h : nrm p a (b % p) = nrm p a b := by unfold nrm; rw [inv_mod]
  unfold mk1 mk2 mk3
  rw [h]
  refine ⟨rfl, ?_, rfl⟩
  obtain ⟨n, rfl⟩ := Int.eq_ofNat_of_zero_le (by have := isP_range hp; omega : 0 ≤ p)
  haveI := neZero_of hp
  rw [← K_ext]
  simp only [K_mod, K_mul]
end
set_option linter.unusedSimpArgs false in
/-- Where the discriminant is not 0 the two lines meet. -/
theorem cen_lines {p k1 k2 k3 : Int} (k4 k5 : Int) (hp : isP p = true) (hd : (dsc p k1 k2 k3 == 0) = false) :
    lineB p (mk1 p (2 * k1) k2 k4) (mk2 p (2 * k1) k2 k4) (mk3 p (2 * k1) k2 k4) = true ∧ lineB p (mk1 p k2 (2 * k3) k5) (mk2 p k2 (2 * k3) k5) (mk3 p k2 (2 * k3) k5) = true ∧
    ¬ (detM (mk1 p (2 * k1) k2 k4) (mk2 p (2 * k1) k2 k4) (mk1 p k2 (2 * k3) k5) (mk2 p k2 (2 * k3) k5) % p = 0) := by
  obtain ⟨n, rfl⟩ := Int.eq_ofNat_of_zero_le (by have := isP_range hp; omega : 0 ≤ p)
  haveI := neZero_of hp
  have hd' : ¬ (K n k2 * K n k2 - 4 * K n k1 * K n k3 = 0) := by
    intro e
    apply (beq_eq_false_iff_ne.1 hd)
    unfold dsc
    rw [← K_eq_zero]
    simp only [K_sub, K_mul, K_four]
    exact e
  have h1 : ¬ (K n (2 * k1) = 0 ∧ K n k2 = 0) := fun h => hd' (by have h1 := h.1; have h2 := h.2; rw [K_mul, K_two] at h1; grind)
  have h2 : ¬ (K n k2 = 0 ∧ K n (2 * k3) = 0) := fun h => hd' (by have h1 := h.1; have h2 := h.2; rw [K_mul, K_two] at h2; grind)
  refine ⟨mk_line hp k4 h1, mk_line hp k5 h2, ?_⟩
  intro e
  rw [← K_eq_zero] at e
  unfold detM mk1 mk2 at e
  simp only [K_sub, K_mul, K_mod, K_two] at e
  have hu := K_nrm hp h1
  have hv := K_nrm hp h2
  generalize K n (nrm n (2 * k1) k2) = u at *
  generalize K n (nrm n k2 (2 * k3)) = v at *
  simp only [K_mul, K_two] at hu hv
  rcases hu with ⟨_, hu⟩ | ⟨_, _, hu⟩ <;> rcases hv with ⟨_, hv⟩ | ⟨_, _, hv⟩ <;> apply hd'
  · have : (2 * K n k1 * u) * (K n k2 * v) * (K n k2 * K n k2 - 4 * K n k1 * K n k3) = 0 := by grind
    rw [hu, hv] at this; grind
  · have : (2 * K n k1 * u) * (2 * K n k3 * v) * (K n k2 * K n k2 - 4 * K n k1 * K n k3) = 0 := by grind
    rw [hu, hv] at this; grind
  · have : (K n k2 * u) * (K n k2 * v) * (K n k2 * K n k2 - 4 * K n k1 * K n k3) = 0 := by grind
    rw [hu, hv] at this; grind
  · have : (K n k2 * u) * (2 * K n k3 * v) * (K n k2 * K n k2 - 4 * K n k1 * K n k3) = 0 := by grind
    rw [hu, hv] at this; grind

end Go.Proofs.Ytijmmagdkbnhdaa
