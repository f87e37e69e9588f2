/-
  Places: their numbers; no program.
-/
import Derived.Test.YtkkaicneabkkdaaConMath
namespace Go.Proofs.Ytkkaicneabkkdaa
open Go.RowKit

set_option linter.unusedSimpArgs false in
theorem cells3 {w : World} {b : Nat} {a0 a1 a2 : Int} (h0 : w.cell? ⟨b, 0, none⟩ = some (.int .i64 a0)) (h1 : w.cell? ⟨b, 1, none⟩ = some (.int .i64 a1)) (h2 : w.cell? ⟨b, 2, none⟩ = some (.int .i64 a2)) : Cells w b 0 [a0, a1, a2] := by
  intro i hi
  have : i = 0 ∨ i = 1 ∨ i = 2 := by simp at hi; omega
  rcases this with rfl | rfl | rfl <;> simpa
/-- Whether three numbers are a place. -/
def plB (p x y z : Int) : Bool := ld3 x y z == 1 && numsIn p [x, y, z]
set_option linter.unusedSimpArgs false in
theorem plB_nums {p x y z : Int} (h : plB p x y z = true) : numsIn p [x, y, z] = true := (Bool.and_eq_true_iff.1 h).2
set_option linter.unusedSimpArgs false in
theorem plB_lead {p x y z : Int} (h : plB p x y z = true) : ld3 x y z = 1 := by simpa using (Bool.and_eq_true_iff.1 h).1
set_option linter.unusedSimpArgs false in
theorem plB_rng {p x y z : Int} (h : plB p x y z = true) : (0 ≤ x ∧ x < p) ∧ (0 ≤ y ∧ y < p) ∧ (0 ≤ z ∧ z < p) := nums3 (plB_nums h)
/-- The product of two places. -/
def ppd (p x1 x2 x3 y1 y2 y3 : Int) : Int := (x1 * y1 + x2 * y2 - x3 * y3) % p
set_option linter.unusedSimpArgs false in
theorem ppd_r (x1 x2 x3 y1 y2 y3 : Int) {p : Int} (h : isP p = true) : 0 ≤ ppd p x1 x2 x3 y1 y2 y3 ∧ ppd p x1 x2 x3 y1 y2 y3 < p := modR _ h
/-- The quadrance of two places. -/
def plq (p x1 x2 x3 y1 y2 y3 : Int) : Int := (1 - ppd p x1 x2 x3 y1 y2 y3 * ppd p x1 x2 x3 y1 y2 y3 % p * inv p (ppd p x1 x2 x3 x1 x2 x3 * ppd p y1 y2 y3 y1 y2 y3)) % p
set_option linter.unusedSimpArgs false in
theorem plq_r (x1 x2 x3 y1 y2 y3 : Int) {p : Int} (h : isP p = true) : 0 ≤ plq p x1 x2 x3 y1 y2 y3 ∧ plq p x1 x2 x3 y1 y2 y3 < p := modR _ h
/-- Whether one of two places is null; the code of their quadrance. -/
def quZ (p x1 x2 x3 y1 y2 y3 : Int) : Bool := ppd p x1 x2 x3 x1 x2 x3 == 0 || ppd p y1 y2 y3 y1 y2 y3 == 0
def quC (p x1 x2 x3 y1 y2 y3 : Int) : Int := if quZ p x1 x2 x3 y1 y2 y3 = true then 5 else 0
def quV (p x1 x2 x3 y1 y2 y3 : Int) : Int := if quZ p x1 x2 x3 y1 y2 y3 = true then 0 else plq p x1 x2 x3 y1 y2 y3
set_option linter.unusedSimpArgs false in
theorem quV_r (x1 x2 x3 y1 y2 y3 : Int) {p : Int} (h : isP p = true) : 0 ≤ quV p x1 x2 x3 y1 y2 y3 ∧ quV p x1 x2 x3 y1 y2 y3 < p := by
  unfold quV; split
  · have := isP_range h; omega
  · exact plq_r _ _ _ _ _ _ h
set_option linter.unusedSimpArgs false in
theorem ppd_comm (p x1 x2 x3 y1 y2 y3 : Int) : ppd p x1 x2 x3 y1 y2 y3 = ppd p y1 y2 y3 x1 x2 x3 := by
  unfold ppd; rw [Int.mul_comm x1, Int.mul_comm x2, Int.mul_comm x3]
section
variable {p : Int} (hp : isP p = true) (x1 x2 x3 y1 y2 y3 : Int)
include hp
set_option linter.unusedSimpArgs false in
theorem sp_ppd : sp3 p x1 x2 (-x3 % p) y1 y2 y3 = ppd p x1 x2 x3 y1 y2 y3 := by
  obtain ⟨n, rfl⟩ := Int.eq_ofNat_of_zero_le (by have := isP_range hp; omega : 0 ≤ p)
  haveI := neZero_of hp
  unfold sp3 ppd
  rw [← K_ext]
  simp only [K_mod, K_sub, K_add, K_mul, K_neg]
  grind
set_option linter.unusedSimpArgs false in
theorem plq_impl (d u : Int) : (1 - d * d * inv p (u % p) % p) % p = (1 - d * d % p * inv p u) % p := by
  rw [inv_mod]
  obtain ⟨n, rfl⟩ := Int.eq_ofNat_of_zero_le (by have := isP_range hp; omega : 0 ≤ p)
  haveI := neZero_of hp
  rw [← K_ext]
  simp only [K_mod, K_sub, K_add, K_mul, K_neg]
set_option linter.unusedSimpArgs false in
theorem plMul_zero {u v : Int} (hu : 0 ≤ u ∧ u < p) (hv : 0 ≤ v ∧ v < p) : (u * v % p == 0) = (u == 0 || v == 0) := by
  obtain ⟨n, rfl⟩ := Int.eq_ofNat_of_zero_le (by have := isP_range hp; omega : 0 ≤ p)
  haveI := neZero_of hp
  rw [Bool.eq_iff_iff, Bool.or_eq_true, beq_iff_eq, beq_iff_eq, beq_iff_eq, ← K_eq_zero, K_mul]
  constructor
  · intro h
    rcases K_noz hp h with h | h
    · exact .inl (K_inj hu (by omega) (by rw [h, K_zero]))
    · exact .inr (K_inj hv (by omega) (by rw [h, K_zero]))
  · rintro (rfl | rfl)
    · rw [K_zero]; grind
    · rw [K_zero]; grind
end

end Go.Proofs.Ytkkaicneabkkdaa
