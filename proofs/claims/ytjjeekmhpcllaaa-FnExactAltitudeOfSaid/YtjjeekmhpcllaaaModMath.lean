/-
  The ring of the numbers modulo n: a number's class, and how it goes with sums, products, rests and inverses; no program.
-/
import Derived.Test.YtjjeekmhpcllaaaInvMath
namespace Go.Proofs.Ytjjeekmhpcllaaa
open Go.RowKit

section
variable {n : Nat} [NeZero n]
/-- The class of a number modulo n. -/
def K (n : Nat) [NeZero n] (x : Int) : Fin n := (Lean.Grind.Ring.intCast.intCast x : Fin n)
theorem K_ext {x y : Int} : K n x = K n y ↔ x % n = y % n := Lean.Grind.IsCharP.intCast_ext_iff (α := Fin n) n
theorem K_add (x y : Int) : K n (x + y) = K n x + K n y := Lean.Grind.Ring.intCast_add x y
theorem K_mul (x y : Int) : K n (x * y) = K n x * K n y := Lean.Grind.Ring.intCast_mul x y
theorem K_sub (x y : Int) : K n (x - y) = K n x - K n y := Lean.Grind.Ring.intCast_sub x y
theorem K_neg (x : Int) : K n (-x) = -K n x := Lean.Grind.Ring.intCast_neg x
theorem K_mod (x : Int) : K n (x % n) = K n x := Lean.Grind.IsCharP.intCast_emod n x
theorem K_zero : K n 0 = 0 := Lean.Grind.Ring.intCast_zero
theorem K_one : K n 1 = 1 := Lean.Grind.Ring.intCast_one
theorem K_two : K n 2 = 2 := by rw [show (2 : Int) = 1 + 1 from rfl, K_add, K_one]; grind
theorem K_three : K n 3 = 3 := by rw [show (3 : Int) = 2 + 1 from rfl, K_add, K_two, K_one]; grind
theorem K_four : K n 4 = 4 := by rw [show (4 : Int) = 2 + 2 from rfl, K_add, K_two]; grind
theorem K_eq_zero {x : Int} : K n x = 0 ↔ x % n = 0 := by
  rw [← K_zero, K_ext, Int.zero_emod]
theorem K_self : K n n = 0 := by rw [K_eq_zero]; exact Int.emod_self
theorem K_inj {x y : Int} (hx : 0 ≤ x ∧ x < n) (hy : 0 ≤ y ∧ y < n) (h : K n x = K n y) : x = y := by
  have := K_ext.1 h
  rwa [Int.emod_eq_of_lt hx.1 hx.2, Int.emod_eq_of_lt hy.1 hy.2] at this
theorem K_small {x : Int} (hx : 0 ≤ x ∧ x < n) (h : x ≠ 0) : K n x ≠ 0 := fun e => h (by
  have := K_eq_zero.1 e
  rwa [Int.emod_eq_of_lt hx.1 hx.2] at this)
theorem K_inv (hp : isP (n : Int) = true) {y : Int} (hy : K n y ≠ 0) : K n y * K n (inv n y) = 1 := by
  have hr := isP_ne hp
  have h3 : 0 ≤ y % (n : Int) := Int.emod_nonneg _ (by omega)
  have h4 : y % (n : Int) < n := Int.emod_lt_of_pos _ (by omega)
  obtain ⟨m, hm⟩ := Int.eq_ofNat_of_zero_le h3
  have hm0 : 0 < m := by
    rcases Nat.eq_zero_or_pos m with h | h
    · exact absurd (K_eq_zero.2 (by rw [hm, h]; rfl)) hy
    · exact h
  have h5 := (invN_lt_fin ⟨n, by omega⟩ hp ⟨m, by omega⟩ (by show m < n; omega)).2 hm0
  have e : inv (n : Int) y = (invN n m : Int) := by
    unfold inv; rw [hm, Int.toNat_natCast, Int.toNat_natCast]
  rw [← K_mod y, hm, e, ← K_mul, ← K_one, K_ext, ← Int.natCast_mul, ← Int.natCast_emod]
  simp only at h5
  rw [h5, Int.emod_eq_of_lt (by omega) (by omega)]; rfl
theorem K_noz (hp : isP (n : Int) = true) {x y : Int} (h : K n x * K n y = 0) : K n x = 0 ∨ K n y = 0 := by
  by_cases hx : K n x = 0
  · exact .inl hx
  · have := K_inv hp hx
    right; grind
end
theorem neZero_of {n : Nat} (hp : isP (n : Int) = true) : NeZero n := ⟨by have := isP_ne hp; omega⟩
end Go.Proofs.Ytjjeekmhpcllaaa
