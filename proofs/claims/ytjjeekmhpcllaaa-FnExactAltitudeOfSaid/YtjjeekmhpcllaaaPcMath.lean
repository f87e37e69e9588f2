/-
  Plain bounds of products; no program.
-/
import Derived.Test.YtjjeekmhpcllaaaLineVals
import Derived.Test.YtjjeekmhpcllaaaInvMath
import Derived.Test.YtjjeekmhpcllaaaAreaMath
namespace Go.Proofs.Ytjjeekmhpcllaaa
open Go.RowKit

theorem bool_ways (b : Bool) : b = false ∨ b = true := by cases b <;> simp

theorem mulNN (A B C : Int) (hC : C = A * B) {a b : Int} (ha : 0 ≤ a ∧ a ≤ A) (hb : 0 ≤ b ∧ b ≤ B) : 0 ≤ a * b ∧ a * b ≤ C :=
  ⟨Int.mul_nonneg ha.1 hb.1, by have h := Int.mul_le_mul ha.2 hb.2 hb.1 (by omega : 0 ≤ A); omega⟩
theorem mulSS (A B C : Int) (hC : C = A * B) (hA : 0 ≤ A) {a b : Int} (ha : -A ≤ a ∧ a ≤ A) (hb : -B ≤ b ∧ b ≤ B) : -C ≤ a * b ∧ a * b ≤ C := by
  have h : (a * b).natAbs ≤ A.natAbs * B.natAbs := by rw [Int.natAbs_mul]; exact Nat.mul_le_mul (by omega) (by omega)
  have e : C.natAbs = A.natAbs * B.natAbs := by rw [hC, Int.natAbs_mul]
  have hB : 0 ≤ B := by omega
  have hc : 0 ≤ C := by rw [hC]; exact Int.mul_nonneg hA hB
  omega

theorem mulSq (A C : Int) (hC : C = A * A) {a : Int} (ha : -A ≤ a ∧ a ≤ A) : 0 ≤ a * a ∧ a * a ≤ C := by
  rcases Int.le_total 0 a with h | h
  · have h2 := Int.mul_le_mul ha.2 ha.2 h (by omega : 0 ≤ A)
    exact ⟨Int.mul_nonneg h h, by omega⟩
  · have h2 := Int.mul_le_mul (by omega : -a ≤ A) (by omega : -a ≤ A) (by omega : 0 ≤ -a) (by omega : 0 ≤ A)
    have h3 := Int.mul_nonneg (by omega : 0 ≤ -a) (by omega : 0 ≤ -a)
    rw [Int.neg_mul_neg] at h2 h3
    exact ⟨h3, by omega⟩

theorem fset {W : World} {a b : Addr} {v : Value} (h : W.frozen? b = false) : (W.setCell a v).frozen? b = false := by rw [World.frozen?_setCell]; exact h

theorem area_r (a1 a2 b1 b2 c1 c2 : Int) {p : Int} (h : isP p = true) : 0 ≤ area p a1 a2 b1 b2 c1 c2 ∧ area p a1 a2 b1 b2 c1 c2 < p := modR _ h

end Go.Proofs.Ytjjeekmhpcllaaa
