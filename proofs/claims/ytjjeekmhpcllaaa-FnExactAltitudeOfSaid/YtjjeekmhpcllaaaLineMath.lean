/-
  The leading numbers of a line; no program.
-/
import Derived.Test.YtjjeekmhpcllaaaNumMath
import Derived.LoopN
namespace Go.Proofs.Ytjjeekmhpcllaaa
open Go.RowKit

theorem lineB_of {p a b c : Int} (hl : leadB a b = true) (hn : numsIn p [a, b, c] = true) : lineB p a b c = true := by rw [lineB, hl, hn]; rfl
theorem lineB_no1 {p a b c : Int} (hl : leadB a b = false) : lineB p a b c = false := by rw [lineB, hl]; rfl
theorem lineB_no2 {p a b c : Int} (hn : numsIn p [a, b, c] = false) : lineB p a b c = false := by rw [lineB, hn, Bool.and_false]
theorem lineB_in {p a b c : Int} (h : lineB p a b c = true) : leadB a b = true ∧ numsIn p [a, b, c] = true := by simpa [lineB] using h

/-- The four ways of the two leading numbers. -/
theorem leadB_ways (a b : Int) : (a = 1 ∧ leadB a b = true) ∨ (a = 0 ∧ b = 1 ∧ leadB a b = true) ∨ (a = 0 ∧ (b == 1) = false ∧ leadB a b = false) ∨ ((a == 1) = false ∧ (a == 0) = false ∧ leadB a b = false) := by
  by_cases h1 : a = 1
  · exact .inl ⟨h1, by simp [leadB, h1]⟩
  · by_cases h0 : a = 0
    · by_cases hb : b = 1
      · exact .inr (.inl ⟨h0, hb, by simp [leadB, h0, hb]⟩)
      · exact .inr (.inr (.inl ⟨h0, by simpa using hb, by simp [leadB, h0, hb]⟩))
    · exact .inr (.inr (.inr ⟨by simpa using h1, by simpa using h0, by simp [leadB, h0, h1]⟩))

end Go.Proofs.Ytjjeekmhpcllaaa
