/-
  Colours and their codes; no program.
-/
import Derived.Test.YtjjeekmhpcllaaaNumMath
namespace Go.Proofs.Ytjjeekmhpcllaaa
open Go.RowKit

/-- One of the three colours. -/
def colB (c : Int) : Bool := inB c 0 2
theorem colB_ways {c : Int} (h : colB c = true) : c = 0 ∨ c = 1 ∨ c = 2 := by
  unfold colB inB at h; have := of_decide_eq_true h; omega
theorem colB_range {c : Int} (h : colB c = true) : 0 ≤ c ∧ c ≤ 2 := by
  have := colB_ways h; omega
theorem code_col_T {p c : Int} {b : Bool} (h : colB c = true) : codeOf p (colB c && b) = codeOf p b := by rw [h, Bool.true_and]
theorem code_col_F {p c : Int} {b : Bool} (h : colB c = false) : codeOf p (colB c && b) = codeOf p false := by rw [h, Bool.false_and]
/-- A code of a test that is no zero: with another test beside it, it stays. -/
theorem code_col_1 {p : Int} {a b : Bool} (h : codeOf p b = 1) : codeOf p (a && b) = 1 := by
  cases hp : isP p
  · exact codeOf_no hp
  · revert h; cases b <;> simp [codeOf, hp]
theorem code_col_2 {p : Int} {a b : Bool} (h : codeOf p b = 2) : codeOf p (a && b) = 2 := by
  cases hp : isP p
  · rw [codeOf_no hp] at h; omega
  · revert h; cases b <;> simp [codeOf, hp]

end Go.Proofs.Ytjjeekmhpcllaaa
