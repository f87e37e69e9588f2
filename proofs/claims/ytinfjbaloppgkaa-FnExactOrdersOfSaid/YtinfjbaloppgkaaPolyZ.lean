/-
  The values of spread polynomials at numbers of the program's own kind; codes that are good.
-/
import Derived.Test.YtinfjbaloppgkaaPolyAt
import Derived.Test.YtinfjbaloppgkaaSpecValue
namespace Go.Proofs.Ytinfjbaloppgkaa
open Go.RowKit

theorem inB_out {n lo hi : Int} (h : inB n lo hi = true) : lo ≤ n ∧ n ≤ hi := by unfold inB at h; exact of_decide_eq_true h
theorem code_good {p : Int} {b : Bool} (h : codeOf p b = 0) : isP p = true ∧ b = true := by
  rcases code_cases p b with ⟨_, h1, h2⟩ | h1 | h1
  · exact ⟨h1, h2⟩
  · rw [h] at h1; cases h1
  · rw [h] at h1; cases h1
theorem code_range (p : Int) (b : Bool) : 0 ≤ codeOf p b ∧ codeOf p b ≤ 2 := by
  rcases code_cases p b with ⟨h, _⟩ | h | h <;> omega

theorem code_one {p : Int} {b : Bool} (h : codeOf p b = 1) : isP p = false := by
  cases hp : isP p with
  | false => rfl
  | true => cases b <;> simp [codeOf, hp] at h
theorem code_two {p : Int} {b : Bool} (h : codeOf p b = 2) : isP p = true := by
  cases hp : isP p with
  | true => rfl
  | false => simp [codeOf, hp] at h
theorem code_two_b {p : Int} {b : Bool} (h : codeOf p b = 2) : b = false := by
  cases b with
  | false => rfl
  | true => cases hp : isP p <;> simp [codeOf, hp] at h
theorem implValZ_any (p s n : Int) (w : World) (hp : isP p = true) (h0 : 0 ≤ s) (h1 : s < p) (hn : 0 ≤ n) (hn2 : n ≤ 100000) :
    Calls Try.prog 49 #[.int .i64 p, .int .i64 n, .int .i64 s] w fun e w' => e = .returned (.int .i64 (sv p s n.toNat)) ∧ Below w.heap.size w w' := by
  obtain ⟨k, rfl⟩ := Int.eq_ofNat_of_zero_le hn
  rw [Int.toNat_natCast]
  exact implValue_any p s k w hp h0 h1 (by omega)
theorem specValZ_any (p s n : Int) (w : World) (hp : isP p = true) (h0 : 0 ≤ s) (h1 : s < p) (hn : 0 ≤ n) (hn2 : n ≤ 100000) :
    Calls Try.prog 43 #[.int .i64 p, .int .i64 n, .int .i64 s] w fun e w' => e = .returned (.int .i64 (sv p s n.toNat)) ∧ w = w' := by
  obtain ⟨k, rfl⟩ := Int.eq_ofNat_of_zero_le hn
  rw [Int.toNat_natCast]
  exact specValue_any p s k w hp h0 h1 (by omega)

end Go.Proofs.Ytinfjbaloppgkaa
