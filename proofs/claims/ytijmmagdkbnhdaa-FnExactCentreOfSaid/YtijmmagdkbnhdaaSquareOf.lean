/-
  Squares: spec.l01Square, impl.SquareKind.
-/
import Derived.Test.YtijmmagdkbnhdaaCode
import Derived.Test.YtijmmagdkbnhdaaSpecNums
import Derived.Test.YtijmmagdkbnhdaaImplNums
import Derived.Test.YtijmmagdkbnhdaaRoot
namespace Go.Proofs.Ytijmmagdkbnhdaa
open Go.RowKit

def squareV (p a : Int) : Int := if a = 0 then 0 else if rootB p a then 1 else -1
def squareKindV (p a : Int) : Int := if codeOf p (numsIn p [a]) = 0 then squareV p a else 0
def rootOfV (p a : Int) : Int := if codeOf p (numsIn p [a]) = 0 ∧ rootB p a = true then rootV p a else 0
def rootOfC (p a : Int) : Int := if codeOf p (numsIn p [a]) = 0 ∧ rootB p a = false then 4 else codeOf p (numsIn p [a])

set_option maxRecDepth 20000 in
set_option maxHeartbeats 400000 in
set_option linter.unusedSimpArgs false in
theorem square_any (a p : Int) (w : World) (h0 : 0 ≤ p) (h31 : p ≤ 31) :
    Calls Try.prog 129 #[.int .i64 a, .int .i64 p] w fun e w' => e = .returned (.int .i64 (squareV p a)) ∧ w = w' := by
  by_cases h : a = 0
  · subst h
    go_enter Try.func129, Try.ntmps129
    go_wp2
    go_ret
    exact ⟨ret_int (by simp [squareV]), rfl⟩
  · have h' : (a == 0) = false := by rw [beq_eq_false_iff_ne]; exact h
    have HH := Lib.hid h
    clear h
    cases hb : rootB p a
    all_goals
      go_enter Try.func129, Try.ntmps129
      go_wp2_with (go_at_call 147; refine Calls.mono (specRoot_any _ _ _ h0 h31) ?_; rintro e w' ⟨rfl, rfl⟩)
      go_ret
      exact ⟨ret_int (by rw [squareV, if_neg HH.out, hb]; rfl), rfl⟩

set_option linter.unusedSimpArgs false in
theorem squareV_r (p a : Int) : -1 ≤ squareV p a ∧ squareV p a ≤ 1 := by
  unfold squareV
  split
  · omega
  · split <;> omega
set_option linter.unusedSimpArgs false in
theorem squareV_zero {p a : Int} : (squareV p a == 0) = (a == 0) := by
  unfold squareV
  by_cases h : a = 0
  · simp [h]
  · rw [if_neg h]
    split <;> simp [h]

end Go.Proofs.Ytijmmagdkbnhdaa
