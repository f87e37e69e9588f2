/-
  Squares: spec.l01Square, impl.SquareKind.
-/
import Derived.Test.YtijmmagdkbnhdaaCode
import Derived.Test.YtijmmagdkbnhdaaSpecNums
import Derived.Test.YtijmmagdkbnhdaaImplNums
import Derived.Test.YtijmmagdkbnhdaaRoot
import Derived.Test.YtijmmagdkbnhdaaSquareOf
namespace Go.Proofs.Ytijmmagdkbnhdaa
open Go.RowKit

set_option maxRecDepth 20000 in
set_option maxHeartbeats 400000 in
set_option linter.unusedSimpArgs false in
theorem implSquareKind_any (p a : Int) (w : World) :
    Calls Try.prog 77 #[.int .i64 p, .int .i64 a] w fun e w' => e = .returned (.tuple #[.int .i64 (squareKindV p a), .int .i64 (codeOf p (numsIn p [a]))]) ∧ Below w.heap.size w w' := by
  have hB : ∀ c, Below w.heap.size w (w.alloc c) := fun c => (Below.refl _ _).alloc (Nat.le_refl _) c
  rcases code_cases p (numsIn p [a]) with ⟨h0, hp, hn⟩ | h1 | h1
  · have hr := isP_range hp
    clear hn
    by_cases h : a = 0
    · subst h
      have HV := Lib.hid (show squareKindV p 0 = 0 by simp [squareKindV, squareV])
      go_enter Try.func77, Try.ntmps77
      go_wp2_with (first
        | (go_at_call 69; refine Calls.mono (areNums_any _ _ _ _ _ [0] _ rfl (by simp) (by exact cells_new _ [0] _)) ?_; rintro e w' ⟨rfl, rfl⟩)
        | (go_at_call 56; refine Calls.mono (codeFor_any _ _ _) ?_; rintro e w' ⟨rfl, rfl⟩))
      go_ret2
      exact ⟨ret_ii HV.out.symm h0.symm, hB _⟩
    · have h' : (a == 0) = false := by rw [beq_eq_false_iff_ne]; exact h
      cases hb : rootB p a
      all_goals
        have HV := Lib.hid (show squareKindV p a = (if rootB p a then 1 else -1) by simp [squareKindV, squareV, h0, h])
        rw [hb] at HV
        have HH := Lib.hid h
        clear h
        go_enter Try.func77, Try.ntmps77
        go_wp2_with (first
          | (go_at_call 69; refine Calls.mono (areNums_any _ _ _ _ _ [a] _ rfl (by simp) (by exact cells_new _ [a] _)) ?_; rintro e w' ⟨rfl, rfl⟩)
          | (go_at_call 56; refine Calls.mono (codeFor_any _ _ _) ?_; rintro e w' ⟨rfl, rfl⟩)
          | (go_at_call 130; refine Calls.mono (leastRoot_any _ _ _ (by omega) (by omega)) ?_; rintro e w' ⟨rfl, rfl⟩))
        go_ret2
        exact ⟨ret_ii HV.out.symm h0.symm, hB _⟩
  all_goals
    have HV := Lib.hid (show squareKindV p a = 0 by simp [squareKindV, h1])
    go_enter Try.func77, Try.ntmps77
    go_wp2_with (first
      | (go_at_call 69; refine Calls.mono (areNums_any _ _ _ _ _ [a] _ rfl (by simp) (by exact cells_new _ [a] _)) ?_; rintro e w' ⟨rfl, rfl⟩)
      | (go_at_call 56; refine Calls.mono (codeFor_any _ _ _) ?_; rintro e w' ⟨rfl, rfl⟩))
    go_ret2
    exact ⟨ret_ii HV.out.symm h1.symm, hB _⟩


set_option linter.unusedSimpArgs false in
theorem implSquareIn (p a : Int) (w : World) (hp : isP p = true) (ha : 0 ≤ a ∧ a < p) :
    Calls Try.prog 77 #[.int .i64 p, .int .i64 a] w fun e w' => e = .returned (.tuple #[.int .i64 (squareV p a), .int .i64 0]) ∧ Below w.heap.size w w' := by
  have hn : numsIn p [a] = true := by simp [numsIn, inB]; omega
  have hc := codeOf_in (b := numsIn p [a]) hp hn
  refine Calls.mono (implSquareKind_any p a w) ?_
  rintro e w' ⟨rfl, hB⟩
  exact ⟨by rw [hc, squareKindV, hc, if_pos rfl], hB⟩

end Go.Proofs.Ytijmmagdkbnhdaa
