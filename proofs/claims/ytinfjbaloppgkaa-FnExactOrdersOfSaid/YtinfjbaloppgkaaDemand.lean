/-
  impl.demand: it comes back, or it is left by a panic with a code; impl.isBetween.
-/
import Derived.Test.YtinfjbaloppgkaaCode
import Derived.Test.YtinfjbaloppgkaaBaseMath
import Derived.Recover
import Derived.WalkLawsBesides
namespace Go.Proofs.Ytinfjbaloppgkaa
open Go.RowKit

/-- The panic with which a function behind a door is left. -/
def refused (c : Int) : List PanicEntry := [{ v := .iface 72 (.int .i64 c), recovered := false }]

set_option maxRecDepth 20000 in
set_option maxHeartbeats 400000 in
theorem demand_ok (p : Int) (b : Bool) (w : World) (h : codeOf p b = 0) :
    Calls Try.prog 46 #[.int .i64 p, .bool b] w fun e w' => e = .returned (.tuple #[]) ∧ w = w' := by
  go_enter Try.func46, Try.ntmps46
  go_wp2_with fail
  refine Calls.mono (codeFor_any _ _ _) ?_
  rintro e w' ⟨rfl, rfl⟩
  rw [h]
  go_wp2
  go_end0
  exact ⟨rfl, rfl⟩

set_option maxRecDepth 20000 in
set_option maxHeartbeats 400000 in
theorem demand_no (p : Int) (b : Bool) (c : Int) (w : World) (h : codeOf p b = c) (hc : c ≠ 0) :
    Calls Try.prog 46 #[.int .i64 p, .bool b] w fun e w' => e = .panicked (refused c) ∧ w = w' := by
  have hc' : (c == 0) = false := by rw [beq_eq_false_iff_ne]; exact hc
  go_enter Try.func46, Try.ntmps46
  go_wp2_with fail
  refine Calls.mono (codeFor_any _ _ _) ?_
  rintro e w' ⟨rfl, rfl⟩
  rw [h]
  go_wp2
  exact ⟨rfl, rfl, rfl⟩

set_option maxRecDepth 20000 in
set_option maxHeartbeats 400000 in
theorem between_any (lo n hi : Int) (w : World) :
    Calls Try.prog 47 #[.int .i64 lo, .int .i64 n, .int .i64 hi] w fun e w' => e = .returned (.bool (inB n lo hi)) ∧ w = w' := by
  go_enter Try.func47, Try.ntmps47
  by_cases h : lo ≤ n
  · by_cases h2 : n ≤ hi
    · have H := Lib.hid (inB_true ⟨h, h2⟩)
      go_wp2
      go_ret
      exact ⟨by rw [H.out]; rfl, rfl⟩
    · have H := Lib.hid (inB_false (n := n) (lo := lo) (hi := hi) (fun q => h2 q.2))
      go_wp2
      go_ret
      exact ⟨by rw [H.out]; rfl, rfl⟩
  · have H := Lib.hid (inB_false (n := n) (lo := lo) (hi := hi) (fun q => h q.1))
    go_wp2
    go_ret
    exact ⟨by rw [H.out]; rfl, rfl⟩

end Go.Proofs.Ytinfjbaloppgkaa
