/-
  impl.IsField, impl.codeFor.
-/
import Derived.Test.YtodabjolblamgaaField
import Derived.Test.YtodabjolblamgaaBaseMath
namespace Go.Proofs.Ytodabjolblamgaa
open Go.RowKit

set_option maxRecDepth 20000 in
set_option maxHeartbeats 400000 in
theorem isField_any (p : Int) (w : World) :
    Calls Try.prog 115 #[.int .i64 p] w fun e w' => e = .returned (.bool (isP p)) ∧ w = w' := by
  by_cases h : p = 3 ∨ p = 5 ∨ p = 7 ∨ p = 11 ∨ p = 13 ∨ p = 17 ∨ p = 19 ∨ p = 23 ∨ p = 29 ∨ p = 31
  · have hp := Lib.hid (isP_iff.2 h)
    rcases h with rfl | rfl | rfl | rfl | rfl | rfl | rfl | rfl | rfl | rfl
    all_goals
      go_enter Try.func115, Try.ntmps115
      go_wp2
      go_ret
      exact ⟨ret_bool hp.out.symm, rfl⟩
  · have hp : isP p = false := by
      cases hh : isP p with
      | false => rfl
      | true => exact absurd (isP_iff.1 hh) h
    have HP := Lib.hid hp
    clear hp
    have h3 : (p == 3) = false := by rw [beq_eq_false_iff_ne]; omega
    have h5 : (p == 5) = false := by rw [beq_eq_false_iff_ne]; omega
    have h7 : (p == 7) = false := by rw [beq_eq_false_iff_ne]; omega
    have h11 : (p == 11) = false := by rw [beq_eq_false_iff_ne]; omega
    have h13 : (p == 13) = false := by rw [beq_eq_false_iff_ne]; omega
    have h17 : (p == 17) = false := by rw [beq_eq_false_iff_ne]; omega
    have h19 : (p == 19) = false := by rw [beq_eq_false_iff_ne]; omega
    have h23 : (p == 23) = false := by rw [beq_eq_false_iff_ne]; omega
    have h29 : (p == 29) = false := by rw [beq_eq_false_iff_ne]; omega
    have h31 : (p == 31) = false := by rw [beq_eq_false_iff_ne]; omega
    clear h
    go_enter Try.func115, Try.ntmps115
    go_wp2
    go_ret
    exact ⟨ret_bool HP.out.symm, rfl⟩

set_option maxRecDepth 20000 in
set_option maxHeartbeats 400000 in
theorem codeFor_any (p : Int) (b : Bool) (w : World) :
    Calls Try.prog 57 #[.int .i64 p, .bool b] w fun e w' => e = .returned (.int .i64 (codeOf p b)) ∧ w = w' := by
  by_cases hp : isP p = true
  · cases b
    all_goals
      go_enter Try.func57, Try.ntmps57
      go_wp2_with (go_at_call 115; refine Calls.mono (isField_any _ _) ?_; rintro e w' ⟨rfl, rfl⟩)
      go_ret
    · exact ⟨ret_int (by rw [codeOf_out hp rfl]), rfl⟩
    · exact ⟨ret_int (by rw [codeOf_in hp rfl]), rfl⟩
  · rw [Bool.not_eq_true] at hp
    go_enter Try.func57, Try.ntmps57
    go_wp2_with (go_at_call 115; refine Calls.mono (isField_any _ _) ?_; rintro e w' ⟨rfl, rfl⟩)
    go_ret
    exact ⟨ret_int (by rw [codeOf_no hp]), rfl⟩

end Go.Proofs.Ytodabjolblamgaa
