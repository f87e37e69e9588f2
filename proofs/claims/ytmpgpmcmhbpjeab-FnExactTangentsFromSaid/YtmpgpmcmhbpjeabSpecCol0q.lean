/-
  spec.l02Code of no point.
-/
import Derived.Test.YtmpgpmcmhbpjeabMgq0
import Derived.LoopN

namespace Go.Proofs.Ytmpgpmcmhbpjeab
open Go.RowKit

set_option maxRecDepth 20000 in
set_option maxHeartbeats 400000 in
theorem specCode0 (p : Int) (w : World) :
    Calls Try.prog 41 #[.int .i64 p, .slice none 0 0] w fun e w' => e = .returned (.int .i64 (codeOf p true)) ∧ w = w' := by
  cases hp : isP p
  · have HV := Lib.hid (show codeOf p true = 1 from codeOf_no hp)
    go_enter Try.func41, Try.ntmps41
    go_wp2_with (go_at_call 72; refine Calls.mono (field_any _ _) ?_; rintro e w' ⟨rfl, rfl⟩)
    go_ret
    exact ⟨ret_int HV.out.symm, rfl⟩
  · have HV := Lib.hid (show codeOf p true = 0 from codeOf_in hp rfl)
    go_enter Try.func41, Try.ntmps41
    go_wp2_with (go_at_call 72; refine Calls.mono (field_any _ _) ?_; rintro e w' ⟨rfl, rfl⟩)
    refine wp_loop_rounds 1 ?_
    rw [rounds_succ]
    go_wp2
    go_ret
    exact ⟨ret_int HV.out.symm, rfl⟩

set_option maxRecDepth 20000 in
set_option maxHeartbeats 400000 in
theorem specColCode0 (p col : Int) (w : World) :
    Calls Try.prog 70 #[.int .i64 p, .int .i64 col, .slice none 0 0] w fun e w' => e = .returned (.int .i64 (codeOf p (colB col))) ∧ w = w' := by
  cases hp : isP p
  · have c1 : codeOf p true = 1 := codeOf_no hp
    have HV := Lib.hid (show codeOf p (colB col) = 1 from codeOf_no hp)
    go_enter Try.func70, Try.ntmps70
    (go_wp2_with fail; refine Calls.mono (specCode0 _ _) ?_; rintro e w' ⟨rfl, rfl⟩)
    go_wp2
    go_ret
    exact ⟨ret_int HV.out.symm, rfl⟩
  · have c1 : codeOf p true = 0 := codeOf_in hp rfl
    cases hc : colB col
    · have HV := Lib.hid (show codeOf p false = 2 from codeOf_out hp rfl)
      go_enter Try.func70, Try.ntmps70
      (go_wp2_with fail; refine Calls.mono (specCode0 _ _) ?_; rintro e w' ⟨rfl, rfl⟩)
      (go_wp2_with fail; refine Calls.mono (specColour_any _ _) ?_; rintro e w' ⟨rfl, rfl⟩)
      go_wp2
      go_ret
      exact ⟨ret_int HV.out.symm, rfl⟩
    · have HV := Lib.hid (show codeOf p true = 0 from c1)
      go_enter Try.func70, Try.ntmps70
      (go_wp2_with fail; refine Calls.mono (specCode0 _ _) ?_; rintro e w' ⟨rfl, rfl⟩)
      (go_wp2_with fail; refine Calls.mono (specColour_any _ _) ?_; rintro e w' ⟨rfl, rfl⟩)
      go_wp2
      go_ret
      exact ⟨ret_int HV.out.symm, rfl⟩

end Go.Proofs.Ytmpgpmcmhbpjeab
