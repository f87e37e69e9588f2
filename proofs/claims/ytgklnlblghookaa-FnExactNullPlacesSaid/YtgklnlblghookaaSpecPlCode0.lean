/-
  spec.l09Code without places.
-/
import Derived.Test.YtgklnlblghookaaField
import Derived.Test.YtgklnlblghookaaBaseMath
import Derived.Test.YtgklnlblghookaaCode
import Derived.LoopN
import Derived.Deep.RegionHeld3
import Derived.Deep.DeepCutAuto
namespace Go.Proofs.Ytgklnlblghookaa
open Go.RowKit

set_option maxRecDepth 20000 in
set_option maxHeartbeats 400000 in
theorem specPlCode0 (p : Int) (w : World) :
    Calls Try.prog 43 #[.int .i64 p, .slice none 0 0] w fun e w' => e = .returned (.int .i64 (codeOf p true)) ∧ w = w' := by
  cases hp : isP p
  · have HV := Lib.hid (show codeOf p true = 1 from codeOf_no hp)
    go_enter Try.func43, Try.ntmps43
    go_wp2_with (go_at_call 59; refine Calls.mono (field_any _ _) ?_; rintro e w' ⟨rfl, rfl⟩)
    go_ret
    exact ⟨ret_int HV.out.symm, rfl⟩
  · have HV := Lib.hid (show codeOf p true = 0 from codeOf_in hp rfl)
    go_enter Try.func43, Try.ntmps43
    go_wp2_with (go_at_call 59; refine Calls.mono (field_any _ _) ?_; rintro e w' ⟨rfl, rfl⟩)
    refine wp_loop_rounds 1 ?_
    rw [rounds_succ]
    go_wp2
    go_ret
    exact ⟨ret_int HV.out.symm, rfl⟩

end Go.Proofs.Ytgklnlblghookaa
