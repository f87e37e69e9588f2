/-
  spec.l02Colour.
-/
import Derived.Test.YtodabjolblamgaaField
import Derived.Test.YtodabjolblamgaaBaseMath
namespace Go.Proofs.Ytodabjolblamgaa
open Go.RowKit

set_option maxRecDepth 20000 in
set_option maxHeartbeats 400000 in
theorem specColour_any (c : Int) (w : World) :
    Calls Try.prog 79 #[.int .i64 c] w fun e w' => e = .returned (.bool (colB c)) ∧ w = w' := by
  have HV := Lib.hid (show inB c 0 2 = colB c from rfl)
  go_enter Try.func79, Try.ntmps79
  go_wp2_with (go_at_call 127; refine Calls.mono (in_any _ _ _ _) ?_; rintro e w' ⟨rfl, rfl⟩)
  go_ret
  exact ⟨ret_bool HV.out, rfl⟩

end Go.Proofs.Ytodabjolblamgaa
