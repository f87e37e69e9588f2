/-
  spec.l01Area.
-/
import Derived.Test.YtcebhcamegdmaaaMod
import Derived.Test.YtcebhcamegdmaaaBaseMath
namespace Go.Proofs.Ytcebhcamegdmaaa
open Go.RowKit

set_option maxRecDepth 20000 in
set_option maxHeartbeats 1000000 in
theorem specArea_any (p a1 a2 b1 b2 c1 c2 : Int) (w : World) (hp : isP p = true) (ha1 : 0 ≤ a1 ∧ a1 ≤ 31) (ha2 : 0 ≤ a2 ∧ a2 ≤ 31) (hb1 : 0 ≤ b1 ∧ b1 ≤ 31) (hb2 : 0 ≤ b2 ∧ b2 ≤ 31) (hc1 : 0 ≤ c1 ∧ c1 ≤ 31) (hc2 : 0 ≤ c2 ∧ c2 ≤ 31) :
    Calls Try.prog 85 #[.int .i64 p, .agg #[.int .i64 a1, .int .i64 a2], .agg #[.int .i64 b1, .int .i64 b2], .agg #[.int .i64 c1, .int .i64 c2]] w fun e w' =>
      e = .returned (.int .i64 (area p a1 a2 b1 b2 c1 c2)) ∧ Below w.heap.size w w' := by
  have hr := isP_range hp
  have m1 := mulB (a := b1 - a1) (b := c2 - a2) (by omega) (by omega)
  have m2 := mulB (a := b2 - a2) (b := c1 - a1) (by omega) (by omega)
  go_enter Try.func85, Try.ntmps85
  (go_wp2_with fail; refine Calls.mono (mod_any _ _ _ (by omega) (by omega) (by omega) (by omega)) ?_; rintro e w' ⟨rfl, rfl⟩)
  go_wp2
  go_ret
  exact ⟨rfl, by (repeat (first | exact Below.refl _ _ | assumption | refine balloc ?_ _ | refine bdrewN ?_ _ | refine Below.drew ?_ | refine Below.setCell ?_ (by first | (simp; done) | (simp; omega)) _))⟩

end Go.Proofs.Ytcebhcamegdmaaa
