/-
  spec.l01On.
-/
import Derived.Test.YtcebhcamegdmaaaBtw
import Derived.Test.YtcebhcamegdmaaaMod
import Derived.Test.YtcebhcamegdmaaaBaseMath
namespace Go.Proofs.Ytcebhcamegdmaaa
open Go.RowKit

set_option maxRecDepth 20000 in
set_option maxHeartbeats 400000 in
theorem specOn_any (p a1 a2 l1 l2 l3 : Int) (w : World) (hp : isP p = true) (ha1 : 0 ≤ a1 ∧ a1 ≤ 31) (ha2 : 0 ≤ a2 ∧ a2 ≤ 31) (hl1 : 0 ≤ l1 ∧ l1 ≤ 31) (hl2 : 0 ≤ l2 ∧ l2 ≤ 31) (hl3 : 0 ≤ l3 ∧ l3 ≤ 31) :
    Calls Try.prog 52 #[.int .i64 p, .agg #[.int .i64 a1, .int .i64 a2], .agg #[.int .i64 l1, .int .i64 l2, .int .i64 l3]] w fun e w' =>
      e = .returned (.bool (onB p a1 a2 l1 l2 l3)) ∧ Below w.heap.size w w' := by
  have hr := isP_range hp
  have m1 := mulP hl1 ha1
  have m2 := mulP hl2 ha2
  cases hb : ((l1 * a1 + l2 * a2 + l3) % p == 0)
  all_goals
    have HV := Lib.hid (show onB p a1 a2 l1 l2 l3 = _ from hb)
    go_enter Try.func52, Try.ntmps52
    go_wp2
    go_ret
    exact ⟨ret_bool HV.out.symm, by (repeat (first | exact Below.refl _ _ | assumption | refine balloc ?_ _ | refine bdrewN ?_ _ | refine Below.drew ?_ | refine Below.setCell ?_ (by first | (simp; done) | (simp; omega)) _))⟩

end Go.Proofs.Ytcebhcamegdmaaa
