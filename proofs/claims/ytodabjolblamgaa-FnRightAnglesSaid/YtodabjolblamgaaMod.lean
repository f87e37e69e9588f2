/-
  spec.l01Mod.
-/
import Derived.Test.YtodabjolblamgaaField
import Derived.Test.YtodabjolblamgaaBaseMath
namespace Go.Proofs.Ytodabjolblamgaa
open Go.RowKit

set_option maxRecDepth 20000 in
set_option maxHeartbeats 400000 in
theorem mod_any (x p : Int) (w : World) (h1 : 1 ≤ p) (h2 : p ≤ 2147483648) (h3 : -1099511627776 ≤ x) (h4 : x ≤ 1099511627776) :
    Calls Try.prog 99 #[.int .i64 x, .int .i64 p] w fun e w' => e = .returned (.int .i64 (x % p)) ∧ w = w' := by
  have hb := tmod_bounds x p h1
  have hb1 : -p < x.tmod p := hb.1
  have hb2 : x.tmod p < p := hb.2
  clear hb
  have H := Lib.hid (by rw [← mod_twice x p, Int.add_emod_right] : x.tmod p % p = x % p)
  by_cases hx : 0 ≤ x
  · have hx1 : 0 ≤ x % p := Int.emod_nonneg _ (by omega)
    have hx2 : x % p < p := Int.emod_lt_of_pos _ (by omega)
    clear H hb1 hb2
    go_enter Try.func99, Try.ntmps99
    go_wp2
    go_ret
    exact ⟨ret_int (by simp), rfl⟩
  · go_enter Try.func99, Try.ntmps99
    go_wp2
    go_ret
    exact ⟨ret_int H.out, rfl⟩

end Go.Proofs.Ytodabjolblamgaa
