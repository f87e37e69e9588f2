/-
  spec.l02Product.
-/
import Derived.Test.YtodabjolblamgaaMod
import Derived.Test.YtodabjolblamgaaBaseMath
namespace Go.Proofs.Ytodabjolblamgaa
open Go.RowKit

set_option maxRecDepth 20000 in
set_option maxHeartbeats 1000000 in
theorem specProduct_any (p c a1 a2 b1 b2 : Int) (w : World) (hp : isP p = true) (hc : colB c = true) (ha1 : 0 ≤ a1 ∧ a1 ≤ 31) (ha2 : 0 ≤ a2 ∧ a2 ≤ 31) (hb1 : 0 ≤ b1 ∧ b1 ≤ 31) (hb2 : 0 ≤ b2 ∧ b2 ≤ 31) :
    Calls Try.prog 64 #[.int .i64 p, .int .i64 c, .agg #[.int .i64 a1, .int .i64 a2], .agg #[.int .i64 b1, .int .i64 b2]] w fun e w' =>
      e = .returned (.int .i64 (prd p c a1 a2 b1 b2)) ∧ Below w.heap.size w w' := by
  have hr := isP_range hp
  have m1 := mulP ha1 hb1
  have m2 := mulP ha2 hb2
  have m3 := mulP ha1 hb2
  have m4 := mulP ha2 hb1
  rcases colB_ways hc with rfl | rfl | rfl
  · have HV := Lib.hid (prd_0 p a1 a2 b1 b2)
    go_enter Try.func64, Try.ntmps64
    (go_wp2_with fail; refine Calls.mono (mod_any _ _ _ (by omega) (by omega) (by omega) (by omega)) ?_; rintro e w' ⟨rfl, rfl⟩)
    go_wp2
    go_ret
    exact ⟨ret_int HV.out.symm, by (repeat (first | exact Below.refl _ _ | assumption | refine balloc ?_ _ | refine bdrewN ?_ _ | refine Below.drew ?_ | refine Below.setCell ?_ (by first | (simp; done) | (simp; omega)) _))⟩
  · have HV := Lib.hid (prd_1 p a1 a2 b1 b2)
    go_enter Try.func64, Try.ntmps64
    (go_wp2_with fail; refine Calls.mono (mod_any _ _ _ (by omega) (by omega) (by omega) (by omega)) ?_; rintro e w' ⟨rfl, rfl⟩)
    go_wp2
    go_ret
    exact ⟨ret_int HV.out.symm, by (repeat (first | exact Below.refl _ _ | assumption | refine balloc ?_ _ | refine bdrewN ?_ _ | refine Below.drew ?_ | refine Below.setCell ?_ (by first | (simp; done) | (simp; omega)) _))⟩
  · have HV := Lib.hid (prd_2 p a1 a2 b1 b2)
    go_enter Try.func64, Try.ntmps64
    (go_wp2_with fail; refine Calls.mono (mod_any _ _ _ (by omega) (by omega) (by omega) (by omega)) ?_; rintro e w' ⟨rfl, rfl⟩)
    go_wp2
    go_ret
    exact ⟨ret_int HV.out.symm, by (repeat (first | exact Below.refl _ _ | assumption | refine balloc ?_ _ | refine bdrewN ?_ _ | refine Below.drew ?_ | refine Below.setCell ?_ (by first | (simp; done) | (simp; omega)) _))⟩

end Go.Proofs.Ytodabjolblamgaa
