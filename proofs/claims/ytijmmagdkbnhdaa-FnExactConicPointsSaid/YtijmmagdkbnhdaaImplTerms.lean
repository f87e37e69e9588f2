/-
  impl.termsAt.
-/
import Derived.Test.YtijmmagdkbnhdaaConMath
import Derived.Test.YtijmmagdkbnhdaaImplRest
import Derived.Deep.RegionHeld3
import Derived.Deep.DeepCutAuto
import Derived.Test.YtijmmagdkbnhdaaBaseMath
namespace Go.Proofs.Ytijmmagdkbnhdaa
open Go.RowKit

set_option linter.unusedVariables false in
set_option linter.unusedSimpArgs false in
set_option maxRecDepth 20000 in
set_option maxHeartbeats 4000000 in
theorem termsAt_any (p a1 a2 : Int)  (w : World) (hp : isP p = true) (ha1 : 0 ≤ a1 ∧ a1 ≤ 31) (ha2 : 0 ≤ a2 ∧ a2 ≤ 31) :
    Calls Try.prog 98 #[.int .i64 p, .agg #[.int .i64 a1, .int .i64 a2]] w fun e w' =>
      e = .returned (.agg #[.int .i64 (a1 * a1 % p), .int .i64 (a1 * a2 % p), .int .i64 (a2 * a2 % p), .int .i64 (a1), .int .i64 (a2), .int .i64 (1)]) ∧ Below w.heap.size w w' := by
  have hr := isP_range hp
  have mu_1 := mulNN 31 31 961 (by decide) (a := a1) (b := a1) (by omega) (by omega)
  have e_1 : IntKind.i64.wrap (a1 * a1) = a1 * a1 := wrapI _ (by omega)
  have d_2 := modR (a1 * a1) hp
  have t_2 : (a1 * a1).tmod p = (a1 * a1) % p := Int.tmod_eq_emod_of_nonneg (by omega)
  have hpos : p ≠ 0 := by omega
  have mu_2 := mulNN 31 31 961 (by decide) (a := a1) (b := a2) (by omega) (by omega)
  have e_3 : IntKind.i64.wrap (a1 * a2) = a1 * a2 := wrapI _ (by omega)
  have d_4 := modR (a1 * a2) hp
  have t_4 : (a1 * a2).tmod p = (a1 * a2) % p := Int.tmod_eq_emod_of_nonneg (by omega)
  have mu_3 := mulNN 31 31 961 (by decide) (a := a2) (b := a2) (by omega) (by omega)
  have e_5 : IntKind.i64.wrap (a2 * a2) = a2 * a2 := wrapI _ (by omega)
  have d_6 := modR (a2 * a2) hp
  have t_6 : (a2 * a2).tmod p = (a2 * a2) % p := Int.tmod_eq_emod_of_nonneg (by omega)
  go_enter Try.func98, Try.ntmps98
  go_wp2
  go_quiet (fail)
  go_wp2_with fail
  (refine region_tail 18 (by kernel_rfl) (by kernel_rfl) ?_; simp only [List.take_succ_cons, List.take_zero, List.drop_succ_cons, List.drop_zero]; repeat still_step)
  refine wpStill_nil ?_
  have HV := Lib.hid (show a1 * a1 % p = (a1 * a1) % p ∧ a1 * a2 % p = (a1 * a2) % p ∧ a2 * a2 % p = (a2 * a2) % p from by exact ⟨rfl, rfl, rfl⟩)
  go_wp2
  (refine bodyPost_ret (v := .agg #[.int .i64 (a1 * a1 % p), .int .i64 (a1 * a2 % p), .int .i64 (a2 * a2 % p), .int .i64 (a1), .int .i64 (a2), .int .i64 (1)]) (by simp [results, Try.results98, go_sem, HV.out.1, HV.out.2.1, HV.out.2.2, *]) rfl ⟨?_, ?_⟩)
  · rfl
  · (repeat (first | with_reducible exact Below.refl _ _ | with_reducible refine balloc ?_ _ | with_reducible refine bdrewN ?_ _ | with_reducible refine Below.drew ?_ | with_reducible refine bthen ?_ (by with_reducible assumption) | with_reducible refine Below.setCell ?_ (by first | (simp; done) | (simp; omega)) _))

end Go.Proofs.Ytijmmagdkbnhdaa
