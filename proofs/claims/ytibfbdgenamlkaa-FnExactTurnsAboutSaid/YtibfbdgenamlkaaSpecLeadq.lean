/-
  spec.l07Lead.
-/
import Derived.Test.YtibfbdgenamlkaaMgq0
import Derived.Test.YtibfbdgenamlkaaModq
import Derived.Deep.RegionHeld3
import Derived.Deep.DeepCutAuto

namespace Go.Proofs.Ytibfbdgenamlkaa
open Go.RowKit

set_option linter.unusedVariables false in
set_option linter.unusedSimpArgs false in
set_option maxRecDepth 20000 in
set_option maxHeartbeats 4000000 in
theorem specLead_any (p m1 m2 m3 m4 m5 m6 a1 a2 : Int)  (w : World) (hp : isP p = true) (hm1 : 0 ≤ m1 ∧ m1 ≤ 31) (hm2 : 0 ≤ m2 ∧ m2 ≤ 31) (hm3 : 0 ≤ m3 ∧ m3 ≤ 31) (hm4 : 0 ≤ m4 ∧ m4 ≤ 31) (hm5 : 0 ≤ m5 ∧ m5 ≤ 31) (hm6 : 0 ≤ m6 ∧ m6 ≤ 31) (ha1 : 0 ≤ a1 ∧ a1 ≤ 31) (ha2 : 0 ≤ a2 ∧ a2 ≤ 31) :
    Calls Try.prog 59 #[.int .i64 p, .agg #[.int .i64 m1, .int .i64 m2, .int .i64 m3, .int .i64 m4, .int .i64 m5, .int .i64 m6], .agg #[.int .i64 a1, .int .i64 a2]] w fun e w' =>
      e = .returned (.agg #[.int .i64 (ld p m1 m2 a1 a2), .int .i64 (ld p m3 m4 a1 a2)]) ∧ Below w.heap.size w w' := by
  have hr := isP_range hp
  have mu_1 := mulNN 31 31 961 (by decide) (a := m1) (b := a1) (by omega) (by omega)
  have e_1 : IntKind.i64.wrap (m1 * a1) = m1 * a1 := wrapI _ (by omega)
  have mu_2 := mulNN 31 31 961 (by decide) (a := m2) (b := a2) (by omega) (by omega)
  have e_2 : IntKind.i64.wrap (m2 * a2) = m2 * a2 := wrapI _ (by omega)
  have e_3 : IntKind.i64.wrap (m1 * a1 + (m2 * a2)) = m1 * a1 + (m2 * a2) := wrapI _ (by omega)
  have d_4 := modR (m1 * a1 + (m2 * a2)) hp
  have mu_3 := mulNN 31 31 961 (by decide) (a := m3) (b := a1) (by omega) (by omega)
  have e_5 : IntKind.i64.wrap (m3 * a1) = m3 * a1 := wrapI _ (by omega)
  have mu_4 := mulNN 31 31 961 (by decide) (a := m4) (b := a2) (by omega) (by omega)
  have e_6 : IntKind.i64.wrap (m4 * a2) = m4 * a2 := wrapI _ (by omega)
  have e_7 : IntKind.i64.wrap (m3 * a1 + (m4 * a2)) = m3 * a1 + (m4 * a2) := wrapI _ (by omega)
  have d_8 := modR (m3 * a1 + (m4 * a2)) hp
  go_enter Try.func59, Try.ntmps59
  go_wp2_with fail
  (refine region_tail 31 (by kernel_rfl) (by kernel_rfl) ?_; simp only [List.take_succ_cons, List.take_zero, List.drop_succ_cons, List.drop_zero]; repeat still_step)
  (still_call (stillOf (mod_any _ _ _ (by omega) (by omega) (by omega) (by omega))); repeat still_step)
  (still_call (stillOf (mod_any _ _ _ (by omega) (by omega) (by omega) (by omega))); repeat still_step)
  refine wpStill_nil ?_
  have HV := Lib.hid (show ld p m1 m2 a1 a2 = ((m1 * a1 + (m2 * a2)) % p) ∧ ld p m3 m4 a1 a2 = ((m3 * a1 + (m4 * a2)) % p) from by
    all_goals (exact ⟨rfl, rfl⟩))
  go_wp2
  (refine bodyPost_ret (v := .agg #[.int .i64 (ld p m1 m2 a1 a2), .int .i64 (ld p m3 m4 a1 a2)]) (by simp [results, Try.results59, go_sem, HV.out.1, HV.out.2, *]) rfl ⟨?_, ?_⟩)
  · rfl
  · (repeat (first | with_reducible exact Below.refl _ _ | with_reducible refine balloc ?_ _ | with_reducible refine bdrewN ?_ _ | with_reducible refine Below.drew ?_ | with_reducible refine bthen ?_ (by with_reducible assumption) | with_reducible refine Below.setCell ?_ (by first | (simp; done) | (simp; omega)) _))

end Go.Proofs.Ytibfbdgenamlkaa
