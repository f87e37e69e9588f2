/-
  impl.determinant.
-/
import Derived.Test.YtmpgpmcmhbpjeaaImplRows
import Derived.Deep.RegionHeld3
import Derived.Deep.DeepCutAuto
import Derived.LoopN
import Derived.Test.YtmpgpmcmhbpjeaaBaseMath
namespace Go.Proofs.Ytmpgpmcmhbpjeaa
open Go.RowKit

theorem index_num0 (a b c : Int) (w : World) : (Instr.index 23 (.agg #[.int .i64 a, .int .i64 b, .int .i64 c]) (.int .i64 0)).run Try.prog w = .ok (.int .i64 a) w := by
  simp [Instr.index, asIntOf, part, isAgg, sizeOf, run_underlying (by kernel_rfl : Try.prog.underlying 23 = some (.array 3 2)), run_underlying (by kernel_rfl : Try.prog.underlying 2 = some (.int .i64)), go_sem]
theorem index_num1 (a b c : Int) (w : World) : (Instr.index 23 (.agg #[.int .i64 a, .int .i64 b, .int .i64 c]) (.int .i64 1)).run Try.prog w = .ok (.int .i64 b) w := by
  simp [Instr.index, asIntOf, part, isAgg, sizeOf, run_underlying (by kernel_rfl : Try.prog.underlying 23 = some (.array 3 2)), run_underlying (by kernel_rfl : Try.prog.underlying 2 = some (.int .i64)), go_sem]; rfl
theorem index_num2 (a b c : Int) (w : World) : (Instr.index 23 (.agg #[.int .i64 a, .int .i64 b, .int .i64 c]) (.int .i64 2)).run Try.prog w = .ok (.int .i64 c) w := by
  simp [Instr.index, asIntOf, part, isAgg, sizeOf, run_underlying (by kernel_rfl : Try.prog.underlying 23 = some (.array 3 2)), run_underlying (by kernel_rfl : Try.prog.underlying 2 = some (.int .i64)), go_sem]; rfl
set_option linter.unusedVariables false in
set_option linter.unusedSimpArgs false in
set_option maxRecDepth 20000 in
set_option maxHeartbeats 4000000 in
theorem implDtm_any (p k1 k2 k3 k4 k5 k6 : Int)  (w : World) (hp : isP p = true) (hk1 : 0 ≤ k1 ∧ k1 ≤ 31) (hk2 : 0 ≤ k2 ∧ k2 ≤ 31) (hk3 : 0 ≤ k3 ∧ k3 ≤ 31) (hk4 : 0 ≤ k4 ∧ k4 ≤ 31) (hk5 : 0 ≤ k5 ∧ k5 ≤ 31) (hk6 : 0 ≤ k6 ∧ k6 ≤ 31) :
    Calls Try.prog 39 #[.int .i64 p, .agg #[.int .i64 k1, .int .i64 k2, .int .i64 k3, .int .i64 k4, .int .i64 k5, .int .i64 k6]] w fun e w' =>
      e = .returned (.int .i64 (dtm p k1 k2 k3 k4 k5 k6)) ∧ Below w.heap.size w w' := by
  have hr := isP_range hp
  have hix0 := index_num0
  have hix1 := index_num1
  have hix2 := index_num2
  obtain ⟨v1, hv1⟩ : ∃ v : Int, v = 2 * k1 % p := ⟨_, rfl⟩
  have rv1 := modR (2 * k1) hp
  rw [← hv1] at rv1
  have Hv1 := Lib.hid hv1
  clear hv1
  obtain ⟨v2, hv2⟩ : ∃ v : Int, v = 2 * k3 % p := ⟨_, rfl⟩
  have rv2 := modR (2 * k3) hp
  rw [← hv2] at rv2
  have Hv2 := Lib.hid hv2
  clear hv2
  obtain ⟨v3, hv3⟩ : ∃ v : Int, v = 2 * k6 % p := ⟨_, rfl⟩
  have rv3 := modR (2 * k6) hp
  rw [← hv3] at rv3
  have Hv3 := Lib.hid hv3
  clear hv3
  have mu_1 := mulNN 30 30 900 (by decide) (a := v2) (b := v3) (by omega) (by omega)
  have e_1 : IntKind.i64.wrap (v2 * v3) = v2 * v3 := wrapI _ (by omega)
  have mu_2 := mulNN 31 31 961 (by decide) (a := k5) (b := k5) (by omega) (by omega)
  have e_2 : IntKind.i64.wrap (k5 * k5) = k5 * k5 := wrapI _ (by omega)
  have e_3 : IntKind.i64.wrap (v2 * v3 - (k5 * k5)) = v2 * v3 - (k5 * k5) := wrapI _ (by omega)
  have mu_3 := mulSS 30 961 28830 (by decide) (by decide) (a := v1) (b := v2 * v3 - (k5 * k5)) (by omega) (by omega)
  have e_4 : IntKind.i64.wrap (v1 * (v2 * v3 - (k5 * k5))) = v1 * (v2 * v3 - (k5 * k5)) := wrapI _ (by omega)
  have mu_4 := mulNN 31 31 961 (by decide) (a := k5) (b := k4) (by omega) (by omega)
  have e_5 : IntKind.i64.wrap (k5 * k4) = k5 * k4 := wrapI _ (by omega)
  have mu_5 := mulNN 31 30 930 (by decide) (a := k2) (b := v3) (by omega) (by omega)
  have e_6 : IntKind.i64.wrap (k2 * v3) = k2 * v3 := wrapI _ (by omega)
  have e_7 : IntKind.i64.wrap (k5 * k4 - (k2 * v3)) = k5 * k4 - (k2 * v3) := wrapI _ (by omega)
  have mu_6 := mulSS 31 961 29791 (by decide) (by decide) (a := k2) (b := k5 * k4 - (k2 * v3)) (by omega) (by omega)
  have e_8 : IntKind.i64.wrap (k2 * (k5 * k4 - (k2 * v3))) = k2 * (k5 * k4 - (k2 * v3)) := wrapI _ (by omega)
  have e_9 : IntKind.i64.wrap (v1 * (v2 * v3 - (k5 * k5)) + (k2 * (k5 * k4 - (k2 * v3)))) = v1 * (v2 * v3 - (k5 * k5)) + (k2 * (k5 * k4 - (k2 * v3))) := wrapI _ (by omega)
  have mu_7 := mulNN 31 31 961 (by decide) (a := k2) (b := k5) (by omega) (by omega)
  have e_10 : IntKind.i64.wrap (k2 * k5) = k2 * k5 := wrapI _ (by omega)
  have mu_8 := mulNN 30 31 930 (by decide) (a := v2) (b := k4) (by omega) (by omega)
  have e_11 : IntKind.i64.wrap (v2 * k4) = v2 * k4 := wrapI _ (by omega)
  have e_12 : IntKind.i64.wrap (k2 * k5 - (v2 * k4)) = k2 * k5 - (v2 * k4) := wrapI _ (by omega)
  have mu_9 := mulSS 31 961 29791 (by decide) (by decide) (a := k4) (b := k2 * k5 - (v2 * k4)) (by omega) (by omega)
  have e_13 : IntKind.i64.wrap (k4 * (k2 * k5 - (v2 * k4))) = k4 * (k2 * k5 - (v2 * k4)) := wrapI _ (by omega)
  have e_14 : IntKind.i64.wrap (v1 * (v2 * v3 - (k5 * k5)) + (k2 * (k5 * k4 - (k2 * v3))) + (k4 * (k2 * k5 - (v2 * k4)))) = v1 * (v2 * v3 - (k5 * k5)) + (k2 * (k5 * k4 - (k2 * v3))) + (k4 * (k2 * k5 - (v2 * k4))) := wrapI _ (by omega)
  obtain ⟨v4, hv4⟩ : ∃ v : Int, v = (v1 * (v2 * v3 - (k5 * k5)) + (k2 * (k5 * k4 - (k2 * v3))) + (k4 * (k2 * k5 - (v2 * k4)))) % p := ⟨_, rfl⟩
  have rv4 := modR (v1 * (v2 * v3 - (k5 * k5)) + (k2 * (k5 * k4 - (k2 * v3))) + (k4 * (k2 * k5 - (v2 * k4)))) hp
  rw [← hv4] at rv4
  have Hv4 := Lib.hid hv4
  clear hv4
  go_enter Try.func39, Try.ntmps39
  go_wp2_with fail
  refine Calls.mono (polarRows_any _ _ _ _ _ _ _ _ hp (by omega) (by omega) (by omega) (by omega) (by omega) (by omega)) ?_
  rw [← Hv1.out, ← Hv2.out, ← Hv3.out]
  rintro e w1 ⟨rfl, hB1⟩
  (obtain ⟨hB1c, hB1f⟩ := bcell hB1; have hB1s := hB1.size; (try simp at hB1s); (try have hB1q1 := Nat.lt_of_succ_le hB1s); (try have hB1q2 := Nat.lt_of_succ_lt hB1q1); (try have hB1q3 := Nat.lt_of_succ_lt hB1q2); (try have hB1zw0 : w.heap.size < w1.heap.size := (by omega)); (try have hB1zw1 : w.heap.size + 1 < w1.heap.size := (by omega)); (try have hB1zw2 : w.heap.size + 1 + 1 < w1.heap.size := (by omega)); (try have hB1zw3 : w.heap.size + 1 + 1 + 1 < w1.heap.size := (by omega)); (try have hB1zw4 : w.heap.size + 1 + 1 + 1 + 1 < w1.heap.size := (by omega)))
  go_wp2
  refine wp_loop_rounds 8 ?_
  rw [rounds_succ]
  go_wp2
  go_quiet (fail)
  go_wp2
  rw [rounds_succ]
  go_wp2
  go_quiet (fail)
  go_wp2
  rw [rounds_succ]
  go_wp2
  go_quiet (fail)
  go_wp2
  rw [rounds_succ]
  go_wp2_with fail
  refine Calls.mono (rest_any _ _ _ (by omega) (by omega) (by omega) (by omega)) ?_
  rw [← Hv4.out]
  rintro e w' ⟨rfl, rfl⟩
  have HV := Lib.hid (show dtm p k1 k2 k3 k4 k5 k6 = v4 from by
    rw [← dt_rows hp]; simp only [Hv4.out, Hv3.out, Hv2.out, Hv1.out, Int.zero_add])
  go_wp2
  (refine bodyPost_ret (v := .int .i64 (dtm p k1 k2 k3 k4 k5 k6)) (by simp [results, Try.results39, go_sem, HV.out, *]) rfl ⟨?_, ?_⟩)
  · rfl
  · (repeat (first | with_reducible exact Below.refl _ _ | with_reducible refine balloc ?_ _ | with_reducible refine bdrewN ?_ _ | with_reducible refine Below.drew ?_ | with_reducible refine bthen ?_ (by with_reducible assumption) | with_reducible refine Below.setCell ?_ (by first | (simp; done) | (simp; omega)) _))

end Go.Proofs.Ytmpgpmcmhbpjeaa
