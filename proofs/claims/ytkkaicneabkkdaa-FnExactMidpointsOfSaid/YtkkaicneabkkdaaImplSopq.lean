/-
  impl.sumOfProducts.
-/
import Derived.Test.YtkkaicneabkkdaaMgq0
import Derived.Deep.RegionHeld3
import Derived.Deep.DeepCutAuto
import Derived.LoopN

namespace Go.Proofs.Ytkkaicneabkkdaa
open Go.RowKit

set_option linter.unusedVariables false in
set_option linter.unusedSimpArgs false in
set_option maxRecDepth 20000 in
set_option maxHeartbeats 4000000 in
theorem sop3_any (p x1 x2 x3 y1 y2 y3 : Int) (b0 b1 : Nat)  (w : World) (hp : isP p = true) (hx1 : 0 ≤ x1 ∧ x1 ≤ 31) (hx2 : 0 ≤ x2 ∧ x2 ≤ 31) (hx3 : 0 ≤ x3 ∧ x3 ≤ 31) (hy1 : 0 ≤ y1 ∧ y1 ≤ 31) (hy2 : 0 ≤ y2 ∧ y2 ≤ 31) (hy3 : 0 ≤ y3 ∧ y3 ≤ 31) (kb0_0 : w.cell? ⟨b0, 0, none⟩ = some (.int .i64 x1)) (kb0_1 : w.cell? ⟨b0, 1, none⟩ = some (.int .i64 x2)) (kb0_2 : w.cell? ⟨b0, 2, none⟩ = some (.int .i64 x3)) (kb1_0 : w.cell? ⟨b1, 0, none⟩ = some (.int .i64 y1)) (kb1_1 : w.cell? ⟨b1, 1, none⟩ = some (.int .i64 y2)) (kb1_2 : w.cell? ⟨b1, 2, none⟩ = some (.int .i64 y3)) :
    Calls Try.prog 100 #[.int .i64 p, .slice (some ⟨b0, 0, none⟩) 3 3, .slice (some ⟨b1, 0, none⟩) 3 3] w fun e w' =>
      e = .returned (.int .i64 (sp3 p x1 x2 x3 y1 y2 y3)) ∧ Below w.heap.size w w' := by
  have hr := isP_range hp
  have lb0 := World.block_lt_of_cell? w ⟨b0, 0, none⟩ kb0_0
  simp only at lb0
  have lb1 := World.block_lt_of_cell? w ⟨b1, 0, none⟩ kb1_0
  simp only at lb1
  have mu_1 := mulNN 31 31 961 (by decide) (a := x1) (b := y1) (by omega) (by omega)
  have mu_2 := mulNN 31 31 961 (by decide) (a := x2) (b := y2) (by omega) (by omega)
  have mu_3 := mulNN 31 31 961 (by decide) (a := x3) (b := y3) (by omega) (by omega)
  obtain ⟨v1, hv1⟩ : ∃ v : Int, v = (x1 * y1 + (x2 * y2) + (x3 * y3)) % p := ⟨_, rfl⟩
  have rv1 := modR (x1 * y1 + (x2 * y2) + (x3 * y3)) hp
  rw [← hv1] at rv1
  have Hv1 := Lib.hid hv1
  clear hv1
  go_enter Try.func100, Try.ntmps100
  go_wp2
  refine wp_loop_rounds 8 ?_
  rw [rounds_succ]
  go_wp2
  rw [rounds_succ]
  go_wp2
  rw [rounds_succ]
  go_wp2
  rw [rounds_succ]
  go_wp2_with fail
  refine Calls.mono (rest_any _ _ _ (by omega) (by omega) (by omega) (by omega)) ?_
  rw [← Hv1.out]
  rintro e w' ⟨rfl, rfl⟩
  have HV := Lib.hid (show sp3 p x1 x2 x3 y1 y2 y3 = v1 from by
    try rw [Hv1.out]
    all_goals (rfl))
  go_wp2
  (refine bodyPost_ret (v := .int .i64 (sp3 p x1 x2 x3 y1 y2 y3)) (by simp [results, Try.results100, go_sem, HV.out, *]) rfl ⟨?_, ?_⟩)
  · rfl
  · (repeat (first | with_reducible exact Below.refl _ _ | with_reducible refine balloc ?_ _ | with_reducible refine bdrewN ?_ _ | with_reducible refine Below.drew ?_ | with_reducible refine bthen ?_ (by with_reducible assumption) | with_reducible refine Below.setCell ?_ (by first | (simp; done) | (simp; omega)) _))

set_option linter.unusedVariables false in
set_option linter.unusedSimpArgs false in
set_option maxRecDepth 20000 in
set_option maxHeartbeats 4000000 in
theorem sop6_any (p x1 x2 x3 x4 x5 x6 y1 y2 y3 y4 y5 y6 : Int) (b0 b1 : Nat)  (w : World) (hp : isP p = true) (hx1 : 0 ≤ x1 ∧ x1 ≤ 31) (hx2 : 0 ≤ x2 ∧ x2 ≤ 31) (hx3 : 0 ≤ x3 ∧ x3 ≤ 31) (hx4 : 0 ≤ x4 ∧ x4 ≤ 31) (hx5 : 0 ≤ x5 ∧ x5 ≤ 31) (hx6 : 0 ≤ x6 ∧ x6 ≤ 31) (hy1 : 0 ≤ y1 ∧ y1 ≤ 31) (hy2 : 0 ≤ y2 ∧ y2 ≤ 31) (hy3 : 0 ≤ y3 ∧ y3 ≤ 31) (hy4 : 0 ≤ y4 ∧ y4 ≤ 31) (hy5 : 0 ≤ y5 ∧ y5 ≤ 31) (hy6 : 0 ≤ y6 ∧ y6 ≤ 31) (kb0_0 : w.cell? ⟨b0, 0, none⟩ = some (.int .i64 x1)) (kb0_1 : w.cell? ⟨b0, 1, none⟩ = some (.int .i64 x2)) (kb0_2 : w.cell? ⟨b0, 2, none⟩ = some (.int .i64 x3)) (kb0_3 : w.cell? ⟨b0, 3, none⟩ = some (.int .i64 x4)) (kb0_4 : w.cell? ⟨b0, 4, none⟩ = some (.int .i64 x5)) (kb0_5 : w.cell? ⟨b0, 5, none⟩ = some (.int .i64 x6)) (kb1_0 : w.cell? ⟨b1, 0, none⟩ = some (.int .i64 y1)) (kb1_1 : w.cell? ⟨b1, 1, none⟩ = some (.int .i64 y2)) (kb1_2 : w.cell? ⟨b1, 2, none⟩ = some (.int .i64 y3)) (kb1_3 : w.cell? ⟨b1, 3, none⟩ = some (.int .i64 y4)) (kb1_4 : w.cell? ⟨b1, 4, none⟩ = some (.int .i64 y5)) (kb1_5 : w.cell? ⟨b1, 5, none⟩ = some (.int .i64 y6)) :
    Calls Try.prog 100 #[.int .i64 p, .slice (some ⟨b0, 0, none⟩) 6 6, .slice (some ⟨b1, 0, none⟩) 6 6] w fun e w' =>
      e = .returned (.int .i64 (sp6 p x1 x2 x3 x4 x5 x6 y1 y2 y3 y4 y5 y6)) ∧ Below w.heap.size w w' := by
  have hr := isP_range hp
  have lb0 := World.block_lt_of_cell? w ⟨b0, 0, none⟩ kb0_0
  simp only at lb0
  have lb1 := World.block_lt_of_cell? w ⟨b1, 0, none⟩ kb1_0
  simp only at lb1
  have mu_1 := mulNN 31 31 961 (by decide) (a := x1) (b := y1) (by omega) (by omega)
  have mu_2 := mulNN 31 31 961 (by decide) (a := x2) (b := y2) (by omega) (by omega)
  have mu_3 := mulNN 31 31 961 (by decide) (a := x3) (b := y3) (by omega) (by omega)
  have mu_4 := mulNN 31 31 961 (by decide) (a := x4) (b := y4) (by omega) (by omega)
  have mu_5 := mulNN 31 31 961 (by decide) (a := x5) (b := y5) (by omega) (by omega)
  have mu_6 := mulNN 31 31 961 (by decide) (a := x6) (b := y6) (by omega) (by omega)
  obtain ⟨v1, hv1⟩ : ∃ v : Int, v = (x1 * y1 + (x2 * y2) + (x3 * y3) + (x4 * y4) + (x5 * y5) + (x6 * y6)) % p := ⟨_, rfl⟩
  have rv1 := modR (x1 * y1 + (x2 * y2) + (x3 * y3) + (x4 * y4) + (x5 * y5) + (x6 * y6)) hp
  rw [← hv1] at rv1
  have Hv1 := Lib.hid hv1
  clear hv1
  go_enter Try.func100, Try.ntmps100
  go_wp2
  refine wp_loop_rounds 8 ?_
  rw [rounds_succ]
  go_wp2
  rw [rounds_succ]
  go_wp2
  rw [rounds_succ]
  go_wp2
  rw [rounds_succ]
  go_wp2
  rw [rounds_succ]
  go_wp2
  rw [rounds_succ]
  go_wp2
  rw [rounds_succ]
  go_wp2_with fail
  refine Calls.mono (rest_any _ _ _ (by omega) (by omega) (by omega) (by omega)) ?_
  rw [← Hv1.out]
  rintro e w' ⟨rfl, rfl⟩
  have HV := Lib.hid (show sp6 p x1 x2 x3 x4 x5 x6 y1 y2 y3 y4 y5 y6 = v1 from by
    try rw [Hv1.out]
    all_goals (rfl))
  go_wp2
  (refine bodyPost_ret (v := .int .i64 (sp6 p x1 x2 x3 x4 x5 x6 y1 y2 y3 y4 y5 y6)) (by simp [results, Try.results100, go_sem, HV.out, *]) rfl ⟨?_, ?_⟩)
  · rfl
  · (repeat (first | with_reducible exact Below.refl _ _ | with_reducible refine balloc ?_ _ | with_reducible refine bdrewN ?_ _ | with_reducible refine Below.drew ?_ | with_reducible refine bthen ?_ (by with_reducible assumption) | with_reducible refine Below.setCell ?_ (by first | (simp; done) | (simp; omega)) _))

end Go.Proofs.Ytkkaicneabkkdaa
