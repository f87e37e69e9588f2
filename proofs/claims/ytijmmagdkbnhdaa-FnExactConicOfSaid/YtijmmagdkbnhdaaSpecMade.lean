/-
  spec.l08Made.
-/
import Derived.Test.YtijmmagdkbnhdaaConMath
import Derived.Test.YtijmmagdkbnhdaaInv
import Derived.Test.YtijmmagdkbnhdaaMod
import Derived.Test.YtijmmagdkbnhdaaLast
import Derived.Deep.RegionHeld3
import Derived.Deep.DeepCutAuto
import Derived.LoopN
import Derived.Test.YtijmmagdkbnhdaaBaseMath
namespace Go.Proofs.Ytijmmagdkbnhdaa
open Go.RowKit

set_option linter.unusedVariables false in
set_option linter.unusedSimpArgs false in
set_option maxRecDepth 20000 in
set_option maxHeartbeats 4000000 in
theorem specMade_any (p x1 x2 x3 x4 x5 x6 : Int) (b0 : Nat)  (w : World) (hp : isP p = true) (hx1 : 0 ≤ x1 ∧ x1 < p) (hx2 : 0 ≤ x2 ∧ x2 < p) (hx3 : 0 ≤ x3 ∧ x3 < p) (hx4 : 0 ≤ x4 ∧ x4 < p) (hx5 : 0 ≤ x5 ∧ x5 < p) (hx6 : 0 ≤ x6 ∧ x6 < p) (kb0_0 : w.cell? ⟨b0, 0, none⟩ = some (.int .i64 x1)) (kb0_1 : w.cell? ⟨b0, 1, none⟩ = some (.int .i64 x2)) (kb0_2 : w.cell? ⟨b0, 2, none⟩ = some (.int .i64 x3)) (kb0_3 : w.cell? ⟨b0, 3, none⟩ = some (.int .i64 x4)) (kb0_4 : w.cell? ⟨b0, 4, none⟩ = some (.int .i64 x5)) (kb0_5 : w.cell? ⟨b0, 5, none⟩ = some (.int .i64 x6)) :
    Calls Try.prog 68 #[.int .i64 p, .slice (some ⟨b0, 0, none⟩) 6 6] w fun e w' =>
      e = .returned (.tuple #[.agg #[.int .i64 (ck p x1 x2 x3 x1), .int .i64 (ck p x1 x2 x3 x2), .int .i64 (ck p x1 x2 x3 x3), .int .i64 (ck p x1 x2 x3 x4), .int .i64 (ck p x1 x2 x3 x5), .int .i64 (ck p x1 x2 x3 x6)], .bool (!(ld3 x1 x2 x3 == 0))]) ∧ Below w.heap.size w w' := by
  have hr := isP_range hp
  have lb0 := World.block_lt_of_cell? w ⟨b0, 0, none⟩ kb0_0
  simp only at lb0
  obtain ⟨v1, hv1⟩ : ∃ v : Int, v = x1 % p := ⟨_, rfl⟩
  have rv1 := modR x1 hp
  rw [← hv1] at rv1
  have Hv1 := Lib.hid hv1
  clear hv1
  go_enter Try.func68, Try.ntmps68
  go_upto_region 0 with fail
  go_cut [4, 5] (fun s4 s5 wx => s4 = .pointer (some ⟨w.heap.size, 0, none⟩) ∧ s5 = .bool false ∧ wx.cell? ⟨w.heap.size, 0, none⟩ = some (.int .i64 0) ∧ wx.cell? ⟨w.heap.size, 1, none⟩ = some (.int .i64 0) ∧ wx.cell? ⟨w.heap.size, 2, none⟩ = some (.int .i64 0) ∧ wx.cell? ⟨w.heap.size, 3, none⟩ = some (.int .i64 0) ∧ wx.cell? ⟨w.heap.size, 4, none⟩ = some (.int .i64 0) ∧ wx.cell? ⟨w.heap.size, 5, none⟩ = some (.int .i64 0) ∧ wx.frozen? ⟨w.heap.size, 0, none⟩ = false ∧ wx.frozen? ⟨w.heap.size, 1, none⟩ = false ∧ wx.frozen? ⟨w.heap.size, 2, none⟩ = false ∧ wx.frozen? ⟨w.heap.size, 3, none⟩ = false ∧ wx.frozen? ⟨w.heap.size, 4, none⟩ = false ∧ wx.frozen? ⟨w.heap.size, 5, none⟩ = false ∧ Below w.heap.size w wx ∧ w.heap.size + 1 ≤ wx.heap.size)
  case first =>
    go_wp2
    go_meet
    refine ⟨rfl, rfl, ?_, ?_, ?_, ?_, ?_, ?_, ?_, ?_, ?_, ?_, ?_, ?_, ?_, ?_⟩
    · (repeat (first | with_reducible assumption | ((with_reducible refine kfresh ?_ ?_) <;> (first | with_reducible rfl | (simp; done))) | ((with_reducible refine ksameS ?_); focus ((repeat (first | with_reducible exact kis_of (by with_reducible assumption) | with_reducible refine kis_set ?_ | ((with_reducible refine kis_new ?_ ?_) <;> (first | with_reducible rfl | rfl | (simp; done))) | with_reducible refine kis_alloc _ ?_ | with_reducible refine kis_drew ?_ | with_reducible refine kis_call (by with_reducible assumption) ?_ | with_reducible exact kis_of (kcall (by with_reducible assumption) (by with_reducible assumption)))); done)) | with_reducible refine kother (by decide) ?_ | with_reducible refine kset (by first | omega | (simp; done) | (simp; omega)) ?_ | with_reducible refine kalloc _ ?_ | with_reducible refine kdrew ?_ | with_reducible refine kdrewN ?_ | with_reducible refine kcall (by with_reducible assumption) ?_))
    · (repeat (first | with_reducible assumption | ((with_reducible refine kfresh ?_ ?_) <;> (first | with_reducible rfl | (simp; done))) | ((with_reducible refine ksameS ?_); focus ((repeat (first | with_reducible exact kis_of (by with_reducible assumption) | with_reducible refine kis_set ?_ | ((with_reducible refine kis_new ?_ ?_) <;> (first | with_reducible rfl | rfl | (simp; done))) | with_reducible refine kis_alloc _ ?_ | with_reducible refine kis_drew ?_ | with_reducible refine kis_call (by with_reducible assumption) ?_ | with_reducible exact kis_of (kcall (by with_reducible assumption) (by with_reducible assumption)))); done)) | with_reducible refine kother (by decide) ?_ | with_reducible refine kset (by first | omega | (simp; done) | (simp; omega)) ?_ | with_reducible refine kalloc _ ?_ | with_reducible refine kdrew ?_ | with_reducible refine kdrewN ?_ | with_reducible refine kcall (by with_reducible assumption) ?_))
    · (repeat (first | with_reducible assumption | ((with_reducible refine kfresh ?_ ?_) <;> (first | with_reducible rfl | (simp; done))) | ((with_reducible refine ksameS ?_); focus ((repeat (first | with_reducible exact kis_of (by with_reducible assumption) | with_reducible refine kis_set ?_ | ((with_reducible refine kis_new ?_ ?_) <;> (first | with_reducible rfl | rfl | (simp; done))) | with_reducible refine kis_alloc _ ?_ | with_reducible refine kis_drew ?_ | with_reducible refine kis_call (by with_reducible assumption) ?_ | with_reducible exact kis_of (kcall (by with_reducible assumption) (by with_reducible assumption)))); done)) | with_reducible refine kother (by decide) ?_ | with_reducible refine kset (by first | omega | (simp; done) | (simp; omega)) ?_ | with_reducible refine kalloc _ ?_ | with_reducible refine kdrew ?_ | with_reducible refine kdrewN ?_ | with_reducible refine kcall (by with_reducible assumption) ?_))
    · (repeat (first | with_reducible assumption | ((with_reducible refine kfresh ?_ ?_) <;> (first | with_reducible rfl | (simp; done))) | ((with_reducible refine ksameS ?_); focus ((repeat (first | with_reducible exact kis_of (by with_reducible assumption) | with_reducible refine kis_set ?_ | ((with_reducible refine kis_new ?_ ?_) <;> (first | with_reducible rfl | rfl | (simp; done))) | with_reducible refine kis_alloc _ ?_ | with_reducible refine kis_drew ?_ | with_reducible refine kis_call (by with_reducible assumption) ?_ | with_reducible exact kis_of (kcall (by with_reducible assumption) (by with_reducible assumption)))); done)) | with_reducible refine kother (by decide) ?_ | with_reducible refine kset (by first | omega | (simp; done) | (simp; omega)) ?_ | with_reducible refine kalloc _ ?_ | with_reducible refine kdrew ?_ | with_reducible refine kdrewN ?_ | with_reducible refine kcall (by with_reducible assumption) ?_))
    · (repeat (first | with_reducible assumption | ((with_reducible refine kfresh ?_ ?_) <;> (first | with_reducible rfl | (simp; done))) | ((with_reducible refine ksameS ?_); focus ((repeat (first | with_reducible exact kis_of (by with_reducible assumption) | with_reducible refine kis_set ?_ | ((with_reducible refine kis_new ?_ ?_) <;> (first | with_reducible rfl | rfl | (simp; done))) | with_reducible refine kis_alloc _ ?_ | with_reducible refine kis_drew ?_ | with_reducible refine kis_call (by with_reducible assumption) ?_ | with_reducible exact kis_of (kcall (by with_reducible assumption) (by with_reducible assumption)))); done)) | with_reducible refine kother (by decide) ?_ | with_reducible refine kset (by first | omega | (simp; done) | (simp; omega)) ?_ | with_reducible refine kalloc _ ?_ | with_reducible refine kdrew ?_ | with_reducible refine kdrewN ?_ | with_reducible refine kcall (by with_reducible assumption) ?_))
    · (repeat (first | with_reducible assumption | ((with_reducible refine kfresh ?_ ?_) <;> (first | with_reducible rfl | (simp; done))) | ((with_reducible refine ksameS ?_); focus ((repeat (first | with_reducible exact kis_of (by with_reducible assumption) | with_reducible refine kis_set ?_ | ((with_reducible refine kis_new ?_ ?_) <;> (first | with_reducible rfl | rfl | (simp; done))) | with_reducible refine kis_alloc _ ?_ | with_reducible refine kis_drew ?_ | with_reducible refine kis_call (by with_reducible assumption) ?_ | with_reducible exact kis_of (kcall (by with_reducible assumption) (by with_reducible assumption)))); done)) | with_reducible refine kother (by decide) ?_ | with_reducible refine kset (by first | omega | (simp; done) | (simp; omega)) ?_ | with_reducible refine kalloc _ ?_ | with_reducible refine kdrew ?_ | with_reducible refine kdrewN ?_ | with_reducible refine kcall (by with_reducible assumption) ?_))
    · (repeat (first | with_reducible assumption | with_reducible refine fdrew ?_ | with_reducible refine fdrewN ?_ | with_reducible refine fset ?_ | ((with_reducible refine fallocNew ?_) <;> (first | with_reducible rfl | (simp; done))) | ((with_reducible refine kfro (by with_reducible assumption) ?_ ?_); focus (first | with_reducible assumption | omega | (simp; done) | (simp; omega))) | ((with_reducible refine falloc ?_ ?_); focus (first | with_reducible assumption | omega | (simp; done) | (simp; omega)))))
    · (repeat (first | with_reducible assumption | with_reducible refine fdrew ?_ | with_reducible refine fdrewN ?_ | with_reducible refine fset ?_ | ((with_reducible refine fallocNew ?_) <;> (first | with_reducible rfl | (simp; done))) | ((with_reducible refine kfro (by with_reducible assumption) ?_ ?_); focus (first | with_reducible assumption | omega | (simp; done) | (simp; omega))) | ((with_reducible refine falloc ?_ ?_); focus (first | with_reducible assumption | omega | (simp; done) | (simp; omega)))))
    · (repeat (first | with_reducible assumption | with_reducible refine fdrew ?_ | with_reducible refine fdrewN ?_ | with_reducible refine fset ?_ | ((with_reducible refine fallocNew ?_) <;> (first | with_reducible rfl | (simp; done))) | ((with_reducible refine kfro (by with_reducible assumption) ?_ ?_); focus (first | with_reducible assumption | omega | (simp; done) | (simp; omega))) | ((with_reducible refine falloc ?_ ?_); focus (first | with_reducible assumption | omega | (simp; done) | (simp; omega)))))
    · (repeat (first | with_reducible assumption | with_reducible refine fdrew ?_ | with_reducible refine fdrewN ?_ | with_reducible refine fset ?_ | ((with_reducible refine fallocNew ?_) <;> (first | with_reducible rfl | (simp; done))) | ((with_reducible refine kfro (by with_reducible assumption) ?_ ?_); focus (first | with_reducible assumption | omega | (simp; done) | (simp; omega))) | ((with_reducible refine falloc ?_ ?_); focus (first | with_reducible assumption | omega | (simp; done) | (simp; omega)))))
    · (repeat (first | with_reducible assumption | with_reducible refine fdrew ?_ | with_reducible refine fdrewN ?_ | with_reducible refine fset ?_ | ((with_reducible refine fallocNew ?_) <;> (first | with_reducible rfl | (simp; done))) | ((with_reducible refine kfro (by with_reducible assumption) ?_ ?_); focus (first | with_reducible assumption | omega | (simp; done) | (simp; omega))) | ((with_reducible refine falloc ?_ ?_); focus (first | with_reducible assumption | omega | (simp; done) | (simp; omega)))))
    · (repeat (first | with_reducible assumption | with_reducible refine fdrew ?_ | with_reducible refine fdrewN ?_ | with_reducible refine fset ?_ | ((with_reducible refine fallocNew ?_) <;> (first | with_reducible rfl | (simp; done))) | ((with_reducible refine kfro (by with_reducible assumption) ?_ ?_); focus (first | with_reducible assumption | omega | (simp; done) | (simp; omega))) | ((with_reducible refine falloc ?_ ?_); focus (first | with_reducible assumption | omega | (simp; done) | (simp; omega)))))
    · (repeat (first | with_reducible exact Below.refl _ _ | with_reducible refine balloc ?_ _ | with_reducible refine bdrewN ?_ _ | with_reducible refine Below.drew ?_ | with_reducible refine bthen ?_ (by with_reducible assumption) | with_reducible refine Below.setCell ?_ (by first | (simp; done) | (simp; omega)) _))
    · (first | omega | (simp; done) | (simp; omega))
  case' rest => obtain ⟨rfl, rfl, cO0, cO1, cO2, cO3, cO4, cO5, fO0, fO1, fO2, fO3, fO4, fO5, hxO, hsO⟩ := hcut
  obtain ⟨wO, rfl⟩ : ∃ wO : World, wO = wc := ⟨_, rfl⟩
  have lO0 : w.heap.size < wO.heap.size := by omega
  have xO_b0_0 := kcall hxO kb0_0
  have xO_b0_1 := kcall hxO kb0_1
  have xO_b0_2 := kcall hxO kb0_2
  have xO_b0_3 := kcall hxO kb0_3
  have xO_b0_4 := kcall hxO kb0_4
  have xO_b0_5 := kcall hxO kb0_5
  have lxO_b0 : b0 < wO.heap.size := by have := hxO.size; omega
  go_upto_region 2 with fail
  refine wp_name (fun wR1 hwR1 => ?_)
  have sR1 : wO.heap.size + 1 ≤ wR1.heap.size := by rw [hwR1]; (first | exact Nat.le_refl _ | (simp; done) | (simp; omega))
  have hxR1 : Below w.heap.size w wR1 := by rw [hwR1]; (repeat (first | with_reducible exact Below.refl _ _ | with_reducible exact hxO | with_reducible refine balloc ?_ _ | with_reducible refine bdrewN ?_ _ | with_reducible refine Below.drew ?_ | with_reducible refine bthen ?_ (by with_reducible assumption) | with_reducible refine Below.setCell ?_ (by first | (simp; done) | (simp; omega)) _))
  have kR1_0_0 : wR1.cell? ⟨w.heap.size, 0, none⟩ = some (.int .i64 0) := by rw [hwR1]; with_reducible exact (kalloc _ cO0)
  have kR1_0_1 : wR1.cell? ⟨w.heap.size, 1, none⟩ = some (.int .i64 0) := by rw [hwR1]; with_reducible exact (kalloc _ cO1)
  have kR1_0_2 : wR1.cell? ⟨w.heap.size, 2, none⟩ = some (.int .i64 0) := by rw [hwR1]; with_reducible exact (kalloc _ cO2)
  have kR1_0_3 : wR1.cell? ⟨w.heap.size, 3, none⟩ = some (.int .i64 0) := by rw [hwR1]; with_reducible exact (kalloc _ cO3)
  have kR1_0_4 : wR1.cell? ⟨w.heap.size, 4, none⟩ = some (.int .i64 0) := by rw [hwR1]; with_reducible exact (kalloc _ cO4)
  have kR1_0_5 : wR1.cell? ⟨w.heap.size, 5, none⟩ = some (.int .i64 0) := by rw [hwR1]; with_reducible exact (kalloc _ cO5)
  have fR1_0_0 : wR1.frozen? ⟨w.heap.size, 0, none⟩ = false := by rw [hwR1]; with_reducible exact (falloc (by first | omega | (simp; omega)) fO0)
  have fR1_0_1 : wR1.frozen? ⟨w.heap.size, 1, none⟩ = false := by rw [hwR1]; with_reducible exact (falloc (by first | omega | (simp; omega)) fO1)
  have fR1_0_2 : wR1.frozen? ⟨w.heap.size, 2, none⟩ = false := by rw [hwR1]; with_reducible exact (falloc (by first | omega | (simp; omega)) fO2)
  have fR1_0_3 : wR1.frozen? ⟨w.heap.size, 3, none⟩ = false := by rw [hwR1]; with_reducible exact (falloc (by first | omega | (simp; omega)) fO3)
  have fR1_0_4 : wR1.frozen? ⟨w.heap.size, 4, none⟩ = false := by rw [hwR1]; with_reducible exact (falloc (by first | omega | (simp; omega)) fO4)
  have fR1_0_5 : wR1.frozen? ⟨w.heap.size, 5, none⟩ = false := by rw [hwR1]; with_reducible exact (falloc (by first | omega | (simp; omega)) fO5)
  have lR1_0 : w.heap.size < wR1.heap.size := by omega
  have kR1_1_0 : wR1.cell? ⟨wO.heap.size, 0, none⟩ = some (.int .i64 0) := by rw [hwR1]; with_reducible exact (kfresh (by first | rfl | simp) rfl)
  have kR1_1_1 : wR1.cell? ⟨wO.heap.size, 1, none⟩ = some (.int .i64 0) := by rw [hwR1]; with_reducible exact (kfresh (by first | rfl | simp) rfl)
  have kR1_1_2 : wR1.cell? ⟨wO.heap.size, 2, none⟩ = some (.int .i64 0) := by rw [hwR1]; with_reducible exact (kfresh (by first | rfl | simp) rfl)
  have kR1_1_3 : wR1.cell? ⟨wO.heap.size, 3, none⟩ = some (.int .i64 0) := by rw [hwR1]; with_reducible exact (kfresh (by first | rfl | simp) rfl)
  have kR1_1_4 : wR1.cell? ⟨wO.heap.size, 4, none⟩ = some (.int .i64 0) := by rw [hwR1]; with_reducible exact (kfresh (by first | rfl | simp) rfl)
  have kR1_1_5 : wR1.cell? ⟨wO.heap.size, 5, none⟩ = some (.int .i64 0) := by rw [hwR1]; with_reducible exact (kfresh (by first | rfl | simp) rfl)
  have fR1_1_0 : wR1.frozen? ⟨wO.heap.size, 0, none⟩ = false := by rw [hwR1]; with_reducible exact (fallocNew (by first | rfl | simp))
  have fR1_1_1 : wR1.frozen? ⟨wO.heap.size, 1, none⟩ = false := by rw [hwR1]; with_reducible exact (fallocNew (by first | rfl | simp))
  have fR1_1_2 : wR1.frozen? ⟨wO.heap.size, 2, none⟩ = false := by rw [hwR1]; with_reducible exact (fallocNew (by first | rfl | simp))
  have fR1_1_3 : wR1.frozen? ⟨wO.heap.size, 3, none⟩ = false := by rw [hwR1]; with_reducible exact (fallocNew (by first | rfl | simp))
  have fR1_1_4 : wR1.frozen? ⟨wO.heap.size, 4, none⟩ = false := by rw [hwR1]; with_reducible exact (fallocNew (by first | rfl | simp))
  have fR1_1_5 : wR1.frozen? ⟨wO.heap.size, 5, none⟩ = false := by rw [hwR1]; with_reducible exact (fallocNew (by first | rfl | simp))
  have lR1_1 : wO.heap.size < wR1.heap.size := by omega
  clear cO0 cO1 cO2 cO3 cO4 cO5 fO0 fO1 fO2 fO3 fO4 fO5
  have xR1_b0_0 := kcall hxR1 kb0_0
  have xR1_b0_1 := kcall hxR1 kb0_1
  have xR1_b0_2 := kcall hxR1 kb0_2
  have xR1_b0_3 := kcall hxR1 kb0_3
  have xR1_b0_4 := kcall hxR1 kb0_4
  have xR1_b0_5 := kcall hxR1 kb0_5
  have lxR1_b0 : b0 < wR1.heap.size := by have := hxR1.size; omega
  clear hwR1
  go_wp2
  refine wp_loop_rounds 8 ?_
  rw [rounds_succ]
  go_wp2_with fail
  refine Calls.mono (mod_any _ _ _ (by omega) (by omega) (by omega) (by omega)) ?_
  rw [← Hv1.out]
  rintro e w' ⟨rfl, rfl⟩
  go_wp2
  rw [rounds_succ]
  rcases bool_ways (v1 == 0) with hd1 | hd1
  · have hd1n : (v1 != 0) = true := by rw [bne, hd1]; rfl
    have Hhd1p := Lib.hid (beq_eq_false_iff_ne.1 hd1)
    obtain ⟨v2, hv2⟩ : ∃ v : Int, v = inv p v1 := ⟨_, rfl⟩
    have rv2 := inv_range v1 hp
    rw [← hv2] at rv2
    have Hv2 := Lib.hid hv2
    clear hv2
    have d_1 := modR (x1) hp
    have hpos : p ≠ 0 := by omega
    have mu_1 := mulNN 30 30 900 (by decide) (a := x1 % p) (b := v2) (by omega) (by omega)
    obtain ⟨v3, hv3⟩ : ∃ v : Int, v = ((x1 % p) * v2) % p := ⟨_, rfl⟩
    have rv3 := modR ((x1 % p) * v2) hp
    rw [← hv3] at rv3
    have Hv3 := Lib.hid hv3
    clear hv3
    have d_2 := modR (x2) hp
    have mu_2 := mulNN 30 30 900 (by decide) (a := x2 % p) (b := v2) (by omega) (by omega)
    obtain ⟨v4, hv4⟩ : ∃ v : Int, v = ((x2 % p) * v2) % p := ⟨_, rfl⟩
    have rv4 := modR ((x2 % p) * v2) hp
    rw [← hv4] at rv4
    have Hv4 := Lib.hid hv4
    clear hv4
    have d_3 := modR (x3) hp
    have mu_3 := mulNN 30 30 900 (by decide) (a := x3 % p) (b := v2) (by omega) (by omega)
    obtain ⟨v5, hv5⟩ : ∃ v : Int, v = ((x3 % p) * v2) % p := ⟨_, rfl⟩
    have rv5 := modR ((x3 % p) * v2) hp
    rw [← hv5] at rv5
    have Hv5 := Lib.hid hv5
    clear hv5
    have d_4 := modR (x4) hp
    have mu_4 := mulNN 30 30 900 (by decide) (a := x4 % p) (b := v2) (by omega) (by omega)
    obtain ⟨v6, hv6⟩ : ∃ v : Int, v = ((x4 % p) * v2) % p := ⟨_, rfl⟩
    have rv6 := modR ((x4 % p) * v2) hp
    rw [← hv6] at rv6
    have Hv6 := Lib.hid hv6
    clear hv6
    have d_5 := modR (x5) hp
    have mu_5 := mulNN 30 30 900 (by decide) (a := x5 % p) (b := v2) (by omega) (by omega)
    obtain ⟨v7, hv7⟩ : ∃ v : Int, v = ((x5 % p) * v2) % p := ⟨_, rfl⟩
    have rv7 := modR ((x5 % p) * v2) hp
    rw [← hv7] at rv7
    have Hv7 := Lib.hid hv7
    clear hv7
    have d_6 := modR (x6) hp
    have mu_6 := mulNN 30 30 900 (by decide) (a := x6 % p) (b := v2) (by omega) (by omega)
    obtain ⟨v8, hv8⟩ : ∃ v : Int, v = ((x6 % p) * v2) % p := ⟨_, rfl⟩
    have rv8 := modR ((x6 % p) * v2) hp
    rw [← hv8] at rv8
    have Hv8 := Lib.hid hv8
    clear hv8
    go_wp2_with fail
    refine Calls.mono (inverse_any _ _ _ hp (by omega) (by omega)) ?_
    rw [← Hv2.out]
    rintro e w' ⟨rfl, rfl⟩
    go_wp2
    refine wp_loop_rounds 8 ?_
    rw [rounds_succ]
    go_wp2_with fail
    refine Calls.mono (mod_any _ _ _ (by omega) (by omega) (by omega) (by omega)) ?_
    rw [← Hv3.out]
    rintro e w' ⟨rfl, rfl⟩
    go_upto_region 11 with fail
    refine wp_name (fun wR2 hwR2 => ?_)
    have sR2 : wR1.heap.size ≤ wR2.heap.size := by rw [hwR2]; (first | exact Nat.le_refl _ | (simp; done) | (simp; omega))
    have hxR2 : Below w.heap.size w wR2 := by rw [hwR2]; (repeat (first | with_reducible exact Below.refl _ _ | with_reducible exact hxR1 | with_reducible refine balloc ?_ _ | with_reducible refine bdrewN ?_ _ | with_reducible refine Below.drew ?_ | with_reducible refine bthen ?_ (by with_reducible assumption) | with_reducible refine Below.setCell ?_ (by first | (simp; done) | (simp; omega)) _))
    have kR2_0_0 : wR2.cell? ⟨w.heap.size, 0, none⟩ = some (.int .i64 0) := by rw [hwR2]; with_reducible exact (kset (by omega) kR1_0_0)
    have kR2_0_1 : wR2.cell? ⟨w.heap.size, 1, none⟩ = some (.int .i64 0) := by rw [hwR2]; with_reducible exact (kset (by omega) kR1_0_1)
    have kR2_0_2 : wR2.cell? ⟨w.heap.size, 2, none⟩ = some (.int .i64 0) := by rw [hwR2]; with_reducible exact (kset (by omega) kR1_0_2)
    have kR2_0_3 : wR2.cell? ⟨w.heap.size, 3, none⟩ = some (.int .i64 0) := by rw [hwR2]; with_reducible exact (kset (by omega) kR1_0_3)
    have kR2_0_4 : wR2.cell? ⟨w.heap.size, 4, none⟩ = some (.int .i64 0) := by rw [hwR2]; with_reducible exact (kset (by omega) kR1_0_4)
    have kR2_0_5 : wR2.cell? ⟨w.heap.size, 5, none⟩ = some (.int .i64 0) := by rw [hwR2]; with_reducible exact (kset (by omega) kR1_0_5)
    have fR2_0_0 : wR2.frozen? ⟨w.heap.size, 0, none⟩ = false := by rw [hwR2]; with_reducible exact (fset fR1_0_0)
    have fR2_0_1 : wR2.frozen? ⟨w.heap.size, 1, none⟩ = false := by rw [hwR2]; with_reducible exact (fset fR1_0_1)
    have fR2_0_2 : wR2.frozen? ⟨w.heap.size, 2, none⟩ = false := by rw [hwR2]; with_reducible exact (fset fR1_0_2)
    have fR2_0_3 : wR2.frozen? ⟨w.heap.size, 3, none⟩ = false := by rw [hwR2]; with_reducible exact (fset fR1_0_3)
    have fR2_0_4 : wR2.frozen? ⟨w.heap.size, 4, none⟩ = false := by rw [hwR2]; with_reducible exact (fset fR1_0_4)
    have fR2_0_5 : wR2.frozen? ⟨w.heap.size, 5, none⟩ = false := by rw [hwR2]; with_reducible exact (fset fR1_0_5)
    have lR2_0 : w.heap.size < wR2.heap.size := by omega
    have kR2_1_0 : wR2.cell? ⟨wO.heap.size, 0, none⟩ = some (.int .i64 v3) := by rw [hwR2]; with_reducible exact (ksameS (kis_of kR1_1_0))
    have kR2_1_1 : wR2.cell? ⟨wO.heap.size, 1, none⟩ = some (.int .i64 0) := by rw [hwR2]; with_reducible exact (kother (by decide) kR1_1_1)
    have kR2_1_2 : wR2.cell? ⟨wO.heap.size, 2, none⟩ = some (.int .i64 0) := by rw [hwR2]; with_reducible exact (kother (by decide) kR1_1_2)
    have kR2_1_3 : wR2.cell? ⟨wO.heap.size, 3, none⟩ = some (.int .i64 0) := by rw [hwR2]; with_reducible exact (kother (by decide) kR1_1_3)
    have kR2_1_4 : wR2.cell? ⟨wO.heap.size, 4, none⟩ = some (.int .i64 0) := by rw [hwR2]; with_reducible exact (kother (by decide) kR1_1_4)
    have kR2_1_5 : wR2.cell? ⟨wO.heap.size, 5, none⟩ = some (.int .i64 0) := by rw [hwR2]; with_reducible exact (kother (by decide) kR1_1_5)
    have fR2_1_0 : wR2.frozen? ⟨wO.heap.size, 0, none⟩ = false := by rw [hwR2]; with_reducible exact (fset fR1_1_0)
    have fR2_1_1 : wR2.frozen? ⟨wO.heap.size, 1, none⟩ = false := by rw [hwR2]; with_reducible exact (fset fR1_1_1)
    have fR2_1_2 : wR2.frozen? ⟨wO.heap.size, 2, none⟩ = false := by rw [hwR2]; with_reducible exact (fset fR1_1_2)
    have fR2_1_3 : wR2.frozen? ⟨wO.heap.size, 3, none⟩ = false := by rw [hwR2]; with_reducible exact (fset fR1_1_3)
    have fR2_1_4 : wR2.frozen? ⟨wO.heap.size, 4, none⟩ = false := by rw [hwR2]; with_reducible exact (fset fR1_1_4)
    have fR2_1_5 : wR2.frozen? ⟨wO.heap.size, 5, none⟩ = false := by rw [hwR2]; with_reducible exact (fset fR1_1_5)
    have lR2_1 : wO.heap.size < wR2.heap.size := by omega
    clear kR1_0_0 kR1_0_1 kR1_0_2 kR1_0_3 kR1_0_4 kR1_0_5 fR1_0_0 fR1_0_1 fR1_0_2 fR1_0_3 fR1_0_4 fR1_0_5 kR1_1_0 kR1_1_1 kR1_1_2 kR1_1_3 kR1_1_4 kR1_1_5 fR1_1_0 fR1_1_1 fR1_1_2 fR1_1_3 fR1_1_4 fR1_1_5
    have xR2_b0_0 := kcall hxR2 kb0_0
    have xR2_b0_1 := kcall hxR2 kb0_1
    have xR2_b0_2 := kcall hxR2 kb0_2
    have xR2_b0_3 := kcall hxR2 kb0_3
    have xR2_b0_4 := kcall hxR2 kb0_4
    have xR2_b0_5 := kcall hxR2 kb0_5
    have lxR2_b0 : b0 < wR2.heap.size := by have := hxR2.size; omega
    clear hwR2
    go_wp2
    rw [rounds_succ]
    go_wp2_with fail
    refine Calls.mono (mod_any _ _ _ (by omega) (by omega) (by omega) (by omega)) ?_
    rw [← Hv4.out]
    rintro e w' ⟨rfl, rfl⟩
    go_upto_region 11 with fail
    refine wp_name (fun wR3 hwR3 => ?_)
    have sR3 : wR2.heap.size ≤ wR3.heap.size := by rw [hwR3]; (first | exact Nat.le_refl _ | (simp; done) | (simp; omega))
    have hxR3 : Below w.heap.size w wR3 := by rw [hwR3]; (repeat (first | with_reducible exact Below.refl _ _ | with_reducible exact hxR2 | with_reducible refine balloc ?_ _ | with_reducible refine bdrewN ?_ _ | with_reducible refine Below.drew ?_ | with_reducible refine bthen ?_ (by with_reducible assumption) | with_reducible refine Below.setCell ?_ (by first | (simp; done) | (simp; omega)) _))
    have kR3_0_0 : wR3.cell? ⟨w.heap.size, 0, none⟩ = some (.int .i64 0) := by rw [hwR3]; with_reducible exact (kset (by omega) kR2_0_0)
    have kR3_0_1 : wR3.cell? ⟨w.heap.size, 1, none⟩ = some (.int .i64 0) := by rw [hwR3]; with_reducible exact (kset (by omega) kR2_0_1)
    have kR3_0_2 : wR3.cell? ⟨w.heap.size, 2, none⟩ = some (.int .i64 0) := by rw [hwR3]; with_reducible exact (kset (by omega) kR2_0_2)
    have kR3_0_3 : wR3.cell? ⟨w.heap.size, 3, none⟩ = some (.int .i64 0) := by rw [hwR3]; with_reducible exact (kset (by omega) kR2_0_3)
    have kR3_0_4 : wR3.cell? ⟨w.heap.size, 4, none⟩ = some (.int .i64 0) := by rw [hwR3]; with_reducible exact (kset (by omega) kR2_0_4)
    have kR3_0_5 : wR3.cell? ⟨w.heap.size, 5, none⟩ = some (.int .i64 0) := by rw [hwR3]; with_reducible exact (kset (by omega) kR2_0_5)
    have fR3_0_0 : wR3.frozen? ⟨w.heap.size, 0, none⟩ = false := by rw [hwR3]; with_reducible exact (fset fR2_0_0)
    have fR3_0_1 : wR3.frozen? ⟨w.heap.size, 1, none⟩ = false := by rw [hwR3]; with_reducible exact (fset fR2_0_1)
    have fR3_0_2 : wR3.frozen? ⟨w.heap.size, 2, none⟩ = false := by rw [hwR3]; with_reducible exact (fset fR2_0_2)
    have fR3_0_3 : wR3.frozen? ⟨w.heap.size, 3, none⟩ = false := by rw [hwR3]; with_reducible exact (fset fR2_0_3)
    have fR3_0_4 : wR3.frozen? ⟨w.heap.size, 4, none⟩ = false := by rw [hwR3]; with_reducible exact (fset fR2_0_4)
    have fR3_0_5 : wR3.frozen? ⟨w.heap.size, 5, none⟩ = false := by rw [hwR3]; with_reducible exact (fset fR2_0_5)
    have lR3_0 : w.heap.size < wR3.heap.size := by omega
    have kR3_1_0 : wR3.cell? ⟨wO.heap.size, 0, none⟩ = some (.int .i64 v3) := by rw [hwR3]; with_reducible exact (kother (by decide) kR2_1_0)
    have kR3_1_1 : wR3.cell? ⟨wO.heap.size, 1, none⟩ = some (.int .i64 v4) := by rw [hwR3]; with_reducible exact (ksameS (kis_of kR2_1_1))
    have kR3_1_2 : wR3.cell? ⟨wO.heap.size, 2, none⟩ = some (.int .i64 0) := by rw [hwR3]; with_reducible exact (kother (by decide) kR2_1_2)
    have kR3_1_3 : wR3.cell? ⟨wO.heap.size, 3, none⟩ = some (.int .i64 0) := by rw [hwR3]; with_reducible exact (kother (by decide) kR2_1_3)
    have kR3_1_4 : wR3.cell? ⟨wO.heap.size, 4, none⟩ = some (.int .i64 0) := by rw [hwR3]; with_reducible exact (kother (by decide) kR2_1_4)
    have kR3_1_5 : wR3.cell? ⟨wO.heap.size, 5, none⟩ = some (.int .i64 0) := by rw [hwR3]; with_reducible exact (kother (by decide) kR2_1_5)
    have fR3_1_0 : wR3.frozen? ⟨wO.heap.size, 0, none⟩ = false := by rw [hwR3]; with_reducible exact (fset fR2_1_0)
    have fR3_1_1 : wR3.frozen? ⟨wO.heap.size, 1, none⟩ = false := by rw [hwR3]; with_reducible exact (fset fR2_1_1)
    have fR3_1_2 : wR3.frozen? ⟨wO.heap.size, 2, none⟩ = false := by rw [hwR3]; with_reducible exact (fset fR2_1_2)
    have fR3_1_3 : wR3.frozen? ⟨wO.heap.size, 3, none⟩ = false := by rw [hwR3]; with_reducible exact (fset fR2_1_3)
    have fR3_1_4 : wR3.frozen? ⟨wO.heap.size, 4, none⟩ = false := by rw [hwR3]; with_reducible exact (fset fR2_1_4)
    have fR3_1_5 : wR3.frozen? ⟨wO.heap.size, 5, none⟩ = false := by rw [hwR3]; with_reducible exact (fset fR2_1_5)
    have lR3_1 : wO.heap.size < wR3.heap.size := by omega
    clear kR2_0_0 kR2_0_1 kR2_0_2 kR2_0_3 kR2_0_4 kR2_0_5 fR2_0_0 fR2_0_1 fR2_0_2 fR2_0_3 fR2_0_4 fR2_0_5 kR2_1_0 kR2_1_1 kR2_1_2 kR2_1_3 kR2_1_4 kR2_1_5 fR2_1_0 fR2_1_1 fR2_1_2 fR2_1_3 fR2_1_4 fR2_1_5
    have xR3_b0_0 := kcall hxR3 kb0_0
    have xR3_b0_1 := kcall hxR3 kb0_1
    have xR3_b0_2 := kcall hxR3 kb0_2
    have xR3_b0_3 := kcall hxR3 kb0_3
    have xR3_b0_4 := kcall hxR3 kb0_4
    have xR3_b0_5 := kcall hxR3 kb0_5
    have lxR3_b0 : b0 < wR3.heap.size := by have := hxR3.size; omega
    clear hwR3
    go_wp2
    rw [rounds_succ]
    go_wp2_with fail
    refine Calls.mono (mod_any _ _ _ (by omega) (by omega) (by omega) (by omega)) ?_
    rw [← Hv5.out]
    rintro e w' ⟨rfl, rfl⟩
    go_upto_region 11 with fail
    refine wp_name (fun wR4 hwR4 => ?_)
    have sR4 : wR3.heap.size ≤ wR4.heap.size := by rw [hwR4]; (first | exact Nat.le_refl _ | (simp; done) | (simp; omega))
    have hxR4 : Below w.heap.size w wR4 := by rw [hwR4]; (repeat (first | with_reducible exact Below.refl _ _ | with_reducible exact hxR3 | with_reducible refine balloc ?_ _ | with_reducible refine bdrewN ?_ _ | with_reducible refine Below.drew ?_ | with_reducible refine bthen ?_ (by with_reducible assumption) | with_reducible refine Below.setCell ?_ (by first | (simp; done) | (simp; omega)) _))
    have kR4_0_0 : wR4.cell? ⟨w.heap.size, 0, none⟩ = some (.int .i64 0) := by rw [hwR4]; with_reducible exact (kset (by omega) kR3_0_0)
    have kR4_0_1 : wR4.cell? ⟨w.heap.size, 1, none⟩ = some (.int .i64 0) := by rw [hwR4]; with_reducible exact (kset (by omega) kR3_0_1)
    have kR4_0_2 : wR4.cell? ⟨w.heap.size, 2, none⟩ = some (.int .i64 0) := by rw [hwR4]; with_reducible exact (kset (by omega) kR3_0_2)
    have kR4_0_3 : wR4.cell? ⟨w.heap.size, 3, none⟩ = some (.int .i64 0) := by rw [hwR4]; with_reducible exact (kset (by omega) kR3_0_3)
    have kR4_0_4 : wR4.cell? ⟨w.heap.size, 4, none⟩ = some (.int .i64 0) := by rw [hwR4]; with_reducible exact (kset (by omega) kR3_0_4)
    have kR4_0_5 : wR4.cell? ⟨w.heap.size, 5, none⟩ = some (.int .i64 0) := by rw [hwR4]; with_reducible exact (kset (by omega) kR3_0_5)
    have fR4_0_0 : wR4.frozen? ⟨w.heap.size, 0, none⟩ = false := by rw [hwR4]; with_reducible exact (fset fR3_0_0)
    have fR4_0_1 : wR4.frozen? ⟨w.heap.size, 1, none⟩ = false := by rw [hwR4]; with_reducible exact (fset fR3_0_1)
    have fR4_0_2 : wR4.frozen? ⟨w.heap.size, 2, none⟩ = false := by rw [hwR4]; with_reducible exact (fset fR3_0_2)
    have fR4_0_3 : wR4.frozen? ⟨w.heap.size, 3, none⟩ = false := by rw [hwR4]; with_reducible exact (fset fR3_0_3)
    have fR4_0_4 : wR4.frozen? ⟨w.heap.size, 4, none⟩ = false := by rw [hwR4]; with_reducible exact (fset fR3_0_4)
    have fR4_0_5 : wR4.frozen? ⟨w.heap.size, 5, none⟩ = false := by rw [hwR4]; with_reducible exact (fset fR3_0_5)
    have lR4_0 : w.heap.size < wR4.heap.size := by omega
    have kR4_1_0 : wR4.cell? ⟨wO.heap.size, 0, none⟩ = some (.int .i64 v3) := by rw [hwR4]; with_reducible exact (kother (by decide) kR3_1_0)
    have kR4_1_1 : wR4.cell? ⟨wO.heap.size, 1, none⟩ = some (.int .i64 v4) := by rw [hwR4]; with_reducible exact (kother (by decide) kR3_1_1)
    have kR4_1_2 : wR4.cell? ⟨wO.heap.size, 2, none⟩ = some (.int .i64 v5) := by rw [hwR4]; with_reducible exact (ksameS (kis_of kR3_1_2))
    have kR4_1_3 : wR4.cell? ⟨wO.heap.size, 3, none⟩ = some (.int .i64 0) := by rw [hwR4]; with_reducible exact (kother (by decide) kR3_1_3)
    have kR4_1_4 : wR4.cell? ⟨wO.heap.size, 4, none⟩ = some (.int .i64 0) := by rw [hwR4]; with_reducible exact (kother (by decide) kR3_1_4)
    have kR4_1_5 : wR4.cell? ⟨wO.heap.size, 5, none⟩ = some (.int .i64 0) := by rw [hwR4]; with_reducible exact (kother (by decide) kR3_1_5)
    have fR4_1_0 : wR4.frozen? ⟨wO.heap.size, 0, none⟩ = false := by rw [hwR4]; with_reducible exact (fset fR3_1_0)
    have fR4_1_1 : wR4.frozen? ⟨wO.heap.size, 1, none⟩ = false := by rw [hwR4]; with_reducible exact (fset fR3_1_1)
    have fR4_1_2 : wR4.frozen? ⟨wO.heap.size, 2, none⟩ = false := by rw [hwR4]; with_reducible exact (fset fR3_1_2)
    have fR4_1_3 : wR4.frozen? ⟨wO.heap.size, 3, none⟩ = false := by rw [hwR4]; with_reducible exact (fset fR3_1_3)
    have fR4_1_4 : wR4.frozen? ⟨wO.heap.size, 4, none⟩ = false := by rw [hwR4]; with_reducible exact (fset fR3_1_4)
    have fR4_1_5 : wR4.frozen? ⟨wO.heap.size, 5, none⟩ = false := by rw [hwR4]; with_reducible exact (fset fR3_1_5)
    have lR4_1 : wO.heap.size < wR4.heap.size := by omega
    clear kR3_0_0 kR3_0_1 kR3_0_2 kR3_0_3 kR3_0_4 kR3_0_5 fR3_0_0 fR3_0_1 fR3_0_2 fR3_0_3 fR3_0_4 fR3_0_5 kR3_1_0 kR3_1_1 kR3_1_2 kR3_1_3 kR3_1_4 kR3_1_5 fR3_1_0 fR3_1_1 fR3_1_2 fR3_1_3 fR3_1_4 fR3_1_5
    have xR4_b0_0 := kcall hxR4 kb0_0
    have xR4_b0_1 := kcall hxR4 kb0_1
    have xR4_b0_2 := kcall hxR4 kb0_2
    have xR4_b0_3 := kcall hxR4 kb0_3
    have xR4_b0_4 := kcall hxR4 kb0_4
    have xR4_b0_5 := kcall hxR4 kb0_5
    have lxR4_b0 : b0 < wR4.heap.size := by have := hxR4.size; omega
    clear hwR4
    go_wp2
    rw [rounds_succ]
    go_wp2_with fail
    refine Calls.mono (mod_any _ _ _ (by omega) (by omega) (by omega) (by omega)) ?_
    rw [← Hv6.out]
    rintro e w' ⟨rfl, rfl⟩
    go_upto_region 11 with fail
    refine wp_name (fun wR5 hwR5 => ?_)
    have sR5 : wR4.heap.size ≤ wR5.heap.size := by rw [hwR5]; (first | exact Nat.le_refl _ | (simp; done) | (simp; omega))
    have hxR5 : Below w.heap.size w wR5 := by rw [hwR5]; (repeat (first | with_reducible exact Below.refl _ _ | with_reducible exact hxR4 | with_reducible refine balloc ?_ _ | with_reducible refine bdrewN ?_ _ | with_reducible refine Below.drew ?_ | with_reducible refine bthen ?_ (by with_reducible assumption) | with_reducible refine Below.setCell ?_ (by first | (simp; done) | (simp; omega)) _))
    have kR5_0_0 : wR5.cell? ⟨w.heap.size, 0, none⟩ = some (.int .i64 0) := by rw [hwR5]; with_reducible exact (kset (by omega) kR4_0_0)
    have kR5_0_1 : wR5.cell? ⟨w.heap.size, 1, none⟩ = some (.int .i64 0) := by rw [hwR5]; with_reducible exact (kset (by omega) kR4_0_1)
    have kR5_0_2 : wR5.cell? ⟨w.heap.size, 2, none⟩ = some (.int .i64 0) := by rw [hwR5]; with_reducible exact (kset (by omega) kR4_0_2)
    have kR5_0_3 : wR5.cell? ⟨w.heap.size, 3, none⟩ = some (.int .i64 0) := by rw [hwR5]; with_reducible exact (kset (by omega) kR4_0_3)
    have kR5_0_4 : wR5.cell? ⟨w.heap.size, 4, none⟩ = some (.int .i64 0) := by rw [hwR5]; with_reducible exact (kset (by omega) kR4_0_4)
    have kR5_0_5 : wR5.cell? ⟨w.heap.size, 5, none⟩ = some (.int .i64 0) := by rw [hwR5]; with_reducible exact (kset (by omega) kR4_0_5)
    have fR5_0_0 : wR5.frozen? ⟨w.heap.size, 0, none⟩ = false := by rw [hwR5]; with_reducible exact (fset fR4_0_0)
    have fR5_0_1 : wR5.frozen? ⟨w.heap.size, 1, none⟩ = false := by rw [hwR5]; with_reducible exact (fset fR4_0_1)
    have fR5_0_2 : wR5.frozen? ⟨w.heap.size, 2, none⟩ = false := by rw [hwR5]; with_reducible exact (fset fR4_0_2)
    have fR5_0_3 : wR5.frozen? ⟨w.heap.size, 3, none⟩ = false := by rw [hwR5]; with_reducible exact (fset fR4_0_3)
    have fR5_0_4 : wR5.frozen? ⟨w.heap.size, 4, none⟩ = false := by rw [hwR5]; with_reducible exact (fset fR4_0_4)
    have fR5_0_5 : wR5.frozen? ⟨w.heap.size, 5, none⟩ = false := by rw [hwR5]; with_reducible exact (fset fR4_0_5)
    have lR5_0 : w.heap.size < wR5.heap.size := by omega
    have kR5_1_0 : wR5.cell? ⟨wO.heap.size, 0, none⟩ = some (.int .i64 v3) := by rw [hwR5]; with_reducible exact (kother (by decide) kR4_1_0)
    have kR5_1_1 : wR5.cell? ⟨wO.heap.size, 1, none⟩ = some (.int .i64 v4) := by rw [hwR5]; with_reducible exact (kother (by decide) kR4_1_1)
    have kR5_1_2 : wR5.cell? ⟨wO.heap.size, 2, none⟩ = some (.int .i64 v5) := by rw [hwR5]; with_reducible exact (kother (by decide) kR4_1_2)
    have kR5_1_3 : wR5.cell? ⟨wO.heap.size, 3, none⟩ = some (.int .i64 v6) := by rw [hwR5]; with_reducible exact (ksameS (kis_of kR4_1_3))
    have kR5_1_4 : wR5.cell? ⟨wO.heap.size, 4, none⟩ = some (.int .i64 0) := by rw [hwR5]; with_reducible exact (kother (by decide) kR4_1_4)
    have kR5_1_5 : wR5.cell? ⟨wO.heap.size, 5, none⟩ = some (.int .i64 0) := by rw [hwR5]; with_reducible exact (kother (by decide) kR4_1_5)
    have fR5_1_0 : wR5.frozen? ⟨wO.heap.size, 0, none⟩ = false := by rw [hwR5]; with_reducible exact (fset fR4_1_0)
    have fR5_1_1 : wR5.frozen? ⟨wO.heap.size, 1, none⟩ = false := by rw [hwR5]; with_reducible exact (fset fR4_1_1)
    have fR5_1_2 : wR5.frozen? ⟨wO.heap.size, 2, none⟩ = false := by rw [hwR5]; with_reducible exact (fset fR4_1_2)
    have fR5_1_3 : wR5.frozen? ⟨wO.heap.size, 3, none⟩ = false := by rw [hwR5]; with_reducible exact (fset fR4_1_3)
    have fR5_1_4 : wR5.frozen? ⟨wO.heap.size, 4, none⟩ = false := by rw [hwR5]; with_reducible exact (fset fR4_1_4)
    have fR5_1_5 : wR5.frozen? ⟨wO.heap.size, 5, none⟩ = false := by rw [hwR5]; with_reducible exact (fset fR4_1_5)
    have lR5_1 : wO.heap.size < wR5.heap.size := by omega
    clear kR4_0_0 kR4_0_1 kR4_0_2 kR4_0_3 kR4_0_4 kR4_0_5 fR4_0_0 fR4_0_1 fR4_0_2 fR4_0_3 fR4_0_4 fR4_0_5 kR4_1_0 kR4_1_1 kR4_1_2 kR4_1_3 kR4_1_4 kR4_1_5 fR4_1_0 fR4_1_1 fR4_1_2 fR4_1_3 fR4_1_4 fR4_1_5
    have xR5_b0_0 := kcall hxR5 kb0_0
    have xR5_b0_1 := kcall hxR5 kb0_1
    have xR5_b0_2 := kcall hxR5 kb0_2
    have xR5_b0_3 := kcall hxR5 kb0_3
    have xR5_b0_4 := kcall hxR5 kb0_4
    have xR5_b0_5 := kcall hxR5 kb0_5
    have lxR5_b0 : b0 < wR5.heap.size := by have := hxR5.size; omega
    clear hwR5
    go_wp2
    rw [rounds_succ]
    go_wp2_with fail
    refine Calls.mono (mod_any _ _ _ (by omega) (by omega) (by omega) (by omega)) ?_
    rw [← Hv7.out]
    rintro e w' ⟨rfl, rfl⟩
    go_upto_region 11 with fail
    refine wp_name (fun wR6 hwR6 => ?_)
    have sR6 : wR5.heap.size ≤ wR6.heap.size := by rw [hwR6]; (first | exact Nat.le_refl _ | (simp; done) | (simp; omega))
    have hxR6 : Below w.heap.size w wR6 := by rw [hwR6]; (repeat (first | with_reducible exact Below.refl _ _ | with_reducible exact hxR5 | with_reducible refine balloc ?_ _ | with_reducible refine bdrewN ?_ _ | with_reducible refine Below.drew ?_ | with_reducible refine bthen ?_ (by with_reducible assumption) | with_reducible refine Below.setCell ?_ (by first | (simp; done) | (simp; omega)) _))
    have kR6_0_0 : wR6.cell? ⟨w.heap.size, 0, none⟩ = some (.int .i64 0) := by rw [hwR6]; with_reducible exact (kset (by omega) kR5_0_0)
    have kR6_0_1 : wR6.cell? ⟨w.heap.size, 1, none⟩ = some (.int .i64 0) := by rw [hwR6]; with_reducible exact (kset (by omega) kR5_0_1)
    have kR6_0_2 : wR6.cell? ⟨w.heap.size, 2, none⟩ = some (.int .i64 0) := by rw [hwR6]; with_reducible exact (kset (by omega) kR5_0_2)
    have kR6_0_3 : wR6.cell? ⟨w.heap.size, 3, none⟩ = some (.int .i64 0) := by rw [hwR6]; with_reducible exact (kset (by omega) kR5_0_3)
    have kR6_0_4 : wR6.cell? ⟨w.heap.size, 4, none⟩ = some (.int .i64 0) := by rw [hwR6]; with_reducible exact (kset (by omega) kR5_0_4)
    have kR6_0_5 : wR6.cell? ⟨w.heap.size, 5, none⟩ = some (.int .i64 0) := by rw [hwR6]; with_reducible exact (kset (by omega) kR5_0_5)
    have fR6_0_0 : wR6.frozen? ⟨w.heap.size, 0, none⟩ = false := by rw [hwR6]; with_reducible exact (fset fR5_0_0)
    have fR6_0_1 : wR6.frozen? ⟨w.heap.size, 1, none⟩ = false := by rw [hwR6]; with_reducible exact (fset fR5_0_1)
    have fR6_0_2 : wR6.frozen? ⟨w.heap.size, 2, none⟩ = false := by rw [hwR6]; with_reducible exact (fset fR5_0_2)
    have fR6_0_3 : wR6.frozen? ⟨w.heap.size, 3, none⟩ = false := by rw [hwR6]; with_reducible exact (fset fR5_0_3)
    have fR6_0_4 : wR6.frozen? ⟨w.heap.size, 4, none⟩ = false := by rw [hwR6]; with_reducible exact (fset fR5_0_4)
    have fR6_0_5 : wR6.frozen? ⟨w.heap.size, 5, none⟩ = false := by rw [hwR6]; with_reducible exact (fset fR5_0_5)
    have lR6_0 : w.heap.size < wR6.heap.size := by omega
    have kR6_1_0 : wR6.cell? ⟨wO.heap.size, 0, none⟩ = some (.int .i64 v3) := by rw [hwR6]; with_reducible exact (kother (by decide) kR5_1_0)
    have kR6_1_1 : wR6.cell? ⟨wO.heap.size, 1, none⟩ = some (.int .i64 v4) := by rw [hwR6]; with_reducible exact (kother (by decide) kR5_1_1)
    have kR6_1_2 : wR6.cell? ⟨wO.heap.size, 2, none⟩ = some (.int .i64 v5) := by rw [hwR6]; with_reducible exact (kother (by decide) kR5_1_2)
    have kR6_1_3 : wR6.cell? ⟨wO.heap.size, 3, none⟩ = some (.int .i64 v6) := by rw [hwR6]; with_reducible exact (kother (by decide) kR5_1_3)
    have kR6_1_4 : wR6.cell? ⟨wO.heap.size, 4, none⟩ = some (.int .i64 v7) := by rw [hwR6]; with_reducible exact (ksameS (kis_of kR5_1_4))
    have kR6_1_5 : wR6.cell? ⟨wO.heap.size, 5, none⟩ = some (.int .i64 0) := by rw [hwR6]; with_reducible exact (kother (by decide) kR5_1_5)
    have fR6_1_0 : wR6.frozen? ⟨wO.heap.size, 0, none⟩ = false := by rw [hwR6]; with_reducible exact (fset fR5_1_0)
    have fR6_1_1 : wR6.frozen? ⟨wO.heap.size, 1, none⟩ = false := by rw [hwR6]; with_reducible exact (fset fR5_1_1)
    have fR6_1_2 : wR6.frozen? ⟨wO.heap.size, 2, none⟩ = false := by rw [hwR6]; with_reducible exact (fset fR5_1_2)
    have fR6_1_3 : wR6.frozen? ⟨wO.heap.size, 3, none⟩ = false := by rw [hwR6]; with_reducible exact (fset fR5_1_3)
    have fR6_1_4 : wR6.frozen? ⟨wO.heap.size, 4, none⟩ = false := by rw [hwR6]; with_reducible exact (fset fR5_1_4)
    have fR6_1_5 : wR6.frozen? ⟨wO.heap.size, 5, none⟩ = false := by rw [hwR6]; with_reducible exact (fset fR5_1_5)
    have lR6_1 : wO.heap.size < wR6.heap.size := by omega
    clear kR5_0_0 kR5_0_1 kR5_0_2 kR5_0_3 kR5_0_4 kR5_0_5 fR5_0_0 fR5_0_1 fR5_0_2 fR5_0_3 fR5_0_4 fR5_0_5 kR5_1_0 kR5_1_1 kR5_1_2 kR5_1_3 kR5_1_4 kR5_1_5 fR5_1_0 fR5_1_1 fR5_1_2 fR5_1_3 fR5_1_4 fR5_1_5
    have xR6_b0_0 := kcall hxR6 kb0_0
    have xR6_b0_1 := kcall hxR6 kb0_1
    have xR6_b0_2 := kcall hxR6 kb0_2
    have xR6_b0_3 := kcall hxR6 kb0_3
    have xR6_b0_4 := kcall hxR6 kb0_4
    have xR6_b0_5 := kcall hxR6 kb0_5
    have lxR6_b0 : b0 < wR6.heap.size := by have := hxR6.size; omega
    clear hwR6
    go_wp2
    rw [rounds_succ]
    go_wp2_with fail
    refine Calls.mono (mod_any _ _ _ (by omega) (by omega) (by omega) (by omega)) ?_
    rw [← Hv8.out]
    rintro e w' ⟨rfl, rfl⟩
    go_upto_region 11 with fail
    refine wp_name (fun wR7 hwR7 => ?_)
    have sR7 : wR6.heap.size ≤ wR7.heap.size := by rw [hwR7]; (first | exact Nat.le_refl _ | (simp; done) | (simp; omega))
    have hxR7 : Below w.heap.size w wR7 := by rw [hwR7]; (repeat (first | with_reducible exact Below.refl _ _ | with_reducible exact hxR6 | with_reducible refine balloc ?_ _ | with_reducible refine bdrewN ?_ _ | with_reducible refine Below.drew ?_ | with_reducible refine bthen ?_ (by with_reducible assumption) | with_reducible refine Below.setCell ?_ (by first | (simp; done) | (simp; omega)) _))
    have kR7_0_0 : wR7.cell? ⟨w.heap.size, 0, none⟩ = some (.int .i64 0) := by rw [hwR7]; with_reducible exact (kset (by omega) kR6_0_0)
    have kR7_0_1 : wR7.cell? ⟨w.heap.size, 1, none⟩ = some (.int .i64 0) := by rw [hwR7]; with_reducible exact (kset (by omega) kR6_0_1)
    have kR7_0_2 : wR7.cell? ⟨w.heap.size, 2, none⟩ = some (.int .i64 0) := by rw [hwR7]; with_reducible exact (kset (by omega) kR6_0_2)
    have kR7_0_3 : wR7.cell? ⟨w.heap.size, 3, none⟩ = some (.int .i64 0) := by rw [hwR7]; with_reducible exact (kset (by omega) kR6_0_3)
    have kR7_0_4 : wR7.cell? ⟨w.heap.size, 4, none⟩ = some (.int .i64 0) := by rw [hwR7]; with_reducible exact (kset (by omega) kR6_0_4)
    have kR7_0_5 : wR7.cell? ⟨w.heap.size, 5, none⟩ = some (.int .i64 0) := by rw [hwR7]; with_reducible exact (kset (by omega) kR6_0_5)
    have fR7_0_0 : wR7.frozen? ⟨w.heap.size, 0, none⟩ = false := by rw [hwR7]; with_reducible exact (fset fR6_0_0)
    have fR7_0_1 : wR7.frozen? ⟨w.heap.size, 1, none⟩ = false := by rw [hwR7]; with_reducible exact (fset fR6_0_1)
    have fR7_0_2 : wR7.frozen? ⟨w.heap.size, 2, none⟩ = false := by rw [hwR7]; with_reducible exact (fset fR6_0_2)
    have fR7_0_3 : wR7.frozen? ⟨w.heap.size, 3, none⟩ = false := by rw [hwR7]; with_reducible exact (fset fR6_0_3)
    have fR7_0_4 : wR7.frozen? ⟨w.heap.size, 4, none⟩ = false := by rw [hwR7]; with_reducible exact (fset fR6_0_4)
    have fR7_0_5 : wR7.frozen? ⟨w.heap.size, 5, none⟩ = false := by rw [hwR7]; with_reducible exact (fset fR6_0_5)
    have lR7_0 : w.heap.size < wR7.heap.size := by omega
    have kR7_1_0 : wR7.cell? ⟨wO.heap.size, 0, none⟩ = some (.int .i64 v3) := by rw [hwR7]; with_reducible exact (kother (by decide) kR6_1_0)
    have kR7_1_1 : wR7.cell? ⟨wO.heap.size, 1, none⟩ = some (.int .i64 v4) := by rw [hwR7]; with_reducible exact (kother (by decide) kR6_1_1)
    have kR7_1_2 : wR7.cell? ⟨wO.heap.size, 2, none⟩ = some (.int .i64 v5) := by rw [hwR7]; with_reducible exact (kother (by decide) kR6_1_2)
    have kR7_1_3 : wR7.cell? ⟨wO.heap.size, 3, none⟩ = some (.int .i64 v6) := by rw [hwR7]; with_reducible exact (kother (by decide) kR6_1_3)
    have kR7_1_4 : wR7.cell? ⟨wO.heap.size, 4, none⟩ = some (.int .i64 v7) := by rw [hwR7]; with_reducible exact (kother (by decide) kR6_1_4)
    have kR7_1_5 : wR7.cell? ⟨wO.heap.size, 5, none⟩ = some (.int .i64 v8) := by rw [hwR7]; with_reducible exact (ksameS (kis_of kR6_1_5))
    have lR7_1 : wO.heap.size < wR7.heap.size := by omega
    clear kR6_0_0 kR6_0_1 kR6_0_2 kR6_0_3 kR6_0_4 kR6_0_5 fR6_0_0 fR6_0_1 fR6_0_2 fR6_0_3 fR6_0_4 fR6_0_5 kR6_1_0 kR6_1_1 kR6_1_2 kR6_1_3 kR6_1_4 kR6_1_5 fR6_1_0 fR6_1_1 fR6_1_2 fR6_1_3 fR6_1_4 fR6_1_5
    have xR7_b0_0 := kcall hxR7 kb0_0
    have xR7_b0_1 := kcall hxR7 kb0_1
    have xR7_b0_2 := kcall hxR7 kb0_2
    have xR7_b0_3 := kcall hxR7 kb0_3
    have xR7_b0_4 := kcall hxR7 kb0_4
    have xR7_b0_5 := kcall hxR7 kb0_5
    have lxR7_b0 : b0 < wR7.heap.size := by have := hxR7.size; omega
    clear hwR7
    go_wp2
    rw [rounds_succ]
    have hm1 : x1 % p = x1 := Int.emod_eq_of_lt hx1.1 hx1.2
    have hm2 : x2 % p = x2 := Int.emod_eq_of_lt hx2.1 hx2.2
    have hm3 : x3 % p = x3 := Int.emod_eq_of_lt hx3.1 hx3.2
    have hm4 : x4 % p = x4 := Int.emod_eq_of_lt hx4.1 hx4.2
    have hm5 : x5 % p = x5 := Int.emod_eq_of_lt hx5.1 hx5.2
    have hm6 : x6 % p = x6 := Int.emod_eq_of_lt hx6.1 hx6.2
    have g1 : (x1 == 0) = false := by have q := hd1; (try simp only [Hv8.out, Hv7.out, Hv6.out, Hv5.out, Hv4.out, Hv3.out, Hv2.out, Hv1.out, hm1, hm2, hm3, hm4, hm5, hm6] at q); exact q
    have hz : (ld3 x1 x2 x3 == 0) = false := by simp only [ld3, g1, if_true, if_false, Bool.false_eq_true]
    have HV := Lib.hid (show ck p x1 x2 x3 x1 = v3 ∧ ck p x1 x2 x3 x2 = v4 ∧ ck p x1 x2 x3 x3 = v5 ∧ ck p x1 x2 x3 x4 = v6 ∧ ck p x1 x2 x3 x5 = v7 ∧ ck p x1 x2 x3 x6 = v8 ∧ !(ld3 x1 x2 x3 == 0) = true from by
      simp only [Hv8.out, Hv7.out, Hv6.out, Hv5.out, Hv4.out, Hv3.out, Hv2.out, Hv1.out, hm1, hm2, hm3, hm4, hm5, hm6, ck, ld3, g1, if_true, if_false, Bool.false_eq_true, hz]; simp)
    go_wp2
    (refine bodyPost_ret (v := .tuple #[.agg #[.int .i64 (ck p x1 x2 x3 x1), .int .i64 (ck p x1 x2 x3 x2), .int .i64 (ck p x1 x2 x3 x3), .int .i64 (ck p x1 x2 x3 x4), .int .i64 (ck p x1 x2 x3 x5), .int .i64 (ck p x1 x2 x3 x6)], .bool (!(ld3 x1 x2 x3 == 0))]) (by simp [results, Try.results68, go_sem, HV.out.1, HV.out.2.1, HV.out.2.2.1, HV.out.2.2.2.1, HV.out.2.2.2.2.1, HV.out.2.2.2.2.2.1, HV.out.2.2.2.2.2.2, *]) rfl ⟨?_, ?_⟩)
    · rfl
    · (repeat (first | with_reducible exact Below.refl _ _ | with_reducible exact hxR7 | with_reducible refine balloc ?_ _ | with_reducible refine bdrewN ?_ _ | with_reducible refine Below.drew ?_ | with_reducible refine bthen ?_ (by with_reducible assumption) | with_reducible refine Below.setCell ?_ (by first | (simp; done) | (simp; omega)) _))
  · have hd1n : (v1 != 0) = false := by rw [bne, hd1]; rfl
    have Hhd1p := Lib.hid (beq_iff_eq.1 hd1)
    obtain ⟨v2, hv2⟩ : ∃ v : Int, v = x2 % p := ⟨_, rfl⟩
    have rv2 := modR x2 hp
    rw [← hv2] at rv2
    have Hv2 := Lib.hid hv2
    clear hv2
    go_wp2_with fail
    refine Calls.mono (mod_any _ _ _ (by omega) (by omega) (by omega) (by omega)) ?_
    rw [← Hv2.out]
    rintro e w' ⟨rfl, rfl⟩
    go_wp2
    rw [rounds_succ]
    rcases bool_ways (v2 == 0) with hd2 | hd2
    · have hd2n : (v2 != 0) = true := by rw [bne, hd2]; rfl
      have Hhd2p := Lib.hid (beq_eq_false_iff_ne.1 hd2)
      obtain ⟨v3, hv3⟩ : ∃ v : Int, v = inv p v2 := ⟨_, rfl⟩
      have rv3 := inv_range v2 hp
      rw [← hv3] at rv3
      have Hv3 := Lib.hid hv3
      clear hv3
      have d_1 := modR (x1) hp
      have hpos : p ≠ 0 := by omega
      have mu_1 := mulNN 30 30 900 (by decide) (a := x1 % p) (b := v3) (by omega) (by omega)
      obtain ⟨v4, hv4⟩ : ∃ v : Int, v = ((x1 % p) * v3) % p := ⟨_, rfl⟩
      have rv4 := modR ((x1 % p) * v3) hp
      rw [← hv4] at rv4
      have Hv4 := Lib.hid hv4
      clear hv4
      have d_2 := modR (x2) hp
      have mu_2 := mulNN 30 30 900 (by decide) (a := x2 % p) (b := v3) (by omega) (by omega)
      obtain ⟨v5, hv5⟩ : ∃ v : Int, v = ((x2 % p) * v3) % p := ⟨_, rfl⟩
      have rv5 := modR ((x2 % p) * v3) hp
      rw [← hv5] at rv5
      have Hv5 := Lib.hid hv5
      clear hv5
      have d_3 := modR (x3) hp
      have mu_3 := mulNN 30 30 900 (by decide) (a := x3 % p) (b := v3) (by omega) (by omega)
      obtain ⟨v6, hv6⟩ : ∃ v : Int, v = ((x3 % p) * v3) % p := ⟨_, rfl⟩
      have rv6 := modR ((x3 % p) * v3) hp
      rw [← hv6] at rv6
      have Hv6 := Lib.hid hv6
      clear hv6
      have d_4 := modR (x4) hp
      have mu_4 := mulNN 30 30 900 (by decide) (a := x4 % p) (b := v3) (by omega) (by omega)
      obtain ⟨v7, hv7⟩ : ∃ v : Int, v = ((x4 % p) * v3) % p := ⟨_, rfl⟩
      have rv7 := modR ((x4 % p) * v3) hp
      rw [← hv7] at rv7
      have Hv7 := Lib.hid hv7
      clear hv7
      have d_5 := modR (x5) hp
      have mu_5 := mulNN 30 30 900 (by decide) (a := x5 % p) (b := v3) (by omega) (by omega)
      obtain ⟨v8, hv8⟩ : ∃ v : Int, v = ((x5 % p) * v3) % p := ⟨_, rfl⟩
      have rv8 := modR ((x5 % p) * v3) hp
      rw [← hv8] at rv8
      have Hv8 := Lib.hid hv8
      clear hv8
      have d_6 := modR (x6) hp
      have mu_6 := mulNN 30 30 900 (by decide) (a := x6 % p) (b := v3) (by omega) (by omega)
      obtain ⟨v9, hv9⟩ : ∃ v : Int, v = ((x6 % p) * v3) % p := ⟨_, rfl⟩
      have rv9 := modR ((x6 % p) * v3) hp
      rw [← hv9] at rv9
      have Hv9 := Lib.hid hv9
      clear hv9
      go_wp2_with fail
      refine Calls.mono (inverse_any _ _ _ hp (by omega) (by omega)) ?_
      rw [← Hv3.out]
      rintro e w' ⟨rfl, rfl⟩
      go_wp2
      refine wp_loop_rounds 8 ?_
      rw [rounds_succ]
      go_wp2_with fail
      refine Calls.mono (mod_any _ _ _ (by omega) (by omega) (by omega) (by omega)) ?_
      rw [← Hv4.out]
      rintro e w' ⟨rfl, rfl⟩
      go_upto_region 11 with fail
      refine wp_name (fun wR2 hwR2 => ?_)
      have sR2 : wR1.heap.size ≤ wR2.heap.size := by rw [hwR2]; (first | exact Nat.le_refl _ | (simp; done) | (simp; omega))
      have hxR2 : Below w.heap.size w wR2 := by rw [hwR2]; (repeat (first | with_reducible exact Below.refl _ _ | with_reducible exact hxR1 | with_reducible refine balloc ?_ _ | with_reducible refine bdrewN ?_ _ | with_reducible refine Below.drew ?_ | with_reducible refine bthen ?_ (by with_reducible assumption) | with_reducible refine Below.setCell ?_ (by first | (simp; done) | (simp; omega)) _))
      have kR2_0_0 : wR2.cell? ⟨w.heap.size, 0, none⟩ = some (.int .i64 0) := by rw [hwR2]; with_reducible exact (kset (by omega) kR1_0_0)
      have kR2_0_1 : wR2.cell? ⟨w.heap.size, 1, none⟩ = some (.int .i64 0) := by rw [hwR2]; with_reducible exact (kset (by omega) kR1_0_1)
      have kR2_0_2 : wR2.cell? ⟨w.heap.size, 2, none⟩ = some (.int .i64 0) := by rw [hwR2]; with_reducible exact (kset (by omega) kR1_0_2)
      have kR2_0_3 : wR2.cell? ⟨w.heap.size, 3, none⟩ = some (.int .i64 0) := by rw [hwR2]; with_reducible exact (kset (by omega) kR1_0_3)
      have kR2_0_4 : wR2.cell? ⟨w.heap.size, 4, none⟩ = some (.int .i64 0) := by rw [hwR2]; with_reducible exact (kset (by omega) kR1_0_4)
      have kR2_0_5 : wR2.cell? ⟨w.heap.size, 5, none⟩ = some (.int .i64 0) := by rw [hwR2]; with_reducible exact (kset (by omega) kR1_0_5)
      have fR2_0_0 : wR2.frozen? ⟨w.heap.size, 0, none⟩ = false := by rw [hwR2]; with_reducible exact (fset fR1_0_0)
      have fR2_0_1 : wR2.frozen? ⟨w.heap.size, 1, none⟩ = false := by rw [hwR2]; with_reducible exact (fset fR1_0_1)
      have fR2_0_2 : wR2.frozen? ⟨w.heap.size, 2, none⟩ = false := by rw [hwR2]; with_reducible exact (fset fR1_0_2)
      have fR2_0_3 : wR2.frozen? ⟨w.heap.size, 3, none⟩ = false := by rw [hwR2]; with_reducible exact (fset fR1_0_3)
      have fR2_0_4 : wR2.frozen? ⟨w.heap.size, 4, none⟩ = false := by rw [hwR2]; with_reducible exact (fset fR1_0_4)
      have fR2_0_5 : wR2.frozen? ⟨w.heap.size, 5, none⟩ = false := by rw [hwR2]; with_reducible exact (fset fR1_0_5)
      have lR2_0 : w.heap.size < wR2.heap.size := by omega
      have kR2_1_0 : wR2.cell? ⟨wO.heap.size, 0, none⟩ = some (.int .i64 v4) := by rw [hwR2]; with_reducible exact (ksameS (kis_of kR1_1_0))
      have kR2_1_1 : wR2.cell? ⟨wO.heap.size, 1, none⟩ = some (.int .i64 0) := by rw [hwR2]; with_reducible exact (kother (by decide) kR1_1_1)
      have kR2_1_2 : wR2.cell? ⟨wO.heap.size, 2, none⟩ = some (.int .i64 0) := by rw [hwR2]; with_reducible exact (kother (by decide) kR1_1_2)
      have kR2_1_3 : wR2.cell? ⟨wO.heap.size, 3, none⟩ = some (.int .i64 0) := by rw [hwR2]; with_reducible exact (kother (by decide) kR1_1_3)
      have kR2_1_4 : wR2.cell? ⟨wO.heap.size, 4, none⟩ = some (.int .i64 0) := by rw [hwR2]; with_reducible exact (kother (by decide) kR1_1_4)
      have kR2_1_5 : wR2.cell? ⟨wO.heap.size, 5, none⟩ = some (.int .i64 0) := by rw [hwR2]; with_reducible exact (kother (by decide) kR1_1_5)
      have fR2_1_0 : wR2.frozen? ⟨wO.heap.size, 0, none⟩ = false := by rw [hwR2]; with_reducible exact (fset fR1_1_0)
      have fR2_1_1 : wR2.frozen? ⟨wO.heap.size, 1, none⟩ = false := by rw [hwR2]; with_reducible exact (fset fR1_1_1)
      have fR2_1_2 : wR2.frozen? ⟨wO.heap.size, 2, none⟩ = false := by rw [hwR2]; with_reducible exact (fset fR1_1_2)
      have fR2_1_3 : wR2.frozen? ⟨wO.heap.size, 3, none⟩ = false := by rw [hwR2]; with_reducible exact (fset fR1_1_3)
      have fR2_1_4 : wR2.frozen? ⟨wO.heap.size, 4, none⟩ = false := by rw [hwR2]; with_reducible exact (fset fR1_1_4)
      have fR2_1_5 : wR2.frozen? ⟨wO.heap.size, 5, none⟩ = false := by rw [hwR2]; with_reducible exact (fset fR1_1_5)
      have lR2_1 : wO.heap.size < wR2.heap.size := by omega
      clear kR1_0_0 kR1_0_1 kR1_0_2 kR1_0_3 kR1_0_4 kR1_0_5 fR1_0_0 fR1_0_1 fR1_0_2 fR1_0_3 fR1_0_4 fR1_0_5 kR1_1_0 kR1_1_1 kR1_1_2 kR1_1_3 kR1_1_4 kR1_1_5 fR1_1_0 fR1_1_1 fR1_1_2 fR1_1_3 fR1_1_4 fR1_1_5
      have xR2_b0_0 := kcall hxR2 kb0_0
      have xR2_b0_1 := kcall hxR2 kb0_1
      have xR2_b0_2 := kcall hxR2 kb0_2
      have xR2_b0_3 := kcall hxR2 kb0_3
      have xR2_b0_4 := kcall hxR2 kb0_4
      have xR2_b0_5 := kcall hxR2 kb0_5
      have lxR2_b0 : b0 < wR2.heap.size := by have := hxR2.size; omega
      clear hwR2
      go_wp2
      rw [rounds_succ]
      go_wp2_with fail
      refine Calls.mono (mod_any _ _ _ (by omega) (by omega) (by omega) (by omega)) ?_
      rw [← Hv5.out]
      rintro e w' ⟨rfl, rfl⟩
      go_upto_region 11 with fail
      refine wp_name (fun wR3 hwR3 => ?_)
      have sR3 : wR2.heap.size ≤ wR3.heap.size := by rw [hwR3]; (first | exact Nat.le_refl _ | (simp; done) | (simp; omega))
      have hxR3 : Below w.heap.size w wR3 := by rw [hwR3]; (repeat (first | with_reducible exact Below.refl _ _ | with_reducible exact hxR2 | with_reducible refine balloc ?_ _ | with_reducible refine bdrewN ?_ _ | with_reducible refine Below.drew ?_ | with_reducible refine bthen ?_ (by with_reducible assumption) | with_reducible refine Below.setCell ?_ (by first | (simp; done) | (simp; omega)) _))
      have kR3_0_0 : wR3.cell? ⟨w.heap.size, 0, none⟩ = some (.int .i64 0) := by rw [hwR3]; with_reducible exact (kset (by omega) kR2_0_0)
      have kR3_0_1 : wR3.cell? ⟨w.heap.size, 1, none⟩ = some (.int .i64 0) := by rw [hwR3]; with_reducible exact (kset (by omega) kR2_0_1)
      have kR3_0_2 : wR3.cell? ⟨w.heap.size, 2, none⟩ = some (.int .i64 0) := by rw [hwR3]; with_reducible exact (kset (by omega) kR2_0_2)
      have kR3_0_3 : wR3.cell? ⟨w.heap.size, 3, none⟩ = some (.int .i64 0) := by rw [hwR3]; with_reducible exact (kset (by omega) kR2_0_3)
      have kR3_0_4 : wR3.cell? ⟨w.heap.size, 4, none⟩ = some (.int .i64 0) := by rw [hwR3]; with_reducible exact (kset (by omega) kR2_0_4)
      have kR3_0_5 : wR3.cell? ⟨w.heap.size, 5, none⟩ = some (.int .i64 0) := by rw [hwR3]; with_reducible exact (kset (by omega) kR2_0_5)
      have fR3_0_0 : wR3.frozen? ⟨w.heap.size, 0, none⟩ = false := by rw [hwR3]; with_reducible exact (fset fR2_0_0)
      have fR3_0_1 : wR3.frozen? ⟨w.heap.size, 1, none⟩ = false := by rw [hwR3]; with_reducible exact (fset fR2_0_1)
      have fR3_0_2 : wR3.frozen? ⟨w.heap.size, 2, none⟩ = false := by rw [hwR3]; with_reducible exact (fset fR2_0_2)
      have fR3_0_3 : wR3.frozen? ⟨w.heap.size, 3, none⟩ = false := by rw [hwR3]; with_reducible exact (fset fR2_0_3)
      have fR3_0_4 : wR3.frozen? ⟨w.heap.size, 4, none⟩ = false := by rw [hwR3]; with_reducible exact (fset fR2_0_4)
      have fR3_0_5 : wR3.frozen? ⟨w.heap.size, 5, none⟩ = false := by rw [hwR3]; with_reducible exact (fset fR2_0_5)
      have lR3_0 : w.heap.size < wR3.heap.size := by omega
      have kR3_1_0 : wR3.cell? ⟨wO.heap.size, 0, none⟩ = some (.int .i64 v4) := by rw [hwR3]; with_reducible exact (kother (by decide) kR2_1_0)
      have kR3_1_1 : wR3.cell? ⟨wO.heap.size, 1, none⟩ = some (.int .i64 v5) := by rw [hwR3]; with_reducible exact (ksameS (kis_of kR2_1_1))
      have kR3_1_2 : wR3.cell? ⟨wO.heap.size, 2, none⟩ = some (.int .i64 0) := by rw [hwR3]; with_reducible exact (kother (by decide) kR2_1_2)
      have kR3_1_3 : wR3.cell? ⟨wO.heap.size, 3, none⟩ = some (.int .i64 0) := by rw [hwR3]; with_reducible exact (kother (by decide) kR2_1_3)
      have kR3_1_4 : wR3.cell? ⟨wO.heap.size, 4, none⟩ = some (.int .i64 0) := by rw [hwR3]; with_reducible exact (kother (by decide) kR2_1_4)
      have kR3_1_5 : wR3.cell? ⟨wO.heap.size, 5, none⟩ = some (.int .i64 0) := by rw [hwR3]; with_reducible exact (kother (by decide) kR2_1_5)
      have fR3_1_0 : wR3.frozen? ⟨wO.heap.size, 0, none⟩ = false := by rw [hwR3]; with_reducible exact (fset fR2_1_0)
      have fR3_1_1 : wR3.frozen? ⟨wO.heap.size, 1, none⟩ = false := by rw [hwR3]; with_reducible exact (fset fR2_1_1)
      have fR3_1_2 : wR3.frozen? ⟨wO.heap.size, 2, none⟩ = false := by rw [hwR3]; with_reducible exact (fset fR2_1_2)
      have fR3_1_3 : wR3.frozen? ⟨wO.heap.size, 3, none⟩ = false := by rw [hwR3]; with_reducible exact (fset fR2_1_3)
      have fR3_1_4 : wR3.frozen? ⟨wO.heap.size, 4, none⟩ = false := by rw [hwR3]; with_reducible exact (fset fR2_1_4)
      have fR3_1_5 : wR3.frozen? ⟨wO.heap.size, 5, none⟩ = false := by rw [hwR3]; with_reducible exact (fset fR2_1_5)
      have lR3_1 : wO.heap.size < wR3.heap.size := by omega
      clear kR2_0_0 kR2_0_1 kR2_0_2 kR2_0_3 kR2_0_4 kR2_0_5 fR2_0_0 fR2_0_1 fR2_0_2 fR2_0_3 fR2_0_4 fR2_0_5 kR2_1_0 kR2_1_1 kR2_1_2 kR2_1_3 kR2_1_4 kR2_1_5 fR2_1_0 fR2_1_1 fR2_1_2 fR2_1_3 fR2_1_4 fR2_1_5
      have xR3_b0_0 := kcall hxR3 kb0_0
      have xR3_b0_1 := kcall hxR3 kb0_1
      have xR3_b0_2 := kcall hxR3 kb0_2
      have xR3_b0_3 := kcall hxR3 kb0_3
      have xR3_b0_4 := kcall hxR3 kb0_4
      have xR3_b0_5 := kcall hxR3 kb0_5
      have lxR3_b0 : b0 < wR3.heap.size := by have := hxR3.size; omega
      clear hwR3
      go_wp2
      rw [rounds_succ]
      go_wp2_with fail
      refine Calls.mono (mod_any _ _ _ (by omega) (by omega) (by omega) (by omega)) ?_
      rw [← Hv6.out]
      rintro e w' ⟨rfl, rfl⟩
      go_upto_region 11 with fail
      refine wp_name (fun wR4 hwR4 => ?_)
      have sR4 : wR3.heap.size ≤ wR4.heap.size := by rw [hwR4]; (first | exact Nat.le_refl _ | (simp; done) | (simp; omega))
      have hxR4 : Below w.heap.size w wR4 := by rw [hwR4]; (repeat (first | with_reducible exact Below.refl _ _ | with_reducible exact hxR3 | with_reducible refine balloc ?_ _ | with_reducible refine bdrewN ?_ _ | with_reducible refine Below.drew ?_ | with_reducible refine bthen ?_ (by with_reducible assumption) | with_reducible refine Below.setCell ?_ (by first | (simp; done) | (simp; omega)) _))
      have kR4_0_0 : wR4.cell? ⟨w.heap.size, 0, none⟩ = some (.int .i64 0) := by rw [hwR4]; with_reducible exact (kset (by omega) kR3_0_0)
      have kR4_0_1 : wR4.cell? ⟨w.heap.size, 1, none⟩ = some (.int .i64 0) := by rw [hwR4]; with_reducible exact (kset (by omega) kR3_0_1)
      have kR4_0_2 : wR4.cell? ⟨w.heap.size, 2, none⟩ = some (.int .i64 0) := by rw [hwR4]; with_reducible exact (kset (by omega) kR3_0_2)
      have kR4_0_3 : wR4.cell? ⟨w.heap.size, 3, none⟩ = some (.int .i64 0) := by rw [hwR4]; with_reducible exact (kset (by omega) kR3_0_3)
      have kR4_0_4 : wR4.cell? ⟨w.heap.size, 4, none⟩ = some (.int .i64 0) := by rw [hwR4]; with_reducible exact (kset (by omega) kR3_0_4)
      have kR4_0_5 : wR4.cell? ⟨w.heap.size, 5, none⟩ = some (.int .i64 0) := by rw [hwR4]; with_reducible exact (kset (by omega) kR3_0_5)
      have fR4_0_0 : wR4.frozen? ⟨w.heap.size, 0, none⟩ = false := by rw [hwR4]; with_reducible exact (fset fR3_0_0)
      have fR4_0_1 : wR4.frozen? ⟨w.heap.size, 1, none⟩ = false := by rw [hwR4]; with_reducible exact (fset fR3_0_1)
      have fR4_0_2 : wR4.frozen? ⟨w.heap.size, 2, none⟩ = false := by rw [hwR4]; with_reducible exact (fset fR3_0_2)
      have fR4_0_3 : wR4.frozen? ⟨w.heap.size, 3, none⟩ = false := by rw [hwR4]; with_reducible exact (fset fR3_0_3)
      have fR4_0_4 : wR4.frozen? ⟨w.heap.size, 4, none⟩ = false := by rw [hwR4]; with_reducible exact (fset fR3_0_4)
      have fR4_0_5 : wR4.frozen? ⟨w.heap.size, 5, none⟩ = false := by rw [hwR4]; with_reducible exact (fset fR3_0_5)
      have lR4_0 : w.heap.size < wR4.heap.size := by omega
      have kR4_1_0 : wR4.cell? ⟨wO.heap.size, 0, none⟩ = some (.int .i64 v4) := by rw [hwR4]; with_reducible exact (kother (by decide) kR3_1_0)
      have kR4_1_1 : wR4.cell? ⟨wO.heap.size, 1, none⟩ = some (.int .i64 v5) := by rw [hwR4]; with_reducible exact (kother (by decide) kR3_1_1)
      have kR4_1_2 : wR4.cell? ⟨wO.heap.size, 2, none⟩ = some (.int .i64 v6) := by rw [hwR4]; with_reducible exact (ksameS (kis_of kR3_1_2))
      have kR4_1_3 : wR4.cell? ⟨wO.heap.size, 3, none⟩ = some (.int .i64 0) := by rw [hwR4]; with_reducible exact (kother (by decide) kR3_1_3)
      have kR4_1_4 : wR4.cell? ⟨wO.heap.size, 4, none⟩ = some (.int .i64 0) := by rw [hwR4]; with_reducible exact (kother (by decide) kR3_1_4)
      have kR4_1_5 : wR4.cell? ⟨wO.heap.size, 5, none⟩ = some (.int .i64 0) := by rw [hwR4]; with_reducible exact (kother (by decide) kR3_1_5)
      have fR4_1_0 : wR4.frozen? ⟨wO.heap.size, 0, none⟩ = false := by rw [hwR4]; with_reducible exact (fset fR3_1_0)
      have fR4_1_1 : wR4.frozen? ⟨wO.heap.size, 1, none⟩ = false := by rw [hwR4]; with_reducible exact (fset fR3_1_1)
      have fR4_1_2 : wR4.frozen? ⟨wO.heap.size, 2, none⟩ = false := by rw [hwR4]; with_reducible exact (fset fR3_1_2)
      have fR4_1_3 : wR4.frozen? ⟨wO.heap.size, 3, none⟩ = false := by rw [hwR4]; with_reducible exact (fset fR3_1_3)
      have fR4_1_4 : wR4.frozen? ⟨wO.heap.size, 4, none⟩ = false := by rw [hwR4]; with_reducible exact (fset fR3_1_4)
      have fR4_1_5 : wR4.frozen? ⟨wO.heap.size, 5, none⟩ = false := by rw [hwR4]; with_reducible exact (fset fR3_1_5)
      have lR4_1 : wO.heap.size < wR4.heap.size := by omega
      clear kR3_0_0 kR3_0_1 kR3_0_2 kR3_0_3 kR3_0_4 kR3_0_5 fR3_0_0 fR3_0_1 fR3_0_2 fR3_0_3 fR3_0_4 fR3_0_5 kR3_1_0 kR3_1_1 kR3_1_2 kR3_1_3 kR3_1_4 kR3_1_5 fR3_1_0 fR3_1_1 fR3_1_2 fR3_1_3 fR3_1_4 fR3_1_5
      have xR4_b0_0 := kcall hxR4 kb0_0
      have xR4_b0_1 := kcall hxR4 kb0_1
      have xR4_b0_2 := kcall hxR4 kb0_2
      have xR4_b0_3 := kcall hxR4 kb0_3
      have xR4_b0_4 := kcall hxR4 kb0_4
      have xR4_b0_5 := kcall hxR4 kb0_5
      have lxR4_b0 : b0 < wR4.heap.size := by have := hxR4.size; omega
      clear hwR4
      go_wp2
      rw [rounds_succ]
      go_wp2_with fail
      refine Calls.mono (mod_any _ _ _ (by omega) (by omega) (by omega) (by omega)) ?_
      rw [← Hv7.out]
      rintro e w' ⟨rfl, rfl⟩
      go_upto_region 11 with fail
      refine wp_name (fun wR5 hwR5 => ?_)
      have sR5 : wR4.heap.size ≤ wR5.heap.size := by rw [hwR5]; (first | exact Nat.le_refl _ | (simp; done) | (simp; omega))
      have hxR5 : Below w.heap.size w wR5 := by rw [hwR5]; (repeat (first | with_reducible exact Below.refl _ _ | with_reducible exact hxR4 | with_reducible refine balloc ?_ _ | with_reducible refine bdrewN ?_ _ | with_reducible refine Below.drew ?_ | with_reducible refine bthen ?_ (by with_reducible assumption) | with_reducible refine Below.setCell ?_ (by first | (simp; done) | (simp; omega)) _))
      have kR5_0_0 : wR5.cell? ⟨w.heap.size, 0, none⟩ = some (.int .i64 0) := by rw [hwR5]; with_reducible exact (kset (by omega) kR4_0_0)
      have kR5_0_1 : wR5.cell? ⟨w.heap.size, 1, none⟩ = some (.int .i64 0) := by rw [hwR5]; with_reducible exact (kset (by omega) kR4_0_1)
      have kR5_0_2 : wR5.cell? ⟨w.heap.size, 2, none⟩ = some (.int .i64 0) := by rw [hwR5]; with_reducible exact (kset (by omega) kR4_0_2)
      have kR5_0_3 : wR5.cell? ⟨w.heap.size, 3, none⟩ = some (.int .i64 0) := by rw [hwR5]; with_reducible exact (kset (by omega) kR4_0_3)
      have kR5_0_4 : wR5.cell? ⟨w.heap.size, 4, none⟩ = some (.int .i64 0) := by rw [hwR5]; with_reducible exact (kset (by omega) kR4_0_4)
      have kR5_0_5 : wR5.cell? ⟨w.heap.size, 5, none⟩ = some (.int .i64 0) := by rw [hwR5]; with_reducible exact (kset (by omega) kR4_0_5)
      have fR5_0_0 : wR5.frozen? ⟨w.heap.size, 0, none⟩ = false := by rw [hwR5]; with_reducible exact (fset fR4_0_0)
      have fR5_0_1 : wR5.frozen? ⟨w.heap.size, 1, none⟩ = false := by rw [hwR5]; with_reducible exact (fset fR4_0_1)
      have fR5_0_2 : wR5.frozen? ⟨w.heap.size, 2, none⟩ = false := by rw [hwR5]; with_reducible exact (fset fR4_0_2)
      have fR5_0_3 : wR5.frozen? ⟨w.heap.size, 3, none⟩ = false := by rw [hwR5]; with_reducible exact (fset fR4_0_3)
      have fR5_0_4 : wR5.frozen? ⟨w.heap.size, 4, none⟩ = false := by rw [hwR5]; with_reducible exact (fset fR4_0_4)
      have fR5_0_5 : wR5.frozen? ⟨w.heap.size, 5, none⟩ = false := by rw [hwR5]; with_reducible exact (fset fR4_0_5)
      have lR5_0 : w.heap.size < wR5.heap.size := by omega
      have kR5_1_0 : wR5.cell? ⟨wO.heap.size, 0, none⟩ = some (.int .i64 v4) := by rw [hwR5]; with_reducible exact (kother (by decide) kR4_1_0)
      have kR5_1_1 : wR5.cell? ⟨wO.heap.size, 1, none⟩ = some (.int .i64 v5) := by rw [hwR5]; with_reducible exact (kother (by decide) kR4_1_1)
      have kR5_1_2 : wR5.cell? ⟨wO.heap.size, 2, none⟩ = some (.int .i64 v6) := by rw [hwR5]; with_reducible exact (kother (by decide) kR4_1_2)
      have kR5_1_3 : wR5.cell? ⟨wO.heap.size, 3, none⟩ = some (.int .i64 v7) := by rw [hwR5]; with_reducible exact (ksameS (kis_of kR4_1_3))
      have kR5_1_4 : wR5.cell? ⟨wO.heap.size, 4, none⟩ = some (.int .i64 0) := by rw [hwR5]; with_reducible exact (kother (by decide) kR4_1_4)
      have kR5_1_5 : wR5.cell? ⟨wO.heap.size, 5, none⟩ = some (.int .i64 0) := by rw [hwR5]; with_reducible exact (kother (by decide) kR4_1_5)
      have fR5_1_0 : wR5.frozen? ⟨wO.heap.size, 0, none⟩ = false := by rw [hwR5]; with_reducible exact (fset fR4_1_0)
      have fR5_1_1 : wR5.frozen? ⟨wO.heap.size, 1, none⟩ = false := by rw [hwR5]; with_reducible exact (fset fR4_1_1)
      have fR5_1_2 : wR5.frozen? ⟨wO.heap.size, 2, none⟩ = false := by rw [hwR5]; with_reducible exact (fset fR4_1_2)
      have fR5_1_3 : wR5.frozen? ⟨wO.heap.size, 3, none⟩ = false := by rw [hwR5]; with_reducible exact (fset fR4_1_3)
      have fR5_1_4 : wR5.frozen? ⟨wO.heap.size, 4, none⟩ = false := by rw [hwR5]; with_reducible exact (fset fR4_1_4)
      have fR5_1_5 : wR5.frozen? ⟨wO.heap.size, 5, none⟩ = false := by rw [hwR5]; with_reducible exact (fset fR4_1_5)
      have lR5_1 : wO.heap.size < wR5.heap.size := by omega
      clear kR4_0_0 kR4_0_1 kR4_0_2 kR4_0_3 kR4_0_4 kR4_0_5 fR4_0_0 fR4_0_1 fR4_0_2 fR4_0_3 fR4_0_4 fR4_0_5 kR4_1_0 kR4_1_1 kR4_1_2 kR4_1_3 kR4_1_4 kR4_1_5 fR4_1_0 fR4_1_1 fR4_1_2 fR4_1_3 fR4_1_4 fR4_1_5
      have xR5_b0_0 := kcall hxR5 kb0_0
      have xR5_b0_1 := kcall hxR5 kb0_1
      have xR5_b0_2 := kcall hxR5 kb0_2
      have xR5_b0_3 := kcall hxR5 kb0_3
      have xR5_b0_4 := kcall hxR5 kb0_4
      have xR5_b0_5 := kcall hxR5 kb0_5
      have lxR5_b0 : b0 < wR5.heap.size := by have := hxR5.size; omega
      clear hwR5
      go_wp2
      rw [rounds_succ]
      go_wp2_with fail
      refine Calls.mono (mod_any _ _ _ (by omega) (by omega) (by omega) (by omega)) ?_
      rw [← Hv8.out]
      rintro e w' ⟨rfl, rfl⟩
      go_upto_region 11 with fail
      refine wp_name (fun wR6 hwR6 => ?_)
      have sR6 : wR5.heap.size ≤ wR6.heap.size := by rw [hwR6]; (first | exact Nat.le_refl _ | (simp; done) | (simp; omega))
      have hxR6 : Below w.heap.size w wR6 := by rw [hwR6]; (repeat (first | with_reducible exact Below.refl _ _ | with_reducible exact hxR5 | with_reducible refine balloc ?_ _ | with_reducible refine bdrewN ?_ _ | with_reducible refine Below.drew ?_ | with_reducible refine bthen ?_ (by with_reducible assumption) | with_reducible refine Below.setCell ?_ (by first | (simp; done) | (simp; omega)) _))
      have kR6_0_0 : wR6.cell? ⟨w.heap.size, 0, none⟩ = some (.int .i64 0) := by rw [hwR6]; with_reducible exact (kset (by omega) kR5_0_0)
      have kR6_0_1 : wR6.cell? ⟨w.heap.size, 1, none⟩ = some (.int .i64 0) := by rw [hwR6]; with_reducible exact (kset (by omega) kR5_0_1)
      have kR6_0_2 : wR6.cell? ⟨w.heap.size, 2, none⟩ = some (.int .i64 0) := by rw [hwR6]; with_reducible exact (kset (by omega) kR5_0_2)
      have kR6_0_3 : wR6.cell? ⟨w.heap.size, 3, none⟩ = some (.int .i64 0) := by rw [hwR6]; with_reducible exact (kset (by omega) kR5_0_3)
      have kR6_0_4 : wR6.cell? ⟨w.heap.size, 4, none⟩ = some (.int .i64 0) := by rw [hwR6]; with_reducible exact (kset (by omega) kR5_0_4)
      have kR6_0_5 : wR6.cell? ⟨w.heap.size, 5, none⟩ = some (.int .i64 0) := by rw [hwR6]; with_reducible exact (kset (by omega) kR5_0_5)
      have fR6_0_0 : wR6.frozen? ⟨w.heap.size, 0, none⟩ = false := by rw [hwR6]; with_reducible exact (fset fR5_0_0)
      have fR6_0_1 : wR6.frozen? ⟨w.heap.size, 1, none⟩ = false := by rw [hwR6]; with_reducible exact (fset fR5_0_1)
      have fR6_0_2 : wR6.frozen? ⟨w.heap.size, 2, none⟩ = false := by rw [hwR6]; with_reducible exact (fset fR5_0_2)
      have fR6_0_3 : wR6.frozen? ⟨w.heap.size, 3, none⟩ = false := by rw [hwR6]; with_reducible exact (fset fR5_0_3)
      have fR6_0_4 : wR6.frozen? ⟨w.heap.size, 4, none⟩ = false := by rw [hwR6]; with_reducible exact (fset fR5_0_4)
      have fR6_0_5 : wR6.frozen? ⟨w.heap.size, 5, none⟩ = false := by rw [hwR6]; with_reducible exact (fset fR5_0_5)
      have lR6_0 : w.heap.size < wR6.heap.size := by omega
      have kR6_1_0 : wR6.cell? ⟨wO.heap.size, 0, none⟩ = some (.int .i64 v4) := by rw [hwR6]; with_reducible exact (kother (by decide) kR5_1_0)
      have kR6_1_1 : wR6.cell? ⟨wO.heap.size, 1, none⟩ = some (.int .i64 v5) := by rw [hwR6]; with_reducible exact (kother (by decide) kR5_1_1)
      have kR6_1_2 : wR6.cell? ⟨wO.heap.size, 2, none⟩ = some (.int .i64 v6) := by rw [hwR6]; with_reducible exact (kother (by decide) kR5_1_2)
      have kR6_1_3 : wR6.cell? ⟨wO.heap.size, 3, none⟩ = some (.int .i64 v7) := by rw [hwR6]; with_reducible exact (kother (by decide) kR5_1_3)
      have kR6_1_4 : wR6.cell? ⟨wO.heap.size, 4, none⟩ = some (.int .i64 v8) := by rw [hwR6]; with_reducible exact (ksameS (kis_of kR5_1_4))
      have kR6_1_5 : wR6.cell? ⟨wO.heap.size, 5, none⟩ = some (.int .i64 0) := by rw [hwR6]; with_reducible exact (kother (by decide) kR5_1_5)
      have fR6_1_0 : wR6.frozen? ⟨wO.heap.size, 0, none⟩ = false := by rw [hwR6]; with_reducible exact (fset fR5_1_0)
      have fR6_1_1 : wR6.frozen? ⟨wO.heap.size, 1, none⟩ = false := by rw [hwR6]; with_reducible exact (fset fR5_1_1)
      have fR6_1_2 : wR6.frozen? ⟨wO.heap.size, 2, none⟩ = false := by rw [hwR6]; with_reducible exact (fset fR5_1_2)
      have fR6_1_3 : wR6.frozen? ⟨wO.heap.size, 3, none⟩ = false := by rw [hwR6]; with_reducible exact (fset fR5_1_3)
      have fR6_1_4 : wR6.frozen? ⟨wO.heap.size, 4, none⟩ = false := by rw [hwR6]; with_reducible exact (fset fR5_1_4)
      have fR6_1_5 : wR6.frozen? ⟨wO.heap.size, 5, none⟩ = false := by rw [hwR6]; with_reducible exact (fset fR5_1_5)
      have lR6_1 : wO.heap.size < wR6.heap.size := by omega
      clear kR5_0_0 kR5_0_1 kR5_0_2 kR5_0_3 kR5_0_4 kR5_0_5 fR5_0_0 fR5_0_1 fR5_0_2 fR5_0_3 fR5_0_4 fR5_0_5 kR5_1_0 kR5_1_1 kR5_1_2 kR5_1_3 kR5_1_4 kR5_1_5 fR5_1_0 fR5_1_1 fR5_1_2 fR5_1_3 fR5_1_4 fR5_1_5
      have xR6_b0_0 := kcall hxR6 kb0_0
      have xR6_b0_1 := kcall hxR6 kb0_1
      have xR6_b0_2 := kcall hxR6 kb0_2
      have xR6_b0_3 := kcall hxR6 kb0_3
      have xR6_b0_4 := kcall hxR6 kb0_4
      have xR6_b0_5 := kcall hxR6 kb0_5
      have lxR6_b0 : b0 < wR6.heap.size := by have := hxR6.size; omega
      clear hwR6
      go_wp2
      rw [rounds_succ]
      go_wp2_with fail
      refine Calls.mono (mod_any _ _ _ (by omega) (by omega) (by omega) (by omega)) ?_
      rw [← Hv9.out]
      rintro e w' ⟨rfl, rfl⟩
      go_upto_region 11 with fail
      refine wp_name (fun wR7 hwR7 => ?_)
      have sR7 : wR6.heap.size ≤ wR7.heap.size := by rw [hwR7]; (first | exact Nat.le_refl _ | (simp; done) | (simp; omega))
      have hxR7 : Below w.heap.size w wR7 := by rw [hwR7]; (repeat (first | with_reducible exact Below.refl _ _ | with_reducible exact hxR6 | with_reducible refine balloc ?_ _ | with_reducible refine bdrewN ?_ _ | with_reducible refine Below.drew ?_ | with_reducible refine bthen ?_ (by with_reducible assumption) | with_reducible refine Below.setCell ?_ (by first | (simp; done) | (simp; omega)) _))
      have kR7_0_0 : wR7.cell? ⟨w.heap.size, 0, none⟩ = some (.int .i64 0) := by rw [hwR7]; with_reducible exact (kset (by omega) kR6_0_0)
      have kR7_0_1 : wR7.cell? ⟨w.heap.size, 1, none⟩ = some (.int .i64 0) := by rw [hwR7]; with_reducible exact (kset (by omega) kR6_0_1)
      have kR7_0_2 : wR7.cell? ⟨w.heap.size, 2, none⟩ = some (.int .i64 0) := by rw [hwR7]; with_reducible exact (kset (by omega) kR6_0_2)
      have kR7_0_3 : wR7.cell? ⟨w.heap.size, 3, none⟩ = some (.int .i64 0) := by rw [hwR7]; with_reducible exact (kset (by omega) kR6_0_3)
      have kR7_0_4 : wR7.cell? ⟨w.heap.size, 4, none⟩ = some (.int .i64 0) := by rw [hwR7]; with_reducible exact (kset (by omega) kR6_0_4)
      have kR7_0_5 : wR7.cell? ⟨w.heap.size, 5, none⟩ = some (.int .i64 0) := by rw [hwR7]; with_reducible exact (kset (by omega) kR6_0_5)
      have fR7_0_0 : wR7.frozen? ⟨w.heap.size, 0, none⟩ = false := by rw [hwR7]; with_reducible exact (fset fR6_0_0)
      have fR7_0_1 : wR7.frozen? ⟨w.heap.size, 1, none⟩ = false := by rw [hwR7]; with_reducible exact (fset fR6_0_1)
      have fR7_0_2 : wR7.frozen? ⟨w.heap.size, 2, none⟩ = false := by rw [hwR7]; with_reducible exact (fset fR6_0_2)
      have fR7_0_3 : wR7.frozen? ⟨w.heap.size, 3, none⟩ = false := by rw [hwR7]; with_reducible exact (fset fR6_0_3)
      have fR7_0_4 : wR7.frozen? ⟨w.heap.size, 4, none⟩ = false := by rw [hwR7]; with_reducible exact (fset fR6_0_4)
      have fR7_0_5 : wR7.frozen? ⟨w.heap.size, 5, none⟩ = false := by rw [hwR7]; with_reducible exact (fset fR6_0_5)
      have lR7_0 : w.heap.size < wR7.heap.size := by omega
      have kR7_1_0 : wR7.cell? ⟨wO.heap.size, 0, none⟩ = some (.int .i64 v4) := by rw [hwR7]; with_reducible exact (kother (by decide) kR6_1_0)
      have kR7_1_1 : wR7.cell? ⟨wO.heap.size, 1, none⟩ = some (.int .i64 v5) := by rw [hwR7]; with_reducible exact (kother (by decide) kR6_1_1)
      have kR7_1_2 : wR7.cell? ⟨wO.heap.size, 2, none⟩ = some (.int .i64 v6) := by rw [hwR7]; with_reducible exact (kother (by decide) kR6_1_2)
      have kR7_1_3 : wR7.cell? ⟨wO.heap.size, 3, none⟩ = some (.int .i64 v7) := by rw [hwR7]; with_reducible exact (kother (by decide) kR6_1_3)
      have kR7_1_4 : wR7.cell? ⟨wO.heap.size, 4, none⟩ = some (.int .i64 v8) := by rw [hwR7]; with_reducible exact (kother (by decide) kR6_1_4)
      have kR7_1_5 : wR7.cell? ⟨wO.heap.size, 5, none⟩ = some (.int .i64 v9) := by rw [hwR7]; with_reducible exact (ksameS (kis_of kR6_1_5))
      have lR7_1 : wO.heap.size < wR7.heap.size := by omega
      clear kR6_0_0 kR6_0_1 kR6_0_2 kR6_0_3 kR6_0_4 kR6_0_5 fR6_0_0 fR6_0_1 fR6_0_2 fR6_0_3 fR6_0_4 fR6_0_5 kR6_1_0 kR6_1_1 kR6_1_2 kR6_1_3 kR6_1_4 kR6_1_5 fR6_1_0 fR6_1_1 fR6_1_2 fR6_1_3 fR6_1_4 fR6_1_5
      have xR7_b0_0 := kcall hxR7 kb0_0
      have xR7_b0_1 := kcall hxR7 kb0_1
      have xR7_b0_2 := kcall hxR7 kb0_2
      have xR7_b0_3 := kcall hxR7 kb0_3
      have xR7_b0_4 := kcall hxR7 kb0_4
      have xR7_b0_5 := kcall hxR7 kb0_5
      have lxR7_b0 : b0 < wR7.heap.size := by have := hxR7.size; omega
      clear hwR7
      go_wp2
      rw [rounds_succ]
      have hm1 : x1 % p = x1 := Int.emod_eq_of_lt hx1.1 hx1.2
      have hm2 : x2 % p = x2 := Int.emod_eq_of_lt hx2.1 hx2.2
      have hm3 : x3 % p = x3 := Int.emod_eq_of_lt hx3.1 hx3.2
      have hm4 : x4 % p = x4 := Int.emod_eq_of_lt hx4.1 hx4.2
      have hm5 : x5 % p = x5 := Int.emod_eq_of_lt hx5.1 hx5.2
      have hm6 : x6 % p = x6 := Int.emod_eq_of_lt hx6.1 hx6.2
      have g1 : (x1 == 0) = true := by have q := hd1; (try simp only [Hv9.out, Hv8.out, Hv7.out, Hv6.out, Hv5.out, Hv4.out, Hv3.out, Hv2.out, Hv1.out, hm1, hm2, hm3, hm4, hm5, hm6] at q); exact q
      have g2 : (x2 == 0) = false := by have q := hd2; (try simp only [Hv9.out, Hv8.out, Hv7.out, Hv6.out, Hv5.out, Hv4.out, Hv3.out, Hv2.out, Hv1.out, hm1, hm2, hm3, hm4, hm5, hm6] at q); exact q
      have hz : (ld3 x1 x2 x3 == 0) = false := by simp only [ld3, g1, g2, if_true, if_false, Bool.false_eq_true]
      have HV := Lib.hid (show ck p x1 x2 x3 x1 = v4 ∧ ck p x1 x2 x3 x2 = v5 ∧ ck p x1 x2 x3 x3 = v6 ∧ ck p x1 x2 x3 x4 = v7 ∧ ck p x1 x2 x3 x5 = v8 ∧ ck p x1 x2 x3 x6 = v9 ∧ !(ld3 x1 x2 x3 == 0) = true from by
        simp only [Hv9.out, Hv8.out, Hv7.out, Hv6.out, Hv5.out, Hv4.out, Hv3.out, Hv2.out, Hv1.out, hm1, hm2, hm3, hm4, hm5, hm6, ck, ld3, g1, g2, if_true, if_false, Bool.false_eq_true, hz]; simp)
      go_wp2
      (refine bodyPost_ret (v := .tuple #[.agg #[.int .i64 (ck p x1 x2 x3 x1), .int .i64 (ck p x1 x2 x3 x2), .int .i64 (ck p x1 x2 x3 x3), .int .i64 (ck p x1 x2 x3 x4), .int .i64 (ck p x1 x2 x3 x5), .int .i64 (ck p x1 x2 x3 x6)], .bool (!(ld3 x1 x2 x3 == 0))]) (by simp [results, Try.results68, go_sem, HV.out.1, HV.out.2.1, HV.out.2.2.1, HV.out.2.2.2.1, HV.out.2.2.2.2.1, HV.out.2.2.2.2.2.1, HV.out.2.2.2.2.2.2, *]) rfl ⟨?_, ?_⟩)
      · rfl
      · (repeat (first | with_reducible exact Below.refl _ _ | with_reducible exact hxR7 | with_reducible refine balloc ?_ _ | with_reducible refine bdrewN ?_ _ | with_reducible refine Below.drew ?_ | with_reducible refine bthen ?_ (by with_reducible assumption) | with_reducible refine Below.setCell ?_ (by first | (simp; done) | (simp; omega)) _))
    · have hd2n : (v2 != 0) = false := by rw [bne, hd2]; rfl
      have Hhd2p := Lib.hid (beq_iff_eq.1 hd2)
      obtain ⟨v3, hv3⟩ : ∃ v : Int, v = x3 % p := ⟨_, rfl⟩
      have rv3 := modR x3 hp
      rw [← hv3] at rv3
      have Hv3 := Lib.hid hv3
      clear hv3
      go_wp2_with fail
      refine Calls.mono (mod_any _ _ _ (by omega) (by omega) (by omega) (by omega)) ?_
      rw [← Hv3.out]
      rintro e w' ⟨rfl, rfl⟩
      go_wp2
      rw [rounds_succ]
      rcases bool_ways (v3 == 0) with hd3 | hd3
      · have hd3n : (v3 != 0) = true := by rw [bne, hd3]; rfl
        have Hhd3p := Lib.hid (beq_eq_false_iff_ne.1 hd3)
        obtain ⟨v4, hv4⟩ : ∃ v : Int, v = inv p v3 := ⟨_, rfl⟩
        have rv4 := inv_range v3 hp
        rw [← hv4] at rv4
        have Hv4 := Lib.hid hv4
        clear hv4
        have d_1 := modR (x1) hp
        have hpos : p ≠ 0 := by omega
        have mu_1 := mulNN 30 30 900 (by decide) (a := x1 % p) (b := v4) (by omega) (by omega)
        obtain ⟨v5, hv5⟩ : ∃ v : Int, v = ((x1 % p) * v4) % p := ⟨_, rfl⟩
        have rv5 := modR ((x1 % p) * v4) hp
        rw [← hv5] at rv5
        have Hv5 := Lib.hid hv5
        clear hv5
        have d_2 := modR (x2) hp
        have mu_2 := mulNN 30 30 900 (by decide) (a := x2 % p) (b := v4) (by omega) (by omega)
        obtain ⟨v6, hv6⟩ : ∃ v : Int, v = ((x2 % p) * v4) % p := ⟨_, rfl⟩
        have rv6 := modR ((x2 % p) * v4) hp
        rw [← hv6] at rv6
        have Hv6 := Lib.hid hv6
        clear hv6
        have d_3 := modR (x3) hp
        have mu_3 := mulNN 30 30 900 (by decide) (a := x3 % p) (b := v4) (by omega) (by omega)
        obtain ⟨v7, hv7⟩ : ∃ v : Int, v = ((x3 % p) * v4) % p := ⟨_, rfl⟩
        have rv7 := modR ((x3 % p) * v4) hp
        rw [← hv7] at rv7
        have Hv7 := Lib.hid hv7
        clear hv7
        have d_4 := modR (x4) hp
        have mu_4 := mulNN 30 30 900 (by decide) (a := x4 % p) (b := v4) (by omega) (by omega)
        obtain ⟨v8, hv8⟩ : ∃ v : Int, v = ((x4 % p) * v4) % p := ⟨_, rfl⟩
        have rv8 := modR ((x4 % p) * v4) hp
        rw [← hv8] at rv8
        have Hv8 := Lib.hid hv8
        clear hv8
        have d_5 := modR (x5) hp
        have mu_5 := mulNN 30 30 900 (by decide) (a := x5 % p) (b := v4) (by omega) (by omega)
        obtain ⟨v9, hv9⟩ : ∃ v : Int, v = ((x5 % p) * v4) % p := ⟨_, rfl⟩
        have rv9 := modR ((x5 % p) * v4) hp
        rw [← hv9] at rv9
        have Hv9 := Lib.hid hv9
        clear hv9
        have d_6 := modR (x6) hp
        have mu_6 := mulNN 30 30 900 (by decide) (a := x6 % p) (b := v4) (by omega) (by omega)
        obtain ⟨v10, hv10⟩ : ∃ v : Int, v = ((x6 % p) * v4) % p := ⟨_, rfl⟩
        have rv10 := modR ((x6 % p) * v4) hp
        rw [← hv10] at rv10
        have Hv10 := Lib.hid hv10
        clear hv10
        go_wp2_with fail
        refine Calls.mono (inverse_any _ _ _ hp (by omega) (by omega)) ?_
        rw [← Hv4.out]
        rintro e w' ⟨rfl, rfl⟩
        go_wp2
        refine wp_loop_rounds 8 ?_
        rw [rounds_succ]
        go_wp2_with fail
        refine Calls.mono (mod_any _ _ _ (by omega) (by omega) (by omega) (by omega)) ?_
        rw [← Hv5.out]
        rintro e w' ⟨rfl, rfl⟩
        go_upto_region 11 with fail
        refine wp_name (fun wR2 hwR2 => ?_)
        have sR2 : wR1.heap.size ≤ wR2.heap.size := by rw [hwR2]; (first | exact Nat.le_refl _ | (simp; done) | (simp; omega))
        have hxR2 : Below w.heap.size w wR2 := by rw [hwR2]; (repeat (first | with_reducible exact Below.refl _ _ | with_reducible exact hxR1 | with_reducible refine balloc ?_ _ | with_reducible refine bdrewN ?_ _ | with_reducible refine Below.drew ?_ | with_reducible refine bthen ?_ (by with_reducible assumption) | with_reducible refine Below.setCell ?_ (by first | (simp; done) | (simp; omega)) _))
        have kR2_0_0 : wR2.cell? ⟨w.heap.size, 0, none⟩ = some (.int .i64 0) := by rw [hwR2]; with_reducible exact (kset (by omega) kR1_0_0)
        have kR2_0_1 : wR2.cell? ⟨w.heap.size, 1, none⟩ = some (.int .i64 0) := by rw [hwR2]; with_reducible exact (kset (by omega) kR1_0_1)
        have kR2_0_2 : wR2.cell? ⟨w.heap.size, 2, none⟩ = some (.int .i64 0) := by rw [hwR2]; with_reducible exact (kset (by omega) kR1_0_2)
        have kR2_0_3 : wR2.cell? ⟨w.heap.size, 3, none⟩ = some (.int .i64 0) := by rw [hwR2]; with_reducible exact (kset (by omega) kR1_0_3)
        have kR2_0_4 : wR2.cell? ⟨w.heap.size, 4, none⟩ = some (.int .i64 0) := by rw [hwR2]; with_reducible exact (kset (by omega) kR1_0_4)
        have kR2_0_5 : wR2.cell? ⟨w.heap.size, 5, none⟩ = some (.int .i64 0) := by rw [hwR2]; with_reducible exact (kset (by omega) kR1_0_5)
        have fR2_0_0 : wR2.frozen? ⟨w.heap.size, 0, none⟩ = false := by rw [hwR2]; with_reducible exact (fset fR1_0_0)
        have fR2_0_1 : wR2.frozen? ⟨w.heap.size, 1, none⟩ = false := by rw [hwR2]; with_reducible exact (fset fR1_0_1)
        have fR2_0_2 : wR2.frozen? ⟨w.heap.size, 2, none⟩ = false := by rw [hwR2]; with_reducible exact (fset fR1_0_2)
        have fR2_0_3 : wR2.frozen? ⟨w.heap.size, 3, none⟩ = false := by rw [hwR2]; with_reducible exact (fset fR1_0_3)
        have fR2_0_4 : wR2.frozen? ⟨w.heap.size, 4, none⟩ = false := by rw [hwR2]; with_reducible exact (fset fR1_0_4)
        have fR2_0_5 : wR2.frozen? ⟨w.heap.size, 5, none⟩ = false := by rw [hwR2]; with_reducible exact (fset fR1_0_5)
        have lR2_0 : w.heap.size < wR2.heap.size := by omega
        have kR2_1_0 : wR2.cell? ⟨wO.heap.size, 0, none⟩ = some (.int .i64 v5) := by rw [hwR2]; with_reducible exact (ksameS (kis_of kR1_1_0))
        have kR2_1_1 : wR2.cell? ⟨wO.heap.size, 1, none⟩ = some (.int .i64 0) := by rw [hwR2]; with_reducible exact (kother (by decide) kR1_1_1)
        have kR2_1_2 : wR2.cell? ⟨wO.heap.size, 2, none⟩ = some (.int .i64 0) := by rw [hwR2]; with_reducible exact (kother (by decide) kR1_1_2)
        have kR2_1_3 : wR2.cell? ⟨wO.heap.size, 3, none⟩ = some (.int .i64 0) := by rw [hwR2]; with_reducible exact (kother (by decide) kR1_1_3)
        have kR2_1_4 : wR2.cell? ⟨wO.heap.size, 4, none⟩ = some (.int .i64 0) := by rw [hwR2]; with_reducible exact (kother (by decide) kR1_1_4)
        have kR2_1_5 : wR2.cell? ⟨wO.heap.size, 5, none⟩ = some (.int .i64 0) := by rw [hwR2]; with_reducible exact (kother (by decide) kR1_1_5)
        have fR2_1_0 : wR2.frozen? ⟨wO.heap.size, 0, none⟩ = false := by rw [hwR2]; with_reducible exact (fset fR1_1_0)
        have fR2_1_1 : wR2.frozen? ⟨wO.heap.size, 1, none⟩ = false := by rw [hwR2]; with_reducible exact (fset fR1_1_1)
        have fR2_1_2 : wR2.frozen? ⟨wO.heap.size, 2, none⟩ = false := by rw [hwR2]; with_reducible exact (fset fR1_1_2)
        have fR2_1_3 : wR2.frozen? ⟨wO.heap.size, 3, none⟩ = false := by rw [hwR2]; with_reducible exact (fset fR1_1_3)
        have fR2_1_4 : wR2.frozen? ⟨wO.heap.size, 4, none⟩ = false := by rw [hwR2]; with_reducible exact (fset fR1_1_4)
        have fR2_1_5 : wR2.frozen? ⟨wO.heap.size, 5, none⟩ = false := by rw [hwR2]; with_reducible exact (fset fR1_1_5)
        have lR2_1 : wO.heap.size < wR2.heap.size := by omega
        clear kR1_0_0 kR1_0_1 kR1_0_2 kR1_0_3 kR1_0_4 kR1_0_5 fR1_0_0 fR1_0_1 fR1_0_2 fR1_0_3 fR1_0_4 fR1_0_5 kR1_1_0 kR1_1_1 kR1_1_2 kR1_1_3 kR1_1_4 kR1_1_5 fR1_1_0 fR1_1_1 fR1_1_2 fR1_1_3 fR1_1_4 fR1_1_5
        have xR2_b0_0 := kcall hxR2 kb0_0
        have xR2_b0_1 := kcall hxR2 kb0_1
        have xR2_b0_2 := kcall hxR2 kb0_2
        have xR2_b0_3 := kcall hxR2 kb0_3
        have xR2_b0_4 := kcall hxR2 kb0_4
        have xR2_b0_5 := kcall hxR2 kb0_5
        have lxR2_b0 : b0 < wR2.heap.size := by have := hxR2.size; omega
        clear hwR2
        go_wp2
        rw [rounds_succ]
        go_wp2_with fail
        refine Calls.mono (mod_any _ _ _ (by omega) (by omega) (by omega) (by omega)) ?_
        rw [← Hv6.out]
        rintro e w' ⟨rfl, rfl⟩
        go_upto_region 11 with fail
        refine wp_name (fun wR3 hwR3 => ?_)
        have sR3 : wR2.heap.size ≤ wR3.heap.size := by rw [hwR3]; (first | exact Nat.le_refl _ | (simp; done) | (simp; omega))
        have hxR3 : Below w.heap.size w wR3 := by rw [hwR3]; (repeat (first | with_reducible exact Below.refl _ _ | with_reducible exact hxR2 | with_reducible refine balloc ?_ _ | with_reducible refine bdrewN ?_ _ | with_reducible refine Below.drew ?_ | with_reducible refine bthen ?_ (by with_reducible assumption) | with_reducible refine Below.setCell ?_ (by first | (simp; done) | (simp; omega)) _))
        have kR3_0_0 : wR3.cell? ⟨w.heap.size, 0, none⟩ = some (.int .i64 0) := by rw [hwR3]; with_reducible exact (kset (by omega) kR2_0_0)
        have kR3_0_1 : wR3.cell? ⟨w.heap.size, 1, none⟩ = some (.int .i64 0) := by rw [hwR3]; with_reducible exact (kset (by omega) kR2_0_1)
        have kR3_0_2 : wR3.cell? ⟨w.heap.size, 2, none⟩ = some (.int .i64 0) := by rw [hwR3]; with_reducible exact (kset (by omega) kR2_0_2)
        have kR3_0_3 : wR3.cell? ⟨w.heap.size, 3, none⟩ = some (.int .i64 0) := by rw [hwR3]; with_reducible exact (kset (by omega) kR2_0_3)
        have kR3_0_4 : wR3.cell? ⟨w.heap.size, 4, none⟩ = some (.int .i64 0) := by rw [hwR3]; with_reducible exact (kset (by omega) kR2_0_4)
        have kR3_0_5 : wR3.cell? ⟨w.heap.size, 5, none⟩ = some (.int .i64 0) := by rw [hwR3]; with_reducible exact (kset (by omega) kR2_0_5)
        have fR3_0_0 : wR3.frozen? ⟨w.heap.size, 0, none⟩ = false := by rw [hwR3]; with_reducible exact (fset fR2_0_0)
        have fR3_0_1 : wR3.frozen? ⟨w.heap.size, 1, none⟩ = false := by rw [hwR3]; with_reducible exact (fset fR2_0_1)
        have fR3_0_2 : wR3.frozen? ⟨w.heap.size, 2, none⟩ = false := by rw [hwR3]; with_reducible exact (fset fR2_0_2)
        have fR3_0_3 : wR3.frozen? ⟨w.heap.size, 3, none⟩ = false := by rw [hwR3]; with_reducible exact (fset fR2_0_3)
        have fR3_0_4 : wR3.frozen? ⟨w.heap.size, 4, none⟩ = false := by rw [hwR3]; with_reducible exact (fset fR2_0_4)
        have fR3_0_5 : wR3.frozen? ⟨w.heap.size, 5, none⟩ = false := by rw [hwR3]; with_reducible exact (fset fR2_0_5)
        have lR3_0 : w.heap.size < wR3.heap.size := by omega
        have kR3_1_0 : wR3.cell? ⟨wO.heap.size, 0, none⟩ = some (.int .i64 v5) := by rw [hwR3]; with_reducible exact (kother (by decide) kR2_1_0)
        have kR3_1_1 : wR3.cell? ⟨wO.heap.size, 1, none⟩ = some (.int .i64 v6) := by rw [hwR3]; with_reducible exact (ksameS (kis_of kR2_1_1))
        have kR3_1_2 : wR3.cell? ⟨wO.heap.size, 2, none⟩ = some (.int .i64 0) := by rw [hwR3]; with_reducible exact (kother (by decide) kR2_1_2)
        have kR3_1_3 : wR3.cell? ⟨wO.heap.size, 3, none⟩ = some (.int .i64 0) := by rw [hwR3]; with_reducible exact (kother (by decide) kR2_1_3)
        have kR3_1_4 : wR3.cell? ⟨wO.heap.size, 4, none⟩ = some (.int .i64 0) := by rw [hwR3]; with_reducible exact (kother (by decide) kR2_1_4)
        have kR3_1_5 : wR3.cell? ⟨wO.heap.size, 5, none⟩ = some (.int .i64 0) := by rw [hwR3]; with_reducible exact (kother (by decide) kR2_1_5)
        have fR3_1_0 : wR3.frozen? ⟨wO.heap.size, 0, none⟩ = false := by rw [hwR3]; with_reducible exact (fset fR2_1_0)
        have fR3_1_1 : wR3.frozen? ⟨wO.heap.size, 1, none⟩ = false := by rw [hwR3]; with_reducible exact (fset fR2_1_1)
        have fR3_1_2 : wR3.frozen? ⟨wO.heap.size, 2, none⟩ = false := by rw [hwR3]; with_reducible exact (fset fR2_1_2)
        have fR3_1_3 : wR3.frozen? ⟨wO.heap.size, 3, none⟩ = false := by rw [hwR3]; with_reducible exact (fset fR2_1_3)
        have fR3_1_4 : wR3.frozen? ⟨wO.heap.size, 4, none⟩ = false := by rw [hwR3]; with_reducible exact (fset fR2_1_4)
        have fR3_1_5 : wR3.frozen? ⟨wO.heap.size, 5, none⟩ = false := by rw [hwR3]; with_reducible exact (fset fR2_1_5)
        have lR3_1 : wO.heap.size < wR3.heap.size := by omega
        clear kR2_0_0 kR2_0_1 kR2_0_2 kR2_0_3 kR2_0_4 kR2_0_5 fR2_0_0 fR2_0_1 fR2_0_2 fR2_0_3 fR2_0_4 fR2_0_5 kR2_1_0 kR2_1_1 kR2_1_2 kR2_1_3 kR2_1_4 kR2_1_5 fR2_1_0 fR2_1_1 fR2_1_2 fR2_1_3 fR2_1_4 fR2_1_5
        have xR3_b0_0 := kcall hxR3 kb0_0
        have xR3_b0_1 := kcall hxR3 kb0_1
        have xR3_b0_2 := kcall hxR3 kb0_2
        have xR3_b0_3 := kcall hxR3 kb0_3
        have xR3_b0_4 := kcall hxR3 kb0_4
        have xR3_b0_5 := kcall hxR3 kb0_5
        have lxR3_b0 : b0 < wR3.heap.size := by have := hxR3.size; omega
        clear hwR3
        go_wp2
        rw [rounds_succ]
        go_wp2_with fail
        refine Calls.mono (mod_any _ _ _ (by omega) (by omega) (by omega) (by omega)) ?_
        rw [← Hv7.out]
        rintro e w' ⟨rfl, rfl⟩
        go_upto_region 11 with fail
        refine wp_name (fun wR4 hwR4 => ?_)
        have sR4 : wR3.heap.size ≤ wR4.heap.size := by rw [hwR4]; (first | exact Nat.le_refl _ | (simp; done) | (simp; omega))
        have hxR4 : Below w.heap.size w wR4 := by rw [hwR4]; (repeat (first | with_reducible exact Below.refl _ _ | with_reducible exact hxR3 | with_reducible refine balloc ?_ _ | with_reducible refine bdrewN ?_ _ | with_reducible refine Below.drew ?_ | with_reducible refine bthen ?_ (by with_reducible assumption) | with_reducible refine Below.setCell ?_ (by first | (simp; done) | (simp; omega)) _))
        have kR4_0_0 : wR4.cell? ⟨w.heap.size, 0, none⟩ = some (.int .i64 0) := by rw [hwR4]; with_reducible exact (kset (by omega) kR3_0_0)
        have kR4_0_1 : wR4.cell? ⟨w.heap.size, 1, none⟩ = some (.int .i64 0) := by rw [hwR4]; with_reducible exact (kset (by omega) kR3_0_1)
        have kR4_0_2 : wR4.cell? ⟨w.heap.size, 2, none⟩ = some (.int .i64 0) := by rw [hwR4]; with_reducible exact (kset (by omega) kR3_0_2)
        have kR4_0_3 : wR4.cell? ⟨w.heap.size, 3, none⟩ = some (.int .i64 0) := by rw [hwR4]; with_reducible exact (kset (by omega) kR3_0_3)
        have kR4_0_4 : wR4.cell? ⟨w.heap.size, 4, none⟩ = some (.int .i64 0) := by rw [hwR4]; with_reducible exact (kset (by omega) kR3_0_4)
        have kR4_0_5 : wR4.cell? ⟨w.heap.size, 5, none⟩ = some (.int .i64 0) := by rw [hwR4]; with_reducible exact (kset (by omega) kR3_0_5)
        have fR4_0_0 : wR4.frozen? ⟨w.heap.size, 0, none⟩ = false := by rw [hwR4]; with_reducible exact (fset fR3_0_0)
        have fR4_0_1 : wR4.frozen? ⟨w.heap.size, 1, none⟩ = false := by rw [hwR4]; with_reducible exact (fset fR3_0_1)
        have fR4_0_2 : wR4.frozen? ⟨w.heap.size, 2, none⟩ = false := by rw [hwR4]; with_reducible exact (fset fR3_0_2)
        have fR4_0_3 : wR4.frozen? ⟨w.heap.size, 3, none⟩ = false := by rw [hwR4]; with_reducible exact (fset fR3_0_3)
        have fR4_0_4 : wR4.frozen? ⟨w.heap.size, 4, none⟩ = false := by rw [hwR4]; with_reducible exact (fset fR3_0_4)
        have fR4_0_5 : wR4.frozen? ⟨w.heap.size, 5, none⟩ = false := by rw [hwR4]; with_reducible exact (fset fR3_0_5)
        have lR4_0 : w.heap.size < wR4.heap.size := by omega
        have kR4_1_0 : wR4.cell? ⟨wO.heap.size, 0, none⟩ = some (.int .i64 v5) := by rw [hwR4]; with_reducible exact (kother (by decide) kR3_1_0)
        have kR4_1_1 : wR4.cell? ⟨wO.heap.size, 1, none⟩ = some (.int .i64 v6) := by rw [hwR4]; with_reducible exact (kother (by decide) kR3_1_1)
        have kR4_1_2 : wR4.cell? ⟨wO.heap.size, 2, none⟩ = some (.int .i64 v7) := by rw [hwR4]; with_reducible exact (ksameS (kis_of kR3_1_2))
        have kR4_1_3 : wR4.cell? ⟨wO.heap.size, 3, none⟩ = some (.int .i64 0) := by rw [hwR4]; with_reducible exact (kother (by decide) kR3_1_3)
        have kR4_1_4 : wR4.cell? ⟨wO.heap.size, 4, none⟩ = some (.int .i64 0) := by rw [hwR4]; with_reducible exact (kother (by decide) kR3_1_4)
        have kR4_1_5 : wR4.cell? ⟨wO.heap.size, 5, none⟩ = some (.int .i64 0) := by rw [hwR4]; with_reducible exact (kother (by decide) kR3_1_5)
        have fR4_1_0 : wR4.frozen? ⟨wO.heap.size, 0, none⟩ = false := by rw [hwR4]; with_reducible exact (fset fR3_1_0)
        have fR4_1_1 : wR4.frozen? ⟨wO.heap.size, 1, none⟩ = false := by rw [hwR4]; with_reducible exact (fset fR3_1_1)
        have fR4_1_2 : wR4.frozen? ⟨wO.heap.size, 2, none⟩ = false := by rw [hwR4]; with_reducible exact (fset fR3_1_2)
        have fR4_1_3 : wR4.frozen? ⟨wO.heap.size, 3, none⟩ = false := by rw [hwR4]; with_reducible exact (fset fR3_1_3)
        have fR4_1_4 : wR4.frozen? ⟨wO.heap.size, 4, none⟩ = false := by rw [hwR4]; with_reducible exact (fset fR3_1_4)
        have fR4_1_5 : wR4.frozen? ⟨wO.heap.size, 5, none⟩ = false := by rw [hwR4]; with_reducible exact (fset fR3_1_5)
        have lR4_1 : wO.heap.size < wR4.heap.size := by omega
        clear kR3_0_0 kR3_0_1 kR3_0_2 kR3_0_3 kR3_0_4 kR3_0_5 fR3_0_0 fR3_0_1 fR3_0_2 fR3_0_3 fR3_0_4 fR3_0_5 kR3_1_0 kR3_1_1 kR3_1_2 kR3_1_3 kR3_1_4 kR3_1_5 fR3_1_0 fR3_1_1 fR3_1_2 fR3_1_3 fR3_1_4 fR3_1_5
        have xR4_b0_0 := kcall hxR4 kb0_0
        have xR4_b0_1 := kcall hxR4 kb0_1
        have xR4_b0_2 := kcall hxR4 kb0_2
        have xR4_b0_3 := kcall hxR4 kb0_3
        have xR4_b0_4 := kcall hxR4 kb0_4
        have xR4_b0_5 := kcall hxR4 kb0_5
        have lxR4_b0 : b0 < wR4.heap.size := by have := hxR4.size; omega
        clear hwR4
        go_wp2
        rw [rounds_succ]
        go_wp2_with fail
        refine Calls.mono (mod_any _ _ _ (by omega) (by omega) (by omega) (by omega)) ?_
        rw [← Hv8.out]
        rintro e w' ⟨rfl, rfl⟩
        go_upto_region 11 with fail
        refine wp_name (fun wR5 hwR5 => ?_)
        have sR5 : wR4.heap.size ≤ wR5.heap.size := by rw [hwR5]; (first | exact Nat.le_refl _ | (simp; done) | (simp; omega))
        have hxR5 : Below w.heap.size w wR5 := by rw [hwR5]; (repeat (first | with_reducible exact Below.refl _ _ | with_reducible exact hxR4 | with_reducible refine balloc ?_ _ | with_reducible refine bdrewN ?_ _ | with_reducible refine Below.drew ?_ | with_reducible refine bthen ?_ (by with_reducible assumption) | with_reducible refine Below.setCell ?_ (by first | (simp; done) | (simp; omega)) _))
        have kR5_0_0 : wR5.cell? ⟨w.heap.size, 0, none⟩ = some (.int .i64 0) := by rw [hwR5]; with_reducible exact (kset (by omega) kR4_0_0)
        have kR5_0_1 : wR5.cell? ⟨w.heap.size, 1, none⟩ = some (.int .i64 0) := by rw [hwR5]; with_reducible exact (kset (by omega) kR4_0_1)
        have kR5_0_2 : wR5.cell? ⟨w.heap.size, 2, none⟩ = some (.int .i64 0) := by rw [hwR5]; with_reducible exact (kset (by omega) kR4_0_2)
        have kR5_0_3 : wR5.cell? ⟨w.heap.size, 3, none⟩ = some (.int .i64 0) := by rw [hwR5]; with_reducible exact (kset (by omega) kR4_0_3)
        have kR5_0_4 : wR5.cell? ⟨w.heap.size, 4, none⟩ = some (.int .i64 0) := by rw [hwR5]; with_reducible exact (kset (by omega) kR4_0_4)
        have kR5_0_5 : wR5.cell? ⟨w.heap.size, 5, none⟩ = some (.int .i64 0) := by rw [hwR5]; with_reducible exact (kset (by omega) kR4_0_5)
        have fR5_0_0 : wR5.frozen? ⟨w.heap.size, 0, none⟩ = false := by rw [hwR5]; with_reducible exact (fset fR4_0_0)
        have fR5_0_1 : wR5.frozen? ⟨w.heap.size, 1, none⟩ = false := by rw [hwR5]; with_reducible exact (fset fR4_0_1)
        have fR5_0_2 : wR5.frozen? ⟨w.heap.size, 2, none⟩ = false := by rw [hwR5]; with_reducible exact (fset fR4_0_2)
        have fR5_0_3 : wR5.frozen? ⟨w.heap.size, 3, none⟩ = false := by rw [hwR5]; with_reducible exact (fset fR4_0_3)
        have fR5_0_4 : wR5.frozen? ⟨w.heap.size, 4, none⟩ = false := by rw [hwR5]; with_reducible exact (fset fR4_0_4)
        have fR5_0_5 : wR5.frozen? ⟨w.heap.size, 5, none⟩ = false := by rw [hwR5]; with_reducible exact (fset fR4_0_5)
        have lR5_0 : w.heap.size < wR5.heap.size := by omega
        have kR5_1_0 : wR5.cell? ⟨wO.heap.size, 0, none⟩ = some (.int .i64 v5) := by rw [hwR5]; with_reducible exact (kother (by decide) kR4_1_0)
        have kR5_1_1 : wR5.cell? ⟨wO.heap.size, 1, none⟩ = some (.int .i64 v6) := by rw [hwR5]; with_reducible exact (kother (by decide) kR4_1_1)
        have kR5_1_2 : wR5.cell? ⟨wO.heap.size, 2, none⟩ = some (.int .i64 v7) := by rw [hwR5]; with_reducible exact (kother (by decide) kR4_1_2)
        have kR5_1_3 : wR5.cell? ⟨wO.heap.size, 3, none⟩ = some (.int .i64 v8) := by rw [hwR5]; with_reducible exact (ksameS (kis_of kR4_1_3))
        have kR5_1_4 : wR5.cell? ⟨wO.heap.size, 4, none⟩ = some (.int .i64 0) := by rw [hwR5]; with_reducible exact (kother (by decide) kR4_1_4)
        have kR5_1_5 : wR5.cell? ⟨wO.heap.size, 5, none⟩ = some (.int .i64 0) := by rw [hwR5]; with_reducible exact (kother (by decide) kR4_1_5)
        have fR5_1_0 : wR5.frozen? ⟨wO.heap.size, 0, none⟩ = false := by rw [hwR5]; with_reducible exact (fset fR4_1_0)
        have fR5_1_1 : wR5.frozen? ⟨wO.heap.size, 1, none⟩ = false := by rw [hwR5]; with_reducible exact (fset fR4_1_1)
        have fR5_1_2 : wR5.frozen? ⟨wO.heap.size, 2, none⟩ = false := by rw [hwR5]; with_reducible exact (fset fR4_1_2)
        have fR5_1_3 : wR5.frozen? ⟨wO.heap.size, 3, none⟩ = false := by rw [hwR5]; with_reducible exact (fset fR4_1_3)
        have fR5_1_4 : wR5.frozen? ⟨wO.heap.size, 4, none⟩ = false := by rw [hwR5]; with_reducible exact (fset fR4_1_4)
        have fR5_1_5 : wR5.frozen? ⟨wO.heap.size, 5, none⟩ = false := by rw [hwR5]; with_reducible exact (fset fR4_1_5)
        have lR5_1 : wO.heap.size < wR5.heap.size := by omega
        clear kR4_0_0 kR4_0_1 kR4_0_2 kR4_0_3 kR4_0_4 kR4_0_5 fR4_0_0 fR4_0_1 fR4_0_2 fR4_0_3 fR4_0_4 fR4_0_5 kR4_1_0 kR4_1_1 kR4_1_2 kR4_1_3 kR4_1_4 kR4_1_5 fR4_1_0 fR4_1_1 fR4_1_2 fR4_1_3 fR4_1_4 fR4_1_5
        have xR5_b0_0 := kcall hxR5 kb0_0
        have xR5_b0_1 := kcall hxR5 kb0_1
        have xR5_b0_2 := kcall hxR5 kb0_2
        have xR5_b0_3 := kcall hxR5 kb0_3
        have xR5_b0_4 := kcall hxR5 kb0_4
        have xR5_b0_5 := kcall hxR5 kb0_5
        have lxR5_b0 : b0 < wR5.heap.size := by have := hxR5.size; omega
        clear hwR5
        go_wp2
        rw [rounds_succ]
        go_wp2_with fail
        refine Calls.mono (mod_any _ _ _ (by omega) (by omega) (by omega) (by omega)) ?_
        rw [← Hv9.out]
        rintro e w' ⟨rfl, rfl⟩
        go_upto_region 11 with fail
        refine wp_name (fun wR6 hwR6 => ?_)
        have sR6 : wR5.heap.size ≤ wR6.heap.size := by rw [hwR6]; (first | exact Nat.le_refl _ | (simp; done) | (simp; omega))
        have hxR6 : Below w.heap.size w wR6 := by rw [hwR6]; (repeat (first | with_reducible exact Below.refl _ _ | with_reducible exact hxR5 | with_reducible refine balloc ?_ _ | with_reducible refine bdrewN ?_ _ | with_reducible refine Below.drew ?_ | with_reducible refine bthen ?_ (by with_reducible assumption) | with_reducible refine Below.setCell ?_ (by first | (simp; done) | (simp; omega)) _))
        have kR6_0_0 : wR6.cell? ⟨w.heap.size, 0, none⟩ = some (.int .i64 0) := by rw [hwR6]; with_reducible exact (kset (by omega) kR5_0_0)
        have kR6_0_1 : wR6.cell? ⟨w.heap.size, 1, none⟩ = some (.int .i64 0) := by rw [hwR6]; with_reducible exact (kset (by omega) kR5_0_1)
        have kR6_0_2 : wR6.cell? ⟨w.heap.size, 2, none⟩ = some (.int .i64 0) := by rw [hwR6]; with_reducible exact (kset (by omega) kR5_0_2)
        have kR6_0_3 : wR6.cell? ⟨w.heap.size, 3, none⟩ = some (.int .i64 0) := by rw [hwR6]; with_reducible exact (kset (by omega) kR5_0_3)
        have kR6_0_4 : wR6.cell? ⟨w.heap.size, 4, none⟩ = some (.int .i64 0) := by rw [hwR6]; with_reducible exact (kset (by omega) kR5_0_4)
        have kR6_0_5 : wR6.cell? ⟨w.heap.size, 5, none⟩ = some (.int .i64 0) := by rw [hwR6]; with_reducible exact (kset (by omega) kR5_0_5)
        have fR6_0_0 : wR6.frozen? ⟨w.heap.size, 0, none⟩ = false := by rw [hwR6]; with_reducible exact (fset fR5_0_0)
        have fR6_0_1 : wR6.frozen? ⟨w.heap.size, 1, none⟩ = false := by rw [hwR6]; with_reducible exact (fset fR5_0_1)
        have fR6_0_2 : wR6.frozen? ⟨w.heap.size, 2, none⟩ = false := by rw [hwR6]; with_reducible exact (fset fR5_0_2)
        have fR6_0_3 : wR6.frozen? ⟨w.heap.size, 3, none⟩ = false := by rw [hwR6]; with_reducible exact (fset fR5_0_3)
        have fR6_0_4 : wR6.frozen? ⟨w.heap.size, 4, none⟩ = false := by rw [hwR6]; with_reducible exact (fset fR5_0_4)
        have fR6_0_5 : wR6.frozen? ⟨w.heap.size, 5, none⟩ = false := by rw [hwR6]; with_reducible exact (fset fR5_0_5)
        have lR6_0 : w.heap.size < wR6.heap.size := by omega
        have kR6_1_0 : wR6.cell? ⟨wO.heap.size, 0, none⟩ = some (.int .i64 v5) := by rw [hwR6]; with_reducible exact (kother (by decide) kR5_1_0)
        have kR6_1_1 : wR6.cell? ⟨wO.heap.size, 1, none⟩ = some (.int .i64 v6) := by rw [hwR6]; with_reducible exact (kother (by decide) kR5_1_1)
        have kR6_1_2 : wR6.cell? ⟨wO.heap.size, 2, none⟩ = some (.int .i64 v7) := by rw [hwR6]; with_reducible exact (kother (by decide) kR5_1_2)
        have kR6_1_3 : wR6.cell? ⟨wO.heap.size, 3, none⟩ = some (.int .i64 v8) := by rw [hwR6]; with_reducible exact (kother (by decide) kR5_1_3)
        have kR6_1_4 : wR6.cell? ⟨wO.heap.size, 4, none⟩ = some (.int .i64 v9) := by rw [hwR6]; with_reducible exact (ksameS (kis_of kR5_1_4))
        have kR6_1_5 : wR6.cell? ⟨wO.heap.size, 5, none⟩ = some (.int .i64 0) := by rw [hwR6]; with_reducible exact (kother (by decide) kR5_1_5)
        have fR6_1_0 : wR6.frozen? ⟨wO.heap.size, 0, none⟩ = false := by rw [hwR6]; with_reducible exact (fset fR5_1_0)
        have fR6_1_1 : wR6.frozen? ⟨wO.heap.size, 1, none⟩ = false := by rw [hwR6]; with_reducible exact (fset fR5_1_1)
        have fR6_1_2 : wR6.frozen? ⟨wO.heap.size, 2, none⟩ = false := by rw [hwR6]; with_reducible exact (fset fR5_1_2)
        have fR6_1_3 : wR6.frozen? ⟨wO.heap.size, 3, none⟩ = false := by rw [hwR6]; with_reducible exact (fset fR5_1_3)
        have fR6_1_4 : wR6.frozen? ⟨wO.heap.size, 4, none⟩ = false := by rw [hwR6]; with_reducible exact (fset fR5_1_4)
        have fR6_1_5 : wR6.frozen? ⟨wO.heap.size, 5, none⟩ = false := by rw [hwR6]; with_reducible exact (fset fR5_1_5)
        have lR6_1 : wO.heap.size < wR6.heap.size := by omega
        clear kR5_0_0 kR5_0_1 kR5_0_2 kR5_0_3 kR5_0_4 kR5_0_5 fR5_0_0 fR5_0_1 fR5_0_2 fR5_0_3 fR5_0_4 fR5_0_5 kR5_1_0 kR5_1_1 kR5_1_2 kR5_1_3 kR5_1_4 kR5_1_5 fR5_1_0 fR5_1_1 fR5_1_2 fR5_1_3 fR5_1_4 fR5_1_5
        have xR6_b0_0 := kcall hxR6 kb0_0
        have xR6_b0_1 := kcall hxR6 kb0_1
        have xR6_b0_2 := kcall hxR6 kb0_2
        have xR6_b0_3 := kcall hxR6 kb0_3
        have xR6_b0_4 := kcall hxR6 kb0_4
        have xR6_b0_5 := kcall hxR6 kb0_5
        have lxR6_b0 : b0 < wR6.heap.size := by have := hxR6.size; omega
        clear hwR6
        go_wp2
        rw [rounds_succ]
        go_wp2_with fail
        refine Calls.mono (mod_any _ _ _ (by omega) (by omega) (by omega) (by omega)) ?_
        rw [← Hv10.out]
        rintro e w' ⟨rfl, rfl⟩
        go_upto_region 11 with fail
        refine wp_name (fun wR7 hwR7 => ?_)
        have sR7 : wR6.heap.size ≤ wR7.heap.size := by rw [hwR7]; (first | exact Nat.le_refl _ | (simp; done) | (simp; omega))
        have hxR7 : Below w.heap.size w wR7 := by rw [hwR7]; (repeat (first | with_reducible exact Below.refl _ _ | with_reducible exact hxR6 | with_reducible refine balloc ?_ _ | with_reducible refine bdrewN ?_ _ | with_reducible refine Below.drew ?_ | with_reducible refine bthen ?_ (by with_reducible assumption) | with_reducible refine Below.setCell ?_ (by first | (simp; done) | (simp; omega)) _))
        have kR7_0_0 : wR7.cell? ⟨w.heap.size, 0, none⟩ = some (.int .i64 0) := by rw [hwR7]; with_reducible exact (kset (by omega) kR6_0_0)
        have kR7_0_1 : wR7.cell? ⟨w.heap.size, 1, none⟩ = some (.int .i64 0) := by rw [hwR7]; with_reducible exact (kset (by omega) kR6_0_1)
        have kR7_0_2 : wR7.cell? ⟨w.heap.size, 2, none⟩ = some (.int .i64 0) := by rw [hwR7]; with_reducible exact (kset (by omega) kR6_0_2)
        have kR7_0_3 : wR7.cell? ⟨w.heap.size, 3, none⟩ = some (.int .i64 0) := by rw [hwR7]; with_reducible exact (kset (by omega) kR6_0_3)
        have kR7_0_4 : wR7.cell? ⟨w.heap.size, 4, none⟩ = some (.int .i64 0) := by rw [hwR7]; with_reducible exact (kset (by omega) kR6_0_4)
        have kR7_0_5 : wR7.cell? ⟨w.heap.size, 5, none⟩ = some (.int .i64 0) := by rw [hwR7]; with_reducible exact (kset (by omega) kR6_0_5)
        have fR7_0_0 : wR7.frozen? ⟨w.heap.size, 0, none⟩ = false := by rw [hwR7]; with_reducible exact (fset fR6_0_0)
        have fR7_0_1 : wR7.frozen? ⟨w.heap.size, 1, none⟩ = false := by rw [hwR7]; with_reducible exact (fset fR6_0_1)
        have fR7_0_2 : wR7.frozen? ⟨w.heap.size, 2, none⟩ = false := by rw [hwR7]; with_reducible exact (fset fR6_0_2)
        have fR7_0_3 : wR7.frozen? ⟨w.heap.size, 3, none⟩ = false := by rw [hwR7]; with_reducible exact (fset fR6_0_3)
        have fR7_0_4 : wR7.frozen? ⟨w.heap.size, 4, none⟩ = false := by rw [hwR7]; with_reducible exact (fset fR6_0_4)
        have fR7_0_5 : wR7.frozen? ⟨w.heap.size, 5, none⟩ = false := by rw [hwR7]; with_reducible exact (fset fR6_0_5)
        have lR7_0 : w.heap.size < wR7.heap.size := by omega
        have kR7_1_0 : wR7.cell? ⟨wO.heap.size, 0, none⟩ = some (.int .i64 v5) := by rw [hwR7]; with_reducible exact (kother (by decide) kR6_1_0)
        have kR7_1_1 : wR7.cell? ⟨wO.heap.size, 1, none⟩ = some (.int .i64 v6) := by rw [hwR7]; with_reducible exact (kother (by decide) kR6_1_1)
        have kR7_1_2 : wR7.cell? ⟨wO.heap.size, 2, none⟩ = some (.int .i64 v7) := by rw [hwR7]; with_reducible exact (kother (by decide) kR6_1_2)
        have kR7_1_3 : wR7.cell? ⟨wO.heap.size, 3, none⟩ = some (.int .i64 v8) := by rw [hwR7]; with_reducible exact (kother (by decide) kR6_1_3)
        have kR7_1_4 : wR7.cell? ⟨wO.heap.size, 4, none⟩ = some (.int .i64 v9) := by rw [hwR7]; with_reducible exact (kother (by decide) kR6_1_4)
        have kR7_1_5 : wR7.cell? ⟨wO.heap.size, 5, none⟩ = some (.int .i64 v10) := by rw [hwR7]; with_reducible exact (ksameS (kis_of kR6_1_5))
        have lR7_1 : wO.heap.size < wR7.heap.size := by omega
        clear kR6_0_0 kR6_0_1 kR6_0_2 kR6_0_3 kR6_0_4 kR6_0_5 fR6_0_0 fR6_0_1 fR6_0_2 fR6_0_3 fR6_0_4 fR6_0_5 kR6_1_0 kR6_1_1 kR6_1_2 kR6_1_3 kR6_1_4 kR6_1_5 fR6_1_0 fR6_1_1 fR6_1_2 fR6_1_3 fR6_1_4 fR6_1_5
        have xR7_b0_0 := kcall hxR7 kb0_0
        have xR7_b0_1 := kcall hxR7 kb0_1
        have xR7_b0_2 := kcall hxR7 kb0_2
        have xR7_b0_3 := kcall hxR7 kb0_3
        have xR7_b0_4 := kcall hxR7 kb0_4
        have xR7_b0_5 := kcall hxR7 kb0_5
        have lxR7_b0 : b0 < wR7.heap.size := by have := hxR7.size; omega
        clear hwR7
        go_wp2
        rw [rounds_succ]
        have hm1 : x1 % p = x1 := Int.emod_eq_of_lt hx1.1 hx1.2
        have hm2 : x2 % p = x2 := Int.emod_eq_of_lt hx2.1 hx2.2
        have hm3 : x3 % p = x3 := Int.emod_eq_of_lt hx3.1 hx3.2
        have hm4 : x4 % p = x4 := Int.emod_eq_of_lt hx4.1 hx4.2
        have hm5 : x5 % p = x5 := Int.emod_eq_of_lt hx5.1 hx5.2
        have hm6 : x6 % p = x6 := Int.emod_eq_of_lt hx6.1 hx6.2
        have g1 : (x1 == 0) = true := by have q := hd1; (try simp only [Hv10.out, Hv9.out, Hv8.out, Hv7.out, Hv6.out, Hv5.out, Hv4.out, Hv3.out, Hv2.out, Hv1.out, hm1, hm2, hm3, hm4, hm5, hm6] at q); exact q
        have g2 : (x2 == 0) = true := by have q := hd2; (try simp only [Hv10.out, Hv9.out, Hv8.out, Hv7.out, Hv6.out, Hv5.out, Hv4.out, Hv3.out, Hv2.out, Hv1.out, hm1, hm2, hm3, hm4, hm5, hm6] at q); exact q
        have g3 : (x3 == 0) = false := by have q := hd3; (try simp only [Hv10.out, Hv9.out, Hv8.out, Hv7.out, Hv6.out, Hv5.out, Hv4.out, Hv3.out, Hv2.out, Hv1.out, hm1, hm2, hm3, hm4, hm5, hm6] at q); exact q
        have hz : (ld3 x1 x2 x3 == 0) = false := by simp only [ld3, g1, g2, g3, if_true, if_false, Bool.false_eq_true]
        have HV := Lib.hid (show ck p x1 x2 x3 x1 = v5 ∧ ck p x1 x2 x3 x2 = v6 ∧ ck p x1 x2 x3 x3 = v7 ∧ ck p x1 x2 x3 x4 = v8 ∧ ck p x1 x2 x3 x5 = v9 ∧ ck p x1 x2 x3 x6 = v10 ∧ !(ld3 x1 x2 x3 == 0) = true from by
          simp only [Hv10.out, Hv9.out, Hv8.out, Hv7.out, Hv6.out, Hv5.out, Hv4.out, Hv3.out, Hv2.out, Hv1.out, hm1, hm2, hm3, hm4, hm5, hm6, ck, ld3, g1, g2, g3, if_true, if_false, Bool.false_eq_true, hz]; simp)
        go_wp2
        (refine bodyPost_ret (v := .tuple #[.agg #[.int .i64 (ck p x1 x2 x3 x1), .int .i64 (ck p x1 x2 x3 x2), .int .i64 (ck p x1 x2 x3 x3), .int .i64 (ck p x1 x2 x3 x4), .int .i64 (ck p x1 x2 x3 x5), .int .i64 (ck p x1 x2 x3 x6)], .bool (!(ld3 x1 x2 x3 == 0))]) (by simp [results, Try.results68, go_sem, HV.out.1, HV.out.2.1, HV.out.2.2.1, HV.out.2.2.2.1, HV.out.2.2.2.2.1, HV.out.2.2.2.2.2.1, HV.out.2.2.2.2.2.2, *]) rfl ⟨?_, ?_⟩)
        · rfl
        · (repeat (first | with_reducible exact Below.refl _ _ | with_reducible exact hxR7 | with_reducible refine balloc ?_ _ | with_reducible refine bdrewN ?_ _ | with_reducible refine Below.drew ?_ | with_reducible refine bthen ?_ (by with_reducible assumption) | with_reducible refine Below.setCell ?_ (by first | (simp; done) | (simp; omega)) _))
      · have hd3n : (v3 != 0) = false := by rw [bne, hd3]; rfl
        have Hhd3p := Lib.hid (beq_iff_eq.1 hd3)
        have hm1 : x1 % p = x1 := Int.emod_eq_of_lt hx1.1 hx1.2
        have hm2 : x2 % p = x2 := Int.emod_eq_of_lt hx2.1 hx2.2
        have hm3 : x3 % p = x3 := Int.emod_eq_of_lt hx3.1 hx3.2
        have hm4 : x4 % p = x4 := Int.emod_eq_of_lt hx4.1 hx4.2
        have hm5 : x5 % p = x5 := Int.emod_eq_of_lt hx5.1 hx5.2
        have hm6 : x6 % p = x6 := Int.emod_eq_of_lt hx6.1 hx6.2
        have g1 : (x1 == 0) = true := by have q := hd1; (try simp only [Hv3.out, Hv2.out, Hv1.out, hm1, hm2, hm3, hm4, hm5, hm6] at q); exact q
        have g2 : (x2 == 0) = true := by have q := hd2; (try simp only [Hv3.out, Hv2.out, Hv1.out, hm1, hm2, hm3, hm4, hm5, hm6] at q); exact q
        have g3 : (x3 == 0) = true := by have q := hd3; (try simp only [Hv3.out, Hv2.out, Hv1.out, hm1, hm2, hm3, hm4, hm5, hm6] at q); exact q
        have hz : (ld3 x1 x2 x3 == 0) = true := by simp only [ld3, g1, g2, g3, if_true, if_false, Bool.false_eq_true]
        have HV := Lib.hid (show ck p x1 x2 x3 x1 = 0 ∧ ck p x1 x2 x3 x2 = 0 ∧ ck p x1 x2 x3 x3 = 0 ∧ ck p x1 x2 x3 x4 = 0 ∧ ck p x1 x2 x3 x5 = 0 ∧ ck p x1 x2 x3 x6 = 0 ∧ !(ld3 x1 x2 x3 == 0) = false from ⟨ck_zero hp hz _, ck_zero hp hz _, ck_zero hp hz _, ck_zero hp hz _, ck_zero hp hz _, ck_zero hp hz _, by rw [hz]; rfl⟩)
        go_wp2
        (refine bodyPost_ret (v := .tuple #[.agg #[.int .i64 (ck p x1 x2 x3 x1), .int .i64 (ck p x1 x2 x3 x2), .int .i64 (ck p x1 x2 x3 x3), .int .i64 (ck p x1 x2 x3 x4), .int .i64 (ck p x1 x2 x3 x5), .int .i64 (ck p x1 x2 x3 x6)], .bool (!(ld3 x1 x2 x3 == 0))]) (by simp [results, Try.results68, go_sem, HV.out.1, HV.out.2.1, HV.out.2.2.1, HV.out.2.2.2.1, HV.out.2.2.2.2.1, HV.out.2.2.2.2.2.1, HV.out.2.2.2.2.2.2, *]) rfl ⟨?_, ?_⟩)
        · rfl
        · (repeat (first | with_reducible exact Below.refl _ _ | with_reducible exact hxR1 | with_reducible refine balloc ?_ _ | with_reducible refine bdrewN ?_ _ | with_reducible refine Below.drew ?_ | with_reducible refine bthen ?_ (by with_reducible assumption) | with_reducible refine Below.setCell ?_ (by first | (simp; done) | (simp; omega)) _))

end Go.Proofs.Ytijmmagdkbnhdaa
