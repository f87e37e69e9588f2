/-
  laws.FnRightAngles, behind 'big'.
-/
import Derived.Test.YtodabjolblamgaaDrawS
import Derived.Test.YtodabjolblamgaaLast
import Derived.Test.YtodabjolblamgaaPtCells
import Derived.Deep.RegionHeld3
import Derived.Deep.DeepCutAuto
import Derived.Test.YtodabjolblamgaaDrawHasRightAngle
import Derived.Test.YtodabjolblamgaaRightMath
import Derived.Test.YtodabjolblamgaaBaseMath
namespace Go.Proofs.Ytodabjolblamgaa
open Go.RowKit

set_option linter.unusedVariables false in
set_option linter.unusedSimpArgs false in
set_option maxRecDepth 20000 in
set_option maxHeartbeats 4000000 in
theorem fnRightAngles_dc {m c : Nat} {a : Option Addr} {w : World} (hc : CodeAt w w.heap.size a m) (hm : m ≤ 4096) :
    Calls Try.prog 4 #[.slice a m c] w fun e w' => e = .returned (.bool true) ∧ Below w.heap.size w w' := by
  go_enter Try.func4, Try.ntmps4
  have hE0 : Below w.heap.size w w := Below.refl _ _
  go_wp2_with fail
  refine Calls.mono (big_small hm _) ?_
  rintro e w' ⟨rfl, rfl⟩
  go_wp2_with fail
  refine Calls.mono (drawHasRightAngle_dc (code_up hc (by (repeat (first | with_reducible assumption | with_reducible refine balloc ?_ _ | with_reducible refine bdrewN ?_ _ | with_reducible refine Below.drew ?_ | with_reducible refine Below.setCell ?_ (by first | omega | (simp; done) | (simp; omega)) _)))) hm) ?_
  rintro e w1 ⟨d1, d2, d3, d4, d5, d6, d7, d8, rfl, -, hB1⟩
  have hz1 := hB1.size
  (try simp at hz1)
  have hE1 : Below w.heap.size w w1 := bthen (by (repeat (first | with_reducible exact hE0 | with_reducible refine balloc ?_ _ | with_reducible refine bdrewN ?_ _ | with_reducible refine Below.drew ?_ | with_reducible refine Below.setCell ?_ (by first | omega | (simp; done) | (simp; omega)) _))) hB1
  obtain ⟨v1, hv1⟩ : ∃ v : Int, v = raC d1 d2 d3 d4 d5 d6 d7 d8 := ⟨_, rfl⟩
  have Hv1 := Lib.hid hv1
  clear hv1
  go_wp2_with fail
  refine Calls.mono (implHasRightAngle_any _ _ _ _ _ _ _ _ _) ?_
  unfold raR
  rw [← Hv1.out]
  rintro e w2 ⟨rfl, hB2⟩
  have hz2 := hB2.size
  (try simp at hz2)
  obtain ⟨q2_0_0, q2_0_1, q2_1_0, q2_1_1, q2_2_0, q2_2_1⟩ : (w2.cell? ⟨w1.heap.size, 0, none⟩ = some (.int .i64 d3)) ∧ (w2.cell? ⟨w1.heap.size, 1, none⟩ = some (.int .i64 d4)) ∧ (w2.cell? ⟨w1.heap.size + 1, 0, none⟩ = some (.int .i64 d5)) ∧ (w2.cell? ⟨w1.heap.size + 1, 1, none⟩ = some (.int .i64 d6)) ∧ (w2.cell? ⟨w1.heap.size + 1 + 1, 0, none⟩ = some (.int .i64 d7)) ∧ (w2.cell? ⟨w1.heap.size + 1 + 1, 1, none⟩ = some (.int .i64 d8)) := by refine ⟨kcall hB2 ?_, kcall hB2 ?_, kcall hB2 ?_, kcall hB2 ?_, kcall hB2 ?_, kcall hB2 ?_⟩ <;> (repeat (first | with_reducible assumption | ((with_reducible refine kfresh ?_ ?_) <;> (first | with_reducible rfl | (simp; done))) | ((with_reducible refine ksameS ?_); focus ((repeat (first | with_reducible exact kis_of (by with_reducible assumption) | with_reducible refine kis_set ?_ | ((with_reducible refine kis_new ?_ ?_) <;> (first | with_reducible rfl | rfl | (simp; done))) | with_reducible refine kis_alloc _ ?_ | with_reducible refine kis_drew ?_ | with_reducible refine kis_call (by with_reducible assumption) ?_ | with_reducible exact kis_of (kcall (by with_reducible assumption) (by with_reducible assumption)))); done)) | with_reducible refine kother (by decide) ?_ | with_reducible refine kset (by first | omega | (simp; done) | (simp; omega)) ?_ | with_reducible refine kalloc _ ?_ | with_reducible refine kdrew ?_ | with_reducible refine kdrewN ?_ | with_reducible refine kcall (by with_reducible assumption) ?_))
  obtain ⟨z2_0_0, z2_0_1, z2_1_0, z2_1_1, z2_2_0, z2_2_1⟩ : (w2.frozen? ⟨w1.heap.size, 0, none⟩ = false) ∧ (w2.frozen? ⟨w1.heap.size, 1, none⟩ = false) ∧ (w2.frozen? ⟨w1.heap.size + 1, 0, none⟩ = false) ∧ (w2.frozen? ⟨w1.heap.size + 1, 1, none⟩ = false) ∧ (w2.frozen? ⟨w1.heap.size + 1 + 1, 0, none⟩ = false) ∧ (w2.frozen? ⟨w1.heap.size + 1 + 1, 1, none⟩ = false) := by refine ⟨kfro hB2 (by first | omega | (simp; done) | (simp; omega)) ?_, kfro hB2 (by first | omega | (simp; done) | (simp; omega)) ?_, kfro hB2 (by first | omega | (simp; done) | (simp; omega)) ?_, kfro hB2 (by first | omega | (simp; done) | (simp; omega)) ?_, kfro hB2 (by first | omega | (simp; done) | (simp; omega)) ?_, kfro hB2 (by first | omega | (simp; done) | (simp; omega)) ?_⟩ <;> (repeat (first | with_reducible assumption | with_reducible refine fdrew ?_ | with_reducible refine fdrewN ?_ | with_reducible refine fset ?_ | ((with_reducible refine fallocNew ?_) <;> (first | with_reducible rfl | (simp; done))) | ((with_reducible refine kfro (by with_reducible assumption) ?_ ?_); focus (first | with_reducible assumption | omega | (simp; done) | (simp; omega))) | ((with_reducible refine falloc ?_ ?_); focus (first | with_reducible assumption | omega | (simp; done) | (simp; omega)))))
  have hE2 : Below w.heap.size w w2 := bthen (by (repeat (first | with_reducible exact hE1 | with_reducible refine balloc ?_ _ | with_reducible refine bdrewN ?_ _ | with_reducible refine Below.drew ?_ | with_reducible refine Below.setCell ?_ (by first | omega | (simp; done) | (simp; omega)) _))) hB2
  go_wp2_with fail
  refine Calls.mono (specHasRightAngle_any _ _ _ _ _ _ _ _ _) ?_
  unfold raR
  rw [← Hv1.out]
  rintro e w3 ⟨rfl, hB3⟩
  have hz3 := hB3.size
  (try simp at hz3)
  obtain ⟨q3_0_0, q3_0_1, q3_1_0, q3_1_1, q3_2_0, q3_2_1⟩ : (w3.cell? ⟨w1.heap.size, 0, none⟩ = some (.int .i64 d3)) ∧ (w3.cell? ⟨w1.heap.size, 1, none⟩ = some (.int .i64 d4)) ∧ (w3.cell? ⟨w1.heap.size + 1, 0, none⟩ = some (.int .i64 d5)) ∧ (w3.cell? ⟨w1.heap.size + 1, 1, none⟩ = some (.int .i64 d6)) ∧ (w3.cell? ⟨w1.heap.size + 1 + 1, 0, none⟩ = some (.int .i64 d7)) ∧ (w3.cell? ⟨w1.heap.size + 1 + 1, 1, none⟩ = some (.int .i64 d8)) := by refine ⟨kcall hB3 ?_, kcall hB3 ?_, kcall hB3 ?_, kcall hB3 ?_, kcall hB3 ?_, kcall hB3 ?_⟩ <;> (repeat (first | with_reducible assumption | ((with_reducible refine kfresh ?_ ?_) <;> (first | with_reducible rfl | (simp; done))) | ((with_reducible refine ksameS ?_); focus ((repeat (first | with_reducible exact kis_of (by with_reducible assumption) | with_reducible refine kis_set ?_ | ((with_reducible refine kis_new ?_ ?_) <;> (first | with_reducible rfl | rfl | (simp; done))) | with_reducible refine kis_alloc _ ?_ | with_reducible refine kis_drew ?_ | with_reducible refine kis_call (by with_reducible assumption) ?_ | with_reducible exact kis_of (kcall (by with_reducible assumption) (by with_reducible assumption)))); done)) | with_reducible refine kother (by decide) ?_ | with_reducible refine kset (by first | omega | (simp; done) | (simp; omega)) ?_ | with_reducible refine kalloc _ ?_ | with_reducible refine kdrew ?_ | with_reducible refine kdrewN ?_ | with_reducible refine kcall (by with_reducible assumption) ?_))
  obtain ⟨z3_0_0, z3_0_1, z3_1_0, z3_1_1, z3_2_0, z3_2_1⟩ : (w3.frozen? ⟨w1.heap.size, 0, none⟩ = false) ∧ (w3.frozen? ⟨w1.heap.size, 1, none⟩ = false) ∧ (w3.frozen? ⟨w1.heap.size + 1, 0, none⟩ = false) ∧ (w3.frozen? ⟨w1.heap.size + 1, 1, none⟩ = false) ∧ (w3.frozen? ⟨w1.heap.size + 1 + 1, 0, none⟩ = false) ∧ (w3.frozen? ⟨w1.heap.size + 1 + 1, 1, none⟩ = false) := by refine ⟨kfro hB3 (by first | omega | (simp; done) | (simp; omega)) ?_, kfro hB3 (by first | omega | (simp; done) | (simp; omega)) ?_, kfro hB3 (by first | omega | (simp; done) | (simp; omega)) ?_, kfro hB3 (by first | omega | (simp; done) | (simp; omega)) ?_, kfro hB3 (by first | omega | (simp; done) | (simp; omega)) ?_, kfro hB3 (by first | omega | (simp; done) | (simp; omega)) ?_⟩ <;> (repeat (first | with_reducible assumption | with_reducible refine fdrew ?_ | with_reducible refine fdrewN ?_ | with_reducible refine fset ?_ | ((with_reducible refine fallocNew ?_) <;> (first | with_reducible rfl | (simp; done))) | ((with_reducible refine kfro (by with_reducible assumption) ?_ ?_); focus (first | with_reducible assumption | omega | (simp; done) | (simp; omega))) | ((with_reducible refine falloc ?_ ?_); focus (first | with_reducible assumption | omega | (simp; done) | (simp; omega)))))
  clear q2_0_0 q2_0_1 q2_1_0 q2_1_1 q2_2_0 q2_2_1 z2_0_0 z2_0_1 z2_1_0 z2_1_1 z2_2_0 z2_2_1
  have hE3 : Below w.heap.size w w3 := bthen (by (repeat (first | with_reducible exact hE2 | with_reducible refine balloc ?_ _ | with_reducible refine bdrewN ?_ _ | with_reducible refine Below.drew ?_ | with_reducible refine Below.setCell ?_ (by first | omega | (simp; done) | (simp; omega)) _))) hB3
  rcases bool_ways (v1 == 0) with hd1 | hd1
  · have hd1n : (v1 != 0) = true := by rw [bne, hd1]; rfl
    have Hhd1p := Lib.hid (beq_eq_false_iff_ne.1 hd1)
    have HRA : ¬ raC d1 d2 d3 d4 d5 d6 d7 d8 = 0 := by rw [← Hv1.out]; exact beq_eq_false_iff_ne.1 hd1
    have hd2 : (raV1 d1 d2 d3 d4 d5 d6 d7 d8) = false := ra_no HRA
    skip
    go_wp2
    (refine bodyPost_ret (v := .bool (!(raV1 d1 d2 d3 d4 d5 d6 d7 d8))) (by simp [results, Try.results4, go_sem, *]) rfl ⟨by rw [hd2]; rfl, (by (repeat (first | with_reducible exact hE3 | with_reducible refine balloc ?_ _ | with_reducible refine bdrewN ?_ _ | with_reducible refine Below.drew ?_ | with_reducible refine Below.setCell ?_ (by first | omega | (simp; done) | (simp; omega)) _)))⟩)
  · have hd1n : (v1 != 0) = false := by rw [bne, hd1]; rfl
    have Hhd1p := Lib.hid (beq_iff_eq.1 hd1)
    have HRA : raC d1 d2 d3 d4 d5 d6 d7 d8 = 0 := by rw [← Hv1.out]; exact beq_iff_eq.1 hd1
    have hp_g := (ra_in HRA).1
    have hr_g := isP_range hp_g
    have hpos : d1 ≠ 0 := by omega
    obtain ⟨v2, hv2⟩ : ∃ v : Int, v = qdV1 d1 d2 d5 d6 d7 d8 := ⟨_, rfl⟩
    have rv2 := qdV_r31 d1 d2 d5 d6 d7 d8 hp_g
    rw [← hv2] at rv2
    have Hv2 := Lib.hid hv2
    clear hv2
    obtain ⟨v3, hv3⟩ : ∃ v : Int, v = qdC d1 d2 d5 d6 d7 d8 := ⟨_, rfl⟩
    have Hv3 := Lib.hid hv3
    clear hv3
    go_wp2_with fail
    refine Calls.mono (implQuadrance_any _ _ _ _ _ _ _) ?_
    unfold qdR
    rw [← Hv2.out, ← Hv3.out]
    rintro e w4 ⟨rfl, hB4⟩
    have hz4 := hB4.size
    (try simp at hz4)
    obtain ⟨q4_0_0, q4_0_1, q4_1_0, q4_1_1, q4_2_0, q4_2_1⟩ : (w4.cell? ⟨w1.heap.size, 0, none⟩ = some (.int .i64 d3)) ∧ (w4.cell? ⟨w1.heap.size, 1, none⟩ = some (.int .i64 d4)) ∧ (w4.cell? ⟨w1.heap.size + 1, 0, none⟩ = some (.int .i64 d5)) ∧ (w4.cell? ⟨w1.heap.size + 1, 1, none⟩ = some (.int .i64 d6)) ∧ (w4.cell? ⟨w1.heap.size + 1 + 1, 0, none⟩ = some (.int .i64 d7)) ∧ (w4.cell? ⟨w1.heap.size + 1 + 1, 1, none⟩ = some (.int .i64 d8)) := by refine ⟨kcall hB4 ?_, kcall hB4 ?_, kcall hB4 ?_, kcall hB4 ?_, kcall hB4 ?_, kcall hB4 ?_⟩ <;> (repeat (first | with_reducible assumption | ((with_reducible refine kfresh ?_ ?_) <;> (first | with_reducible rfl | (simp; done))) | ((with_reducible refine ksameS ?_); focus ((repeat (first | with_reducible exact kis_of (by with_reducible assumption) | with_reducible refine kis_set ?_ | ((with_reducible refine kis_new ?_ ?_) <;> (first | with_reducible rfl | rfl | (simp; done))) | with_reducible refine kis_alloc _ ?_ | with_reducible refine kis_drew ?_ | with_reducible refine kis_call (by with_reducible assumption) ?_ | with_reducible exact kis_of (kcall (by with_reducible assumption) (by with_reducible assumption)))); done)) | with_reducible refine kother (by decide) ?_ | with_reducible refine kset (by first | omega | (simp; done) | (simp; omega)) ?_ | with_reducible refine kalloc _ ?_ | with_reducible refine kdrew ?_ | with_reducible refine kdrewN ?_ | with_reducible refine kcall (by with_reducible assumption) ?_))
    obtain ⟨z4_0_0, z4_0_1, z4_1_0, z4_1_1, z4_2_0, z4_2_1⟩ : (w4.frozen? ⟨w1.heap.size, 0, none⟩ = false) ∧ (w4.frozen? ⟨w1.heap.size, 1, none⟩ = false) ∧ (w4.frozen? ⟨w1.heap.size + 1, 0, none⟩ = false) ∧ (w4.frozen? ⟨w1.heap.size + 1, 1, none⟩ = false) ∧ (w4.frozen? ⟨w1.heap.size + 1 + 1, 0, none⟩ = false) ∧ (w4.frozen? ⟨w1.heap.size + 1 + 1, 1, none⟩ = false) := by refine ⟨kfro hB4 (by first | omega | (simp; done) | (simp; omega)) ?_, kfro hB4 (by first | omega | (simp; done) | (simp; omega)) ?_, kfro hB4 (by first | omega | (simp; done) | (simp; omega)) ?_, kfro hB4 (by first | omega | (simp; done) | (simp; omega)) ?_, kfro hB4 (by first | omega | (simp; done) | (simp; omega)) ?_, kfro hB4 (by first | omega | (simp; done) | (simp; omega)) ?_⟩ <;> (repeat (first | with_reducible assumption | with_reducible refine fdrew ?_ | with_reducible refine fdrewN ?_ | with_reducible refine fset ?_ | ((with_reducible refine fallocNew ?_) <;> (first | with_reducible rfl | (simp; done))) | ((with_reducible refine kfro (by with_reducible assumption) ?_ ?_); focus (first | with_reducible assumption | omega | (simp; done) | (simp; omega))) | ((with_reducible refine falloc ?_ ?_); focus (first | with_reducible assumption | omega | (simp; done) | (simp; omega)))))
    clear q3_0_0 q3_0_1 q3_1_0 q3_1_1 q3_2_0 q3_2_1 z3_0_0 z3_0_1 z3_1_0 z3_1_1 z3_2_0 z3_2_1
    have hE4 : Below w.heap.size w w4 := bthen (by (repeat (first | with_reducible exact hE3 | with_reducible refine balloc ?_ _ | with_reducible refine bdrewN ?_ _ | with_reducible refine Below.drew ?_ | with_reducible refine Below.setCell ?_ (by first | omega | (simp; done) | (simp; omega)) _))) hB4
    obtain ⟨v4, hv4⟩ : ∃ v : Int, v = qdV1 d1 d2 d3 d4 d7 d8 := ⟨_, rfl⟩
    have rv4 := qdV_r31 d1 d2 d3 d4 d7 d8 hp_g
    rw [← hv4] at rv4
    have Hv4 := Lib.hid hv4
    clear hv4
    obtain ⟨v5, hv5⟩ : ∃ v : Int, v = qdC d1 d2 d3 d4 d7 d8 := ⟨_, rfl⟩
    have Hv5 := Lib.hid hv5
    clear hv5
    go_wp2_with fail
    refine Calls.mono (implQuadrance_any _ _ _ _ _ _ _) ?_
    unfold qdR
    rw [← Hv4.out, ← Hv5.out]
    rintro e w5 ⟨rfl, hB5⟩
    have hz5 := hB5.size
    (try simp at hz5)
    obtain ⟨q5_0_0, q5_0_1, q5_1_0, q5_1_1, q5_2_0, q5_2_1⟩ : (w5.cell? ⟨w1.heap.size, 0, none⟩ = some (.int .i64 d3)) ∧ (w5.cell? ⟨w1.heap.size, 1, none⟩ = some (.int .i64 d4)) ∧ (w5.cell? ⟨w1.heap.size + 1, 0, none⟩ = some (.int .i64 d5)) ∧ (w5.cell? ⟨w1.heap.size + 1, 1, none⟩ = some (.int .i64 d6)) ∧ (w5.cell? ⟨w1.heap.size + 1 + 1, 0, none⟩ = some (.int .i64 d7)) ∧ (w5.cell? ⟨w1.heap.size + 1 + 1, 1, none⟩ = some (.int .i64 d8)) := by refine ⟨kcall hB5 ?_, kcall hB5 ?_, kcall hB5 ?_, kcall hB5 ?_, kcall hB5 ?_, kcall hB5 ?_⟩ <;> (repeat (first | with_reducible assumption | ((with_reducible refine kfresh ?_ ?_) <;> (first | with_reducible rfl | (simp; done))) | ((with_reducible refine ksameS ?_); focus ((repeat (first | with_reducible exact kis_of (by with_reducible assumption) | with_reducible refine kis_set ?_ | ((with_reducible refine kis_new ?_ ?_) <;> (first | with_reducible rfl | rfl | (simp; done))) | with_reducible refine kis_alloc _ ?_ | with_reducible refine kis_drew ?_ | with_reducible refine kis_call (by with_reducible assumption) ?_ | with_reducible exact kis_of (kcall (by with_reducible assumption) (by with_reducible assumption)))); done)) | with_reducible refine kother (by decide) ?_ | with_reducible refine kset (by first | omega | (simp; done) | (simp; omega)) ?_ | with_reducible refine kalloc _ ?_ | with_reducible refine kdrew ?_ | with_reducible refine kdrewN ?_ | with_reducible refine kcall (by with_reducible assumption) ?_))
    obtain ⟨z5_0_0, z5_0_1, z5_1_0, z5_1_1, z5_2_0, z5_2_1⟩ : (w5.frozen? ⟨w1.heap.size, 0, none⟩ = false) ∧ (w5.frozen? ⟨w1.heap.size, 1, none⟩ = false) ∧ (w5.frozen? ⟨w1.heap.size + 1, 0, none⟩ = false) ∧ (w5.frozen? ⟨w1.heap.size + 1, 1, none⟩ = false) ∧ (w5.frozen? ⟨w1.heap.size + 1 + 1, 0, none⟩ = false) ∧ (w5.frozen? ⟨w1.heap.size + 1 + 1, 1, none⟩ = false) := by refine ⟨kfro hB5 (by first | omega | (simp; done) | (simp; omega)) ?_, kfro hB5 (by first | omega | (simp; done) | (simp; omega)) ?_, kfro hB5 (by first | omega | (simp; done) | (simp; omega)) ?_, kfro hB5 (by first | omega | (simp; done) | (simp; omega)) ?_, kfro hB5 (by first | omega | (simp; done) | (simp; omega)) ?_, kfro hB5 (by first | omega | (simp; done) | (simp; omega)) ?_⟩ <;> (repeat (first | with_reducible assumption | with_reducible refine fdrew ?_ | with_reducible refine fdrewN ?_ | with_reducible refine fset ?_ | ((with_reducible refine fallocNew ?_) <;> (first | with_reducible rfl | (simp; done))) | ((with_reducible refine kfro (by with_reducible assumption) ?_ ?_); focus (first | with_reducible assumption | omega | (simp; done) | (simp; omega))) | ((with_reducible refine falloc ?_ ?_); focus (first | with_reducible assumption | omega | (simp; done) | (simp; omega)))))
    clear q4_0_0 q4_0_1 q4_1_0 q4_1_1 q4_2_0 q4_2_1 z4_0_0 z4_0_1 z4_1_0 z4_1_1 z4_2_0 z4_2_1
    have hE5 : Below w.heap.size w w5 := bthen (by (repeat (first | with_reducible exact hE4 | with_reducible refine balloc ?_ _ | with_reducible refine bdrewN ?_ _ | with_reducible refine Below.drew ?_ | with_reducible refine Below.setCell ?_ (by first | omega | (simp; done) | (simp; omega)) _))) hB5
    obtain ⟨v6, hv6⟩ : ∃ v : Int, v = qdV1 d1 d2 d3 d4 d5 d6 := ⟨_, rfl⟩
    have rv6 := qdV_r31 d1 d2 d3 d4 d5 d6 hp_g
    rw [← hv6] at rv6
    have Hv6 := Lib.hid hv6
    clear hv6
    obtain ⟨v7, hv7⟩ : ∃ v : Int, v = qdC d1 d2 d3 d4 d5 d6 := ⟨_, rfl⟩
    have Hv7 := Lib.hid hv7
    clear hv7
    go_wp2_with fail
    refine Calls.mono (implQuadrance_any _ _ _ _ _ _ _) ?_
    unfold qdR
    rw [← Hv6.out, ← Hv7.out]
    rintro e w6 ⟨rfl, hB6⟩
    have hz6 := hB6.size
    (try simp at hz6)
    obtain ⟨q6_0_0, q6_0_1, q6_1_0, q6_1_1, q6_2_0, q6_2_1⟩ : (w6.cell? ⟨w1.heap.size, 0, none⟩ = some (.int .i64 d3)) ∧ (w6.cell? ⟨w1.heap.size, 1, none⟩ = some (.int .i64 d4)) ∧ (w6.cell? ⟨w1.heap.size + 1, 0, none⟩ = some (.int .i64 d5)) ∧ (w6.cell? ⟨w1.heap.size + 1, 1, none⟩ = some (.int .i64 d6)) ∧ (w6.cell? ⟨w1.heap.size + 1 + 1, 0, none⟩ = some (.int .i64 d7)) ∧ (w6.cell? ⟨w1.heap.size + 1 + 1, 1, none⟩ = some (.int .i64 d8)) := by refine ⟨kcall hB6 ?_, kcall hB6 ?_, kcall hB6 ?_, kcall hB6 ?_, kcall hB6 ?_, kcall hB6 ?_⟩ <;> (repeat (first | with_reducible assumption | ((with_reducible refine kfresh ?_ ?_) <;> (first | with_reducible rfl | (simp; done))) | ((with_reducible refine ksameS ?_); focus ((repeat (first | with_reducible exact kis_of (by with_reducible assumption) | with_reducible refine kis_set ?_ | ((with_reducible refine kis_new ?_ ?_) <;> (first | with_reducible rfl | rfl | (simp; done))) | with_reducible refine kis_alloc _ ?_ | with_reducible refine kis_drew ?_ | with_reducible refine kis_call (by with_reducible assumption) ?_ | with_reducible exact kis_of (kcall (by with_reducible assumption) (by with_reducible assumption)))); done)) | with_reducible refine kother (by decide) ?_ | with_reducible refine kset (by first | omega | (simp; done) | (simp; omega)) ?_ | with_reducible refine kalloc _ ?_ | with_reducible refine kdrew ?_ | with_reducible refine kdrewN ?_ | with_reducible refine kcall (by with_reducible assumption) ?_))
    obtain ⟨z6_0_0, z6_0_1, z6_1_0, z6_1_1, z6_2_0, z6_2_1⟩ : (w6.frozen? ⟨w1.heap.size, 0, none⟩ = false) ∧ (w6.frozen? ⟨w1.heap.size, 1, none⟩ = false) ∧ (w6.frozen? ⟨w1.heap.size + 1, 0, none⟩ = false) ∧ (w6.frozen? ⟨w1.heap.size + 1, 1, none⟩ = false) ∧ (w6.frozen? ⟨w1.heap.size + 1 + 1, 0, none⟩ = false) ∧ (w6.frozen? ⟨w1.heap.size + 1 + 1, 1, none⟩ = false) := by refine ⟨kfro hB6 (by first | omega | (simp; done) | (simp; omega)) ?_, kfro hB6 (by first | omega | (simp; done) | (simp; omega)) ?_, kfro hB6 (by first | omega | (simp; done) | (simp; omega)) ?_, kfro hB6 (by first | omega | (simp; done) | (simp; omega)) ?_, kfro hB6 (by first | omega | (simp; done) | (simp; omega)) ?_, kfro hB6 (by first | omega | (simp; done) | (simp; omega)) ?_⟩ <;> (repeat (first | with_reducible assumption | with_reducible refine fdrew ?_ | with_reducible refine fdrewN ?_ | with_reducible refine fset ?_ | ((with_reducible refine fallocNew ?_) <;> (first | with_reducible rfl | (simp; done))) | ((with_reducible refine kfro (by with_reducible assumption) ?_ ?_); focus (first | with_reducible assumption | omega | (simp; done) | (simp; omega))) | ((with_reducible refine falloc ?_ ?_); focus (first | with_reducible assumption | omega | (simp; done) | (simp; omega)))))
    clear q5_0_0 q5_0_1 q5_1_0 q5_1_1 q5_2_0 q5_2_1 z5_0_0 z5_0_1 z5_1_0 z5_1_1 z5_2_0 z5_2_1
    have hE6 : Below w.heap.size w w6 := bthen (by (repeat (first | with_reducible exact hE5 | with_reducible refine balloc ?_ _ | with_reducible refine bdrewN ?_ _ | with_reducible refine Below.drew ?_ | with_reducible refine Below.setCell ?_ (by first | omega | (simp; done) | (simp; omega)) _))) hB6
    obtain ⟨v8, hv8⟩ : ∃ v : Int, v = aoV1 d1 v2 v4 v6 := ⟨_, rfl⟩
    have rv8 := aoV_r31 d1 v2 v4 v6 hp_g
    rw [← hv8] at rv8
    have Hv8 := Lib.hid hv8
    clear hv8
    obtain ⟨v9, hv9⟩ : ∃ v : Int, v = aoC d1 v2 v4 v6 := ⟨_, rfl⟩
    have Hv9 := Lib.hid hv9
    clear hv9
    go_wp2_with fail
    refine Calls.mono (implArchimedesOf_any _ _ _ _ _) ?_
    unfold aoR
    rw [← Hv8.out, ← Hv9.out]
    rintro e w7 ⟨rfl, hB7⟩
    have hz7 := hB7.size
    (try simp at hz7)
    obtain ⟨q7_0_0, q7_0_1, q7_1_0, q7_1_1, q7_2_0, q7_2_1⟩ : (w7.cell? ⟨w1.heap.size, 0, none⟩ = some (.int .i64 d3)) ∧ (w7.cell? ⟨w1.heap.size, 1, none⟩ = some (.int .i64 d4)) ∧ (w7.cell? ⟨w1.heap.size + 1, 0, none⟩ = some (.int .i64 d5)) ∧ (w7.cell? ⟨w1.heap.size + 1, 1, none⟩ = some (.int .i64 d6)) ∧ (w7.cell? ⟨w1.heap.size + 1 + 1, 0, none⟩ = some (.int .i64 d7)) ∧ (w7.cell? ⟨w1.heap.size + 1 + 1, 1, none⟩ = some (.int .i64 d8)) := by refine ⟨kcall hB7 ?_, kcall hB7 ?_, kcall hB7 ?_, kcall hB7 ?_, kcall hB7 ?_, kcall hB7 ?_⟩ <;> (repeat (first | with_reducible assumption | ((with_reducible refine kfresh ?_ ?_) <;> (first | with_reducible rfl | (simp; done))) | ((with_reducible refine ksameS ?_); focus ((repeat (first | with_reducible exact kis_of (by with_reducible assumption) | with_reducible refine kis_set ?_ | ((with_reducible refine kis_new ?_ ?_) <;> (first | with_reducible rfl | rfl | (simp; done))) | with_reducible refine kis_alloc _ ?_ | with_reducible refine kis_drew ?_ | with_reducible refine kis_call (by with_reducible assumption) ?_ | with_reducible exact kis_of (kcall (by with_reducible assumption) (by with_reducible assumption)))); done)) | with_reducible refine kother (by decide) ?_ | with_reducible refine kset (by first | omega | (simp; done) | (simp; omega)) ?_ | with_reducible refine kalloc _ ?_ | with_reducible refine kdrew ?_ | with_reducible refine kdrewN ?_ | with_reducible refine kcall (by with_reducible assumption) ?_))
    obtain ⟨z7_0_0, z7_0_1, z7_1_0, z7_1_1, z7_2_0, z7_2_1⟩ : (w7.frozen? ⟨w1.heap.size, 0, none⟩ = false) ∧ (w7.frozen? ⟨w1.heap.size, 1, none⟩ = false) ∧ (w7.frozen? ⟨w1.heap.size + 1, 0, none⟩ = false) ∧ (w7.frozen? ⟨w1.heap.size + 1, 1, none⟩ = false) ∧ (w7.frozen? ⟨w1.heap.size + 1 + 1, 0, none⟩ = false) ∧ (w7.frozen? ⟨w1.heap.size + 1 + 1, 1, none⟩ = false) := by refine ⟨kfro hB7 (by first | omega | (simp; done) | (simp; omega)) ?_, kfro hB7 (by first | omega | (simp; done) | (simp; omega)) ?_, kfro hB7 (by first | omega | (simp; done) | (simp; omega)) ?_, kfro hB7 (by first | omega | (simp; done) | (simp; omega)) ?_, kfro hB7 (by first | omega | (simp; done) | (simp; omega)) ?_, kfro hB7 (by first | omega | (simp; done) | (simp; omega)) ?_⟩ <;> (repeat (first | with_reducible assumption | with_reducible refine fdrew ?_ | with_reducible refine fdrewN ?_ | with_reducible refine fset ?_ | ((with_reducible refine fallocNew ?_) <;> (first | with_reducible rfl | (simp; done))) | ((with_reducible refine kfro (by with_reducible assumption) ?_ ?_); focus (first | with_reducible assumption | omega | (simp; done) | (simp; omega))) | ((with_reducible refine falloc ?_ ?_); focus (first | with_reducible assumption | omega | (simp; done) | (simp; omega)))))
    clear q6_0_0 q6_0_1 q6_1_0 q6_1_1 q6_2_0 q6_2_1 z6_0_0 z6_0_1 z6_1_0 z6_1_1 z6_2_0 z6_2_1
    have hE7 : Below w.heap.size w w7 := bthen (by (repeat (first | with_reducible exact hE6 | with_reducible refine balloc ?_ _ | with_reducible refine bdrewN ?_ _ | with_reducible refine Below.drew ?_ | with_reducible refine Below.setCell ?_ (by first | omega | (simp; done) | (simp; omega)) _))) hB7
    obtain ⟨v10, hv10⟩ : ∃ v : Int, v = daV d1 d3 d4 d5 d6 d7 d8 := ⟨_, rfl⟩
    have rv10 := daV_r31 d1 d3 d4 d5 d6 d7 d8 hp_g
    rw [← hv10] at rv10
    have Hv10 := Lib.hid hv10
    clear hv10
    obtain ⟨v11, hv11⟩ : ∃ v : Int, v = daC d1 d3 d4 d5 d6 d7 d8 := ⟨_, rfl⟩
    have Hv11 := Lib.hid hv11
    clear hv11
    go_wp2_with fail
    refine Calls.mono (implDoubledArea_any _ _ _ _ _ _ _ _) ?_
    rw [← Hv10.out, ← Hv11.out]
    rintro e w8 ⟨rfl, hB8⟩
    have hz8 := hB8.size
    (try simp at hz8)
    obtain ⟨q8_0_0, q8_0_1, q8_1_0, q8_1_1, q8_2_0, q8_2_1⟩ : (w8.cell? ⟨w1.heap.size, 0, none⟩ = some (.int .i64 d3)) ∧ (w8.cell? ⟨w1.heap.size, 1, none⟩ = some (.int .i64 d4)) ∧ (w8.cell? ⟨w1.heap.size + 1, 0, none⟩ = some (.int .i64 d5)) ∧ (w8.cell? ⟨w1.heap.size + 1, 1, none⟩ = some (.int .i64 d6)) ∧ (w8.cell? ⟨w1.heap.size + 1 + 1, 0, none⟩ = some (.int .i64 d7)) ∧ (w8.cell? ⟨w1.heap.size + 1 + 1, 1, none⟩ = some (.int .i64 d8)) := by refine ⟨kcall hB8 ?_, kcall hB8 ?_, kcall hB8 ?_, kcall hB8 ?_, kcall hB8 ?_, kcall hB8 ?_⟩ <;> (repeat (first | with_reducible assumption | ((with_reducible refine kfresh ?_ ?_) <;> (first | with_reducible rfl | (simp; done))) | ((with_reducible refine ksameS ?_); focus ((repeat (first | with_reducible exact kis_of (by with_reducible assumption) | with_reducible refine kis_set ?_ | ((with_reducible refine kis_new ?_ ?_) <;> (first | with_reducible rfl | rfl | (simp; done))) | with_reducible refine kis_alloc _ ?_ | with_reducible refine kis_drew ?_ | with_reducible refine kis_call (by with_reducible assumption) ?_ | with_reducible exact kis_of (kcall (by with_reducible assumption) (by with_reducible assumption)))); done)) | with_reducible refine kother (by decide) ?_ | with_reducible refine kset (by first | omega | (simp; done) | (simp; omega)) ?_ | with_reducible refine kalloc _ ?_ | with_reducible refine kdrew ?_ | with_reducible refine kdrewN ?_ | with_reducible refine kcall (by with_reducible assumption) ?_))
    obtain ⟨z8_0_0, z8_0_1, z8_1_0, z8_1_1, z8_2_0, z8_2_1⟩ : (w8.frozen? ⟨w1.heap.size, 0, none⟩ = false) ∧ (w8.frozen? ⟨w1.heap.size, 1, none⟩ = false) ∧ (w8.frozen? ⟨w1.heap.size + 1, 0, none⟩ = false) ∧ (w8.frozen? ⟨w1.heap.size + 1, 1, none⟩ = false) ∧ (w8.frozen? ⟨w1.heap.size + 1 + 1, 0, none⟩ = false) ∧ (w8.frozen? ⟨w1.heap.size + 1 + 1, 1, none⟩ = false) := by refine ⟨kfro hB8 (by first | omega | (simp; done) | (simp; omega)) ?_, kfro hB8 (by first | omega | (simp; done) | (simp; omega)) ?_, kfro hB8 (by first | omega | (simp; done) | (simp; omega)) ?_, kfro hB8 (by first | omega | (simp; done) | (simp; omega)) ?_, kfro hB8 (by first | omega | (simp; done) | (simp; omega)) ?_, kfro hB8 (by first | omega | (simp; done) | (simp; omega)) ?_⟩ <;> (repeat (first | with_reducible assumption | with_reducible refine fdrew ?_ | with_reducible refine fdrewN ?_ | with_reducible refine fset ?_ | ((with_reducible refine fallocNew ?_) <;> (first | with_reducible rfl | (simp; done))) | ((with_reducible refine kfro (by with_reducible assumption) ?_ ?_); focus (first | with_reducible assumption | omega | (simp; done) | (simp; omega))) | ((with_reducible refine falloc ?_ ?_); focus (first | with_reducible assumption | omega | (simp; done) | (simp; omega)))))
    clear q7_0_0 q7_0_1 q7_1_0 q7_1_1 q7_2_0 q7_2_1 z7_0_0 z7_0_1 z7_1_0 z7_1_1 z7_2_0 z7_2_1
    have hE8 : Below w.heap.size w w8 := bthen (by (repeat (first | with_reducible exact hE7 | with_reducible refine balloc ?_ _ | with_reducible refine bdrewN ?_ _ | with_reducible refine Below.drew ?_ | with_reducible refine Below.setCell ?_ (by first | omega | (simp; done) | (simp; omega)) _))) hB8
    have hd2 : (v3 == 0) = true := by simp only [Hv1.out, Hv2.out, Hv3.out, Hv4.out, Hv5.out, Hv6.out, Hv7.out, Hv8.out, Hv9.out, Hv10.out, Hv11.out]; exact beq_iff_eq.2 (by first | exact ra_q1 HRA | exact ra_q2 HRA | exact ra_q3 HRA)
    have hd2n : (v3 != 0) = false := by rw [bne, hd2]; rfl
    have Hhd2p := Lib.hid (beq_iff_eq.1 hd2)
    have hd3 : (v5 == 0) = true := by simp only [Hv1.out, Hv2.out, Hv3.out, Hv4.out, Hv5.out, Hv6.out, Hv7.out, Hv8.out, Hv9.out, Hv10.out, Hv11.out]; exact beq_iff_eq.2 (by first | exact ra_q1 HRA | exact ra_q2 HRA | exact ra_q3 HRA)
    have hd3n : (v5 != 0) = false := by rw [bne, hd3]; rfl
    have Hhd3p := Lib.hid (beq_iff_eq.1 hd3)
    have hd4 : (v7 == 0) = true := by simp only [Hv1.out, Hv2.out, Hv3.out, Hv4.out, Hv5.out, Hv6.out, Hv7.out, Hv8.out, Hv9.out, Hv10.out, Hv11.out]; exact beq_iff_eq.2 (by first | exact ra_q1 HRA | exact ra_q2 HRA | exact ra_q3 HRA)
    have hd4n : (v7 != 0) = false := by rw [bne, hd4]; rfl
    have Hhd4p := Lib.hid (beq_iff_eq.1 hd4)
    have hd5 : (v9 == 0) = true := by simp only [Hv1.out, Hv2.out, Hv3.out, Hv4.out, Hv5.out, Hv6.out, Hv7.out, Hv8.out, Hv9.out, Hv10.out, Hv11.out]; exact beq_iff_eq.2 (ra_ao HRA)
    have hd5n : (v9 != 0) = false := by rw [bne, hd5]; rfl
    have Hhd5p := Lib.hid (beq_iff_eq.1 hd5)
    have hd6 : (v11 == 0) = true := by simp only [Hv1.out, Hv2.out, Hv3.out, Hv4.out, Hv5.out, Hv6.out, Hv7.out, Hv8.out, Hv9.out, Hv10.out, Hv11.out]; exact beq_iff_eq.2 (ra_d HRA)
    have hd6n : (v11 != 0) = false := by rw [bne, hd6]; rfl
    have Hhd6p := Lib.hid (beq_iff_eq.1 hd6)
    rcases bool_ways (raV1 d1 d2 d3 d4 d5 d6 d7 d8) with hd7 | hd7
    · skip
      have hd8 : (((v4 + v6 - v2).tmod d1) == 0) = false := by simp only [Hv1.out, Hv2.out, Hv3.out, Hv4.out, Hv5.out, Hv6.out, Hv7.out, Hv8.out, Hv9.out, Hv10.out, Hv11.out]; rw [ra_law1 HRA]; exact hd7
      have hd8n : (((v4 + v6 - v2).tmod d1) != 0) = true := by rw [bne, hd8]; rfl
      have Hhd8p := Lib.hid (beq_eq_false_iff_ne.1 hd8)
      have mu_1 := mulNN 120 30 3600 (by decide) (a := 4 * v10) (b := v10) (by omega) (by omega)
      rcases bool_ways (decide (0 < d2)) with hd9 | hd9
      · have hd9p := of_decide_eq_false hd9
        have hd10 : ((((4 * v10) * v10 - v8).tmod d1) == 0) = true := by simp only [Hv1.out, Hv2.out, Hv3.out, Hv4.out, Hv5.out, Hv6.out, Hv7.out, Hv8.out, Hv9.out, Hv10.out, Hv11.out]; first | exact ra_law2 HRA (by assumption) | exact ra_law3 HRA (by assumption)
        have hd10n : ((((4 * v10) * v10 - v8).tmod d1) != 0) = false := by rw [bne, hd10]; rfl
        have Hhd10p := Lib.hid (beq_iff_eq.1 hd10)
        go_wp2
        (refine bodyPost_ret (v := .bool (((((4 * v10) * v10 - v8).tmod d1) == 0))) (by simp [results, Try.results4, go_sem, *]) rfl ⟨by rw [hd10], (by (repeat (first | with_reducible exact hE8 | with_reducible refine balloc ?_ _ | with_reducible refine bdrewN ?_ _ | with_reducible refine Below.drew ?_ | with_reducible refine Below.setCell ?_ (by first | omega | (simp; done) | (simp; omega)) _)))⟩)
      · have hd9p := of_decide_eq_true hd9
        have hd10 : ((((-((4 * v10) * v10)) - v8).tmod d1) == 0) = true := by simp only [Hv1.out, Hv2.out, Hv3.out, Hv4.out, Hv5.out, Hv6.out, Hv7.out, Hv8.out, Hv9.out, Hv10.out, Hv11.out]; first | exact ra_law2 HRA (by assumption) | exact ra_law3 HRA (by assumption)
        have hd10n : ((((-((4 * v10) * v10)) - v8).tmod d1) != 0) = false := by rw [bne, hd10]; rfl
        have Hhd10p := Lib.hid (beq_iff_eq.1 hd10)
        go_wp2
        (refine bodyPost_ret (v := .bool (((((-((4 * v10) * v10)) - v8).tmod d1) == 0))) (by simp [results, Try.results4, go_sem, *]) rfl ⟨by rw [hd10], (by (repeat (first | with_reducible exact hE8 | with_reducible refine balloc ?_ _ | with_reducible refine bdrewN ?_ _ | with_reducible refine Below.drew ?_ | with_reducible refine Below.setCell ?_ (by first | omega | (simp; done) | (simp; omega)) _)))⟩)
    · skip
      have hd8 : (((v4 + v6 - v2).tmod d1) == 0) = true := by simp only [Hv1.out, Hv2.out, Hv3.out, Hv4.out, Hv5.out, Hv6.out, Hv7.out, Hv8.out, Hv9.out, Hv10.out, Hv11.out]; rw [ra_law1 HRA]; exact hd7
      have hd8n : (((v4 + v6 - v2).tmod d1) != 0) = false := by rw [bne, hd8]; rfl
      have Hhd8p := Lib.hid (beq_iff_eq.1 hd8)
      have mu_1 := mulNN 120 30 3600 (by decide) (a := 4 * v10) (b := v10) (by omega) (by omega)
      rcases bool_ways (decide (0 < d2)) with hd9 | hd9
      · have hd9p := of_decide_eq_false hd9
        have hd10 : ((((4 * v10) * v10 - v8).tmod d1) == 0) = true := by simp only [Hv1.out, Hv2.out, Hv3.out, Hv4.out, Hv5.out, Hv6.out, Hv7.out, Hv8.out, Hv9.out, Hv10.out, Hv11.out]; first | exact ra_law2 HRA (by assumption) | exact ra_law3 HRA (by assumption)
        have hd10n : ((((4 * v10) * v10 - v8).tmod d1) != 0) = false := by rw [bne, hd10]; rfl
        have Hhd10p := Lib.hid (beq_iff_eq.1 hd10)
        go_wp2
        (refine bodyPost_ret (v := .bool (((((4 * v10) * v10 - v8).tmod d1) == 0))) (by simp [results, Try.results4, go_sem, *]) rfl ⟨by rw [hd10], (by (repeat (first | with_reducible exact hE8 | with_reducible refine balloc ?_ _ | with_reducible refine bdrewN ?_ _ | with_reducible refine Below.drew ?_ | with_reducible refine Below.setCell ?_ (by first | omega | (simp; done) | (simp; omega)) _)))⟩)
      · have hd9p := of_decide_eq_true hd9
        have hd10 : ((((-((4 * v10) * v10)) - v8).tmod d1) == 0) = true := by simp only [Hv1.out, Hv2.out, Hv3.out, Hv4.out, Hv5.out, Hv6.out, Hv7.out, Hv8.out, Hv9.out, Hv10.out, Hv11.out]; first | exact ra_law2 HRA (by assumption) | exact ra_law3 HRA (by assumption)
        have hd10n : ((((-((4 * v10) * v10)) - v8).tmod d1) != 0) = false := by rw [bne, hd10]; rfl
        have Hhd10p := Lib.hid (beq_iff_eq.1 hd10)
        go_wp2
        (refine bodyPost_ret (v := .bool (((((-((4 * v10) * v10)) - v8).tmod d1) == 0))) (by simp [results, Try.results4, go_sem, *]) rfl ⟨by rw [hd10], (by (repeat (first | with_reducible exact hE8 | with_reducible refine balloc ?_ _ | with_reducible refine bdrewN ?_ _ | with_reducible refine Below.drew ?_ | with_reducible refine Below.setCell ?_ (by first | omega | (simp; done) | (simp; omega)) _)))⟩)

end Go.Proofs.Ytodabjolblamgaa
