/-
  spec.l01DrawPoint.
-/
import Derived.Test.YtodabjolblamgaaDrawS
import Derived.Test.YtodabjolblamgaaLast
import Derived.Test.YtodabjolblamgaaPtCells
import Derived.Deep.RegionHeld3
import Derived.Deep.DeepCutAuto
import Derived.Test.YtodabjolblamgaaBaseMath
namespace Go.Proofs.Ytodabjolblamgaa
open Go.RowKit

set_option linter.unusedVariables false in
set_option linter.unusedSimpArgs false in
set_option maxRecDepth 20000 in
set_option maxHeartbeats 2000000 in
theorem drawPoint_ds (p : Int) {base r m c : Nat} {a : Option Addr} {w : World} (hs : Src w base r a m c) (hp3 : 3 ≤ p ∧ p ≤ 31) :
    Calls Try.prog 67 #[.pointer (some ⟨r, 0, none⟩), .int .i64 p] w fun e w' => ∃ y1 y2 : Int, e = .returned (.agg #[.int .i64 y1, .int .i64 y2]) ∧ ((0 ≤ y1 ∧ y1 < p) ∧ 0 ≤ y2 ∧ y2 < p) ∧ DS r base m c a w w' := by
  go_enter Try.func67, Try.ntmps67
  have hE0 : DS r base m c a w w := DS.refl hs
  have hrl0 := hs.2.1
  have hrb0 := hs.1
  go_wp2_with fail
  refine Calls.mono (next_lt (base := base) (m := m) (c := c) (a := a) 4 (by (repeat (first | with_reducible assumption | with_reducible exact DS.src (by with_reducible assumption) | with_reducible exact DX.src (by with_reducible assumption) | with_reducible refine src_alloc ?_ _ | with_reducible refine src_drew ?_ | with_reducible refine src_drewN ?_ _ | with_reducible refine src_setNew ?_ (by first | omega | (simp; done) | (simp; omega)) (by first | omega | (simp; done) | (simp; omega)) _))) (by first | omega | decide) (by first | omega | decide)) ?_
  rintro e w1 ⟨d1, rfl, ⟨hd1a, hd1b⟩, hD1⟩
  have hs1 := hD1.src
  have hz1 := hD1.size
  (try simp at hz1)
  have hr1 := hD1.rlt
  obtain ⟨q1_0_0, q1_0_1⟩ : (w1.cell? ⟨w.heap.size, 0, none⟩ = some (.int .i64 0)) ∧ (w1.cell? ⟨w.heap.size, 1, none⟩ = some (.int .i64 0)) := by refine ⟨DS.cell hD1 (by omega) ?_, DS.cell hD1 (by omega) ?_⟩ <;> (repeat (first | with_reducible assumption | ((with_reducible refine kfresh ?_ ?_) <;> (first | with_reducible rfl | (simp; done))) | ((with_reducible refine ksameS ?_); focus ((repeat (first | with_reducible exact kis_of (by with_reducible assumption) | with_reducible refine kis_set ?_ | ((with_reducible refine kis_new ?_ ?_) <;> (first | with_reducible rfl | rfl | (simp; done))) | with_reducible refine kis_alloc _ ?_ | with_reducible refine kis_drew ?_ | with_reducible refine kis_call (by with_reducible assumption) ?_ | with_reducible exact kis_of (kcall (by with_reducible assumption) (by with_reducible assumption)))); done)) | with_reducible refine kother (by decide) ?_ | with_reducible refine kset (by first | omega | (simp; done) | (simp; omega)) ?_ | with_reducible refine kalloc _ ?_ | with_reducible refine kdrew ?_ | with_reducible refine kdrewN ?_ | with_reducible refine kcall (by with_reducible assumption) ?_))
  obtain ⟨z1_0_0, z1_0_1⟩ : (w1.frozen? ⟨w.heap.size, 0, none⟩ = false) ∧ (w1.frozen? ⟨w.heap.size, 1, none⟩ = false) := by refine ⟨DS.frozen hD1 (by omega) (by first | omega | (simp; done) | (simp; omega)) ?_, DS.frozen hD1 (by omega) (by first | omega | (simp; done) | (simp; omega)) ?_⟩ <;> (repeat (first | with_reducible assumption | with_reducible refine fdrew ?_ | with_reducible refine fdrewN ?_ | with_reducible refine fset ?_ | ((with_reducible refine fallocNew ?_) <;> (first | with_reducible rfl | (simp; done))) | ((with_reducible refine kfro (by with_reducible assumption) ?_ ?_); focus (first | with_reducible assumption | omega | (simp; done) | (simp; omega))) | ((with_reducible refine falloc ?_ ?_); focus (first | with_reducible assumption | omega | (simp; done) | (simp; omega)))))
  have hE1 : DS r base m c a w w1 := DS.trans (by (repeat (first | with_reducible exact hE0 | with_reducible refine DS.alloc ?_ _ | with_reducible refine DS.drew ?_ | with_reducible refine DS.drewN ?_ _ | with_reducible refine DS.setNew ?_ (by first | omega | (simp; done) | (simp; omega)) (by first | omega | (simp; done) | (simp; omega)) _))) hD1
  rcases bool_ways (d1 == 0) with hd1 | hd1
  · have hd1n : (d1 != 0) = true := by rw [bne, hd1]; rfl
    have hd1q := beq_eq_false_iff_ne.1 hd1
    go_wp2_with fail
    refine Calls.mono (next_lt (base := base) (m := m) (c := c) (a := a) p (by (repeat (first | with_reducible assumption | with_reducible exact DS.src (by with_reducible assumption) | with_reducible exact DX.src (by with_reducible assumption) | with_reducible refine src_alloc ?_ _ | with_reducible refine src_drew ?_ | with_reducible refine src_drewN ?_ _ | with_reducible refine src_setNew ?_ (by first | omega | (simp; done) | (simp; omega)) (by first | omega | (simp; done) | (simp; omega)) _))) (by first | omega | decide) (by first | omega | decide)) ?_
    rintro e w2 ⟨d2, rfl, ⟨hd2a, hd2b⟩, hD2⟩
    have hs2 := hD2.src
    have hz2 := hD2.size
    (try simp at hz2)
    have hr2 := hD2.rlt
    obtain ⟨q2_0_0, q2_0_1⟩ : (w2.cell? ⟨w.heap.size, 0, none⟩ = some (.int .i64 0)) ∧ (w2.cell? ⟨w.heap.size, 1, none⟩ = some (.int .i64 0)) := by refine ⟨DS.cell hD2 (by omega) ?_, DS.cell hD2 (by omega) ?_⟩ <;> (repeat (first | with_reducible assumption | ((with_reducible refine kfresh ?_ ?_) <;> (first | with_reducible rfl | (simp; done))) | ((with_reducible refine ksameS ?_); focus ((repeat (first | with_reducible exact kis_of (by with_reducible assumption) | with_reducible refine kis_set ?_ | ((with_reducible refine kis_new ?_ ?_) <;> (first | with_reducible rfl | rfl | (simp; done))) | with_reducible refine kis_alloc _ ?_ | with_reducible refine kis_drew ?_ | with_reducible refine kis_call (by with_reducible assumption) ?_ | with_reducible exact kis_of (kcall (by with_reducible assumption) (by with_reducible assumption)))); done)) | with_reducible refine kother (by decide) ?_ | with_reducible refine kset (by first | omega | (simp; done) | (simp; omega)) ?_ | with_reducible refine kalloc _ ?_ | with_reducible refine kdrew ?_ | with_reducible refine kdrewN ?_ | with_reducible refine kcall (by with_reducible assumption) ?_))
    obtain ⟨z2_0_0, z2_0_1⟩ : (w2.frozen? ⟨w.heap.size, 0, none⟩ = false) ∧ (w2.frozen? ⟨w.heap.size, 1, none⟩ = false) := by refine ⟨DS.frozen hD2 (by omega) (by first | omega | (simp; done) | (simp; omega)) ?_, DS.frozen hD2 (by omega) (by first | omega | (simp; done) | (simp; omega)) ?_⟩ <;> (repeat (first | with_reducible assumption | with_reducible refine fdrew ?_ | with_reducible refine fdrewN ?_ | with_reducible refine fset ?_ | ((with_reducible refine fallocNew ?_) <;> (first | with_reducible rfl | (simp; done))) | ((with_reducible refine kfro (by with_reducible assumption) ?_ ?_); focus (first | with_reducible assumption | omega | (simp; done) | (simp; omega))) | ((with_reducible refine falloc ?_ ?_); focus (first | with_reducible assumption | omega | (simp; done) | (simp; omega)))))
    clear q1_0_0 q1_0_1 z1_0_0 z1_0_1
    have hE2 : DS r base m c a w w2 := DS.trans (by (repeat (first | with_reducible exact hE1 | with_reducible refine DS.alloc ?_ _ | with_reducible refine DS.drew ?_ | with_reducible refine DS.drewN ?_ _ | with_reducible refine DS.setNew ?_ (by first | omega | (simp; done) | (simp; omega)) (by first | omega | (simp; done) | (simp; omega)) _))) hD2
    go_wp2_with fail
    refine Calls.mono (next_lt (base := base) (m := m) (c := c) (a := a) p (by (repeat (first | with_reducible assumption | with_reducible exact DS.src (by with_reducible assumption) | with_reducible exact DX.src (by with_reducible assumption) | with_reducible refine src_alloc ?_ _ | with_reducible refine src_drew ?_ | with_reducible refine src_drewN ?_ _ | with_reducible refine src_setNew ?_ (by first | omega | (simp; done) | (simp; omega)) (by first | omega | (simp; done) | (simp; omega)) _))) (by first | omega | decide) (by first | omega | decide)) ?_
    rintro e w3 ⟨d3, rfl, ⟨hd3a, hd3b⟩, hD3⟩
    have hs3 := hD3.src
    have hz3 := hD3.size
    (try simp at hz3)
    have hr3 := hD3.rlt
    obtain ⟨q3_0_0, q3_0_1⟩ : (w3.cell? ⟨w.heap.size, 0, none⟩ = some (.int .i64 0)) ∧ (w3.cell? ⟨w.heap.size, 1, none⟩ = some (.int .i64 0)) := by refine ⟨DS.cell hD3 (by omega) ?_, DS.cell hD3 (by omega) ?_⟩ <;> (repeat (first | with_reducible assumption | ((with_reducible refine kfresh ?_ ?_) <;> (first | with_reducible rfl | (simp; done))) | ((with_reducible refine ksameS ?_); focus ((repeat (first | with_reducible exact kis_of (by with_reducible assumption) | with_reducible refine kis_set ?_ | ((with_reducible refine kis_new ?_ ?_) <;> (first | with_reducible rfl | rfl | (simp; done))) | with_reducible refine kis_alloc _ ?_ | with_reducible refine kis_drew ?_ | with_reducible refine kis_call (by with_reducible assumption) ?_ | with_reducible exact kis_of (kcall (by with_reducible assumption) (by with_reducible assumption)))); done)) | with_reducible refine kother (by decide) ?_ | with_reducible refine kset (by first | omega | (simp; done) | (simp; omega)) ?_ | with_reducible refine kalloc _ ?_ | with_reducible refine kdrew ?_ | with_reducible refine kdrewN ?_ | with_reducible refine kcall (by with_reducible assumption) ?_))
    obtain ⟨z3_0_0, z3_0_1⟩ : (w3.frozen? ⟨w.heap.size, 0, none⟩ = false) ∧ (w3.frozen? ⟨w.heap.size, 1, none⟩ = false) := by refine ⟨DS.frozen hD3 (by omega) (by first | omega | (simp; done) | (simp; omega)) ?_, DS.frozen hD3 (by omega) (by first | omega | (simp; done) | (simp; omega)) ?_⟩ <;> (repeat (first | with_reducible assumption | with_reducible refine fdrew ?_ | with_reducible refine fdrewN ?_ | with_reducible refine fset ?_ | ((with_reducible refine fallocNew ?_) <;> (first | with_reducible rfl | (simp; done))) | ((with_reducible refine kfro (by with_reducible assumption) ?_ ?_); focus (first | with_reducible assumption | omega | (simp; done) | (simp; omega))) | ((with_reducible refine falloc ?_ ?_); focus (first | with_reducible assumption | omega | (simp; done) | (simp; omega)))))
    clear q2_0_0 q2_0_1 z2_0_0 z2_0_1
    have hE3 : DS r base m c a w w3 := DS.trans (by (repeat (first | with_reducible exact hE2 | with_reducible refine DS.alloc ?_ _ | with_reducible refine DS.drew ?_ | with_reducible refine DS.drewN ?_ _ | with_reducible refine DS.setNew ?_ (by first | omega | (simp; done) | (simp; omega)) (by first | omega | (simp; done) | (simp; omega)) _))) hD3
    go_wp2
    have HFACT := Lib.hid (show (0 ≤ d2 ∧ d2 < p) ∧ 0 ≤ d3 ∧ d3 < p by omega)
    (refine bodyPost_ret (v := .agg #[.int .i64 (d2), .int .i64 (d3)]) (by simp [results, Try.results67, go_sem, *]) rfl ⟨(d2), (d3), rfl, HFACT.out, (by (repeat (first | with_reducible exact hE3 | with_reducible refine DS.alloc ?_ _ | with_reducible refine DS.drew ?_ | with_reducible refine DS.drewN ?_ _ | with_reducible refine DS.setNew ?_ (by first | omega | (simp; done) | (simp; omega)) (by first | omega | (simp; done) | (simp; omega)) _)))⟩)
  · have hd1n : (d1 != 0) = false := by rw [bne, hd1]; rfl
    have hd1q := beq_iff_eq.1 hd1
    go_wp2_with fail
    refine Calls.mono (next_lt (base := base) (m := m) (c := c) (a := a) 3 (by (repeat (first | with_reducible assumption | with_reducible exact DS.src (by with_reducible assumption) | with_reducible exact DX.src (by with_reducible assumption) | with_reducible refine src_alloc ?_ _ | with_reducible refine src_drew ?_ | with_reducible refine src_drewN ?_ _ | with_reducible refine src_setNew ?_ (by first | omega | (simp; done) | (simp; omega)) (by first | omega | (simp; done) | (simp; omega)) _))) (by first | omega | decide) (by first | omega | decide)) ?_
    rintro e w2 ⟨d2, rfl, ⟨hd2a, hd2b⟩, hD2⟩
    have hs2 := hD2.src
    have hz2 := hD2.size
    (try simp at hz2)
    have hr2 := hD2.rlt
    obtain ⟨q2_0_0, q2_0_1⟩ : (w2.cell? ⟨w.heap.size, 0, none⟩ = some (.int .i64 0)) ∧ (w2.cell? ⟨w.heap.size, 1, none⟩ = some (.int .i64 0)) := by refine ⟨DS.cell hD2 (by omega) ?_, DS.cell hD2 (by omega) ?_⟩ <;> (repeat (first | with_reducible assumption | ((with_reducible refine kfresh ?_ ?_) <;> (first | with_reducible rfl | (simp; done))) | ((with_reducible refine ksameS ?_); focus ((repeat (first | with_reducible exact kis_of (by with_reducible assumption) | with_reducible refine kis_set ?_ | ((with_reducible refine kis_new ?_ ?_) <;> (first | with_reducible rfl | rfl | (simp; done))) | with_reducible refine kis_alloc _ ?_ | with_reducible refine kis_drew ?_ | with_reducible refine kis_call (by with_reducible assumption) ?_ | with_reducible exact kis_of (kcall (by with_reducible assumption) (by with_reducible assumption)))); done)) | with_reducible refine kother (by decide) ?_ | with_reducible refine kset (by first | omega | (simp; done) | (simp; omega)) ?_ | with_reducible refine kalloc _ ?_ | with_reducible refine kdrew ?_ | with_reducible refine kdrewN ?_ | with_reducible refine kcall (by with_reducible assumption) ?_))
    obtain ⟨z2_0_0, z2_0_1⟩ : (w2.frozen? ⟨w.heap.size, 0, none⟩ = false) ∧ (w2.frozen? ⟨w.heap.size, 1, none⟩ = false) := by refine ⟨DS.frozen hD2 (by omega) (by first | omega | (simp; done) | (simp; omega)) ?_, DS.frozen hD2 (by omega) (by first | omega | (simp; done) | (simp; omega)) ?_⟩ <;> (repeat (first | with_reducible assumption | with_reducible refine fdrew ?_ | with_reducible refine fdrewN ?_ | with_reducible refine fset ?_ | ((with_reducible refine fallocNew ?_) <;> (first | with_reducible rfl | (simp; done))) | ((with_reducible refine kfro (by with_reducible assumption) ?_ ?_); focus (first | with_reducible assumption | omega | (simp; done) | (simp; omega))) | ((with_reducible refine falloc ?_ ?_); focus (first | with_reducible assumption | omega | (simp; done) | (simp; omega)))))
    clear q1_0_0 q1_0_1 z1_0_0 z1_0_1
    have hE2 : DS r base m c a w w2 := DS.trans (by (repeat (first | with_reducible exact hE1 | with_reducible refine DS.alloc ?_ _ | with_reducible refine DS.drew ?_ | with_reducible refine DS.drewN ?_ _ | with_reducible refine DS.setNew ?_ (by first | omega | (simp; done) | (simp; omega)) (by first | omega | (simp; done) | (simp; omega)) _))) hD2
    go_wp2_with fail
    refine Calls.mono (next_lt (base := base) (m := m) (c := c) (a := a) 3 (by (repeat (first | with_reducible assumption | with_reducible exact DS.src (by with_reducible assumption) | with_reducible exact DX.src (by with_reducible assumption) | with_reducible refine src_alloc ?_ _ | with_reducible refine src_drew ?_ | with_reducible refine src_drewN ?_ _ | with_reducible refine src_setNew ?_ (by first | omega | (simp; done) | (simp; omega)) (by first | omega | (simp; done) | (simp; omega)) _))) (by first | omega | decide) (by first | omega | decide)) ?_
    rintro e w3 ⟨d3, rfl, ⟨hd3a, hd3b⟩, hD3⟩
    have hs3 := hD3.src
    have hz3 := hD3.size
    (try simp at hz3)
    have hr3 := hD3.rlt
    obtain ⟨q3_0_0, q3_0_1⟩ : (w3.cell? ⟨w.heap.size, 0, none⟩ = some (.int .i64 0)) ∧ (w3.cell? ⟨w.heap.size, 1, none⟩ = some (.int .i64 0)) := by refine ⟨DS.cell hD3 (by omega) ?_, DS.cell hD3 (by omega) ?_⟩ <;> (repeat (first | with_reducible assumption | ((with_reducible refine kfresh ?_ ?_) <;> (first | with_reducible rfl | (simp; done))) | ((with_reducible refine ksameS ?_); focus ((repeat (first | with_reducible exact kis_of (by with_reducible assumption) | with_reducible refine kis_set ?_ | ((with_reducible refine kis_new ?_ ?_) <;> (first | with_reducible rfl | rfl | (simp; done))) | with_reducible refine kis_alloc _ ?_ | with_reducible refine kis_drew ?_ | with_reducible refine kis_call (by with_reducible assumption) ?_ | with_reducible exact kis_of (kcall (by with_reducible assumption) (by with_reducible assumption)))); done)) | with_reducible refine kother (by decide) ?_ | with_reducible refine kset (by first | omega | (simp; done) | (simp; omega)) ?_ | with_reducible refine kalloc _ ?_ | with_reducible refine kdrew ?_ | with_reducible refine kdrewN ?_ | with_reducible refine kcall (by with_reducible assumption) ?_))
    obtain ⟨z3_0_0, z3_0_1⟩ : (w3.frozen? ⟨w.heap.size, 0, none⟩ = false) ∧ (w3.frozen? ⟨w.heap.size, 1, none⟩ = false) := by refine ⟨DS.frozen hD3 (by omega) (by first | omega | (simp; done) | (simp; omega)) ?_, DS.frozen hD3 (by omega) (by first | omega | (simp; done) | (simp; omega)) ?_⟩ <;> (repeat (first | with_reducible assumption | with_reducible refine fdrew ?_ | with_reducible refine fdrewN ?_ | with_reducible refine fset ?_ | ((with_reducible refine fallocNew ?_) <;> (first | with_reducible rfl | (simp; done))) | ((with_reducible refine kfro (by with_reducible assumption) ?_ ?_); focus (first | with_reducible assumption | omega | (simp; done) | (simp; omega))) | ((with_reducible refine falloc ?_ ?_); focus (first | with_reducible assumption | omega | (simp; done) | (simp; omega)))))
    clear q2_0_0 q2_0_1 z2_0_0 z2_0_1
    have hE3 : DS r base m c a w w3 := DS.trans (by (repeat (first | with_reducible exact hE2 | with_reducible refine DS.alloc ?_ _ | with_reducible refine DS.drew ?_ | with_reducible refine DS.drewN ?_ _ | with_reducible refine DS.setNew ?_ (by first | omega | (simp; done) | (simp; omega)) (by first | omega | (simp; done) | (simp; omega)) _))) hD3
    go_wp2
    have HFACT := Lib.hid (show (0 ≤ d2 ∧ d2 < p) ∧ 0 ≤ d3 ∧ d3 < p by omega)
    (refine bodyPost_ret (v := .agg #[.int .i64 (d2), .int .i64 (d3)]) (by simp [results, Try.results67, go_sem, *]) rfl ⟨(d2), (d3), rfl, HFACT.out, (by (repeat (first | with_reducible exact hE3 | with_reducible refine DS.alloc ?_ _ | with_reducible refine DS.drew ?_ | with_reducible refine DS.drewN ?_ _ | with_reducible refine DS.setNew ?_ (by first | omega | (simp; done) | (simp; omega)) (by first | omega | (simp; done) | (simp; omega)) _)))⟩)

end Go.Proofs.Ytodabjolblamgaa
