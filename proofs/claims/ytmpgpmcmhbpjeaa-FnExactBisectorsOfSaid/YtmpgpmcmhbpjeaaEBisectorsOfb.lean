/-
  BisectorsOf: the program's.
-/
import Derived.Test.YtmpgpmcmhbpjeaaSBisectorsOfb
import Derived.Test.YtmpgpmcmhbpjeaaImplBisb
import Derived.Test.YtmpgpmcmhbpjeaaImplNullInb
import Derived.Test.YtmpgpmcmhbpjeaaImplLinsb
import Derived.Test.YtmpgpmcmhbpjeaaImplColb
import Derived.Test.YtmpgpmcmhbpjeaaMgb0
import Derived.Deep.RegionHeld3
import Derived.Deep.DeepCutAuto

namespace Go.Proofs.Ytmpgpmcmhbpjeaa
open Go.RowKit

set_option linter.unusedSimpArgs false in
set_option maxRecDepth 20000 in
set_option maxHeartbeats 4000000 in
theorem implBisectorsOf_any (p col l1 l2 l3 m1 m2 m3 : Int)  (w : World) :
    Calls Try.prog 31 #[.int .i64 p, .int .i64 col, .agg #[.int .i64 l1, .int .i64 l2, .int .i64 l3], .agg #[.int .i64 m1, .int .i64 m2, .int .i64 m3]] w fun e w' =>
      SlicePost 30 3 (biL p col l1 l2 l3 m1 m2 m3) (biC p col l1 l2 l3 m1 m2 m3) w e w' := by
  go_enter Try.func31, Try.ntmps31
  go_upto_region 0 with fail
  go_cut [6, 7, 8, 9] (fun s6 s7 s8 s9 wx => s6 = .pointer (some ⟨w.heap.size, 0, none⟩) ∧ s7 = .pointer (some ⟨w.heap.size + 1, 0, none⟩) ∧ s8 = .slice none 0 0 ∧ s9 = .int .i64 0 ∧ wx.cell? ⟨w.heap.size, 0, none⟩ = some (.int .i64 l1) ∧ wx.cell? ⟨w.heap.size, 1, none⟩ = some (.int .i64 l2) ∧ wx.cell? ⟨w.heap.size, 2, none⟩ = some (.int .i64 l3) ∧ wx.cell? ⟨w.heap.size + 1, 0, none⟩ = some (.int .i64 m1) ∧ wx.cell? ⟨w.heap.size + 1, 1, none⟩ = some (.int .i64 m2) ∧ wx.cell? ⟨w.heap.size + 1, 2, none⟩ = some (.int .i64 m3) ∧ wx.frozen? ⟨w.heap.size, 0, none⟩ = false ∧ wx.frozen? ⟨w.heap.size, 1, none⟩ = false ∧ wx.frozen? ⟨w.heap.size, 2, none⟩ = false ∧ wx.frozen? ⟨w.heap.size + 1, 0, none⟩ = false ∧ wx.frozen? ⟨w.heap.size + 1, 1, none⟩ = false ∧ wx.frozen? ⟨w.heap.size + 1, 2, none⟩ = false ∧ Below w.heap.size w wx ∧ w.heap.size + 1 + 1 ≤ wx.heap.size)
  case first =>
    go_wp2
    go_meet
    refine ⟨rfl, rfl, rfl, rfl, ?_, ?_, ?_, ?_, ?_, ?_, ?_, ?_, ?_, ?_, ?_, ?_, ?_, ?_⟩
    · (repeat (first | with_reducible assumption | ((with_reducible refine kfresh ?_ ?_) <;> (first | with_reducible rfl | (simp; done))) | ((with_reducible refine ksameS ?_); focus ((repeat (first | with_reducible exact kis_of (by with_reducible assumption) | with_reducible refine kis_set ?_ | ((with_reducible refine kis_new ?_ ?_) <;> (first | with_reducible rfl | rfl | (simp; done))) | with_reducible refine kis_alloc _ ?_ | with_reducible refine kis_drew ?_ | with_reducible refine kis_call (by with_reducible assumption) ?_ | with_reducible exact kis_of (kcall (by with_reducible assumption) (by with_reducible assumption)))); done)) | with_reducible refine kother (by decide) ?_ | with_reducible refine kset (by first | omega | (simp; done) | (simp; omega)) ?_ | with_reducible refine kalloc _ ?_ | with_reducible refine kdrew ?_ | with_reducible refine kdrewN ?_ | with_reducible refine kcall (by with_reducible assumption) ?_))
    · (repeat (first | with_reducible assumption | ((with_reducible refine kfresh ?_ ?_) <;> (first | with_reducible rfl | (simp; done))) | ((with_reducible refine ksameS ?_); focus ((repeat (first | with_reducible exact kis_of (by with_reducible assumption) | with_reducible refine kis_set ?_ | ((with_reducible refine kis_new ?_ ?_) <;> (first | with_reducible rfl | rfl | (simp; done))) | with_reducible refine kis_alloc _ ?_ | with_reducible refine kis_drew ?_ | with_reducible refine kis_call (by with_reducible assumption) ?_ | with_reducible exact kis_of (kcall (by with_reducible assumption) (by with_reducible assumption)))); done)) | with_reducible refine kother (by decide) ?_ | with_reducible refine kset (by first | omega | (simp; done) | (simp; omega)) ?_ | with_reducible refine kalloc _ ?_ | with_reducible refine kdrew ?_ | with_reducible refine kdrewN ?_ | with_reducible refine kcall (by with_reducible assumption) ?_))
    · (repeat (first | with_reducible assumption | ((with_reducible refine kfresh ?_ ?_) <;> (first | with_reducible rfl | (simp; done))) | ((with_reducible refine ksameS ?_); focus ((repeat (first | with_reducible exact kis_of (by with_reducible assumption) | with_reducible refine kis_set ?_ | ((with_reducible refine kis_new ?_ ?_) <;> (first | with_reducible rfl | rfl | (simp; done))) | with_reducible refine kis_alloc _ ?_ | with_reducible refine kis_drew ?_ | with_reducible refine kis_call (by with_reducible assumption) ?_ | with_reducible exact kis_of (kcall (by with_reducible assumption) (by with_reducible assumption)))); done)) | with_reducible refine kother (by decide) ?_ | with_reducible refine kset (by first | omega | (simp; done) | (simp; omega)) ?_ | with_reducible refine kalloc _ ?_ | with_reducible refine kdrew ?_ | with_reducible refine kdrewN ?_ | with_reducible refine kcall (by with_reducible assumption) ?_))
    · (repeat (first | with_reducible assumption | ((with_reducible refine kfresh ?_ ?_) <;> (first | with_reducible rfl | (simp; done))) | ((with_reducible refine ksameS ?_); focus ((repeat (first | with_reducible exact kis_of (by with_reducible assumption) | with_reducible refine kis_set ?_ | ((with_reducible refine kis_new ?_ ?_) <;> (first | with_reducible rfl | rfl | (simp; done))) | with_reducible refine kis_alloc _ ?_ | with_reducible refine kis_drew ?_ | with_reducible refine kis_call (by with_reducible assumption) ?_ | with_reducible exact kis_of (kcall (by with_reducible assumption) (by with_reducible assumption)))); done)) | with_reducible refine kother (by decide) ?_ | with_reducible refine kset (by first | omega | (simp; done) | (simp; omega)) ?_ | with_reducible refine kalloc _ ?_ | with_reducible refine kdrew ?_ | with_reducible refine kdrewN ?_ | with_reducible refine kcall (by with_reducible assumption) ?_))
    · (repeat (first | with_reducible assumption | ((with_reducible refine kfresh ?_ ?_) <;> (first | with_reducible rfl | (simp; done))) | ((with_reducible refine ksameS ?_); focus ((repeat (first | with_reducible exact kis_of (by with_reducible assumption) | with_reducible refine kis_set ?_ | ((with_reducible refine kis_new ?_ ?_) <;> (first | with_reducible rfl | rfl | (simp; done))) | with_reducible refine kis_alloc _ ?_ | with_reducible refine kis_drew ?_ | with_reducible refine kis_call (by with_reducible assumption) ?_ | with_reducible exact kis_of (kcall (by with_reducible assumption) (by with_reducible assumption)))); done)) | with_reducible refine kother (by decide) ?_ | with_reducible refine kset (by first | omega | (simp; done) | (simp; omega)) ?_ | with_reducible refine kalloc _ ?_ | with_reducible refine kdrew ?_ | with_reducible refine kdrewN ?_ | with_reducible refine kcall (by with_reducible assumption) ?_))
    · (repeat (first | with_reducible assumption | ((with_reducible refine kfresh ?_ ?_) <;> (first | with_reducible rfl | (simp; done))) | ((with_reducible refine ksameS ?_); focus ((repeat (first | with_reducible exact kis_of (by with_reducible assumption) | with_reducible refine kis_set ?_ | ((with_reducible refine kis_new ?_ ?_) <;> (first | with_reducible rfl | rfl | (simp; done))) | with_reducible refine kis_alloc _ ?_ | with_reducible refine kis_drew ?_ | with_reducible refine kis_call (by with_reducible assumption) ?_ | with_reducible exact kis_of (kcall (by with_reducible assumption) (by with_reducible assumption)))); done)) | with_reducible refine kother (by decide) ?_ | with_reducible refine kset (by first | omega | (simp; done) | (simp; omega)) ?_ | with_reducible refine kalloc _ ?_ | with_reducible refine kdrew ?_ | with_reducible refine kdrewN ?_ | with_reducible refine kcall (by with_reducible assumption) ?_))
    · (repeat (first | with_reducible assumption | with_reducible refine fdrew ?_ | with_reducible refine fdrewN ?_ | with_reducible refine fset ?_ | ((with_reducible refine fallocNew ?_) <;> (first | with_reducible rfl | (simp; done))) | ((with_reducible refine kfro (by with_reducible assumption) ?_ ?_); focus (first | with_reducible assumption | omega | (simp; done) | (simp; omega))) | ((with_reducible refine falloc ?_ ?_); focus (first | with_reducible assumption | omega | (simp; done) | (simp; omega)))))
    · (repeat (first | with_reducible assumption | with_reducible refine fdrew ?_ | with_reducible refine fdrewN ?_ | with_reducible refine fset ?_ | ((with_reducible refine fallocNew ?_) <;> (first | with_reducible rfl | (simp; done))) | ((with_reducible refine kfro (by with_reducible assumption) ?_ ?_); focus (first | with_reducible assumption | omega | (simp; done) | (simp; omega))) | ((with_reducible refine falloc ?_ ?_); focus (first | with_reducible assumption | omega | (simp; done) | (simp; omega)))))
    · (repeat (first | with_reducible assumption | with_reducible refine fdrew ?_ | with_reducible refine fdrewN ?_ | with_reducible refine fset ?_ | ((with_reducible refine fallocNew ?_) <;> (first | with_reducible rfl | (simp; done))) | ((with_reducible refine kfro (by with_reducible assumption) ?_ ?_); focus (first | with_reducible assumption | omega | (simp; done) | (simp; omega))) | ((with_reducible refine falloc ?_ ?_); focus (first | with_reducible assumption | omega | (simp; done) | (simp; omega)))))
    · (repeat (first | with_reducible assumption | with_reducible refine fdrew ?_ | with_reducible refine fdrewN ?_ | with_reducible refine fset ?_ | ((with_reducible refine fallocNew ?_) <;> (first | with_reducible rfl | (simp; done))) | ((with_reducible refine kfro (by with_reducible assumption) ?_ ?_); focus (first | with_reducible assumption | omega | (simp; done) | (simp; omega))) | ((with_reducible refine falloc ?_ ?_); focus (first | with_reducible assumption | omega | (simp; done) | (simp; omega)))))
    · (repeat (first | with_reducible assumption | with_reducible refine fdrew ?_ | with_reducible refine fdrewN ?_ | with_reducible refine fset ?_ | ((with_reducible refine fallocNew ?_) <;> (first | with_reducible rfl | (simp; done))) | ((with_reducible refine kfro (by with_reducible assumption) ?_ ?_); focus (first | with_reducible assumption | omega | (simp; done) | (simp; omega))) | ((with_reducible refine falloc ?_ ?_); focus (first | with_reducible assumption | omega | (simp; done) | (simp; omega)))))
    · (repeat (first | with_reducible assumption | with_reducible refine fdrew ?_ | with_reducible refine fdrewN ?_ | with_reducible refine fset ?_ | ((with_reducible refine fallocNew ?_) <;> (first | with_reducible rfl | (simp; done))) | ((with_reducible refine kfro (by with_reducible assumption) ?_ ?_); focus (first | with_reducible assumption | omega | (simp; done) | (simp; omega))) | ((with_reducible refine falloc ?_ ?_); focus (first | with_reducible assumption | omega | (simp; done) | (simp; omega)))))
    · (repeat (first | with_reducible exact Below.refl _ _ | with_reducible refine balloc ?_ _ | with_reducible refine bdrewN ?_ _ | with_reducible refine Below.drew ?_ | with_reducible refine bthen ?_ (by with_reducible assumption) | with_reducible refine Below.setCell ?_ (by first | (simp; done) | (simp; omega)) _))
    · (first | omega | (simp; done) | (simp; omega))
  case' rest => obtain ⟨rfl, rfl, rfl, rfl, cO0, cO1, cO2, cO3, cO4, cO5, fO0, fO1, fO2, fO3, fO4, fO5, hxO, hsO⟩ := hcut
  obtain ⟨wO, rfl⟩ : ∃ wO : World, wO = wc := ⟨_, rfl⟩
  have lO0 : w.heap.size < wO.heap.size := by omega
  have lO1 : w.heap.size + 1 < wO.heap.size := by omega
  rcases bool_ways (colB col) with hd1 | hd1
  · skip
    rcases bool_ways (isP p) with hd2 | hd2
    · skip
      have c_1 : codeOf p false = 1 := codeOf_no hd2
      have cN : ∀ b, codeOf p b = 1 := fun b => codeOf_no hd2
      go_wp2_with fail
      refine Calls.mono (isColour_any _ _) ?_
      rintro e w' ⟨rfl, rfl⟩
      go_wp2_with fail
      refine Calls.mono (codeFor_any _ _ _) ?_
      rintro e w' ⟨rfl, rfl⟩
      have HV := Lib.hid (bi_no (col := col) (l1 := l1) (l2 := l2) (l3 := l3) (m1 := m1) (m2 := m2) (m3 := m3) hd2)
      go_wp2
      (refine bodyPost_ret (v := .tuple #[.slice none 0 0, .int .i64 (biC p col l1 l2 l3 m1 m2 m3)]) (by simp [results, Try.results31, go_sem, HV.out.2]) rfl (slicePost_nil HV.out.1 ?_))
      (repeat (first | with_reducible exact Below.refl _ _ | with_reducible exact hxO | with_reducible refine balloc ?_ _ | with_reducible refine bdrewN ?_ _ | with_reducible refine Below.drew ?_ | with_reducible refine bthen ?_ (by with_reducible assumption) | with_reducible refine Below.setCell ?_ (by first | (simp; done) | (simp; omega)) _))
    · have hp := hd2
      have hr := isP_range hp
      have c_1 : codeOf p false = 2 := codeOf_out hp (by simp)
      have cT : codeOf p true = 0 := codeOf_in hp rfl
      have cF : codeOf p false = 2 := codeOf_out hp rfl
      go_wp2_with fail
      refine Calls.mono (isColour_any _ _) ?_
      rintro e w' ⟨rfl, rfl⟩
      go_wp2_with fail
      refine Calls.mono (codeFor_any _ _ _) ?_
      rintro e w' ⟨rfl, rfl⟩
      have HV := Lib.hid (bi_out (col := col) (l1 := l1) (l2 := l2) (l3 := l3) (m1 := m1) (m2 := m2) (m3 := m3) hp (by simp [biB, hd1, hd2]))
      go_wp2
      (refine bodyPost_ret (v := .tuple #[.slice none 0 0, .int .i64 (biC p col l1 l2 l3 m1 m2 m3)]) (by simp [results, Try.results31, go_sem, HV.out.2]) rfl (slicePost_nil HV.out.1 ?_))
      (repeat (first | with_reducible exact Below.refl _ _ | with_reducible exact hxO | with_reducible refine balloc ?_ _ | with_reducible refine bdrewN ?_ _ | with_reducible refine Below.drew ?_ | with_reducible refine bthen ?_ (by with_reducible assumption) | with_reducible refine Below.setCell ?_ (by first | (simp; done) | (simp; omega)) _))
  · have hc := hd1
    have hcr := colB_range hc
    rcases bool_ways (lineB p l1 l2 l3) with hd2 | hd2
    · skip
      rcases bool_ways (lineB p m1 m2 m3) with hd3 | hd3
      · skip
        rcases bool_ways (isP p) with hd4 | hd4
        · skip
          have c_1 : codeOf p false = 1 := codeOf_no hd4
          have cN : ∀ b, codeOf p b = 1 := fun b => codeOf_no hd4
          go_wp2_with fail
          refine Calls.mono (isColour_any _ _) ?_
          rintro e w' ⟨rfl, rfl⟩
          go_wp2_with fail
          refine Calls.mono (implLines2 _ _ _ _ _ _ _ _ _ (by first | rfl | (simp; done))) ?_
          rintro e w1 ⟨rfl, hB1⟩
          (obtain ⟨hB1c, hB1f⟩ := bcell hB1; have hB1s := hB1.size; (try simp at hB1s); (try have hB1q1 := Nat.lt_of_succ_le hB1s); (try have hB1q2 := Nat.lt_of_succ_lt hB1q1); (try have hB1q3 := Nat.lt_of_succ_lt hB1q2); (try have hB1zw0 : w.heap.size < w1.heap.size := (by omega)); (try have hB1zw1 : w.heap.size + 1 < w1.heap.size := (by omega)); (try have hB1zw2 : w.heap.size + 1 + 1 < w1.heap.size := (by omega)); (try have hB1zw3 : w.heap.size + 1 + 1 + 1 < w1.heap.size := (by omega)); (try have hB1zw4 : w.heap.size + 1 + 1 + 1 + 1 < w1.heap.size := (by omega)); (try have hB1zwO0 : wO.heap.size < w1.heap.size := (by omega)); (try have hB1zwO1 : wO.heap.size + 1 < w1.heap.size := (by omega)); (try have hB1zwO2 : wO.heap.size + 1 + 1 < w1.heap.size := (by omega)); (try have hB1zwO3 : wO.heap.size + 1 + 1 + 1 < w1.heap.size := (by omega)); (try have hB1zwO4 : wO.heap.size + 1 + 1 + 1 + 1 < w1.heap.size := (by omega)))
          go_wp2_with fail
          refine Calls.mono (codeFor_any _ _ _) ?_
          rintro e w' ⟨rfl, rfl⟩
          have HV := Lib.hid (bi_no (col := col) (l1 := l1) (l2 := l2) (l3 := l3) (m1 := m1) (m2 := m2) (m3 := m3) hd4)
          go_wp2
          (refine bodyPost_ret (v := .tuple #[.slice none 0 0, .int .i64 (biC p col l1 l2 l3 m1 m2 m3)]) (by simp [results, Try.results31, go_sem, HV.out.2]) rfl (slicePost_nil HV.out.1 ?_))
          (repeat (first | with_reducible exact Below.refl _ _ | with_reducible exact hxO | with_reducible refine balloc ?_ _ | with_reducible refine bdrewN ?_ _ | with_reducible refine Below.drew ?_ | with_reducible refine bthen ?_ (by with_reducible assumption) | with_reducible refine Below.setCell ?_ (by first | (simp; done) | (simp; omega)) _))
        · have hp := hd4
          have hr := isP_range hp
          have c_1 : codeOf p false = 2 := codeOf_out hp (by simp)
          have cT : codeOf p true = 0 := codeOf_in hp rfl
          have cF : codeOf p false = 2 := codeOf_out hp rfl
          go_wp2_with fail
          refine Calls.mono (isColour_any _ _) ?_
          rintro e w' ⟨rfl, rfl⟩
          go_wp2_with fail
          refine Calls.mono (implLines2 _ _ _ _ _ _ _ _ _ (by first | rfl | (simp; done))) ?_
          rintro e w1 ⟨rfl, hB1⟩
          (obtain ⟨hB1c, hB1f⟩ := bcell hB1; have hB1s := hB1.size; (try simp at hB1s); (try have hB1q1 := Nat.lt_of_succ_le hB1s); (try have hB1q2 := Nat.lt_of_succ_lt hB1q1); (try have hB1q3 := Nat.lt_of_succ_lt hB1q2); (try have hB1zw0 : w.heap.size < w1.heap.size := (by omega)); (try have hB1zw1 : w.heap.size + 1 < w1.heap.size := (by omega)); (try have hB1zw2 : w.heap.size + 1 + 1 < w1.heap.size := (by omega)); (try have hB1zw3 : w.heap.size + 1 + 1 + 1 < w1.heap.size := (by omega)); (try have hB1zw4 : w.heap.size + 1 + 1 + 1 + 1 < w1.heap.size := (by omega)); (try have hB1zwO0 : wO.heap.size < w1.heap.size := (by omega)); (try have hB1zwO1 : wO.heap.size + 1 < w1.heap.size := (by omega)); (try have hB1zwO2 : wO.heap.size + 1 + 1 < w1.heap.size := (by omega)); (try have hB1zwO3 : wO.heap.size + 1 + 1 + 1 < w1.heap.size := (by omega)); (try have hB1zwO4 : wO.heap.size + 1 + 1 + 1 + 1 < w1.heap.size := (by omega)))
          go_wp2_with fail
          refine Calls.mono (codeFor_any _ _ _) ?_
          rintro e w' ⟨rfl, rfl⟩
          have HV := Lib.hid (bi_out (col := col) (l1 := l1) (l2 := l2) (l3 := l3) (m1 := m1) (m2 := m2) (m3 := m3) hp (by simp [biB, hd1, hd2, hd3, hd4]))
          go_wp2
          (refine bodyPost_ret (v := .tuple #[.slice none 0 0, .int .i64 (biC p col l1 l2 l3 m1 m2 m3)]) (by simp [results, Try.results31, go_sem, HV.out.2]) rfl (slicePost_nil HV.out.1 ?_))
          (repeat (first | with_reducible exact Below.refl _ _ | with_reducible exact hxO | with_reducible refine balloc ?_ _ | with_reducible refine bdrewN ?_ _ | with_reducible refine Below.drew ?_ | with_reducible refine bthen ?_ (by with_reducible assumption) | with_reducible refine Below.setCell ?_ (by first | (simp; done) | (simp; omega)) _))
      · have hd3q := nums3 (lineB_in hd3).2
        have hd3l := lead_ways (lineB_in hd3).1
        rcases bool_ways (isP p) with hd4 | hd4
        · skip
          have c_1 : codeOf p false = 1 := codeOf_no hd4
          have cN : ∀ b, codeOf p b = 1 := fun b => codeOf_no hd4
          go_wp2_with fail
          refine Calls.mono (isColour_any _ _) ?_
          rintro e w' ⟨rfl, rfl⟩
          go_wp2_with fail
          refine Calls.mono (implLines2 _ _ _ _ _ _ _ _ _ (by first | rfl | (simp; done))) ?_
          rintro e w1 ⟨rfl, hB1⟩
          (obtain ⟨hB1c, hB1f⟩ := bcell hB1; have hB1s := hB1.size; (try simp at hB1s); (try have hB1q1 := Nat.lt_of_succ_le hB1s); (try have hB1q2 := Nat.lt_of_succ_lt hB1q1); (try have hB1q3 := Nat.lt_of_succ_lt hB1q2); (try have hB1zw0 : w.heap.size < w1.heap.size := (by omega)); (try have hB1zw1 : w.heap.size + 1 < w1.heap.size := (by omega)); (try have hB1zw2 : w.heap.size + 1 + 1 < w1.heap.size := (by omega)); (try have hB1zw3 : w.heap.size + 1 + 1 + 1 < w1.heap.size := (by omega)); (try have hB1zw4 : w.heap.size + 1 + 1 + 1 + 1 < w1.heap.size := (by omega)); (try have hB1zwO0 : wO.heap.size < w1.heap.size := (by omega)); (try have hB1zwO1 : wO.heap.size + 1 < w1.heap.size := (by omega)); (try have hB1zwO2 : wO.heap.size + 1 + 1 < w1.heap.size := (by omega)); (try have hB1zwO3 : wO.heap.size + 1 + 1 + 1 < w1.heap.size := (by omega)); (try have hB1zwO4 : wO.heap.size + 1 + 1 + 1 + 1 < w1.heap.size := (by omega)))
          go_wp2_with fail
          refine Calls.mono (codeFor_any _ _ _) ?_
          rintro e w' ⟨rfl, rfl⟩
          have HV := Lib.hid (bi_no (col := col) (l1 := l1) (l2 := l2) (l3 := l3) (m1 := m1) (m2 := m2) (m3 := m3) hd4)
          go_wp2
          (refine bodyPost_ret (v := .tuple #[.slice none 0 0, .int .i64 (biC p col l1 l2 l3 m1 m2 m3)]) (by simp [results, Try.results31, go_sem, HV.out.2]) rfl (slicePost_nil HV.out.1 ?_))
          (repeat (first | with_reducible exact Below.refl _ _ | with_reducible exact hxO | with_reducible refine balloc ?_ _ | with_reducible refine bdrewN ?_ _ | with_reducible refine Below.drew ?_ | with_reducible refine bthen ?_ (by with_reducible assumption) | with_reducible refine Below.setCell ?_ (by first | (simp; done) | (simp; omega)) _))
        · have hp := hd4
          have hr := isP_range hp
          have c_1 : codeOf p false = 2 := codeOf_out hp (by simp)
          have cT : codeOf p true = 0 := codeOf_in hp rfl
          have cF : codeOf p false = 2 := codeOf_out hp rfl
          go_wp2_with fail
          refine Calls.mono (isColour_any _ _) ?_
          rintro e w' ⟨rfl, rfl⟩
          go_wp2_with fail
          refine Calls.mono (implLines2 _ _ _ _ _ _ _ _ _ (by first | rfl | (simp; done))) ?_
          rintro e w1 ⟨rfl, hB1⟩
          (obtain ⟨hB1c, hB1f⟩ := bcell hB1; have hB1s := hB1.size; (try simp at hB1s); (try have hB1q1 := Nat.lt_of_succ_le hB1s); (try have hB1q2 := Nat.lt_of_succ_lt hB1q1); (try have hB1q3 := Nat.lt_of_succ_lt hB1q2); (try have hB1zw0 : w.heap.size < w1.heap.size := (by omega)); (try have hB1zw1 : w.heap.size + 1 < w1.heap.size := (by omega)); (try have hB1zw2 : w.heap.size + 1 + 1 < w1.heap.size := (by omega)); (try have hB1zw3 : w.heap.size + 1 + 1 + 1 < w1.heap.size := (by omega)); (try have hB1zw4 : w.heap.size + 1 + 1 + 1 + 1 < w1.heap.size := (by omega)); (try have hB1zwO0 : wO.heap.size < w1.heap.size := (by omega)); (try have hB1zwO1 : wO.heap.size + 1 < w1.heap.size := (by omega)); (try have hB1zwO2 : wO.heap.size + 1 + 1 < w1.heap.size := (by omega)); (try have hB1zwO3 : wO.heap.size + 1 + 1 + 1 < w1.heap.size := (by omega)); (try have hB1zwO4 : wO.heap.size + 1 + 1 + 1 + 1 < w1.heap.size := (by omega)))
          go_wp2_with fail
          refine Calls.mono (codeFor_any _ _ _) ?_
          rintro e w' ⟨rfl, rfl⟩
          have HV := Lib.hid (bi_out (col := col) (l1 := l1) (l2 := l2) (l3 := l3) (m1 := m1) (m2 := m2) (m3 := m3) hp (by simp [biB, hd1, hd2, hd3, hd4]))
          go_wp2
          (refine bodyPost_ret (v := .tuple #[.slice none 0 0, .int .i64 (biC p col l1 l2 l3 m1 m2 m3)]) (by simp [results, Try.results31, go_sem, HV.out.2]) rfl (slicePost_nil HV.out.1 ?_))
          (repeat (first | with_reducible exact Below.refl _ _ | with_reducible exact hxO | with_reducible refine balloc ?_ _ | with_reducible refine bdrewN ?_ _ | with_reducible refine Below.drew ?_ | with_reducible refine bthen ?_ (by with_reducible assumption) | with_reducible refine Below.setCell ?_ (by first | (simp; done) | (simp; omega)) _))
    · have hd2q := nums3 (lineB_in hd2).2
      have hd2l := lead_ways (lineB_in hd2).1
      rcases bool_ways (lineB p m1 m2 m3) with hd3 | hd3
      · skip
        rcases bool_ways (isP p) with hd4 | hd4
        · skip
          have c_1 : codeOf p false = 1 := codeOf_no hd4
          have cN : ∀ b, codeOf p b = 1 := fun b => codeOf_no hd4
          go_wp2_with fail
          refine Calls.mono (isColour_any _ _) ?_
          rintro e w' ⟨rfl, rfl⟩
          go_wp2_with fail
          refine Calls.mono (implLines2 _ _ _ _ _ _ _ _ _ (by first | rfl | (simp; done))) ?_
          rintro e w1 ⟨rfl, hB1⟩
          (obtain ⟨hB1c, hB1f⟩ := bcell hB1; have hB1s := hB1.size; (try simp at hB1s); (try have hB1q1 := Nat.lt_of_succ_le hB1s); (try have hB1q2 := Nat.lt_of_succ_lt hB1q1); (try have hB1q3 := Nat.lt_of_succ_lt hB1q2); (try have hB1zw0 : w.heap.size < w1.heap.size := (by omega)); (try have hB1zw1 : w.heap.size + 1 < w1.heap.size := (by omega)); (try have hB1zw2 : w.heap.size + 1 + 1 < w1.heap.size := (by omega)); (try have hB1zw3 : w.heap.size + 1 + 1 + 1 < w1.heap.size := (by omega)); (try have hB1zw4 : w.heap.size + 1 + 1 + 1 + 1 < w1.heap.size := (by omega)); (try have hB1zwO0 : wO.heap.size < w1.heap.size := (by omega)); (try have hB1zwO1 : wO.heap.size + 1 < w1.heap.size := (by omega)); (try have hB1zwO2 : wO.heap.size + 1 + 1 < w1.heap.size := (by omega)); (try have hB1zwO3 : wO.heap.size + 1 + 1 + 1 < w1.heap.size := (by omega)); (try have hB1zwO4 : wO.heap.size + 1 + 1 + 1 + 1 < w1.heap.size := (by omega)))
          go_wp2_with fail
          refine Calls.mono (codeFor_any _ _ _) ?_
          rintro e w' ⟨rfl, rfl⟩
          have HV := Lib.hid (bi_no (col := col) (l1 := l1) (l2 := l2) (l3 := l3) (m1 := m1) (m2 := m2) (m3 := m3) hd4)
          go_wp2
          (refine bodyPost_ret (v := .tuple #[.slice none 0 0, .int .i64 (biC p col l1 l2 l3 m1 m2 m3)]) (by simp [results, Try.results31, go_sem, HV.out.2]) rfl (slicePost_nil HV.out.1 ?_))
          (repeat (first | with_reducible exact Below.refl _ _ | with_reducible exact hxO | with_reducible refine balloc ?_ _ | with_reducible refine bdrewN ?_ _ | with_reducible refine Below.drew ?_ | with_reducible refine bthen ?_ (by with_reducible assumption) | with_reducible refine Below.setCell ?_ (by first | (simp; done) | (simp; omega)) _))
        · have hp := hd4
          have hr := isP_range hp
          have c_1 : codeOf p false = 2 := codeOf_out hp (by simp)
          have cT : codeOf p true = 0 := codeOf_in hp rfl
          have cF : codeOf p false = 2 := codeOf_out hp rfl
          go_wp2_with fail
          refine Calls.mono (isColour_any _ _) ?_
          rintro e w' ⟨rfl, rfl⟩
          go_wp2_with fail
          refine Calls.mono (implLines2 _ _ _ _ _ _ _ _ _ (by first | rfl | (simp; done))) ?_
          rintro e w1 ⟨rfl, hB1⟩
          (obtain ⟨hB1c, hB1f⟩ := bcell hB1; have hB1s := hB1.size; (try simp at hB1s); (try have hB1q1 := Nat.lt_of_succ_le hB1s); (try have hB1q2 := Nat.lt_of_succ_lt hB1q1); (try have hB1q3 := Nat.lt_of_succ_lt hB1q2); (try have hB1zw0 : w.heap.size < w1.heap.size := (by omega)); (try have hB1zw1 : w.heap.size + 1 < w1.heap.size := (by omega)); (try have hB1zw2 : w.heap.size + 1 + 1 < w1.heap.size := (by omega)); (try have hB1zw3 : w.heap.size + 1 + 1 + 1 < w1.heap.size := (by omega)); (try have hB1zw4 : w.heap.size + 1 + 1 + 1 + 1 < w1.heap.size := (by omega)); (try have hB1zwO0 : wO.heap.size < w1.heap.size := (by omega)); (try have hB1zwO1 : wO.heap.size + 1 < w1.heap.size := (by omega)); (try have hB1zwO2 : wO.heap.size + 1 + 1 < w1.heap.size := (by omega)); (try have hB1zwO3 : wO.heap.size + 1 + 1 + 1 < w1.heap.size := (by omega)); (try have hB1zwO4 : wO.heap.size + 1 + 1 + 1 + 1 < w1.heap.size := (by omega)))
          go_wp2_with fail
          refine Calls.mono (codeFor_any _ _ _) ?_
          rintro e w' ⟨rfl, rfl⟩
          have HV := Lib.hid (bi_out (col := col) (l1 := l1) (l2 := l2) (l3 := l3) (m1 := m1) (m2 := m2) (m3 := m3) hp (by simp [biB, hd1, hd2, hd3, hd4]))
          go_wp2
          (refine bodyPost_ret (v := .tuple #[.slice none 0 0, .int .i64 (biC p col l1 l2 l3 m1 m2 m3)]) (by simp [results, Try.results31, go_sem, HV.out.2]) rfl (slicePost_nil HV.out.1 ?_))
          (repeat (first | with_reducible exact Below.refl _ _ | with_reducible exact hxO | with_reducible refine balloc ?_ _ | with_reducible refine bdrewN ?_ _ | with_reducible refine Below.drew ?_ | with_reducible refine bthen ?_ (by with_reducible assumption) | with_reducible refine Below.setCell ?_ (by first | (simp; done) | (simp; omega)) _))
      · have hd3q := nums3 (lineB_in hd3).2
        have hd3l := lead_ways (lineB_in hd3).1
        rcases bool_ways (isP p) with hd4 | hd4
        · skip
          have c_1 : codeOf p true = 1 := codeOf_no hd4
          have cN : ∀ b, codeOf p b = 1 := fun b => codeOf_no hd4
          go_wp2_with fail
          refine Calls.mono (isColour_any _ _) ?_
          rintro e w' ⟨rfl, rfl⟩
          go_wp2_with fail
          refine Calls.mono (implLines2 _ _ _ _ _ _ _ _ _ (by first | rfl | (simp; done))) ?_
          rintro e w1 ⟨rfl, hB1⟩
          (obtain ⟨hB1c, hB1f⟩ := bcell hB1; have hB1s := hB1.size; (try simp at hB1s); (try have hB1q1 := Nat.lt_of_succ_le hB1s); (try have hB1q2 := Nat.lt_of_succ_lt hB1q1); (try have hB1q3 := Nat.lt_of_succ_lt hB1q2); (try have hB1zw0 : w.heap.size < w1.heap.size := (by omega)); (try have hB1zw1 : w.heap.size + 1 < w1.heap.size := (by omega)); (try have hB1zw2 : w.heap.size + 1 + 1 < w1.heap.size := (by omega)); (try have hB1zw3 : w.heap.size + 1 + 1 + 1 < w1.heap.size := (by omega)); (try have hB1zw4 : w.heap.size + 1 + 1 + 1 + 1 < w1.heap.size := (by omega)); (try have hB1zwO0 : wO.heap.size < w1.heap.size := (by omega)); (try have hB1zwO1 : wO.heap.size + 1 < w1.heap.size := (by omega)); (try have hB1zwO2 : wO.heap.size + 1 + 1 < w1.heap.size := (by omega)); (try have hB1zwO3 : wO.heap.size + 1 + 1 + 1 < w1.heap.size := (by omega)); (try have hB1zwO4 : wO.heap.size + 1 + 1 + 1 + 1 < w1.heap.size := (by omega)))
          go_wp2_with fail
          refine Calls.mono (codeFor_any _ _ _) ?_
          rintro e w' ⟨rfl, rfl⟩
          have HV := Lib.hid (bi_no (col := col) (l1 := l1) (l2 := l2) (l3 := l3) (m1 := m1) (m2 := m2) (m3 := m3) hd4)
          go_wp2
          (refine bodyPost_ret (v := .tuple #[.slice none 0 0, .int .i64 (biC p col l1 l2 l3 m1 m2 m3)]) (by simp [results, Try.results31, go_sem, HV.out.2]) rfl (slicePost_nil HV.out.1 ?_))
          (repeat (first | with_reducible exact Below.refl _ _ | with_reducible exact hxO | with_reducible refine balloc ?_ _ | with_reducible refine bdrewN ?_ _ | with_reducible refine Below.drew ?_ | with_reducible refine bthen ?_ (by with_reducible assumption) | with_reducible refine Below.setCell ?_ (by first | (simp; done) | (simp; omega)) _))
        · have hp := hd4
          have hr := isP_range hp
          have c_1 : codeOf p true = 0 := codeOf_in hp (by simp)
          have cT : codeOf p true = 0 := codeOf_in hp rfl
          go_wp2_with fail
          refine Calls.mono (isColour_any _ _) ?_
          rintro e w' ⟨rfl, rfl⟩
          go_wp2_with fail
          refine Calls.mono (implLines2 _ _ _ _ _ _ _ _ _ (by first | rfl | (simp; done))) ?_
          rintro e w1 ⟨rfl, hB1⟩
          (obtain ⟨hB1c, hB1f⟩ := bcell hB1; have hB1s := hB1.size; (try simp at hB1s); (try have hB1q1 := Nat.lt_of_succ_le hB1s); (try have hB1q2 := Nat.lt_of_succ_lt hB1q1); (try have hB1q3 := Nat.lt_of_succ_lt hB1q2); (try have hB1zw0 : w.heap.size < w1.heap.size := (by omega)); (try have hB1zw1 : w.heap.size + 1 < w1.heap.size := (by omega)); (try have hB1zw2 : w.heap.size + 1 + 1 < w1.heap.size := (by omega)); (try have hB1zw3 : w.heap.size + 1 + 1 + 1 < w1.heap.size := (by omega)); (try have hB1zw4 : w.heap.size + 1 + 1 + 1 + 1 < w1.heap.size := (by omega)); (try have hB1zwO0 : wO.heap.size < w1.heap.size := (by omega)); (try have hB1zwO1 : wO.heap.size + 1 < w1.heap.size := (by omega)); (try have hB1zwO2 : wO.heap.size + 1 + 1 < w1.heap.size := (by omega)); (try have hB1zwO3 : wO.heap.size + 1 + 1 + 1 < w1.heap.size := (by omega)); (try have hB1zwO4 : wO.heap.size + 1 + 1 + 1 + 1 < w1.heap.size := (by omega)))
          go_wp2_with fail
          refine Calls.mono (codeFor_any _ _ _) ?_
          rintro e w' ⟨rfl, rfl⟩
          rcases bool_ways (eqD l1 l2 m1 m2) with hd5 | hd5
          · skip
            have c_2 : bmC l1 l2 m1 m2 = 0 := by simp [bmC, bmX, bmY, hd5]
            obtain ⟨v1, hv1⟩ : ∃ v : Int, v = meX p l1 l2 l3 m1 m2 m3 := ⟨_, rfl⟩
            have rv1 := meX_r l1 l2 l3 m1 m2 m3 hp
            rw [← hv1] at rv1
            have Hv1 := Lib.hid hv1
            clear hv1
            have c_3 : bmX p l1 l2 l3 m1 m2 m3 = v1 := by rw [Hv1.out]; simp [bmC, bmX, bmY, hd5]
            obtain ⟨v2, hv2⟩ : ∃ v : Int, v = meY p l1 l2 l3 m1 m2 m3 := ⟨_, rfl⟩
            have rv2 := meY_r l1 l2 l3 m1 m2 m3 hp
            rw [← hv2] at rv2
            have Hv2 := Lib.hid hv2
            clear hv2
            have c_4 : bmY p l1 l2 l3 m1 m2 m3 = v2 := by rw [Hv2.out]; simp [bmC, bmX, bmY, hd5]
            go_wp2_with fail
            refine Calls.mono (implMeetL _ _ _ _ _ _ _ _ hp hd2 hd3) ?_
            rintro e w2 ⟨rfl, hB2⟩
            (obtain ⟨hB2c, hB2f⟩ := bcell hB2; have hB2s := hB2.size; (try simp at hB2s); (try have hB2q1 := Nat.lt_of_succ_le hB2s); (try have hB2q2 := Nat.lt_of_succ_lt hB2q1); (try have hB2q3 := Nat.lt_of_succ_lt hB2q2); (try have hB2zw0 : w.heap.size < w2.heap.size := (by omega)); (try have hB2zw1 : w.heap.size + 1 < w2.heap.size := (by omega)); (try have hB2zw2 : w.heap.size + 1 + 1 < w2.heap.size := (by omega)); (try have hB2zw3 : w.heap.size + 1 + 1 + 1 < w2.heap.size := (by omega)); (try have hB2zw4 : w.heap.size + 1 + 1 + 1 + 1 < w2.heap.size := (by omega)); (try have hB2zw10 : w1.heap.size < w2.heap.size := (by omega)); (try have hB2zw11 : w1.heap.size + 1 < w2.heap.size := (by omega)); (try have hB2zw12 : w1.heap.size + 1 + 1 < w2.heap.size := (by omega)); (try have hB2zw13 : w1.heap.size + 1 + 1 + 1 < w2.heap.size := (by omega)); (try have hB2zw14 : w1.heap.size + 1 + 1 + 1 + 1 < w2.heap.size := (by omega)); (try have hB2zwO0 : wO.heap.size < w2.heap.size := (by omega)); (try have hB2zwO1 : wO.heap.size + 1 < w2.heap.size := (by omega)); (try have hB2zwO2 : wO.heap.size + 1 + 1 < w2.heap.size := (by omega)); (try have hB2zwO3 : wO.heap.size + 1 + 1 + 1 < w2.heap.size := (by omega)); (try have hB2zwO4 : wO.heap.size + 1 + 1 + 1 + 1 < w2.heap.size := (by omega)))
            rcases bool_ways (nullB p col l1 l2) with hd6 | hd6
            · skip
              go_wp2_with fail
              refine Calls.mono (implNullIn _ _ _ _ _ _ hp hc (by omega) (by omega)) ?_
              rintro e w3 ⟨rfl, hB3⟩
              (obtain ⟨hB3c, hB3f⟩ := bcell hB3; have hB3s := hB3.size; (try simp at hB3s); (try have hB3q1 := Nat.lt_of_succ_le hB3s); (try have hB3q2 := Nat.lt_of_succ_lt hB3q1); (try have hB3q3 := Nat.lt_of_succ_lt hB3q2); (try have hB3zw0 : w.heap.size < w3.heap.size := (by omega)); (try have hB3zw1 : w.heap.size + 1 < w3.heap.size := (by omega)); (try have hB3zw2 : w.heap.size + 1 + 1 < w3.heap.size := (by omega)); (try have hB3zw3 : w.heap.size + 1 + 1 + 1 < w3.heap.size := (by omega)); (try have hB3zw4 : w.heap.size + 1 + 1 + 1 + 1 < w3.heap.size := (by omega)); (try have hB3zw20 : w2.heap.size < w3.heap.size := (by omega)); (try have hB3zw21 : w2.heap.size + 1 < w3.heap.size := (by omega)); (try have hB3zw22 : w2.heap.size + 1 + 1 < w3.heap.size := (by omega)); (try have hB3zw23 : w2.heap.size + 1 + 1 + 1 < w3.heap.size := (by omega)); (try have hB3zw24 : w2.heap.size + 1 + 1 + 1 + 1 < w3.heap.size := (by omega)); (try have hB3zw10 : w1.heap.size < w3.heap.size := (by omega)); (try have hB3zw11 : w1.heap.size + 1 < w3.heap.size := (by omega)); (try have hB3zw12 : w1.heap.size + 1 + 1 < w3.heap.size := (by omega)); (try have hB3zw13 : w1.heap.size + 1 + 1 + 1 < w3.heap.size := (by omega)); (try have hB3zw14 : w1.heap.size + 1 + 1 + 1 + 1 < w3.heap.size := (by omega)); (try have hB3zwO0 : wO.heap.size < w3.heap.size := (by omega)); (try have hB3zwO1 : wO.heap.size + 1 < w3.heap.size := (by omega)); (try have hB3zwO2 : wO.heap.size + 1 + 1 < w3.heap.size := (by omega)); (try have hB3zwO3 : wO.heap.size + 1 + 1 + 1 < w3.heap.size := (by omega)); (try have hB3zwO4 : wO.heap.size + 1 + 1 + 1 + 1 < w3.heap.size := (by omega)))
              go_wp2_with fail
              refine Calls.mono (implNullIn _ _ _ _ _ _ hp hc (by omega) (by omega)) ?_
              rintro e w4 ⟨rfl, hB4⟩
              (obtain ⟨hB4c, hB4f⟩ := bcell hB4; have hB4s := hB4.size; (try simp at hB4s); (try have hB4q1 := Nat.lt_of_succ_le hB4s); (try have hB4q2 := Nat.lt_of_succ_lt hB4q1); (try have hB4q3 := Nat.lt_of_succ_lt hB4q2); (try have hB4zw0 : w.heap.size < w4.heap.size := (by omega)); (try have hB4zw1 : w.heap.size + 1 < w4.heap.size := (by omega)); (try have hB4zw2 : w.heap.size + 1 + 1 < w4.heap.size := (by omega)); (try have hB4zw3 : w.heap.size + 1 + 1 + 1 < w4.heap.size := (by omega)); (try have hB4zw4 : w.heap.size + 1 + 1 + 1 + 1 < w4.heap.size := (by omega)); (try have hB4zw30 : w3.heap.size < w4.heap.size := (by omega)); (try have hB4zw31 : w3.heap.size + 1 < w4.heap.size := (by omega)); (try have hB4zw32 : w3.heap.size + 1 + 1 < w4.heap.size := (by omega)); (try have hB4zw33 : w3.heap.size + 1 + 1 + 1 < w4.heap.size := (by omega)); (try have hB4zw34 : w3.heap.size + 1 + 1 + 1 + 1 < w4.heap.size := (by omega)); (try have hB4zw20 : w2.heap.size < w4.heap.size := (by omega)); (try have hB4zw21 : w2.heap.size + 1 < w4.heap.size := (by omega)); (try have hB4zw22 : w2.heap.size + 1 + 1 < w4.heap.size := (by omega)); (try have hB4zw23 : w2.heap.size + 1 + 1 + 1 < w4.heap.size := (by omega)); (try have hB4zw24 : w2.heap.size + 1 + 1 + 1 + 1 < w4.heap.size := (by omega)); (try have hB4zw10 : w1.heap.size < w4.heap.size := (by omega)); (try have hB4zw11 : w1.heap.size + 1 < w4.heap.size := (by omega)); (try have hB4zw12 : w1.heap.size + 1 + 1 < w4.heap.size := (by omega)); (try have hB4zw13 : w1.heap.size + 1 + 1 + 1 < w4.heap.size := (by omega)); (try have hB4zw14 : w1.heap.size + 1 + 1 + 1 + 1 < w4.heap.size := (by omega)); (try have hB4zwO0 : wO.heap.size < w4.heap.size := (by omega)); (try have hB4zwO1 : wO.heap.size + 1 < w4.heap.size := (by omega)); (try have hB4zwO2 : wO.heap.size + 1 + 1 < w4.heap.size := (by omega)); (try have hB4zwO3 : wO.heap.size + 1 + 1 + 1 < w4.heap.size := (by omega)); (try have hB4zwO4 : wO.heap.size + 1 + 1 + 1 + 1 < w4.heap.size := (by omega)))
              rcases bool_ways (nullB p col m1 m2) with hd7 | hd7
              · skip
                have HB : biB p col l1 l2 l3 m1 m2 m3 = true := by simp [biB, hd1, hd2, hd3, hd4, hd5, hd6, hd7]
                have HS : biS p col l1 l2 l3 m1 m2 m3 = 0 := by (simp only [biS, ← Hv1.out, ← Hv2.out] <;> simp [hd1, hd2, hd3, hd4, hd5, hd6, hd7])
                have HV := Lib.hid (bi_good (col := col) (l1 := l1) (l2 := l2) (l3 := l3) (m1 := m1) (m2 := m2) (m3 := m3) hp HB HS)
                clear HB HS
                have rl := nums3 (lineB_in hd2).2
                have rm := nums3 (lineB_in hd3).2
                have hnl : nullB p col l1 l2 = false := by assumption
                have hnm : nullB p col m1 m2 = false := by assumption
                go_upto_region 7 with fail
                refine wp_name (fun wN hwN => ?_)
                have ka0 : wN.cell? ⟨w.heap.size, 0, none⟩ = some (.int .i64 l1) := by rw [hwN]; (first | with_reducible assumption | (repeat (first | with_reducible assumption | ((with_reducible refine kfresh ?_ ?_) <;> (first | with_reducible rfl | (simp; done))) | ((with_reducible refine ksameS ?_); focus ((repeat (first | with_reducible exact kis_of (by with_reducible assumption) | with_reducible refine kis_set ?_ | ((with_reducible refine kis_new ?_ ?_) <;> (first | with_reducible rfl | rfl | (simp; done))) | with_reducible refine kis_alloc _ ?_ | with_reducible refine kis_drew ?_ | with_reducible refine kis_call (by with_reducible assumption) ?_ | with_reducible exact kis_of (kcall (by with_reducible assumption) (by with_reducible assumption)))); done)) | with_reducible refine kother (by decide) ?_ | with_reducible refine kset (by first | omega | (simp; done) | (simp; omega)) ?_ | with_reducible refine kalloc _ ?_ | with_reducible refine kdrew ?_ | with_reducible refine kdrewN ?_ | with_reducible refine kcall (by with_reducible assumption) ?_)))
                have ka1 : wN.cell? ⟨w.heap.size, 1, none⟩ = some (.int .i64 l2) := by rw [hwN]; (first | with_reducible assumption | (repeat (first | with_reducible assumption | ((with_reducible refine kfresh ?_ ?_) <;> (first | with_reducible rfl | (simp; done))) | ((with_reducible refine ksameS ?_); focus ((repeat (first | with_reducible exact kis_of (by with_reducible assumption) | with_reducible refine kis_set ?_ | ((with_reducible refine kis_new ?_ ?_) <;> (first | with_reducible rfl | rfl | (simp; done))) | with_reducible refine kis_alloc _ ?_ | with_reducible refine kis_drew ?_ | with_reducible refine kis_call (by with_reducible assumption) ?_ | with_reducible exact kis_of (kcall (by with_reducible assumption) (by with_reducible assumption)))); done)) | with_reducible refine kother (by decide) ?_ | with_reducible refine kset (by first | omega | (simp; done) | (simp; omega)) ?_ | with_reducible refine kalloc _ ?_ | with_reducible refine kdrew ?_ | with_reducible refine kdrewN ?_ | with_reducible refine kcall (by with_reducible assumption) ?_)))
                have ka2 : wN.cell? ⟨w.heap.size, 2, none⟩ = some (.int .i64 l3) := by rw [hwN]; (first | with_reducible assumption | (repeat (first | with_reducible assumption | ((with_reducible refine kfresh ?_ ?_) <;> (first | with_reducible rfl | (simp; done))) | ((with_reducible refine ksameS ?_); focus ((repeat (first | with_reducible exact kis_of (by with_reducible assumption) | with_reducible refine kis_set ?_ | ((with_reducible refine kis_new ?_ ?_) <;> (first | with_reducible rfl | rfl | (simp; done))) | with_reducible refine kis_alloc _ ?_ | with_reducible refine kis_drew ?_ | with_reducible refine kis_call (by with_reducible assumption) ?_ | with_reducible exact kis_of (kcall (by with_reducible assumption) (by with_reducible assumption)))); done)) | with_reducible refine kother (by decide) ?_ | with_reducible refine kset (by first | omega | (simp; done) | (simp; omega)) ?_ | with_reducible refine kalloc _ ?_ | with_reducible refine kdrew ?_ | with_reducible refine kdrewN ?_ | with_reducible refine kcall (by with_reducible assumption) ?_)))
                have ka3 : wN.cell? ⟨w.heap.size + 1, 0, none⟩ = some (.int .i64 m1) := by rw [hwN]; (first | with_reducible assumption | (repeat (first | with_reducible assumption | ((with_reducible refine kfresh ?_ ?_) <;> (first | with_reducible rfl | (simp; done))) | ((with_reducible refine ksameS ?_); focus ((repeat (first | with_reducible exact kis_of (by with_reducible assumption) | with_reducible refine kis_set ?_ | ((with_reducible refine kis_new ?_ ?_) <;> (first | with_reducible rfl | rfl | (simp; done))) | with_reducible refine kis_alloc _ ?_ | with_reducible refine kis_drew ?_ | with_reducible refine kis_call (by with_reducible assumption) ?_ | with_reducible exact kis_of (kcall (by with_reducible assumption) (by with_reducible assumption)))); done)) | with_reducible refine kother (by decide) ?_ | with_reducible refine kset (by first | omega | (simp; done) | (simp; omega)) ?_ | with_reducible refine kalloc _ ?_ | with_reducible refine kdrew ?_ | with_reducible refine kdrewN ?_ | with_reducible refine kcall (by with_reducible assumption) ?_)))
                have ka4 : wN.cell? ⟨w.heap.size + 1, 1, none⟩ = some (.int .i64 m2) := by rw [hwN]; (first | with_reducible assumption | (repeat (first | with_reducible assumption | ((with_reducible refine kfresh ?_ ?_) <;> (first | with_reducible rfl | (simp; done))) | ((with_reducible refine ksameS ?_); focus ((repeat (first | with_reducible exact kis_of (by with_reducible assumption) | with_reducible refine kis_set ?_ | ((with_reducible refine kis_new ?_ ?_) <;> (first | with_reducible rfl | rfl | (simp; done))) | with_reducible refine kis_alloc _ ?_ | with_reducible refine kis_drew ?_ | with_reducible refine kis_call (by with_reducible assumption) ?_ | with_reducible exact kis_of (kcall (by with_reducible assumption) (by with_reducible assumption)))); done)) | with_reducible refine kother (by decide) ?_ | with_reducible refine kset (by first | omega | (simp; done) | (simp; omega)) ?_ | with_reducible refine kalloc _ ?_ | with_reducible refine kdrew ?_ | with_reducible refine kdrewN ?_ | with_reducible refine kcall (by with_reducible assumption) ?_)))
                have ka5 : wN.cell? ⟨w.heap.size + 1, 2, none⟩ = some (.int .i64 m3) := by rw [hwN]; (first | with_reducible assumption | (repeat (first | with_reducible assumption | ((with_reducible refine kfresh ?_ ?_) <;> (first | with_reducible rfl | (simp; done))) | ((with_reducible refine ksameS ?_); focus ((repeat (first | with_reducible exact kis_of (by with_reducible assumption) | with_reducible refine kis_set ?_ | ((with_reducible refine kis_new ?_ ?_) <;> (first | with_reducible rfl | rfl | (simp; done))) | with_reducible refine kis_alloc _ ?_ | with_reducible refine kis_drew ?_ | with_reducible refine kis_call (by with_reducible assumption) ?_ | with_reducible exact kis_of (kcall (by with_reducible assumption) (by with_reducible assumption)))); done)) | with_reducible refine kother (by decide) ?_ | with_reducible refine kset (by first | omega | (simp; done) | (simp; omega)) ?_ | with_reducible refine kalloc _ ?_ | with_reducible refine kdrew ?_ | with_reducible refine kdrewN ?_ | with_reducible refine kcall (by with_reducible assumption) ?_)))
                have ka6 : wN.cell? ⟨w2.heap.size, 0, none⟩ = some (.int .i64 v1) := by rw [hwN]; (first | with_reducible assumption | (repeat (first | with_reducible assumption | ((with_reducible refine kfresh ?_ ?_) <;> (first | with_reducible rfl | (simp; done))) | ((with_reducible refine ksameS ?_); focus ((repeat (first | with_reducible exact kis_of (by with_reducible assumption) | with_reducible refine kis_set ?_ | ((with_reducible refine kis_new ?_ ?_) <;> (first | with_reducible rfl | rfl | (simp; done))) | with_reducible refine kis_alloc _ ?_ | with_reducible refine kis_drew ?_ | with_reducible refine kis_call (by with_reducible assumption) ?_ | with_reducible exact kis_of (kcall (by with_reducible assumption) (by with_reducible assumption)))); done)) | with_reducible refine kother (by decide) ?_ | with_reducible refine kset (by first | omega | (simp; done) | (simp; omega)) ?_ | with_reducible refine kalloc _ ?_ | with_reducible refine kdrew ?_ | with_reducible refine kdrewN ?_ | with_reducible refine kcall (by with_reducible assumption) ?_)))
                have ka7 : wN.cell? ⟨w2.heap.size, 1, none⟩ = some (.int .i64 v2) := by rw [hwN]; (first | with_reducible assumption | (repeat (first | with_reducible assumption | ((with_reducible refine kfresh ?_ ?_) <;> (first | with_reducible rfl | (simp; done))) | ((with_reducible refine ksameS ?_); focus ((repeat (first | with_reducible exact kis_of (by with_reducible assumption) | with_reducible refine kis_set ?_ | ((with_reducible refine kis_new ?_ ?_) <;> (first | with_reducible rfl | rfl | (simp; done))) | with_reducible refine kis_alloc _ ?_ | with_reducible refine kis_drew ?_ | with_reducible refine kis_call (by with_reducible assumption) ?_ | with_reducible exact kis_of (kcall (by with_reducible assumption) (by with_reducible assumption)))); done)) | with_reducible refine kother (by decide) ?_ | with_reducible refine kset (by first | omega | (simp; done) | (simp; omega)) ?_ | with_reducible refine kalloc _ ?_ | with_reducible refine kdrew ?_ | with_reducible refine kdrewN ?_ | with_reducible refine kcall (by with_reducible assumption) ?_)))
                have hW0 : Below w.heap.size w wN := by rw [hwN]; (repeat (first | with_reducible exact Below.refl _ _ | with_reducible exact hxO | with_reducible refine balloc ?_ _ | with_reducible refine bdrewN ?_ _ | with_reducible refine Below.drew ?_ | with_reducible refine bthen ?_ (by with_reducible assumption) | with_reducible refine Below.setCell ?_ (by first | (simp; done) | (simp; omega)) _))
                clear hwN
                have HVT := Lib.hid (show biT p col l1 l2 m1 m2 (meX p l1 l2 l3 m1 m2 m3) (meY p l1 l2 l3 m1 m2 m3) = biT p col l1 l2 m1 m2 v1 v2 from by rw [← Hv1.out, ← Hv2.out])
                (refine wp_region_held_drew (S := (fun W => W.cell? ⟨w.heap.size, 0, none⟩ = some (.int .i64 l1) ∧ W.cell? ⟨w.heap.size, 1, none⟩ = some (.int .i64 l2) ∧ W.cell? ⟨w.heap.size, 2, none⟩ = some (.int .i64 l3) ∧ W.cell? ⟨w.heap.size + 1, 0, none⟩ = some (.int .i64 m1) ∧ W.cell? ⟨w.heap.size + 1, 1, none⟩ = some (.int .i64 m2) ∧ W.cell? ⟨w.heap.size + 1, 2, none⟩ = some (.int .i64 m3) ∧ W.cell? ⟨w2.heap.size, 0, none⟩ = some (.int .i64 v1) ∧ W.cell? ⟨w2.heap.size, 1, none⟩ = some (.int .i64 v2) ∧ Below wN.heap.size wN W)) (by kernel_rfl) (by exact ⟨kdrew ka0, kdrew ka1, kdrew ka2, kdrew ka3, kdrew ka4, kdrew ka5, kdrew ka6, kdrew ka7, Below.drew (Below.refl _ _)⟩) (fun hHeld => ?_))
                (refine wpAnyH_take (i := 0) (v := ?_) rfl (by kernel_rfl) (by kernel_rfl) (by kernel_rfl) (fun _ _ _ h => h) (Or.inl ⟨by rfl, ?_⟩) (by with_reducible assumption) ?_; rotate_left; (focus (intro wz hSw; (try dsimp only at hSw); go_simp; try with_reducible rfl)); try simp only [Act.put, List.getElem_toArray, List.getElem_cons_zero, List.getElem_cons_succ, List.setIfInBounds_toArray, List.set_cons_zero, List.set_cons_succ])
                (refine wpAnyH_take (i := 1) (v := ?_) rfl (by kernel_rfl) (by kernel_rfl) (by kernel_rfl) (fun _ _ _ h => h) (Or.inl ⟨by rfl, ?_⟩) (by with_reducible assumption) ?_; rotate_left; (focus (intro wz hSw; (try dsimp only at hSw); go_simp; try with_reducible rfl)); try simp only [Act.put, List.getElem_toArray, List.getElem_cons_zero, List.getElem_cons_succ, List.setIfInBounds_toArray, List.set_cons_zero, List.set_cons_succ])
                (refine wpAnyH_take (i := 3) (v := ?_) rfl (by kernel_rfl) (by kernel_rfl) (by kernel_rfl) (fun _ _ _ h => h) (Or.inl ⟨by rfl, ?_⟩) (by with_reducible assumption) ?_; rotate_left; (focus (intro wz hSw; (try dsimp only at hSw); go_simp; try with_reducible rfl)); try simp only [Act.put, List.getElem_toArray, List.getElem_cons_zero, List.getElem_cons_succ, List.setIfInBounds_toArray, List.set_cons_zero, List.set_cons_succ])
                (refine wpAnyH_take (i := 4) (v := ?_) rfl (by kernel_rfl) (by kernel_rfl) (by kernel_rfl) (fun _ _ _ h => h) (Or.inl ⟨by rfl, ?_⟩) (by with_reducible assumption) ?_; rotate_left; (focus (intro wz hSw; (try dsimp only at hSw); go_simp; try with_reducible rfl)); try simp only [Act.put, List.getElem_toArray, List.getElem_cons_zero, List.getElem_cons_succ, List.setIfInBounds_toArray, List.set_cons_zero, List.set_cons_succ])
                (refine wpAnyH_take (i := 5) (v := ?_) rfl (by kernel_rfl) (by kernel_rfl) (by kernel_rfl) (fun _ _ _ h => h) (Or.inl ⟨by rfl, ?_⟩) (by with_reducible assumption) ?_; rotate_left; (focus (intro wz hSw; (try dsimp only at hSw); go_simp; try with_reducible rfl)); try simp only [Act.put, List.getElem_toArray, List.getElem_cons_zero, List.getElem_cons_succ, List.setIfInBounds_toArray, List.set_cons_zero, List.set_cons_succ])
                (refine wpAnyH_ready (rs := [2]) (by kernel_rfl) (by simp) ?_; refine AllReadyH.cons rfl (fun K hK => ?_) AllReadyH.nil; (go_simp; refine Calls.mono (shadeOf_any _ _ hc) ?_; rintro e wa ⟨rfl, hBa⟩); refine hK.out _ _ (by exact ⟨kcall hBa hHeld.1, kcall hBa hHeld.2.1, kcall hBa hHeld.2.2.1, kcall hBa hHeld.2.2.2.1, kcall hBa hHeld.2.2.2.2.1, kcall hBa hHeld.2.2.2.2.2.1, kcall hBa hHeld.2.2.2.2.2.2.1, kcall hBa hHeld.2.2.2.2.2.2.2.1, bthen hHeld.2.2.2.2.2.2.2.2 hBa⟩) (fun hHeld => ?_); clear hK K; try simp only [Act.put, List.setIfInBounds_toArray, List.set_cons_zero, List.set_cons_succ])
                (refine wpAnyH_ready (rs := [6]) (by kernel_rfl) (by simp) ?_; refine AllReadyH.cons rfl (fun K hK => ?_) AllReadyH.nil; (go_simp; refine Calls.mono (bisectors_any p col l1 l2 l3 m1 m2 m3 v1 v2 _ hp hc hd2 hd3 hnl hnm (by omega) (by omega)) ?_; rintro e wb ⟨vb, nb, rfl, hob, hBb⟩); refine hK.out _ _ (by exact ⟨kcall hBb hHeld.1, kcall hBb hHeld.2.1, kcall hBb hHeld.2.2.1, kcall hBb hHeld.2.2.2.1, kcall hBb hHeld.2.2.2.2.1, kcall hBb hHeld.2.2.2.2.2.1, kcall hBb hHeld.2.2.2.2.2.2.1, kcall hBb hHeld.2.2.2.2.2.2.2.1, bthen hHeld.2.2.2.2.2.2.2.2 hBb⟩) (fun hHeld => ?_); clear hK K; try simp only [Act.put, List.setIfInBounds_toArray, List.set_cons_zero, List.set_cons_succ])
                (refine wpAnyH_take (i := 7) (v := ?_) rfl (by kernel_rfl) (by kernel_rfl) (by kernel_rfl) (fun _ _ _ h => h) (Or.inl ⟨by rfl, ?_⟩) (by with_reducible assumption) ?_; rotate_left; (focus (intro wz hSw; (try dsimp only at hSw); go_simp; try with_reducible rfl)); try simp only [Act.put, List.getElem_toArray, List.getElem_cons_zero, List.getElem_cons_succ, List.setIfInBounds_toArray, List.set_cons_zero, List.set_cons_succ])
                (refine wpAnyH_take (i := 8) (v := ?_) rfl (by kernel_rfl) (by kernel_rfl) (by kernel_rfl) (fun _ _ _ h => h) (Or.inl ⟨by rfl, ?_⟩) (by with_reducible assumption) ?_; rotate_left; (focus (intro wz hSw; (try dsimp only at hSw); go_simp; try with_reducible rfl)); try simp only [Act.put, List.getElem_toArray, List.getElem_cons_zero, List.getElem_cons_succ, List.setIfInBounds_toArray, List.set_cons_zero, List.set_cons_succ])
                (refine wpAnyH_take (i := 9) (v := ?_) rfl (by kernel_rfl) (by kernel_rfl) (by kernel_rfl) (fun _ _ _ h => h) (Or.inl ⟨by rfl, ?_⟩) (by with_reducible assumption) ?_; rotate_left; (focus (intro wz hSw; (try dsimp only at hSw); go_simp; try with_reducible rfl)); try simp only [Act.put, List.getElem_toArray, List.getElem_cons_zero, List.getElem_cons_succ, List.setIfInBounds_toArray, List.set_cons_zero, List.set_cons_succ])
                (refine wpAnyH_take (i := 10) (v := ?_) rfl (by kernel_rfl) (by kernel_rfl) (by kernel_rfl) (fun _ _ _ h => h) (Or.inl ⟨by rfl, ?_⟩) (by with_reducible assumption) ?_; rotate_left; (focus (intro wz hSw; (try dsimp only at hSw); go_simp; try with_reducible rfl)); try simp only [Act.put, List.getElem_toArray, List.getElem_cons_zero, List.getElem_cons_succ, List.setIfInBounds_toArray, List.set_cons_zero, List.set_cons_succ])
                have hBt := hHeld.2.2.2.2.2.2.2.2
                have hwb : Below w.heap.size w wb := bthen hW0 hBt
                have hws : w.heap.size ≤ wa.heap.size := by have := hW0.size; have := hBa.size; simp at this; omega
                refine wpAnyH_done (by kernel_rfl) ?_ _
                go_wp2
                (refine bodyPost_ret (v := .tuple #[vb, .int .i64 (biC p col l1 l2 l3 m1 m2 m3)]) (by simp [results, Try.results31, go_sem, HV.out.2]) rfl (slicePost_mk (by rw [HV.out.1, HVT.out]; exact own_base hob hws) hwb))
              · skip
                have HB : biB p col l1 l2 l3 m1 m2 m3 = true := by simp [biB, hd1, hd2, hd3, hd4, hd5, hd6, hd7]
                have HS : biS p col l1 l2 l3 m1 m2 m3 = 5 := by (simp only [biS, ← Hv1.out, ← Hv2.out] <;> simp [hd1, hd2, hd3, hd4, hd5, hd6, hd7])
                have HV := Lib.hid (bi_st (col := col) (l1 := l1) (l2 := l2) (l3 := l3) (m1 := m1) (m2 := m2) (m3 := m3) hp HB HS (by decide))
                clear HB HS
                go_wp2
                (refine bodyPost_ret (v := .tuple #[.slice none 0 0, .int .i64 (biC p col l1 l2 l3 m1 m2 m3)]) (by simp [results, Try.results31, go_sem, HV.out.2]) rfl (slicePost_nil HV.out.1 ?_))
                (repeat (first | with_reducible exact Below.refl _ _ | with_reducible exact hxO | with_reducible refine balloc ?_ _ | with_reducible refine bdrewN ?_ _ | with_reducible refine Below.drew ?_ | with_reducible refine bthen ?_ (by with_reducible assumption) | with_reducible refine Below.setCell ?_ (by first | (simp; done) | (simp; omega)) _))
            · skip
              go_wp2_with fail
              refine Calls.mono (implNullIn _ _ _ _ _ _ hp hc (by omega) (by omega)) ?_
              rintro e w3 ⟨rfl, hB3⟩
              (obtain ⟨hB3c, hB3f⟩ := bcell hB3; have hB3s := hB3.size; (try simp at hB3s); (try have hB3q1 := Nat.lt_of_succ_le hB3s); (try have hB3q2 := Nat.lt_of_succ_lt hB3q1); (try have hB3q3 := Nat.lt_of_succ_lt hB3q2); (try have hB3zw0 : w.heap.size < w3.heap.size := (by omega)); (try have hB3zw1 : w.heap.size + 1 < w3.heap.size := (by omega)); (try have hB3zw2 : w.heap.size + 1 + 1 < w3.heap.size := (by omega)); (try have hB3zw3 : w.heap.size + 1 + 1 + 1 < w3.heap.size := (by omega)); (try have hB3zw4 : w.heap.size + 1 + 1 + 1 + 1 < w3.heap.size := (by omega)); (try have hB3zw20 : w2.heap.size < w3.heap.size := (by omega)); (try have hB3zw21 : w2.heap.size + 1 < w3.heap.size := (by omega)); (try have hB3zw22 : w2.heap.size + 1 + 1 < w3.heap.size := (by omega)); (try have hB3zw23 : w2.heap.size + 1 + 1 + 1 < w3.heap.size := (by omega)); (try have hB3zw24 : w2.heap.size + 1 + 1 + 1 + 1 < w3.heap.size := (by omega)); (try have hB3zw10 : w1.heap.size < w3.heap.size := (by omega)); (try have hB3zw11 : w1.heap.size + 1 < w3.heap.size := (by omega)); (try have hB3zw12 : w1.heap.size + 1 + 1 < w3.heap.size := (by omega)); (try have hB3zw13 : w1.heap.size + 1 + 1 + 1 < w3.heap.size := (by omega)); (try have hB3zw14 : w1.heap.size + 1 + 1 + 1 + 1 < w3.heap.size := (by omega)); (try have hB3zwO0 : wO.heap.size < w3.heap.size := (by omega)); (try have hB3zwO1 : wO.heap.size + 1 < w3.heap.size := (by omega)); (try have hB3zwO2 : wO.heap.size + 1 + 1 < w3.heap.size := (by omega)); (try have hB3zwO3 : wO.heap.size + 1 + 1 + 1 < w3.heap.size := (by omega)); (try have hB3zwO4 : wO.heap.size + 1 + 1 + 1 + 1 < w3.heap.size := (by omega)))
              have HB : biB p col l1 l2 l3 m1 m2 m3 = true := by simp [biB, hd1, hd2, hd3, hd4, hd5, hd6]
              have HS : biS p col l1 l2 l3 m1 m2 m3 = 5 := by (simp only [biS, ← Hv1.out, ← Hv2.out] <;> simp [hd1, hd2, hd3, hd4, hd5, hd6])
              have HV := Lib.hid (bi_st (col := col) (l1 := l1) (l2 := l2) (l3 := l3) (m1 := m1) (m2 := m2) (m3 := m3) hp HB HS (by decide))
              clear HB HS
              go_wp2
              (refine bodyPost_ret (v := .tuple #[.slice none 0 0, .int .i64 (biC p col l1 l2 l3 m1 m2 m3)]) (by simp [results, Try.results31, go_sem, HV.out.2]) rfl (slicePost_nil HV.out.1 ?_))
              (repeat (first | with_reducible exact Below.refl _ _ | with_reducible exact hxO | with_reducible refine balloc ?_ _ | with_reducible refine bdrewN ?_ _ | with_reducible refine Below.drew ?_ | with_reducible refine bthen ?_ (by with_reducible assumption) | with_reducible refine Below.setCell ?_ (by first | (simp; done) | (simp; omega)) _))
          · skip
            have c_2 : bmC l1 l2 m1 m2 = 5 := by simp [bmC, bmX, bmY, hd5]
            have c_3 : bmX p l1 l2 l3 m1 m2 m3 = 0 := by simp [bmC, bmX, bmY, hd5]
            have c_4 : bmY p l1 l2 l3 m1 m2 m3 = 0 := by simp [bmC, bmX, bmY, hd5]
            go_wp2_with fail
            refine Calls.mono (implMeetL _ _ _ _ _ _ _ _ hp hd2 hd3) ?_
            rintro e w2 ⟨rfl, hB2⟩
            (obtain ⟨hB2c, hB2f⟩ := bcell hB2; have hB2s := hB2.size; (try simp at hB2s); (try have hB2q1 := Nat.lt_of_succ_le hB2s); (try have hB2q2 := Nat.lt_of_succ_lt hB2q1); (try have hB2q3 := Nat.lt_of_succ_lt hB2q2); (try have hB2zw0 : w.heap.size < w2.heap.size := (by omega)); (try have hB2zw1 : w.heap.size + 1 < w2.heap.size := (by omega)); (try have hB2zw2 : w.heap.size + 1 + 1 < w2.heap.size := (by omega)); (try have hB2zw3 : w.heap.size + 1 + 1 + 1 < w2.heap.size := (by omega)); (try have hB2zw4 : w.heap.size + 1 + 1 + 1 + 1 < w2.heap.size := (by omega)); (try have hB2zw10 : w1.heap.size < w2.heap.size := (by omega)); (try have hB2zw11 : w1.heap.size + 1 < w2.heap.size := (by omega)); (try have hB2zw12 : w1.heap.size + 1 + 1 < w2.heap.size := (by omega)); (try have hB2zw13 : w1.heap.size + 1 + 1 + 1 < w2.heap.size := (by omega)); (try have hB2zw14 : w1.heap.size + 1 + 1 + 1 + 1 < w2.heap.size := (by omega)); (try have hB2zwO0 : wO.heap.size < w2.heap.size := (by omega)); (try have hB2zwO1 : wO.heap.size + 1 < w2.heap.size := (by omega)); (try have hB2zwO2 : wO.heap.size + 1 + 1 < w2.heap.size := (by omega)); (try have hB2zwO3 : wO.heap.size + 1 + 1 + 1 < w2.heap.size := (by omega)); (try have hB2zwO4 : wO.heap.size + 1 + 1 + 1 + 1 < w2.heap.size := (by omega)))
            have HB : biB p col l1 l2 l3 m1 m2 m3 = true := by simp [biB, hd1, hd2, hd3, hd4, hd5]
            have HS : biS p col l1 l2 l3 m1 m2 m3 = 5 := by (simp only [biS] <;> simp [hd1, hd2, hd3, hd4, hd5])
            have HV := Lib.hid (bi_st (col := col) (l1 := l1) (l2 := l2) (l3 := l3) (m1 := m1) (m2 := m2) (m3 := m3) hp HB HS (by decide))
            clear HB HS
            go_wp2
            (refine bodyPost_ret (v := .tuple #[.slice none 0 0, .int .i64 (biC p col l1 l2 l3 m1 m2 m3)]) (by simp [results, Try.results31, go_sem, HV.out.2]) rfl (slicePost_nil HV.out.1 ?_))
            (repeat (first | with_reducible exact Below.refl _ _ | with_reducible exact hxO | with_reducible refine balloc ?_ _ | with_reducible refine bdrewN ?_ _ | with_reducible refine Below.drew ?_ | with_reducible refine bthen ?_ (by with_reducible assumption) | with_reducible refine Below.setCell ?_ (by first | (simp; done) | (simp; omega)) _))

theorem bi_len (p col l1 l2 l3 m1 m2 m3 : Int) : (biL p col l1 l2 l3 m1 m2 m3).length ≤ 4096 := by
  unfold biL
  split
  · rename_i h
    have hp : isP p = true := by
      cases hh : isP p
      · simp [biC, hh] at h
      · rfl
    have hl := biT_le col l1 l2 m1 m2 (meX p l1 l2 l3 m1 m2 m3) (meY p l1 l2 l3 m1 m2 m3) hp
    rw [flat3_length]
    omega
  · simp

end Go.Proofs.Ytmpgpmcmhbpjeaa
