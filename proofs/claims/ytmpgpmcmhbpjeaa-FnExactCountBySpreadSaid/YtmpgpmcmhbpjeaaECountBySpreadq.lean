/-
  CountBySpread: the program's.
-/
import Derived.Test.YtmpgpmcmhbpjeaaSCountBySpreadq
import Derived.Test.YtmpgpmcmhbpjeaaImplLinesThroughq
import Derived.Test.YtmpgpmcmhbpjeaaImplSpreadq
import Derived.Test.YtmpgpmcmhbpjeaaImplNullInq
import Derived.Test.YtmpgpmcmhbpjeaaImplLinsq
import Derived.Test.YtmpgpmcmhbpjeaaImplColq
import Derived.Test.YtmpgpmcmhbpjeaaCodeq
import Derived.Deep.RegionHeld3
import Derived.Deep.DeepCutAuto
import Derived.Test.YtmpgpmcmhbpjeaaMgq0
import Derived.Test.YtmpgpmcmhbpjeaaLastq
import Derived.Test.YtmpgpmcmhbpjeaaApartq
import Derived.Test.YtmpgpmcmhbpjeaaKeepDrewq

namespace Go.Proofs.Ytmpgpmcmhbpjeaa
open Go.RowKit

set_option linter.unusedSimpArgs false in
set_option maxRecDepth 20000 in
set_option maxHeartbeats 4000000 in
theorem implCountBySpread_any (p col l1 l2 l3 : Int)  (w : World) :
    Calls Try.prog 26 #[.int .i64 p, .int .i64 col, .agg #[.int .i64 l1, .int .i64 l2, .int .i64 l3]] w fun e w' =>
      SlicePost 2 1 (cbL p col l1 l2 l3) (cbC p col l1 l2 l3) w e w' := by
  go_enter Try.func26, Try.ntmps26
  go_upto_region 0 with fail
  go_cut [5, 6, 7] (fun s5 s6 s7 wx => s5 = .pointer (some ⟨w.heap.size, 0, none⟩) ∧ s6 = .slice none 0 0 ∧ s7 = .int .i64 0 ∧ wx.cell? ⟨w.heap.size, 0, none⟩ = some (.int .i64 l1) ∧ wx.cell? ⟨w.heap.size, 1, none⟩ = some (.int .i64 l2) ∧ wx.cell? ⟨w.heap.size, 2, none⟩ = some (.int .i64 l3) ∧ wx.frozen? ⟨w.heap.size, 0, none⟩ = false ∧ wx.frozen? ⟨w.heap.size, 1, none⟩ = false ∧ wx.frozen? ⟨w.heap.size, 2, none⟩ = false ∧ Below w.heap.size w wx ∧ w.heap.size + 1 ≤ wx.heap.size)
  case first =>
    go_wp2
    go_meet
    refine ⟨rfl, rfl, rfl, ?_, ?_, ?_, ?_, ?_, ?_, ?_, ?_⟩
    · (repeat (first | with_reducible assumption | ((with_reducible refine kfresh ?_ ?_) <;> (first | with_reducible rfl | (simp; done))) | ((with_reducible refine ksameS ?_); focus ((repeat (first | with_reducible exact kis_of (by with_reducible assumption) | with_reducible refine kis_set ?_ | ((with_reducible refine kis_new ?_ ?_) <;> (first | with_reducible rfl | rfl | (simp; done))) | with_reducible refine kis_alloc _ ?_ | with_reducible refine kis_drew ?_ | with_reducible refine kis_call (by with_reducible assumption) ?_ | with_reducible exact kis_of (kcall (by with_reducible assumption) (by with_reducible assumption)))); done)) | with_reducible refine kother (by decide) ?_ | with_reducible refine kset (by first | omega | (simp; done) | (simp; omega)) ?_ | with_reducible refine kalloc _ ?_ | with_reducible refine kdrew ?_ | with_reducible refine kdrewN ?_ | with_reducible refine kcall (by with_reducible assumption) ?_))
    · (repeat (first | with_reducible assumption | ((with_reducible refine kfresh ?_ ?_) <;> (first | with_reducible rfl | (simp; done))) | ((with_reducible refine ksameS ?_); focus ((repeat (first | with_reducible exact kis_of (by with_reducible assumption) | with_reducible refine kis_set ?_ | ((with_reducible refine kis_new ?_ ?_) <;> (first | with_reducible rfl | rfl | (simp; done))) | with_reducible refine kis_alloc _ ?_ | with_reducible refine kis_drew ?_ | with_reducible refine kis_call (by with_reducible assumption) ?_ | with_reducible exact kis_of (kcall (by with_reducible assumption) (by with_reducible assumption)))); done)) | with_reducible refine kother (by decide) ?_ | with_reducible refine kset (by first | omega | (simp; done) | (simp; omega)) ?_ | with_reducible refine kalloc _ ?_ | with_reducible refine kdrew ?_ | with_reducible refine kdrewN ?_ | with_reducible refine kcall (by with_reducible assumption) ?_))
    · (repeat (first | with_reducible assumption | ((with_reducible refine kfresh ?_ ?_) <;> (first | with_reducible rfl | (simp; done))) | ((with_reducible refine ksameS ?_); focus ((repeat (first | with_reducible exact kis_of (by with_reducible assumption) | with_reducible refine kis_set ?_ | ((with_reducible refine kis_new ?_ ?_) <;> (first | with_reducible rfl | rfl | (simp; done))) | with_reducible refine kis_alloc _ ?_ | with_reducible refine kis_drew ?_ | with_reducible refine kis_call (by with_reducible assumption) ?_ | with_reducible exact kis_of (kcall (by with_reducible assumption) (by with_reducible assumption)))); done)) | with_reducible refine kother (by decide) ?_ | with_reducible refine kset (by first | omega | (simp; done) | (simp; omega)) ?_ | with_reducible refine kalloc _ ?_ | with_reducible refine kdrew ?_ | with_reducible refine kdrewN ?_ | with_reducible refine kcall (by with_reducible assumption) ?_))
    · (repeat (first | with_reducible assumption | with_reducible refine fdrew ?_ | with_reducible refine fdrewN ?_ | with_reducible refine fset ?_ | ((with_reducible refine fallocNew ?_) <;> (first | with_reducible rfl | (simp; done))) | ((with_reducible refine kfro (by with_reducible assumption) ?_ ?_); focus (first | with_reducible assumption | omega | (simp; done) | (simp; omega))) | ((with_reducible refine falloc ?_ ?_); focus (first | with_reducible assumption | omega | (simp; done) | (simp; omega)))))
    · (repeat (first | with_reducible assumption | with_reducible refine fdrew ?_ | with_reducible refine fdrewN ?_ | with_reducible refine fset ?_ | ((with_reducible refine fallocNew ?_) <;> (first | with_reducible rfl | (simp; done))) | ((with_reducible refine kfro (by with_reducible assumption) ?_ ?_); focus (first | with_reducible assumption | omega | (simp; done) | (simp; omega))) | ((with_reducible refine falloc ?_ ?_); focus (first | with_reducible assumption | omega | (simp; done) | (simp; omega)))))
    · (repeat (first | with_reducible assumption | with_reducible refine fdrew ?_ | with_reducible refine fdrewN ?_ | with_reducible refine fset ?_ | ((with_reducible refine fallocNew ?_) <;> (first | with_reducible rfl | (simp; done))) | ((with_reducible refine kfro (by with_reducible assumption) ?_ ?_); focus (first | with_reducible assumption | omega | (simp; done) | (simp; omega))) | ((with_reducible refine falloc ?_ ?_); focus (first | with_reducible assumption | omega | (simp; done) | (simp; omega)))))
    · (repeat (first | with_reducible exact Below.refl _ _ | with_reducible refine balloc ?_ _ | with_reducible refine bdrewN ?_ _ | with_reducible refine Below.drew ?_ | with_reducible refine bthen ?_ (by with_reducible assumption) | with_reducible refine Below.setCell ?_ (by first | (simp; done) | (simp; omega)) _))
    · (first | omega | (simp; done) | (simp; omega))
  case' rest => obtain ⟨rfl, rfl, rfl, cO0, cO1, cO2, fO0, fO1, fO2, hxO, hsO⟩ := hcut
  obtain ⟨wO, rfl⟩ : ∃ wO : World, wO = wc := ⟨_, rfl⟩
  have lO0 : w.heap.size < wO.heap.size := by omega
  rcases bool_ways (colB col) with hd1 | hd1
  · skip
    rcases bool_ways (isP p) with hd2 | hd2
    · skip
      have c_1 : codeOf p false = 1 := codeOf_no hd2
      have cN : ∀ b, codeOf p b = 1 := fun b => codeOf_no hd2
      go_wp2_with fail
      refine Calls.mono (isColour_any _ _) ?_
      rintro e w' ⟨rfl, rfl⟩
      go_wp2_with fail
      refine Calls.mono (codeFor_any _ _ _) ?_
      rintro e w' ⟨rfl, rfl⟩
      have HV := Lib.hid (cb_no (col := col) (l1 := l1) (l2 := l2) (l3 := l3) hd2)
      go_wp2
      (refine bodyPost_ret (v := .tuple #[.slice none 0 0, .int .i64 (cbC p col l1 l2 l3)]) (by simp [results, Try.results26, go_sem, HV.out.2]) rfl (slicePost_nil HV.out.1 ?_))
      (repeat (first | with_reducible exact Below.refl _ _ | with_reducible exact hxO | with_reducible refine balloc ?_ _ | with_reducible refine bdrewN ?_ _ | with_reducible refine Below.drew ?_ | with_reducible refine bthen ?_ (by with_reducible assumption) | with_reducible refine Below.setCell ?_ (by first | (simp; done) | (simp; omega)) _))
    · have hp := hd2
      have hr := isP_range hp
      have c_1 : codeOf p false = 2 := codeOf_out hp (by simp)
      have cT : codeOf p true = 0 := codeOf_in hp rfl
      have cF : codeOf p false = 2 := codeOf_out hp rfl
      go_wp2_with fail
      refine Calls.mono (isColour_any _ _) ?_
      rintro e w' ⟨rfl, rfl⟩
      go_wp2_with fail
      refine Calls.mono (codeFor_any _ _ _) ?_
      rintro e w' ⟨rfl, rfl⟩
      have HV := Lib.hid (cb_out (col := col) (l1 := l1) (l2 := l2) (l3 := l3) hp (by simp [cbB, hd1, hd2]))
      go_wp2
      (refine bodyPost_ret (v := .tuple #[.slice none 0 0, .int .i64 (cbC p col l1 l2 l3)]) (by simp [results, Try.results26, go_sem, HV.out.2]) rfl (slicePost_nil HV.out.1 ?_))
      (repeat (first | with_reducible exact Below.refl _ _ | with_reducible exact hxO | with_reducible refine balloc ?_ _ | with_reducible refine bdrewN ?_ _ | with_reducible refine Below.drew ?_ | with_reducible refine bthen ?_ (by with_reducible assumption) | with_reducible refine Below.setCell ?_ (by first | (simp; done) | (simp; omega)) _))
  · have hc := hd1
    have hcr := colB_range hc
    rcases bool_ways (isP p) with hd2 | hd2
    · skip
      have c_1 : codeOf p (lineB p l1 l2 l3) = 1 := codeOf_no hd2
      have cN : ∀ b, codeOf p b = 1 := fun b => codeOf_no hd2
      go_wp2_with fail
      refine Calls.mono (isColour_any _ _) ?_
      rintro e w' ⟨rfl, rfl⟩
      go_wp2_with fail
      refine Calls.mono (implLines1 _ _ _ _ _ _ (by first | rfl | (simp; done))) ?_
      rintro e w1 ⟨rfl, hB1⟩
      (obtain ⟨hB1c, hB1f⟩ := bcell hB1; have hB1s := hB1.size; (try simp at hB1s); (try have hB1q1 := Nat.lt_of_succ_le hB1s); (try have hB1q2 := Nat.lt_of_succ_lt hB1q1); (try have hB1q3 := Nat.lt_of_succ_lt hB1q2); (try have hB1zw0 : w.heap.size < w1.heap.size := (by omega)); (try have hB1zw1 : w.heap.size + 1 < w1.heap.size := (by omega)); (try have hB1zw2 : w.heap.size + 1 + 1 < w1.heap.size := (by omega)); (try have hB1zw3 : w.heap.size + 1 + 1 + 1 < w1.heap.size := (by omega)); (try have hB1zw4 : w.heap.size + 1 + 1 + 1 + 1 < w1.heap.size := (by omega)); (try have hB1zwO0 : wO.heap.size < w1.heap.size := (by omega)); (try have hB1zwO1 : wO.heap.size + 1 < w1.heap.size := (by omega)); (try have hB1zwO2 : wO.heap.size + 1 + 1 < w1.heap.size := (by omega)); (try have hB1zwO3 : wO.heap.size + 1 + 1 + 1 < w1.heap.size := (by omega)); (try have hB1zwO4 : wO.heap.size + 1 + 1 + 1 + 1 < w1.heap.size := (by omega)))
      go_wp2_with fail
      refine Calls.mono (codeFor_any _ _ _) ?_
      rintro e w' ⟨rfl, rfl⟩
      have HV := Lib.hid (cb_no (col := col) (l1 := l1) (l2 := l2) (l3 := l3) hd2)
      go_wp2
      (refine bodyPost_ret (v := .tuple #[.slice none 0 0, .int .i64 (cbC p col l1 l2 l3)]) (by simp [results, Try.results26, go_sem, HV.out.2]) rfl (slicePost_nil HV.out.1 ?_))
      (repeat (first | with_reducible exact Below.refl _ _ | with_reducible exact hxO | with_reducible refine balloc ?_ _ | with_reducible refine bdrewN ?_ _ | with_reducible refine Below.drew ?_ | with_reducible refine bthen ?_ (by with_reducible assumption) | with_reducible refine Below.setCell ?_ (by first | (simp; done) | (simp; omega)) _))
    · have hp := hd2
      have hr := isP_range hp
      rcases bool_ways (lineB p l1 l2 l3) with hd3 | hd3
      · skip
        have c_1 : codeOf p (lineB p l1 l2 l3) = 2 := codeOf_out hp (by simp [hd3])
        have cT : codeOf p true = 0 := codeOf_in hp rfl
        have cF : codeOf p false = 2 := codeOf_out hp rfl
        go_wp2_with fail
        refine Calls.mono (isColour_any _ _) ?_
        rintro e w' ⟨rfl, rfl⟩
        go_wp2_with fail
        refine Calls.mono (implLines1 _ _ _ _ _ _ (by first | rfl | (simp; done))) ?_
        rintro e w1 ⟨rfl, hB1⟩
        (obtain ⟨hB1c, hB1f⟩ := bcell hB1; have hB1s := hB1.size; (try simp at hB1s); (try have hB1q1 := Nat.lt_of_succ_le hB1s); (try have hB1q2 := Nat.lt_of_succ_lt hB1q1); (try have hB1q3 := Nat.lt_of_succ_lt hB1q2); (try have hB1zw0 : w.heap.size < w1.heap.size := (by omega)); (try have hB1zw1 : w.heap.size + 1 < w1.heap.size := (by omega)); (try have hB1zw2 : w.heap.size + 1 + 1 < w1.heap.size := (by omega)); (try have hB1zw3 : w.heap.size + 1 + 1 + 1 < w1.heap.size := (by omega)); (try have hB1zw4 : w.heap.size + 1 + 1 + 1 + 1 < w1.heap.size := (by omega)); (try have hB1zwO0 : wO.heap.size < w1.heap.size := (by omega)); (try have hB1zwO1 : wO.heap.size + 1 < w1.heap.size := (by omega)); (try have hB1zwO2 : wO.heap.size + 1 + 1 < w1.heap.size := (by omega)); (try have hB1zwO3 : wO.heap.size + 1 + 1 + 1 < w1.heap.size := (by omega)); (try have hB1zwO4 : wO.heap.size + 1 + 1 + 1 + 1 < w1.heap.size := (by omega)))
        go_wp2_with fail
        refine Calls.mono (codeFor_any _ _ _) ?_
        rintro e w' ⟨rfl, rfl⟩
        have HV := Lib.hid (cb_out (col := col) (l1 := l1) (l2 := l2) (l3 := l3) hp (by simp [cbB, hd1, hd2, hd3]))
        go_wp2
        (refine bodyPost_ret (v := .tuple #[.slice none 0 0, .int .i64 (cbC p col l1 l2 l3)]) (by simp [results, Try.results26, go_sem, HV.out.2]) rfl (slicePost_nil HV.out.1 ?_))
        (repeat (first | with_reducible exact Below.refl _ _ | with_reducible exact hxO | with_reducible refine balloc ?_ _ | with_reducible refine bdrewN ?_ _ | with_reducible refine Below.drew ?_ | with_reducible refine bthen ?_ (by with_reducible assumption) | with_reducible refine Below.setCell ?_ (by first | (simp; done) | (simp; omega)) _))
      · have hd3q := nums3 (lineB_in hd3).2
        have hd3l := lead_ways (lineB_in hd3).1
        have c_1 : codeOf p (lineB p l1 l2 l3) = 0 := codeOf_in hp (by simp [hd3])
        have cT : codeOf p true = 0 := codeOf_in hp rfl
        go_wp2_with fail
        refine Calls.mono (isColour_any _ _) ?_
        rintro e w' ⟨rfl, rfl⟩
        go_wp2_with fail
        refine Calls.mono (implLines1 _ _ _ _ _ _ (by first | rfl | (simp; done))) ?_
        rintro e w1 ⟨rfl, hB1⟩
        (obtain ⟨hB1c, hB1f⟩ := bcell hB1; have hB1s := hB1.size; (try simp at hB1s); (try have hB1q1 := Nat.lt_of_succ_le hB1s); (try have hB1q2 := Nat.lt_of_succ_lt hB1q1); (try have hB1q3 := Nat.lt_of_succ_lt hB1q2); (try have hB1zw0 : w.heap.size < w1.heap.size := (by omega)); (try have hB1zw1 : w.heap.size + 1 < w1.heap.size := (by omega)); (try have hB1zw2 : w.heap.size + 1 + 1 < w1.heap.size := (by omega)); (try have hB1zw3 : w.heap.size + 1 + 1 + 1 < w1.heap.size := (by omega)); (try have hB1zw4 : w.heap.size + 1 + 1 + 1 + 1 < w1.heap.size := (by omega)); (try have hB1zwO0 : wO.heap.size < w1.heap.size := (by omega)); (try have hB1zwO1 : wO.heap.size + 1 < w1.heap.size := (by omega)); (try have hB1zwO2 : wO.heap.size + 1 + 1 < w1.heap.size := (by omega)); (try have hB1zwO3 : wO.heap.size + 1 + 1 + 1 < w1.heap.size := (by omega)); (try have hB1zwO4 : wO.heap.size + 1 + 1 + 1 + 1 < w1.heap.size := (by omega)))
        go_wp2_with fail
        refine Calls.mono (codeFor_any _ _ _) ?_
        rintro e w' ⟨rfl, rfl⟩
        go_wp2_with fail
        refine Calls.mono (implNullIn _ _ _ _ _ _ hp hc (by omega) (by omega)) ?_
        rintro e w2 ⟨rfl, hB2⟩
        (obtain ⟨hB2c, hB2f⟩ := bcell hB2; have hB2s := hB2.size; (try simp at hB2s); (try have hB2q1 := Nat.lt_of_succ_le hB2s); (try have hB2q2 := Nat.lt_of_succ_lt hB2q1); (try have hB2q3 := Nat.lt_of_succ_lt hB2q2); (try have hB2zw0 : w.heap.size < w2.heap.size := (by omega)); (try have hB2zw1 : w.heap.size + 1 < w2.heap.size := (by omega)); (try have hB2zw2 : w.heap.size + 1 + 1 < w2.heap.size := (by omega)); (try have hB2zw3 : w.heap.size + 1 + 1 + 1 < w2.heap.size := (by omega)); (try have hB2zw4 : w.heap.size + 1 + 1 + 1 + 1 < w2.heap.size := (by omega)); (try have hB2zw10 : w1.heap.size < w2.heap.size := (by omega)); (try have hB2zw11 : w1.heap.size + 1 < w2.heap.size := (by omega)); (try have hB2zw12 : w1.heap.size + 1 + 1 < w2.heap.size := (by omega)); (try have hB2zw13 : w1.heap.size + 1 + 1 + 1 < w2.heap.size := (by omega)); (try have hB2zw14 : w1.heap.size + 1 + 1 + 1 + 1 < w2.heap.size := (by omega)); (try have hB2zwO0 : wO.heap.size < w2.heap.size := (by omega)); (try have hB2zwO1 : wO.heap.size + 1 < w2.heap.size := (by omega)); (try have hB2zwO2 : wO.heap.size + 1 + 1 < w2.heap.size := (by omega)); (try have hB2zwO3 : wO.heap.size + 1 + 1 + 1 < w2.heap.size := (by omega)); (try have hB2zwO4 : wO.heap.size + 1 + 1 + 1 + 1 < w2.heap.size := (by omega)))
        rcases bool_ways (nullB p col l1 l2) with hd4 | hd4
        · skip
          have HB : cbB p col l1 l2 l3 = true := by simp [cbB, hd1, hd2, hd3, hd4]
          have HS : cbS p col l1 l2 l3 = 0 := by (simp only [cbS] <;> simp [hd1, hd2, hd3, hd4])
          have HV := Lib.hid (cb_good (col := col) (l1 := l1) (l2 := l2) (l3 := l3) hp HB HS)
          clear HB HS
          have rq := nums3 (lineB_in hd3).2
          have ka0 : w2.cell? ⟨w.heap.size, 0, none⟩ = some (.int .i64 l1) := by (first | with_reducible assumption | (repeat (first | with_reducible assumption | ((with_reducible refine kfresh ?_ ?_) <;> (first | with_reducible rfl | (simp; done))) | ((with_reducible refine ksameS ?_); focus ((repeat (first | with_reducible exact kis_of (by with_reducible assumption) | with_reducible refine kis_set ?_ | ((with_reducible refine kis_new ?_ ?_) <;> (first | with_reducible rfl | rfl | (simp; done))) | with_reducible refine kis_alloc _ ?_ | with_reducible refine kis_drew ?_ | with_reducible refine kis_call (by with_reducible assumption) ?_ | with_reducible exact kis_of (kcall (by with_reducible assumption) (by with_reducible assumption)))); done)) | with_reducible refine kother (by decide) ?_ | with_reducible refine kset (by first | omega | (simp; done) | (simp; omega)) ?_ | with_reducible refine kalloc _ ?_ | with_reducible refine kdrew ?_ | with_reducible refine kdrewN ?_ | with_reducible refine kcall (by with_reducible assumption) ?_)))
          have ka1 : w2.cell? ⟨w.heap.size, 1, none⟩ = some (.int .i64 l2) := by (first | with_reducible assumption | (repeat (first | with_reducible assumption | ((with_reducible refine kfresh ?_ ?_) <;> (first | with_reducible rfl | (simp; done))) | ((with_reducible refine ksameS ?_); focus ((repeat (first | with_reducible exact kis_of (by with_reducible assumption) | with_reducible refine kis_set ?_ | ((with_reducible refine kis_new ?_ ?_) <;> (first | with_reducible rfl | rfl | (simp; done))) | with_reducible refine kis_alloc _ ?_ | with_reducible refine kis_drew ?_ | with_reducible refine kis_call (by with_reducible assumption) ?_ | with_reducible exact kis_of (kcall (by with_reducible assumption) (by with_reducible assumption)))); done)) | with_reducible refine kother (by decide) ?_ | with_reducible refine kset (by first | omega | (simp; done) | (simp; omega)) ?_ | with_reducible refine kalloc _ ?_ | with_reducible refine kdrew ?_ | with_reducible refine kdrewN ?_ | with_reducible refine kcall (by with_reducible assumption) ?_)))
          have ka2 : w2.cell? ⟨w.heap.size, 2, none⟩ = some (.int .i64 l3) := by (first | with_reducible assumption | (repeat (first | with_reducible assumption | ((with_reducible refine kfresh ?_ ?_) <;> (first | with_reducible rfl | (simp; done))) | ((with_reducible refine ksameS ?_); focus ((repeat (first | with_reducible exact kis_of (by with_reducible assumption) | with_reducible refine kis_set ?_ | ((with_reducible refine kis_new ?_ ?_) <;> (first | with_reducible rfl | rfl | (simp; done))) | with_reducible refine kis_alloc _ ?_ | with_reducible refine kis_drew ?_ | with_reducible refine kis_call (by with_reducible assumption) ?_ | with_reducible exact kis_of (kcall (by with_reducible assumption) (by with_reducible assumption)))); done)) | with_reducible refine kother (by decide) ?_ | with_reducible refine kset (by first | omega | (simp; done) | (simp; omega)) ?_ | with_reducible refine kalloc _ ?_ | with_reducible refine kdrew ?_ | with_reducible refine kdrewN ?_ | with_reducible refine kcall (by with_reducible assumption) ?_)))
          have hW0 : Below w.heap.size w w2 := by (repeat (first | with_reducible exact Below.refl _ _ | with_reducible exact hxO | with_reducible refine balloc ?_ _ | with_reducible refine bdrewN ?_ _ | with_reducible refine Below.drew ?_ | with_reducible refine bthen ?_ (by with_reducible assumption) | with_reducible refine Below.setCell ?_ (by first | (simp; done) | (simp; omega)) _))
          have hl0 : w.heap.size < w2.heap.size := World.block_lt_of_cell? w2 ⟨w.heap.size, 0, none⟩ ka0
          obtain ⟨wA, hwA⟩ : ∃ W : World, W = w2 := ⟨_, rfl⟩
          rw [← hwA] at ka0 ka1 ka2 hW0 hl0 ⊢
          clear hwA
          obtain ⟨i0, hi, hz0, hz1, hz2⟩ := info_parts infoInt1
          have HV2 := Lib.hid (show cbL p col l1 l2 l3 = tab p.toNat (cbF p col l1 l2 (nnP p col 0 0)) ∧ cbC p col l1 l2 l3 = 0 from HV.out)
          clear HV
          obtain ⟨m, hm⟩ : ∃ m, m = p.toNat := ⟨_, rfl⟩
          have hc0 : (m : Int) = p := by omega
          rw [← hm] at HV2
          have HKQ := Lib.hid (fun x y => by have h := sp_nat col l1 l2 x y hp; rw [← hm] at h; exact h : ∀ x y, ∃ k : Nat, spO p col l1 l2 x y = (k : Int) ∧ k < m)
          clear hm
          have hm31 : m ≤ 31 := by omega
          have hwp : IntKind.i64.wrap p = p := wrapI _ (by omega)
          have hnl : nullB p col l1 l2 = false := by assumption
          have HM := Lib.hid hc0
          clear hc0
          go_wp2_with (at_make; refine wpList_make_full _ rfl _ _ 50 rfl wA.heap.size 2 i0 (.int .i64 0) 1 Try.underlying50 hi hz0 hz1 .i64 .i64 p p m rfl rfl HM.out.symm HM.out.symm (by rw [hz2]; omega) (by unfold maxLen; omega) (Nat.le_refl _) ?_)
          intro wm hom hgm
          rw [made_tabQ] at hom
          rw [show (tab m fun _ => (0 : Int)) = tab m (cbF p col l1 l2 []) from tab_congr fun i _ => (cb_nil _ _ _ _ _).symm] at hom
          have hlm := (hom.lt _ rfl).2
          simp only at hlm
          have hbm : Below wA.heap.size wA wm := (Below.refl _ _).grown hgm (Nat.le_refl _) (fun g hg => by cases hg)
          have kb0 := (cell_back hbm hl0 0).trans ka0
          have kb1 := (cell_back hbm hl0 1).trans ka1
          have kb2 := (cell_back hbm hl0 2).trans ka2
          have hwm : Below w.heap.size w wm := bthen hW0 hbm
          obtain ⟨G, hG⟩ : ∃ G, G = wA.heap.size := ⟨_, rfl⟩
          have hG0 := hW0.size
          rw [← hG] at hom hlm hl0 hG0 ⊢
          clear hG hgm ka0 ka1 ka2 hbm hW0
          (go_wp2_with fail; refine Calls.mono (implLinesThrough_good p 0 0 _ hp (by simp [numsIn, inB]; omega)) ?_; rintro e wz ⟨vz, nz, rfl, hoz, hBz⟩)
          have hgl : (pencil p 0 0 p.toNat).length ≤ 32 := by rw [pencil_length]; omega
          have hgm := fun (z : Int × Int × Int) (hz : z ∈ pencil p 0 0 p.toNat) => nums3 (lineB_in ((pencil_mem hp z).1 hz).1).2
          have hnn : nnP p col 0 0 = (pencil p 0 0 p.toNat).filter fun x => !nullB p col x.1 x.2.1 := rfl
          obtain rfl := rows3_len hoz
          obtain ⟨ps, hps⟩ : ∃ ps : List (Int × Int × Int), ps = pencil p 0 0 p.toNat := ⟨_, rfl⟩
          rw [← hps] at hoz hgl hgm hnn
          clear hps
          have HGM := Lib.hid hgm
          have HNN := Lib.hid hnn
          clear hgm hnn
          obtain ⟨az, cz, rfl, _, hsh⟩ := own_shapeL hoz
          have HSH := Lib.hid hsh
          clear hsh
          have hsz := hBz.size
          have kz0 := (cell_back hBz (by omega) 0).trans kb0
          have kz1 := (cell_back hBz (by omega) 1).trans kb1
          have kz2 := (cell_back hBz (by omega) 2).trans kb2
          have hozm := own_call hom hBz
          have hwz : Below w.heap.size w wz := bthen hwm hBz
          clear kb0 kb1 kb2 hom hBz hwm
          obtain ⟨nn, hnn'⟩ : ∃ nn : Int × Int × Int → Bool, nn = fun x => !nullB p col x.1 x.2.1 := ⟨_, rfl⟩
          rw [← hnn'] at HNN
          have HNB := Lib.hid (show ∀ x : Int × Int × Int, nn x = !nullB p col x.1 x.2.1 from fun x => by rw [hnn'])
          clear hnn'
          have HOZ := Lib.hid hoz
          clear hoz
          go_wp2_with fail
          go_loopw [44] (fun i wr => ∃ j : Nat, j ≤ ps.length ∧ i = .int .i64 j ∧ wr.ownsRow G 2 1 (.slice (some ⟨G, 0, none⟩) m m) m (ints (tab m (cbF p col l1 l2 ((ps.take j).filter nn)))) ∧ Apart G wz wr) (fun i _ => ps.length - (intOf i).toNat)
          case atStart => exact ⟨0, by omega, rfl, by simpa using hozm, Apart.refl _ _⟩
          case round =>
            obtain ⟨j, hj, rfl, hown, hap⟩ := hrel
            clear hozm
            by_cases hlt : j < ps.length
            · obtain ⟨gz, rfl, hg0, hg1⟩ := HSH.out (by omega)
              have hne : gz ≠ G := by omega
              have hne1 : w.heap.size ≠ G := by omega
              have hoz := HOZ.out
              have hget := flat3_at ps j hlt
              have hmem := HGM.out ps[j] (List.getElem_mem hlt)
              have c0 := hap.cell hne ((own_cell hoz (j := j * 3) (by omega)).trans (by rw [hget.1]))
              have c1 := hap.cell hne ((own_cell hoz (j := j * 3 + 1) (by omega)).trans (by rw [hget.2.1]))
              have c2 := hap.cell hne ((own_cell hoz (j := j * 3 + 2) (by omega)).trans (by rw [hget.2.2]))
              clear hget hoz
              have kk0 := hap.cell hne1 kz0
              have kk1 := hap.cell hne1 kz1
              have kk2 := hap.cell hne1 kz2
              have hYes := siftL_yes (f := nn) (xs := ps) hlt
              have hNo := siftL_no (f := nn) (xs := ps) hlt
              have hbn := HNB.out ps[j]
              obtain ⟨x, hx⟩ : ∃ x, x = ps[j] := ⟨_, rfl⟩
              rw [← hx] at c0 c1 c2 hmem hYes hNo hbn
              clear hx
              obtain ⟨x1, x2, x3⟩ := x
              simp only at c0 c1 c2 hmem hbn
              obtain ⟨k, hkq, hkm⟩ := HKQ.out x1 x2
              have hct := cb_count (p := p) (c := col) (l1 := l1) (l2 := l2) (x := (x1, x2, x3)) ((ps.take j).filter nn) (k := k) hkq
              have hv := spV_in (p := p) (c := col) (l1 := l1) (l2 := l2) (m1 := x1) (m2 := x2) hnl
              rw [hkq] at hv
              have hcall := fun w' => spread_any p col l1 l2 l3 x1 x2 x3 w' hp hc (by omega) (by omega) (by omega) (by omega)
              rw [hv.1, hv.2] at hcall
              clear hkq hv
              obtain ⟨bn, hb⟩ : ∃ b, b = nullB p col x1 x2 := ⟨_, rfl⟩
              rw [← hb] at hcall hbn
              clear hb
              have HC := Lib.hid hcall
              clear hcall
              have hfr := cb_r p col l1 l2 ((ps.take j).filter nn) k
              have hlt2 := siftL_le nn ps j
              have hsr := hap.size
              have hjn : (j : Int) < (ps.length : Int) := by omega
              have hgr : gz < wr.heap.size := by omega
              have HCT := Lib.hid hct
              have HBN := Lib.hid hbn
              clear hct hbn
              go_upto_region 11 with fail
              refine wp_name (fun wR hwR => ?_)
              have hR : Below wr.heap.size wr wR := by rw [hwR]; (repeat (first | with_reducible exact Below.refl _ _ | with_reducible refine balloc ?_ _ | with_reducible refine bdrewN ?_ _ | with_reducible refine Below.drew ?_ | with_reducible refine bthen ?_ (by with_reducible assumption) | with_reducible refine Below.setCell ?_ (by first | (simp; done) | (simp; omega)) _))
              have sR : wr.heap.size < wR.heap.size := by rw [hwR]; simp
              have r0 : wR.cell? ⟨wr.heap.size, 0, none⟩ = some (.int .i64 x1) := by rw [hwR]; (repeat (first | with_reducible assumption | ((with_reducible refine kfresh ?_ ?_) <;> (first | with_reducible rfl | (simp; done))) | ((with_reducible refine ksameS ?_); focus ((repeat (first | with_reducible exact kis_of (by with_reducible assumption) | with_reducible refine kis_set ?_ | ((with_reducible refine kis_new ?_ ?_) <;> (first | with_reducible rfl | rfl | (simp; done))) | with_reducible refine kis_alloc _ ?_ | with_reducible refine kis_drew ?_ | with_reducible refine kis_call (by with_reducible assumption) ?_ | with_reducible exact kis_of (kcall (by with_reducible assumption) (by with_reducible assumption)))); done)) | with_reducible refine kother (by decide) ?_ | with_reducible refine kset (by first | omega | (simp; done) | (simp; omega)) ?_ | with_reducible refine kalloc _ ?_ | with_reducible refine kdrew ?_ | with_reducible refine kdrewN ?_ | with_reducible refine kcall (by with_reducible assumption) ?_))
              have r1 : wR.cell? ⟨wr.heap.size, 1, none⟩ = some (.int .i64 x2) := by rw [hwR]; (repeat (first | with_reducible assumption | ((with_reducible refine kfresh ?_ ?_) <;> (first | with_reducible rfl | (simp; done))) | ((with_reducible refine ksameS ?_); focus ((repeat (first | with_reducible exact kis_of (by with_reducible assumption) | with_reducible refine kis_set ?_ | ((with_reducible refine kis_new ?_ ?_) <;> (first | with_reducible rfl | rfl | (simp; done))) | with_reducible refine kis_alloc _ ?_ | with_reducible refine kis_drew ?_ | with_reducible refine kis_call (by with_reducible assumption) ?_ | with_reducible exact kis_of (kcall (by with_reducible assumption) (by with_reducible assumption)))); done)) | with_reducible refine kother (by decide) ?_ | with_reducible refine kset (by first | omega | (simp; done) | (simp; omega)) ?_ | with_reducible refine kalloc _ ?_ | with_reducible refine kdrew ?_ | with_reducible refine kdrewN ?_ | with_reducible refine kcall (by with_reducible assumption) ?_))
              have r2 : wR.cell? ⟨wr.heap.size, 2, none⟩ = some (.int .i64 x3) := by rw [hwR]; (repeat (first | with_reducible assumption | ((with_reducible refine kfresh ?_ ?_) <;> (first | with_reducible rfl | (simp; done))) | ((with_reducible refine ksameS ?_); focus ((repeat (first | with_reducible exact kis_of (by with_reducible assumption) | with_reducible refine kis_set ?_ | ((with_reducible refine kis_new ?_ ?_) <;> (first | with_reducible rfl | rfl | (simp; done))) | with_reducible refine kis_alloc _ ?_ | with_reducible refine kis_drew ?_ | with_reducible refine kis_call (by with_reducible assumption) ?_ | with_reducible exact kis_of (kcall (by with_reducible assumption) (by with_reducible assumption)))); done)) | with_reducible refine kother (by decide) ?_ | with_reducible refine kset (by first | omega | (simp; done) | (simp; omega)) ?_ | with_reducible refine kalloc _ ?_ | with_reducible refine kdrew ?_ | with_reducible refine kdrewN ?_ | with_reducible refine kcall (by with_reducible assumption) ?_))
              clear hwR
              have kr0 := (cell_back hR (by omega) 0).trans kk0
              have kr1 := (cell_back hR (by omega) 1).trans kk1
              have kr2 := (cell_back hR (by omega) 2).trans kk2
              have apR : Apart G wz wR := hap.call hR
              have howR := own_call hown hR
              have hgR : G < wR.heap.size := by omega
              clear kk0 kk1 kk2 c0 c1 c2 hown hap hR
              have q0 : ∀ W : World, Below wR.heap.size wR W → W.cell? ⟨w.heap.size, 0, none⟩ = some (.int .i64 l1) := fun W h => bholds kr0 h
              have q1 : ∀ W : World, Below wR.heap.size wR W → W.cell? ⟨w.heap.size, 1, none⟩ = some (.int .i64 l2) := fun W h => bholds kr1 h
              have q2 : ∀ W : World, Below wR.heap.size wR W → W.cell? ⟨w.heap.size, 2, none⟩ = some (.int .i64 l3) := fun W h => bholds kr2 h
              have qd0 : ∀ W : World, Below wR.heap.size wR W → W.cell? ⟨wr.heap.size, 0, none⟩ = some (.int .i64 x1) := fun W h => bholds r0 h
              have qd1 : ∀ W : World, Below wR.heap.size wR W → W.cell? ⟨wr.heap.size, 1, none⟩ = some (.int .i64 x2) := fun W h => bholds r1 h
              have qd2 : ∀ W : World, Below wR.heap.size wR W → W.cell? ⟨wr.heap.size, 2, none⟩ = some (.int .i64 x3) := fun W h => bholds r2 h
              cases bn
              · have HN := Lib.hid (hYes HBN.out)
                clear hYes hNo
                obtain ⟨z, hz⟩ : ∃ z, z = cbF p col l1 l2 ((ps.take j).filter nn) k := ⟨_, rfl⟩
                rw [← hz] at hfr
                have HZ := Lib.hid hz
                clear hz
                have hwz' : IntKind.i64.wrap (z + 1) = z + 1 := wrapI _ (by omega)
                have hia : (0 : Int) ≤ (k : Int) ∧ (k : Int) < (m : Int) := by omega
                go_region_held3 (fun W => Below wR.heap.size wR W) (first | with_reducible assumption | with_reducible exact bthen (by with_reducible assumption) hB | with_reducible exact bfromdrew hB | with_reducible exact balloc (by with_reducible assumption) _ | with_reducible exact Below.drew (balloc (bundrew (by with_reducible assumption)) _) | with_reducible exact Below.drew (Below.refl _ _) | with_reducible exact Below.refl _ _ | with_reducible exact Below.drew (by with_reducible assumption)) (first | (go_at_call 63; refine Calls.mono (shadeOf_any _ _ hc) ?_; rintro e wq ⟨rfl, hB⟩; have hBs := hB.size) | (go_at_call 62; refine Calls.mono (HC.out _) ?_; rintro e wq ⟨rfl, hB⟩; have hBs := hB.size))
                all_goals
                  have hb1 : Below wR.heap.size wR wq := by first | with_reducible assumption | exact bundrew (by with_reducible assumption) | exact bthen (Below.refl _ _) hB | (repeat (first | with_reducible exact Below.refl _ _ | with_reducible refine balloc ?_ _ | with_reducible refine bdrewN ?_ _ | with_reducible refine Below.drew ?_ | with_reducible refine bthen ?_ (by with_reducible assumption) | with_reducible refine Below.setCell ?_ (by first | (simp; done) | (simp; omega)) _))
                  have ho1 := own_call howR hb1
                  have hap1 := apR.call hb1
                  have hs1 := hb1.size
                  have hgq : G < wq.heap.size := by omega
                  clear q0 q1 q2 qd0 qd1 qd2
                  have rb : wq.cell? ⟨G, k, none⟩ = some (.int .i64 z) := by rw [own_cell ho1 (j := k) (by omega), tab_getD _ hkm, ← HZ.out]
                  have rf := ho1.frozenAt k
                  have hst := (ho1.stored k (.int .i64 (z + 1))).1
                  rw [tab_step (g := cbF p col l1 l2 ((ps.take (j + 1)).filter nn)) (fun i _ => by rw [HN.out, HCT.out i, HZ.out])] at hst
                  have HO := Lib.hid hst
                  have HAP := Lib.hid (hap1.set k (.int .i64 (z + 1)))
                  clear hst hap1 ho1 howR apR
                  go_wp2
                  go_roundw
                  case rel => exact ⟨j + 1, by omega, by go_num, HO.out, HAP.out⟩
                  case measure => simp [intOf]; omega
              · have HN := Lib.hid (hNo HBN.out)
                clear hYes hNo
                go_region_held3 (fun W => Below wR.heap.size wR W) (first | with_reducible assumption | with_reducible exact bthen (by with_reducible assumption) hB | with_reducible exact bfromdrew hB | with_reducible exact balloc (by with_reducible assumption) _ | with_reducible exact Below.drew (balloc (bundrew (by with_reducible assumption)) _) | with_reducible exact Below.drew (Below.refl _ _) | with_reducible exact Below.refl _ _ | with_reducible exact Below.drew (by with_reducible assumption)) (first | (go_at_call 63; refine Calls.mono (shadeOf_any _ _ hc) ?_; rintro e wq ⟨rfl, hB⟩; have hBs := hB.size) | (go_at_call 62; refine Calls.mono (HC.out _) ?_; rintro e wq ⟨rfl, hB⟩; have hBs := hB.size))
                all_goals
                  have hb1 : Below wR.heap.size wR wq := by first | with_reducible assumption | exact bundrew (by with_reducible assumption) | exact bthen (Below.refl _ _) hB | (repeat (first | with_reducible exact Below.refl _ _ | with_reducible refine balloc ?_ _ | with_reducible refine bdrewN ?_ _ | with_reducible refine Below.drew ?_ | with_reducible refine bthen ?_ (by with_reducible assumption) | with_reducible refine Below.setCell ?_ (by first | (simp; done) | (simp; omega)) _))
                  have ho1 := own_call howR hb1
                  have hap1 := apR.call hb1
                  have hs1 := hb1.size
                  have hgq : G < wq.heap.size := by omega
                  clear q0 q1 q2 qd0 qd1 qd2
                  have HO := Lib.hid ho1
                  have HAP := Lib.hid hap1
                  clear hap1 ho1 howR apR
                  go_wp2
                  go_roundw
                  case rel => exact ⟨j + 1, by omega, by go_num, by rw [HN.out]; exact HO.out, HAP.out⟩
                  case measure => simp [intOf]; omega
            · have ej : j = ps.length := by omega
              subst ej
              rw [List.take_length, ← HNN.out] at hown
              have HO := Lib.hid hown
              have hBw : Below w.heap.size w wr := Apart.below hwz hG0 hap
              clear hown
              go_wp2
              (refine bodyPost_ret (v := .tuple #[.slice (some ⟨G, 0, none⟩) m m, .int .i64 (cbC p col l1 l2 l3)]) (by simp [results, Try.results26, go_sem, HV2.out.2]) rfl (slicePost_mk (by rw [HV2.out.1]; exact own_base HO.out hG0) hBw))
        · skip
          have HB : cbB p col l1 l2 l3 = true := by simp [cbB, hd1, hd2, hd3, hd4]
          have HS : cbS p col l1 l2 l3 = 5 := by (simp only [cbS] <;> simp [hd1, hd2, hd3, hd4])
          have HV := Lib.hid (cb_st (col := col) (l1 := l1) (l2 := l2) (l3 := l3) hp HB HS (by decide))
          clear HB HS
          go_wp2
          (refine bodyPost_ret (v := .tuple #[.slice none 0 0, .int .i64 (cbC p col l1 l2 l3)]) (by simp [results, Try.results26, go_sem, HV.out.2]) rfl (slicePost_nil HV.out.1 ?_))
          (repeat (first | with_reducible exact Below.refl _ _ | with_reducible exact hxO | with_reducible refine balloc ?_ _ | with_reducible refine bdrewN ?_ _ | with_reducible refine Below.drew ?_ | with_reducible refine bthen ?_ (by with_reducible assumption) | with_reducible refine Below.setCell ?_ (by first | (simp; done) | (simp; omega)) _))

theorem cb_len (p col l1 l2 l3 : Int) : (cbL p col l1 l2 l3).length ≤ 4096 := by
  unfold cbL
  split
  · rename_i h
    have hp : isP p = true := by
      cases hh : isP p
      · simp [cbC, hh] at h
      · rfl
    have hr := isP_range hp
    rw [cbT, tab_length]
    omega
  · simp

end Go.Proofs.Ytmpgpmcmhbpjeaa
