/-
  CountBySpread: the model's.
-/
import Derived.Test.YtmpgpmcmhbpjeaaCountSMathq
import Derived.Test.YtmpgpmcmhbpjeaaStepMakeq
import Derived.Test.YtmpgpmcmhbpjeaaSpec3Crossq
import Derived.Test.YtmpgpmcmhbpjeaaApartq
import Derived.Test.YtmpgpmcmhbpjeaaMgq0
import Derived.Test.YtmpgpmcmhbpjeaaGrowq
import Derived.Test.YtmpgpmcmhbpjeaaSpec3Linsq
import Derived.Test.YtmpgpmcmhbpjeaaCodeq
import Derived.Deep.RegionHeld3
import Derived.Deep.DeepCutAuto

namespace Go.Proofs.Ytmpgpmcmhbpjeaa
open Go.RowKit

set_option linter.unusedVariables false in
def cbB (p col l1 l2 l3 : Int) : Bool := colB col && lineB p l1 l2 l3
set_option linter.unusedVariables false in
def cbS (p col l1 l2 l3 : Int) : Int := if nullB p col l1 l2 = true then 5 else 0
set_option linter.unusedVariables false in
def cbC (p col l1 l2 l3 : Int) : Int := if isP p = true then (if cbB p col l1 l2 l3 = true then cbS p col l1 l2 l3 else 2) else 1
set_option linter.unusedVariables false in
def cbL (p col l1 l2 l3 : Int) : List Int := if cbC p col l1 l2 l3 = 0 then cbT p col l1 l2 else []
theorem cb_zero {p col l1 l2 l3 k : Int} (h : cbC p col l1 l2 l3 = k) (hk : k ≠ 0) : cbL p col l1 l2 l3 = [] ∧ cbC p col l1 l2 l3 = k := ⟨if_neg fun e => hk (h.symm.trans e), h⟩
theorem cb_no {p col l1 l2 l3 : Int} (h : isP p = false) : cbL p col l1 l2 l3 = [] ∧ cbC p col l1 l2 l3 = 1 := cb_zero (by simp [cbC, h]) (by decide)
theorem cb_out {p col l1 l2 l3 : Int} (hp : isP p = true) (h : cbB p col l1 l2 l3 = false) : cbL p col l1 l2 l3 = [] ∧ cbC p col l1 l2 l3 = 2 := cb_zero (by simp [cbC, hp, h]) (by decide)
theorem cb_st {p col l1 l2 l3 k : Int} (hp : isP p = true) (h : cbB p col l1 l2 l3 = true) (hs : cbS p col l1 l2 l3 = k) (hk : k ≠ 0) : cbL p col l1 l2 l3 = [] ∧ cbC p col l1 l2 l3 = k := cb_zero (by simp [cbC, hp, h, hs]) hk
theorem cb_good {p col l1 l2 l3 : Int} (hp : isP p = true) (h : cbB p col l1 l2 l3 = true) (hs : cbS p col l1 l2 l3 = 0) : cbL p col l1 l2 l3 = cbT p col l1 l2 ∧ cbC p col l1 l2 l3 = 0 := by
  have h' : cbC p col l1 l2 l3 = 0 := by simp [cbC, hp, h, hs]
  exact ⟨if_pos h', h'⟩

set_option linter.unusedVariables false in
set_option linter.unusedSimpArgs false in
set_option maxRecDepth 20000 in
set_option maxHeartbeats 4000000 in
theorem specCountBySpread_any (p col l1 l2 l3 : Int)  (w : World) :
    Calls Try.prog 25 #[.int .i64 p, .int .i64 col, .agg #[.int .i64 l1, .int .i64 l2, .int .i64 l3]] w fun e w' =>
      SlicePost 2 1 (cbL p col l1 l2 l3) (cbC p col l1 l2 l3) w e w' := by
  go_enter Try.func25, Try.ntmps25
  go_upto_region 0 with fail
  go_cut [5, 6, 7] (fun s5 s6 s7 wx => s5 = .pointer (some ⟨w.heap.size, 0, none⟩) ∧ s6 = .slice none 0 0 ∧ s7 = .int .i64 0 ∧ wx.cell? ⟨w.heap.size, 0, none⟩ = some (.int .i64 l1) ∧ wx.cell? ⟨w.heap.size, 1, none⟩ = some (.int .i64 l2) ∧ wx.cell? ⟨w.heap.size, 2, none⟩ = some (.int .i64 l3) ∧ wx.frozen? ⟨w.heap.size, 0, none⟩ = false ∧ wx.frozen? ⟨w.heap.size, 1, none⟩ = false ∧ wx.frozen? ⟨w.heap.size, 2, none⟩ = false ∧ Below w.heap.size w wx ∧ w.heap.size + 1 ≤ wx.heap.size)
  case first =>
    go_wp2
    go_meet
    refine ⟨rfl, rfl, rfl, ?_, ?_, ?_, ?_, ?_, ?_, ?_, ?_⟩
    · (repeat (first | with_reducible assumption | ((with_reducible refine kfresh ?_ ?_) <;> (first | with_reducible rfl | (simp; done))) | ((with_reducible refine ksameS ?_); focus ((repeat (first | with_reducible exact kis_of (by with_reducible assumption) | with_reducible refine kis_set ?_ | ((with_reducible refine kis_new ?_ ?_) <;> (first | with_reducible rfl | rfl | (simp; done))) | with_reducible refine kis_alloc _ ?_ | with_reducible refine kis_drew ?_ | with_reducible refine kis_call (by with_reducible assumption) ?_ | with_reducible exact kis_of (kcall (by with_reducible assumption) (by with_reducible assumption)))); done)) | with_reducible refine kother (by decide) ?_ | with_reducible refine kset (by first | omega | (simp; done) | (simp; omega)) ?_ | with_reducible refine kalloc _ ?_ | with_reducible refine kdrew ?_ | with_reducible refine kdrewN ?_ | with_reducible refine kcall (by with_reducible assumption) ?_))
    · (repeat (first | with_reducible assumption | ((with_reducible refine kfresh ?_ ?_) <;> (first | with_reducible rfl | (simp; done))) | ((with_reducible refine ksameS ?_); focus ((repeat (first | with_reducible exact kis_of (by with_reducible assumption) | with_reducible refine kis_set ?_ | ((with_reducible refine kis_new ?_ ?_) <;> (first | with_reducible rfl | rfl | (simp; done))) | with_reducible refine kis_alloc _ ?_ | with_reducible refine kis_drew ?_ | with_reducible refine kis_call (by with_reducible assumption) ?_ | with_reducible exact kis_of (kcall (by with_reducible assumption) (by with_reducible assumption)))); done)) | with_reducible refine kother (by decide) ?_ | with_reducible refine kset (by first | omega | (simp; done) | (simp; omega)) ?_ | with_reducible refine kalloc _ ?_ | with_reducible refine kdrew ?_ | with_reducible refine kdrewN ?_ | with_reducible refine kcall (by with_reducible assumption) ?_))
    · (repeat (first | with_reducible assumption | ((with_reducible refine kfresh ?_ ?_) <;> (first | with_reducible rfl | (simp; done))) | ((with_reducible refine ksameS ?_); focus ((repeat (first | with_reducible exact kis_of (by with_reducible assumption) | with_reducible refine kis_set ?_ | ((with_reducible refine kis_new ?_ ?_) <;> (first | with_reducible rfl | rfl | (simp; done))) | with_reducible refine kis_alloc _ ?_ | with_reducible refine kis_drew ?_ | with_reducible refine kis_call (by with_reducible assumption) ?_ | with_reducible exact kis_of (kcall (by with_reducible assumption) (by with_reducible assumption)))); done)) | with_reducible refine kother (by decide) ?_ | with_reducible refine kset (by first | omega | (simp; done) | (simp; omega)) ?_ | with_reducible refine kalloc _ ?_ | with_reducible refine kdrew ?_ | with_reducible refine kdrewN ?_ | with_reducible refine kcall (by with_reducible assumption) ?_))
    · (repeat (first | with_reducible assumption | with_reducible refine fdrew ?_ | with_reducible refine fdrewN ?_ | with_reducible refine fset ?_ | ((with_reducible refine fallocNew ?_) <;> (first | with_reducible rfl | (simp; done))) | ((with_reducible refine kfro (by with_reducible assumption) ?_ ?_); focus (first | with_reducible assumption | omega | (simp; done) | (simp; omega))) | ((with_reducible refine falloc ?_ ?_); focus (first | with_reducible assumption | omega | (simp; done) | (simp; omega)))))
    · (repeat (first | with_reducible assumption | with_reducible refine fdrew ?_ | with_reducible refine fdrewN ?_ | with_reducible refine fset ?_ | ((with_reducible refine fallocNew ?_) <;> (first | with_reducible rfl | (simp; done))) | ((with_reducible refine kfro (by with_reducible assumption) ?_ ?_); focus (first | with_reducible assumption | omega | (simp; done) | (simp; omega))) | ((with_reducible refine falloc ?_ ?_); focus (first | with_reducible assumption | omega | (simp; done) | (simp; omega)))))
    · (repeat (first | with_reducible assumption | with_reducible refine fdrew ?_ | with_reducible refine fdrewN ?_ | with_reducible refine fset ?_ | ((with_reducible refine fallocNew ?_) <;> (first | with_reducible rfl | (simp; done))) | ((with_reducible refine kfro (by with_reducible assumption) ?_ ?_); focus (first | with_reducible assumption | omega | (simp; done) | (simp; omega))) | ((with_reducible refine falloc ?_ ?_); focus (first | with_reducible assumption | omega | (simp; done) | (simp; omega)))))
    · (repeat (first | with_reducible exact Below.refl _ _ | with_reducible refine balloc ?_ _ | with_reducible refine bdrewN ?_ _ | with_reducible refine Below.drew ?_ | with_reducible refine bthen ?_ (by with_reducible assumption) | with_reducible refine Below.setCell ?_ (by first | (simp; done) | (simp; omega)) _))
    · (first | omega | (simp; done) | (simp; omega))
  case' rest => obtain ⟨rfl, rfl, rfl, cO0, cO1, cO2, fO0, fO1, fO2, hxO, hsO⟩ := hcut
  obtain ⟨wO, rfl⟩ : ∃ wO : World, wO = wc := ⟨_, rfl⟩
  have lO0 : w.heap.size < wO.heap.size := by omega
  rcases bool_ways (isP p) with hd1 | hd1
  · skip
    have c_1 : codeOf p (colB col && lineB p l1 l2 l3) = 1 := codeOf_no hd1
    have cN : ∀ b, codeOf p b = 1 := fun b => codeOf_no hd1
    go_wp2_with fail
    refine Calls.mono (spec3Lines1 _ _ _ _ _ _ _ (by first | rfl | (simp; done))) ?_
    rintro e w1 ⟨rfl, hB1⟩
    (obtain ⟨hB1c, hB1f⟩ := bcell hB1; have hB1s := hB1.size; (try simp at hB1s); (try have hB1q1 := Nat.lt_of_succ_le hB1s); (try have hB1q2 := Nat.lt_of_succ_lt hB1q1); (try have hB1q3 := Nat.lt_of_succ_lt hB1q2); (try have hB1zw0 : w.heap.size < w1.heap.size := (by omega)); (try have hB1zw1 : w.heap.size + 1 < w1.heap.size := (by omega)); (try have hB1zw2 : w.heap.size + 1 + 1 < w1.heap.size := (by omega)); (try have hB1zw3 : w.heap.size + 1 + 1 + 1 < w1.heap.size := (by omega)); (try have hB1zw4 : w.heap.size + 1 + 1 + 1 + 1 < w1.heap.size := (by omega)); (try have hB1zwO0 : wO.heap.size < w1.heap.size := (by omega)); (try have hB1zwO1 : wO.heap.size + 1 < w1.heap.size := (by omega)); (try have hB1zwO2 : wO.heap.size + 1 + 1 < w1.heap.size := (by omega)); (try have hB1zwO3 : wO.heap.size + 1 + 1 + 1 < w1.heap.size := (by omega)); (try have hB1zwO4 : wO.heap.size + 1 + 1 + 1 + 1 < w1.heap.size := (by omega)))
    have HV := Lib.hid (cb_no (col := col) (l1 := l1) (l2 := l2) (l3 := l3) hd1)
    go_wp2
    (refine bodyPost_ret (v := .tuple #[.slice none 0 0, .int .i64 (cbC p col l1 l2 l3)]) (by simp [results, Try.results25, go_sem, HV.out.2]) rfl (slicePost_nil HV.out.1 ?_))
    (repeat (first | with_reducible exact Below.refl _ _ | with_reducible exact hxO | with_reducible refine balloc ?_ _ | with_reducible refine bdrewN ?_ _ | with_reducible refine Below.drew ?_ | with_reducible refine bthen ?_ (by with_reducible assumption) | with_reducible refine Below.setCell ?_ (by first | (simp; done) | (simp; omega)) _))
  · have hp := hd1
    have hr := isP_range hp
    rcases bool_ways (colB col) with hd2 | hd2
    · skip
      have c_1 : codeOf p (colB col && lineB p l1 l2 l3) = 2 := codeOf_out hp (by simp [hd2])
      have cT : codeOf p true = 0 := codeOf_in hp rfl
      have cF : codeOf p false = 2 := codeOf_out hp rfl
      go_wp2_with fail
      refine Calls.mono (spec3Lines1 _ _ _ _ _ _ _ (by first | rfl | (simp; done))) ?_
      rintro e w1 ⟨rfl, hB1⟩
      (obtain ⟨hB1c, hB1f⟩ := bcell hB1; have hB1s := hB1.size; (try simp at hB1s); (try have hB1q1 := Nat.lt_of_succ_le hB1s); (try have hB1q2 := Nat.lt_of_succ_lt hB1q1); (try have hB1q3 := Nat.lt_of_succ_lt hB1q2); (try have hB1zw0 : w.heap.size < w1.heap.size := (by omega)); (try have hB1zw1 : w.heap.size + 1 < w1.heap.size := (by omega)); (try have hB1zw2 : w.heap.size + 1 + 1 < w1.heap.size := (by omega)); (try have hB1zw3 : w.heap.size + 1 + 1 + 1 < w1.heap.size := (by omega)); (try have hB1zw4 : w.heap.size + 1 + 1 + 1 + 1 < w1.heap.size := (by omega)); (try have hB1zwO0 : wO.heap.size < w1.heap.size := (by omega)); (try have hB1zwO1 : wO.heap.size + 1 < w1.heap.size := (by omega)); (try have hB1zwO2 : wO.heap.size + 1 + 1 < w1.heap.size := (by omega)); (try have hB1zwO3 : wO.heap.size + 1 + 1 + 1 < w1.heap.size := (by omega)); (try have hB1zwO4 : wO.heap.size + 1 + 1 + 1 + 1 < w1.heap.size := (by omega)))
      have HV := Lib.hid (cb_out (col := col) (l1 := l1) (l2 := l2) (l3 := l3) hp (by simp [cbB, hd1, hd2]))
      go_wp2
      (refine bodyPost_ret (v := .tuple #[.slice none 0 0, .int .i64 (cbC p col l1 l2 l3)]) (by simp [results, Try.results25, go_sem, HV.out.2]) rfl (slicePost_nil HV.out.1 ?_))
      (repeat (first | with_reducible exact Below.refl _ _ | with_reducible exact hxO | with_reducible refine balloc ?_ _ | with_reducible refine bdrewN ?_ _ | with_reducible refine Below.drew ?_ | with_reducible refine bthen ?_ (by with_reducible assumption) | with_reducible refine Below.setCell ?_ (by first | (simp; done) | (simp; omega)) _))
    · have hc := hd2
      have hcr := colB_range hc
      rcases bool_ways (lineB p l1 l2 l3) with hd3 | hd3
      · skip
        have c_1 : codeOf p (colB col && lineB p l1 l2 l3) = 2 := codeOf_out hp (by simp [hd2, hd3])
        have cT : codeOf p true = 0 := codeOf_in hp rfl
        have cF : codeOf p false = 2 := codeOf_out hp rfl
        go_wp2_with fail
        refine Calls.mono (spec3Lines1 _ _ _ _ _ _ _ (by first | rfl | (simp; done))) ?_
        rintro e w1 ⟨rfl, hB1⟩
        (obtain ⟨hB1c, hB1f⟩ := bcell hB1; have hB1s := hB1.size; (try simp at hB1s); (try have hB1q1 := Nat.lt_of_succ_le hB1s); (try have hB1q2 := Nat.lt_of_succ_lt hB1q1); (try have hB1q3 := Nat.lt_of_succ_lt hB1q2); (try have hB1zw0 : w.heap.size < w1.heap.size := (by omega)); (try have hB1zw1 : w.heap.size + 1 < w1.heap.size := (by omega)); (try have hB1zw2 : w.heap.size + 1 + 1 < w1.heap.size := (by omega)); (try have hB1zw3 : w.heap.size + 1 + 1 + 1 < w1.heap.size := (by omega)); (try have hB1zw4 : w.heap.size + 1 + 1 + 1 + 1 < w1.heap.size := (by omega)); (try have hB1zwO0 : wO.heap.size < w1.heap.size := (by omega)); (try have hB1zwO1 : wO.heap.size + 1 < w1.heap.size := (by omega)); (try have hB1zwO2 : wO.heap.size + 1 + 1 < w1.heap.size := (by omega)); (try have hB1zwO3 : wO.heap.size + 1 + 1 + 1 < w1.heap.size := (by omega)); (try have hB1zwO4 : wO.heap.size + 1 + 1 + 1 + 1 < w1.heap.size := (by omega)))
        have HV := Lib.hid (cb_out (col := col) (l1 := l1) (l2 := l2) (l3 := l3) hp (by simp [cbB, hd1, hd2, hd3]))
        go_wp2
        (refine bodyPost_ret (v := .tuple #[.slice none 0 0, .int .i64 (cbC p col l1 l2 l3)]) (by simp [results, Try.results25, go_sem, HV.out.2]) rfl (slicePost_nil HV.out.1 ?_))
        (repeat (first | with_reducible exact Below.refl _ _ | with_reducible exact hxO | with_reducible refine balloc ?_ _ | with_reducible refine bdrewN ?_ _ | with_reducible refine Below.drew ?_ | with_reducible refine bthen ?_ (by with_reducible assumption) | with_reducible refine Below.setCell ?_ (by first | (simp; done) | (simp; omega)) _))
      · have hd3q := nums3 (lineB_in hd3).2
        have hd3l := lead_ways (lineB_in hd3).1
        have c_1 : codeOf p (colB col && lineB p l1 l2 l3) = 0 := codeOf_in hp (by simp [hd2, hd3])
        have cT : codeOf p true = 0 := codeOf_in hp rfl
        go_wp2_with fail
        refine Calls.mono (spec3Lines1 _ _ _ _ _ _ _ (by first | rfl | (simp; done))) ?_
        rintro e w1 ⟨rfl, hB1⟩
        (obtain ⟨hB1c, hB1f⟩ := bcell hB1; have hB1s := hB1.size; (try simp at hB1s); (try have hB1q1 := Nat.lt_of_succ_le hB1s); (try have hB1q2 := Nat.lt_of_succ_lt hB1q1); (try have hB1q3 := Nat.lt_of_succ_lt hB1q2); (try have hB1zw0 : w.heap.size < w1.heap.size := (by omega)); (try have hB1zw1 : w.heap.size + 1 < w1.heap.size := (by omega)); (try have hB1zw2 : w.heap.size + 1 + 1 < w1.heap.size := (by omega)); (try have hB1zw3 : w.heap.size + 1 + 1 + 1 < w1.heap.size := (by omega)); (try have hB1zw4 : w.heap.size + 1 + 1 + 1 + 1 < w1.heap.size := (by omega)); (try have hB1zwO0 : wO.heap.size < w1.heap.size := (by omega)); (try have hB1zwO1 : wO.heap.size + 1 < w1.heap.size := (by omega)); (try have hB1zwO2 : wO.heap.size + 1 + 1 < w1.heap.size := (by omega)); (try have hB1zwO3 : wO.heap.size + 1 + 1 + 1 < w1.heap.size := (by omega)); (try have hB1zwO4 : wO.heap.size + 1 + 1 + 1 + 1 < w1.heap.size := (by omega)))
        go_wp2_with fail
        refine Calls.mono (specNull_any _ _ _ _ _ _ hp hc (by omega) (by omega)) ?_
        rintro e w2 ⟨rfl, hB2⟩
        (obtain ⟨hB2c, hB2f⟩ := bcell hB2; have hB2s := hB2.size; (try simp at hB2s); (try have hB2q1 := Nat.lt_of_succ_le hB2s); (try have hB2q2 := Nat.lt_of_succ_lt hB2q1); (try have hB2q3 := Nat.lt_of_succ_lt hB2q2); (try have hB2zw0 : w.heap.size < w2.heap.size := (by omega)); (try have hB2zw1 : w.heap.size + 1 < w2.heap.size := (by omega)); (try have hB2zw2 : w.heap.size + 1 + 1 < w2.heap.size := (by omega)); (try have hB2zw3 : w.heap.size + 1 + 1 + 1 < w2.heap.size := (by omega)); (try have hB2zw4 : w.heap.size + 1 + 1 + 1 + 1 < w2.heap.size := (by omega)); (try have hB2zw10 : w1.heap.size < w2.heap.size := (by omega)); (try have hB2zw11 : w1.heap.size + 1 < w2.heap.size := (by omega)); (try have hB2zw12 : w1.heap.size + 1 + 1 < w2.heap.size := (by omega)); (try have hB2zw13 : w1.heap.size + 1 + 1 + 1 < w2.heap.size := (by omega)); (try have hB2zw14 : w1.heap.size + 1 + 1 + 1 + 1 < w2.heap.size := (by omega)); (try have hB2zwO0 : wO.heap.size < w2.heap.size := (by omega)); (try have hB2zwO1 : wO.heap.size + 1 < w2.heap.size := (by omega)); (try have hB2zwO2 : wO.heap.size + 1 + 1 < w2.heap.size := (by omega)); (try have hB2zwO3 : wO.heap.size + 1 + 1 + 1 < w2.heap.size := (by omega)); (try have hB2zwO4 : wO.heap.size + 1 + 1 + 1 + 1 < w2.heap.size := (by omega)))
        rcases bool_ways (nullB p col l1 l2) with hd4 | hd4
        · skip
          have HB : cbB p col l1 l2 l3 = true := by simp [cbB, hd1, hd2, hd3, hd4]
          have HS : cbS p col l1 l2 l3 = 0 := by (simp only [cbS] <;> simp [hd1, hd2, hd3, hd4])
          have HV := Lib.hid (cb_good (col := col) (l1 := l1) (l2 := l2) (l3 := l3) hp HB HS)
          clear HB HS
          have rq := nums3 (lineB_in hd3).2
          have ka0 : w2.cell? ⟨w.heap.size, 0, none⟩ = some (.int .i64 l1) := by (first | with_reducible assumption | (repeat (first | with_reducible assumption | ((with_reducible refine kfresh ?_ ?_) <;> (first | with_reducible rfl | (simp; done))) | ((with_reducible refine ksameS ?_); focus ((repeat (first | with_reducible exact kis_of (by with_reducible assumption) | with_reducible refine kis_set ?_ | ((with_reducible refine kis_new ?_ ?_) <;> (first | with_reducible rfl | rfl | (simp; done))) | with_reducible refine kis_alloc _ ?_ | with_reducible refine kis_drew ?_ | with_reducible refine kis_call (by with_reducible assumption) ?_ | with_reducible exact kis_of (kcall (by with_reducible assumption) (by with_reducible assumption)))); done)) | with_reducible refine kother (by decide) ?_ | with_reducible refine kset (by first | omega | (simp; done) | (simp; omega)) ?_ | with_reducible refine kalloc _ ?_ | with_reducible refine kdrew ?_ | with_reducible refine kdrewN ?_ | with_reducible refine kcall (by with_reducible assumption) ?_)))
          have ka1 : w2.cell? ⟨w.heap.size, 1, none⟩ = some (.int .i64 l2) := by (first | with_reducible assumption | (repeat (first | with_reducible assumption | ((with_reducible refine kfresh ?_ ?_) <;> (first | with_reducible rfl | (simp; done))) | ((with_reducible refine ksameS ?_); focus ((repeat (first | with_reducible exact kis_of (by with_reducible assumption) | with_reducible refine kis_set ?_ | ((with_reducible refine kis_new ?_ ?_) <;> (first | with_reducible rfl | rfl | (simp; done))) | with_reducible refine kis_alloc _ ?_ | with_reducible refine kis_drew ?_ | with_reducible refine kis_call (by with_reducible assumption) ?_ | with_reducible exact kis_of (kcall (by with_reducible assumption) (by with_reducible assumption)))); done)) | with_reducible refine kother (by decide) ?_ | with_reducible refine kset (by first | omega | (simp; done) | (simp; omega)) ?_ | with_reducible refine kalloc _ ?_ | with_reducible refine kdrew ?_ | with_reducible refine kdrewN ?_ | with_reducible refine kcall (by with_reducible assumption) ?_)))
          have ka2 : w2.cell? ⟨w.heap.size, 2, none⟩ = some (.int .i64 l3) := by (first | with_reducible assumption | (repeat (first | with_reducible assumption | ((with_reducible refine kfresh ?_ ?_) <;> (first | with_reducible rfl | (simp; done))) | ((with_reducible refine ksameS ?_); focus ((repeat (first | with_reducible exact kis_of (by with_reducible assumption) | with_reducible refine kis_set ?_ | ((with_reducible refine kis_new ?_ ?_) <;> (first | with_reducible rfl | rfl | (simp; done))) | with_reducible refine kis_alloc _ ?_ | with_reducible refine kis_drew ?_ | with_reducible refine kis_call (by with_reducible assumption) ?_ | with_reducible exact kis_of (kcall (by with_reducible assumption) (by with_reducible assumption)))); done)) | with_reducible refine kother (by decide) ?_ | with_reducible refine kset (by first | omega | (simp; done) | (simp; omega)) ?_ | with_reducible refine kalloc _ ?_ | with_reducible refine kdrew ?_ | with_reducible refine kdrewN ?_ | with_reducible refine kcall (by with_reducible assumption) ?_)))
          have hW0 : Below w.heap.size w w2 := by (repeat (first | with_reducible exact Below.refl _ _ | with_reducible exact hxO | with_reducible refine balloc ?_ _ | with_reducible refine bdrewN ?_ _ | with_reducible refine Below.drew ?_ | with_reducible refine bthen ?_ (by with_reducible assumption) | with_reducible refine Below.setCell ?_ (by first | (simp; done) | (simp; omega)) _))
          have hl0 : w.heap.size < w2.heap.size := World.block_lt_of_cell? w2 ⟨w.heap.size, 0, none⟩ ka0
          obtain ⟨i0, hi, hz0, hz1, hz2⟩ := info_parts infoInt1
          have HV2 := Lib.hid (show cbL p col l1 l2 l3 = tab p.toNat (cbF p col l1 l2 (nnP p col 0 0)) ∧ cbC p col l1 l2 l3 = 0 from HV.out)
          clear HV
          have hgl := nnP_le col 0 0 hp
          have hall := fun w' => specLines3_any p col 0 0 w' hp hc (by omega) (by omega)
          have hgm := fun (z : Int × Int × Int) (hz : z ∈ nnP p col 0 0) => nnP_mem hp hz
          obtain ⟨m, hm⟩ : ∃ m, m = p.toNat := ⟨_, rfl⟩
          have hc0 : (m : Int) = p := by omega
          have hwM : IntKind.i64.wrap (m : Int) = (m : Int) := wrapI _ (by omega)
          have hwp : IntKind.i64.wrap p = p := wrapI _ (by omega)
          rw [← hm] at HV2
          have hm31 : m ≤ 31 := by omega
          have HKQ := Lib.hid (fun x y => by have h := sp_nat col l1 l2 x y hp; rw [← hm] at h; exact h : ∀ x y, ∃ k : Nat, spO p col l1 l2 x y = (k : Int) ∧ k < m)
          clear hm
          obtain ⟨ps, hps⟩ : ∃ ps : List (Int × Int × Int), ps = nnP p col 0 0 := ⟨_, rfl⟩
          rw [← hps] at hgl hall HV2 hgm
          clear hps
          have HALL := Lib.hid hall
          have HGM := Lib.hid hgm
          clear hall hgm
          have HM := Lib.hid hc0
          clear hc0
          go_upto_region 6 with fail
          go_cut [9, 10] (fun s7 s8 wx => ∃ az cz gm, s7 = .slice az ps.length cz ∧ s8 = .slice (some ⟨gm, 0, none⟩) m m ∧ (∀ gz, az = some ⟨gz, 0, none⟩ → gz ≠ gm) ∧ (0 < ps.length → ∃ gz, az = some ⟨gz, 0, none⟩) ∧ wx.ownsRow w2.heap.size 30 3 (.slice az ps.length cz) ps.length (ints (flat3 ps)) ∧ wx.ownsRow w2.heap.size 2 1 (.slice (some ⟨gm, 0, none⟩) m m) m (ints (tab m fun _ => 0)) ∧ Below w2.heap.size w2 wx)
          case first =>
            (refine wp_region_held_drew (S := (fun _ => True)) (by kernel_rfl) (by trivial) (fun hHeld => ?_))
            (refine wpAnyH_take (i := 0) (v := ?_) rfl (by kernel_rfl) (by kernel_rfl) (by kernel_rfl) (fun _ _ _ h => h) (Or.inl ⟨by rfl, ?_⟩) (by with_reducible assumption) ?_; rotate_left; (focus (intro wz hSw; (try dsimp only at hSw); go_simp; try with_reducible rfl)); try simp only [Act.put, List.getElem_toArray, List.getElem_cons_zero, List.getElem_cons_succ, List.setIfInBounds_toArray, List.set_cons_zero, List.set_cons_succ])
            (refine wpAnyH_take (i := 1) (v := ?_) rfl (by kernel_rfl) (by kernel_rfl) (by kernel_rfl) (fun _ _ _ h => h) (Or.inl ⟨by rfl, ?_⟩) (by with_reducible assumption) ?_; rotate_left; (focus (intro wz hSw; (try dsimp only at hSw); go_simp; try with_reducible rfl)); try simp only [Act.put, List.getElem_toArray, List.getElem_cons_zero, List.getElem_cons_succ, List.setIfInBounds_toArray, List.set_cons_zero, List.set_cons_succ])
            (refine wpAnyH_take (i := 2) (v := ?_) rfl (by kernel_rfl) (by kernel_rfl) (by kernel_rfl) (fun _ _ _ h => h) (Or.inl ⟨by rfl, ?_⟩) (by with_reducible assumption) ?_; rotate_left; (focus (intro wz hSw; (try dsimp only at hSw); go_simp; try with_reducible rfl)); try simp only [Act.put, List.getElem_toArray, List.getElem_cons_zero, List.getElem_cons_succ, List.setIfInBounds_toArray, List.set_cons_zero, List.set_cons_succ])
            (refine wpAnyH_take (i := 4) (v := ?_) rfl (by kernel_rfl) (by kernel_rfl) (by kernel_rfl) (fun _ _ _ h => h) (Or.inl ⟨by rfl, ?_⟩) (by with_reducible assumption) ?_; rotate_left; (focus (intro wz hSw; (try dsimp only at hSw); go_simp; try with_reducible rfl)); try simp only [Act.put, List.getElem_toArray, List.getElem_cons_zero, List.getElem_cons_succ, List.setIfInBounds_toArray, List.set_cons_zero, List.set_cons_succ])
            refine wpAnyH_ready (rs := [3, 5]) (by kernel_rfl) (by simp) ?_
            refine AllReadyH.cons rfl (fun K hK => ?_) (AllReadyH.cons rfl (fun K hK => ?_) AllReadyH.nil)
            · go_simp
              refine Calls.mono (HALL.out _) ?_
              rintro e wm1 ⟨v, rfl, ho, hB⟩
              obtain ⟨az, cz, rfl, _, hsh⟩ := own_shapeL ho
              refine hK.out _ _ trivial (fun hHeld => ?_)
              clear hK K
              try simp only [Act.put, List.getElem_toArray, List.getElem_cons_zero, List.getElem_cons_succ, List.setIfInBounds_toArray, List.set_cons_zero, List.set_cons_succ]
              have hs1 := hB.size
              have hs1' : w2.heap.size ≤ wm1.heap.size := hs1
              (refine wpAnyH_take (i := 6) (v := ?_) rfl (by kernel_rfl) (by kernel_rfl) (by kernel_rfl) (fun _ _ _ h => h) (Or.inl ⟨by rfl, ?_⟩) (by with_reducible assumption) ?_; rotate_left; (focus (intro wz hSw; (try dsimp only at hSw); go_simp; try with_reducible rfl)); try simp only [Act.put, List.getElem_toArray, List.getElem_cons_zero, List.getElem_cons_succ, List.setIfInBounds_toArray, List.set_cons_zero, List.set_cons_succ])
              refine wpAnyH_ready (rs := [5]) (by kernel_rfl) (by simp) ?_
              refine AllReadyH.cons rfl (fun K hK => ?_) AllReadyH.nil
              refine step_makeQ rfl _ _ 50 rfl w2.heap.size 2 i0 (.int .i64 0) 1 Try.underlying50 hi hz0 hz1 .i64 .i64 m ?e1 ?e2 (by rw [hz2]; omega) (by unfold maxLen; omega) hs1' ?_
              case e1 => have := HM.out; simp [Act.eval, this]
              case e2 => have := HM.out; simp [Act.eval, this]
              intro wm2 ho2 hgr2
              refine hK.out _ _ trivial (fun hHeld => ?_)
              clear hK K
              try simp only [Act.put, List.getElem_toArray, List.getElem_cons_zero, List.getElem_cons_succ, List.setIfInBounds_toArray, List.set_cons_zero, List.set_cons_succ]
              have hb1 : Below w2.heap.size w2 wm1 := by first | exact bthen (Below.drew (Below.refl _ _)) hB | (repeat (first | with_reducible exact Below.refl _ _ | with_reducible exact hB | with_reducible refine balloc ?_ _ | with_reducible refine bdrewN ?_ _ | with_reducible refine Below.drew ?_ | with_reducible refine bthen ?_ (by with_reducible assumption) | with_reducible refine Below.setCell ?_ (by first | (simp; done) | (simp; omega)) _))
              have hb2 : Below w2.heap.size w2 wm2 := hb1.grown hgr2 hs1' (fun g hg => by cases hg)
              have hnz : ∀ gz, az = some ⟨gz, 0, none⟩ → gz ≠ wm1.heap.size := fun gz e => by have := (ho.lt gz (by rw [e]; rfl)).2; omega
              have ho3 := own_base (ho.kept hgr2 (by cases az <;> simp [Value.ownBlock])) (show w2.heap.size ≤ _ from Nat.le_refl _)
              (refine wpAnyH_take (i := 7) (v := ?_) rfl (by kernel_rfl) (by kernel_rfl) (by kernel_rfl) (fun _ _ _ h => h) (Or.inl ⟨by rfl, ?_⟩) (by with_reducible assumption) ?_; rotate_left; (focus (intro wz hSw; (try dsimp only at hSw); go_simp; try with_reducible rfl)); try simp only [Act.put, List.getElem_toArray, List.getElem_cons_zero, List.getElem_cons_succ, List.setIfInBounds_toArray, List.set_cons_zero, List.set_cons_succ])
              refine wpAnyH_done (by kernel_rfl) ?_ _
              rw [show (madeCells (Value.int .i64 0).cells (m * 1)).toList = ints (tab m fun _ => 0) from by rw [Nat.mul_one]; exact made_tabQ m] at ho2
              go_wp2_with fail
              go_meet
              exact ⟨_, _, _, rfl, rfl, hnz, fun h => by obtain ⟨g, h1, _⟩ := hsh h; exact ⟨g, h1⟩, ho3, ho2, hb2⟩
            · refine step_makeQ rfl _ _ 50 rfl w2.heap.size 2 i0 (.int .i64 0) 1 Try.underlying50 hi hz0 hz1 .i64 .i64 m ?e1 ?e2 (by rw [hz2]; omega) (by unfold maxLen; omega) (Nat.le_refl _) ?_
              case e1 => have := HM.out; simp [Act.eval, this]
              case e2 => have := HM.out; simp [Act.eval, this]
              intro wm1 ho2 hgr2
              refine hK.out _ _ trivial (fun hHeld => ?_)
              clear hK K
              try simp only [Act.put, List.getElem_toArray, List.getElem_cons_zero, List.getElem_cons_succ, List.setIfInBounds_toArray, List.set_cons_zero, List.set_cons_succ]
              have hb1 : Below w2.heap.size w2 wm1 := Below.grown (w := w2.drew) (Below.drew (Below.refl _ _)) hgr2 (Nat.le_refl _) (fun g hg => by cases hg)
              have hl1 : w2.heap.size < wm1.heap.size := (ho2.lt _ rfl).2
              have hs1 := hb1.size
              refine wpAnyH_ready (rs := [3]) (by kernel_rfl) (by simp) ?_
              refine AllReadyH.cons rfl (fun K hK => ?_) AllReadyH.nil
              go_simp
              refine Calls.mono (HALL.out _) ?_
              rintro e wm2 ⟨v, rfl, ho, hB⟩
              obtain ⟨az, cz, rfl, _, hsh⟩ := own_shapeL ho
              refine hK.out _ _ trivial (fun hHeld => ?_)
              clear hK K
              try simp only [Act.put, List.getElem_toArray, List.getElem_cons_zero, List.getElem_cons_succ, List.setIfInBounds_toArray, List.set_cons_zero, List.set_cons_succ]
              have hb2 : Below w2.heap.size w2 wm2 := hb1.trans (hB.mono hs1)
              have ho4 := own_call ho2 hB
              have hnz : ∀ gz, az = some ⟨gz, 0, none⟩ → gz ≠ w2.heap.size := fun gz e => by have := (ho.lt gz (by rw [e]; rfl)).1; omega
              have ho3 := own_base ho (show w2.heap.size ≤ _ from hs1)
              (refine wpAnyH_take (i := 6) (v := ?_) rfl (by kernel_rfl) (by kernel_rfl) (by kernel_rfl) (fun _ _ _ h => h) (Or.inl ⟨by rfl, ?_⟩) (by with_reducible assumption) ?_; rotate_left; (focus (intro wz hSw; (try dsimp only at hSw); go_simp; try with_reducible rfl)); try simp only [Act.put, List.getElem_toArray, List.getElem_cons_zero, List.getElem_cons_succ, List.setIfInBounds_toArray, List.set_cons_zero, List.set_cons_succ])
              (refine wpAnyH_take (i := 7) (v := ?_) rfl (by kernel_rfl) (by kernel_rfl) (by kernel_rfl) (fun _ _ _ h => h) (Or.inl ⟨by rfl, ?_⟩) (by with_reducible assumption) ?_; rotate_left; (focus (intro wz hSw; (try dsimp only at hSw); go_simp; try with_reducible rfl)); try simp only [Act.put, List.getElem_toArray, List.getElem_cons_zero, List.getElem_cons_succ, List.setIfInBounds_toArray, List.set_cons_zero, List.set_cons_succ])
              refine wpAnyH_done (by kernel_rfl) ?_ _
              rw [show (madeCells (Value.int .i64 0).cells (m * 1)).toList = ints (tab m fun _ => 0) from by rw [Nat.mul_one]; exact made_tabQ m] at ho4
              go_wp2_with fail
              go_meet
              exact ⟨_, _, _, rfl, rfl, hnz, fun h => by obtain ⟨g, h1, _⟩ := hsh h; exact ⟨g, h1⟩, ho3, ho4, hb2⟩
          case' rest => obtain ⟨az, cz, gm, rfl, rfl, hnz, hsz0, hoz, hom, hbz⟩ := hcut
          obtain ⟨wz, rfl⟩ : ∃ wz : World, wz = wc := ⟨_, rfl⟩
          have hgm := hom.lt gm rfl
          have hsz := hbz.size
          have hne1 : w.heap.size ≠ gm := by omega
          have HNZ := Lib.hid hnz
          have HSZ := Lib.hid hsz0
          clear hnz hsz0
          have kz0 := (cell_back hbz hl0 0).trans ka0
          have kz1 := (cell_back hbz hl0 1).trans ka1
          have kz2 := (cell_back hbz hl0 2).trans ka2
          rw [show (tab m fun _ => (0 : Int)) = tab m (cbF p col l1 l2 (ps.take 0)) from tab_congr fun i _ => (cb_nil _ _ _ _ _).symm] at hom
          have HOZ := Lib.hid hoz
          clear hoz
          go_wp2_with fail
          go_loopw [11] (fun i wr => ∃ j : Nat, j ≤ ps.length ∧ i = .int .i64 j ∧ wr.ownsRow w2.heap.size 2 1 (.slice (some ⟨gm, 0, none⟩) m m) m (ints (tab m (cbF p col l1 l2 (ps.take j)))) ∧ Apart gm wz wr) (fun i _ => ps.length - (intOf i).toNat)
          case atStart => exact ⟨0, by omega, rfl, hom, Apart.refl _ _⟩
          case round =>
            obtain ⟨j, hj, rfl, hown, hap⟩ := hrel
            clear hom
            by_cases hlt : j < ps.length
            · obtain ⟨gz, rfl⟩ := HSZ.out (by omega)
              have hne := HNZ.out gz rfl
              have hoz := HOZ.out
              have hget := flat3_at ps j hlt
              have hmem := HGM.out ps[j] (List.getElem_mem hlt)
              have c0 := hap.cell hne ((own_cell hoz (j := j * 3) (by omega)).trans (by rw [hget.1]))
              have c1 := hap.cell hne ((own_cell hoz (j := j * 3 + 1) (by omega)).trans (by rw [hget.2.1]))
              have c2 := hap.cell hne ((own_cell hoz (j := j * 3 + 2) (by omega)).trans (by rw [hget.2.2]))
              clear hget hoz
              have kk0 := hap.cell hne1 kz0
              have kk1 := hap.cell hne1 kz1
              have kk2 := hap.cell hne1 kz2
              have hT := List.take_succ_eq_append_getElem hlt
              obtain ⟨x, hx⟩ : ∃ x, x = ps[j] := ⟨_, rfl⟩
              rw [← hx] at c0 c1 c2 hmem hT
              clear hx
              obtain ⟨x1, x2, x3⟩ := x
              simp only at c0 c1 c2 hmem
              obtain ⟨k, hkq, hkm⟩ := HKQ.out x1 x2
              have hct := cb_count (p := p) (c := col) (l1 := l1) (l2 := l2) (x := (x1, x2, x3)) (ps.take j) (k := k) hkq
              have hcall := fun w' => (show Calls Try.prog 55 #[.int .i64 p, .int .i64 col, .agg #[.int .i64 l1, .int .i64 l2, .int .i64 l3], .agg #[.int .i64 x1, .int .i64 x2, .int .i64 x3]] w' fun e w'' => e = .returned (.int .i64 (spO p col l1 l2 x1 x2)) ∧ Below w'.heap.size w' w'' from specSpread_any p col l1 l2 l3 x1 x2 x3 w' hp hc (by omega) (by omega) (by omega) (by omega))
              rw [hkq] at hcall
              clear hkq
              have HC2 := Lib.hid hcall
              clear hcall
              have hfr := cb_r p col l1 l2 (ps.take j) k
              have hlt2 : (ps.take j).length ≤ ps.length := by rw [List.length_take]; omega
              have hsr := hap.size
              have hjn : (j : Int) < (ps.length : Int) := by omega
              have hgmr : gm < wr.heap.size := by omega
              have HT := Lib.hid hT
              have HCT := Lib.hid hct
              clear hT hct
              have q0 : ∀ W : World, Apart gm wr W → W.cell? ⟨w.heap.size, 0, none⟩ = some (.int .i64 l1) := fun W h => h.cell hne1 kk0
              have q1 : ∀ W : World, Apart gm wr W → W.cell? ⟨w.heap.size, 1, none⟩ = some (.int .i64 l2) := fun W h => h.cell hne1 kk1
              have q2 : ∀ W : World, Apart gm wr W → W.cell? ⟨w.heap.size, 2, none⟩ = some (.int .i64 l3) := fun W h => h.cell hne1 kk2
              have qd0 : ∀ W : World, Apart gm wr W → W.cell? ⟨gz, j * 3, none⟩ = some (.int .i64 x1) := fun W h => h.cell hne c0
              have qd1 : ∀ W : World, Apart gm wr W → W.cell? ⟨gz, j * 3 + 1, none⟩ = some (.int .i64 x2) := fun W h => h.cell hne c1
              have qd2 : ∀ W : World, Apart gm wr W → W.cell? ⟨gz, j * 3 + 2, none⟩ = some (.int .i64 x3) := fun W h => h.cell hne c2
              obtain ⟨z, hz⟩ : ∃ z, z = cbF p col l1 l2 (ps.take j) k := ⟨_, rfl⟩
              rw [← hz] at hfr
              have HZ := Lib.hid hz
              clear hz
              have hwz : IntKind.i64.wrap (z + 1) = z + 1 := wrapI _ (by omega)
              have hia : (0 : Int) ≤ (k : Int) ∧ (k : Int) < (m : Int) := by omega
              go_upto_region 10 with fail
              (refine wp_region_held_drew (S := (fun W => Apart gm wr W)) (by kernel_rfl) (by exact Apart.drew (Apart.refl _ _)) (fun hHeld => ?_))
              (refine wpAnyH_take (i := 0) (v := ?_) rfl (by kernel_rfl) (by kernel_rfl) (by kernel_rfl) (fun _ _ _ h => h) (Or.inl ⟨by rfl, ?_⟩) (by with_reducible assumption) ?_; rotate_left; (focus (intro wz hSw; (try dsimp only at hSw); go_simp; try with_reducible rfl)); try simp only [Act.put, List.getElem_toArray, List.getElem_cons_zero, List.getElem_cons_succ, List.setIfInBounds_toArray, List.set_cons_zero, List.set_cons_succ])
              (refine wpAnyH_take (i := 1) (v := ?_) rfl (by kernel_rfl) (by kernel_rfl) (by kernel_rfl) (fun _ _ _ h => h) (Or.inl ⟨by rfl, ?_⟩) (by with_reducible assumption) ?_; rotate_left; (focus (intro wz hSw; (try dsimp only at hSw); go_simp; try with_reducible rfl)); try simp only [Act.put, List.getElem_toArray, List.getElem_cons_zero, List.getElem_cons_succ, List.setIfInBounds_toArray, List.set_cons_zero, List.set_cons_succ])
              (refine wpAnyH_take (i := 2) (v := ?_) rfl (by kernel_rfl) (by kernel_rfl) (by kernel_rfl) (fun _ _ _ h => h) (Or.inl ⟨by rfl, ?_⟩) (by with_reducible assumption) ?_; rotate_left; (focus (intro wz hSw; (try dsimp only at hSw); go_simp; try with_reducible rfl)); try simp only [Act.put, List.getElem_toArray, List.getElem_cons_zero, List.getElem_cons_succ, List.setIfInBounds_toArray, List.set_cons_zero, List.set_cons_succ])
              (refine wpAnyH_take (i := 3) (v := ?_) rfl (by kernel_rfl) (by kernel_rfl) (by kernel_rfl) (fun _ _ _ h => h) (Or.inl ⟨by rfl, ?_⟩) (by with_reducible assumption) ?_; rotate_left; (focus (intro wz hSw; (try dsimp only at hSw); go_simp; try with_reducible rfl)); try simp only [Act.put, List.getElem_toArray, List.getElem_cons_zero, List.getElem_cons_succ, List.setIfInBounds_toArray, List.set_cons_zero, List.set_cons_succ])
              (refine wpAnyH_take (i := 4) (v := ?_) rfl (by kernel_rfl) (by kernel_rfl) (by kernel_rfl) (fun _ _ _ h => h) (Or.inl ⟨by rfl, ?_⟩) (by with_reducible assumption) ?_; rotate_left; (focus (intro wz hSw; (try dsimp only at hSw); go_simp; try with_reducible rfl)); try simp only [Act.put, List.getElem_toArray, List.getElem_cons_zero, List.getElem_cons_succ, List.setIfInBounds_toArray, List.set_cons_zero, List.set_cons_succ])
              (refine wpAnyH_take (i := 5) (v := ?_) rfl (by kernel_rfl) (by kernel_rfl) (by kernel_rfl) (fun _ _ _ h => h) (Or.inl ⟨by rfl, ?_⟩) (by with_reducible assumption) ?_; rotate_left; (focus (intro wz hSw; (try dsimp only at hSw); go_simp; try with_reducible rfl)); try simp only [Act.put, List.getElem_toArray, List.getElem_cons_zero, List.getElem_cons_succ, List.setIfInBounds_toArray, List.set_cons_zero, List.set_cons_succ])
              (refine wpAnyH_take (i := 6) (v := ?_) rfl (by kernel_rfl) (by kernel_rfl) (by kernel_rfl) (fun _ _ _ h => h) (Or.inl ⟨by rfl, ?_⟩) (by with_reducible assumption) ?_; rotate_left; (focus (intro wz hSw; (try dsimp only at hSw); go_simp; try with_reducible rfl)); try simp only [Act.put, List.getElem_toArray, List.getElem_cons_zero, List.getElem_cons_succ, List.setIfInBounds_toArray, List.set_cons_zero, List.set_cons_succ])
              (refine wpAnyH_take (i := 7) (v := ?_) rfl (by kernel_rfl) (by kernel_rfl) (by kernel_rfl) (fun _ _ _ h => h) (Or.inl ⟨by rfl, ?_⟩) (by with_reducible assumption) ?_; rotate_left; (focus (intro wz hSw; (try dsimp only at hSw); go_simp; try with_reducible rfl)); try simp only [Act.put, List.getElem_toArray, List.getElem_cons_zero, List.getElem_cons_succ, List.setIfInBounds_toArray, List.set_cons_zero, List.set_cons_succ])
              (refine wpAnyH_ready (rs := [8]) (by kernel_rfl) (by simp) ?_; refine AllReadyH.cons rfl (fun K hK => ?_) AllReadyH.nil; (go_simp; refine Calls.mono (HC2.out _) ?_; rintro e wy ⟨rfl, hB⟩); refine hK.out _ _ (by first | exact Apart.call hHeld hB | exact Apart.call (Apart.undrew hHeld) hB) (fun hHeld => ?_); clear hK K; try simp only [Act.put, List.setIfInBounds_toArray, List.set_cons_zero, List.set_cons_succ])
              have hoy := own_call (show wr.drew.ownsRow _ 2 1 _ _ _ from hown) hB
              have rb : wy.cell? ⟨gm, k, none⟩ = some (.int .i64 z) := by rw [own_cell hoy (j := k) (by omega), tab_getD _ hkm, ← HZ.out]
              have rf := hoy.frozenAt k
              (refine wpAnyH_take (i := 9) (v := ?_) rfl (by kernel_rfl) (by kernel_rfl) (by kernel_rfl) (fun _ _ _ h => h) (Or.inl ⟨by rfl, ?_⟩) (by with_reducible assumption) ?_; rotate_left; (focus (intro wz hSw; (try dsimp only at hSw); go_simp; try with_reducible rfl)); try simp only [Act.put, List.getElem_toArray, List.getElem_cons_zero, List.getElem_cons_succ, List.setIfInBounds_toArray, List.set_cons_zero, List.set_cons_succ])
              (refine wpAnyH_ready (rs := [10]) (by kernel_rfl) (by simp) ?_; refine AllReadyH.cons rfl (fun K hK => ?_) AllReadyH.nil; (go_simp); refine hK.out _ _ (by first | with_reducible assumption | exact hHeld) (fun hHeld => ?_); clear hK K; try simp only [Act.put, List.setIfInBounds_toArray, List.set_cons_zero, List.set_cons_succ])
              (refine wpAnyH_take (i := 11) (v := ?_) rfl (by kernel_rfl) (by kernel_rfl) (by kernel_rfl) (fun _ _ _ h => h) (Or.inl ⟨by rfl, ?_⟩) (by with_reducible assumption) ?_; rotate_left; (focus (intro wz hSw; (try dsimp only at hSw); go_simp; try with_reducible rfl)); try simp only [Act.put, List.getElem_toArray, List.getElem_cons_zero, List.getElem_cons_succ, List.setIfInBounds_toArray, List.set_cons_zero, List.set_cons_succ])
              (refine wpAnyH_take (i := 12) (v := ?_) rfl (by kernel_rfl) (by kernel_rfl) (by kernel_rfl) (fun _ _ _ h => h) (Or.inl ⟨by rfl, ?_⟩) (by with_reducible assumption) ?_; rotate_left; (focus (intro wz hSw; (try dsimp only at hSw); go_simp; try with_reducible rfl)); try simp only [Act.put, List.getElem_toArray, List.getElem_cons_zero, List.getElem_cons_succ, List.setIfInBounds_toArray, List.set_cons_zero, List.set_cons_succ])
              (refine wpAnyH_ready (rs := [13]) (by kernel_rfl) (by simp) ?_; refine AllReadyH.cons rfl (fun K hK => ?_) AllReadyH.nil; (go_simp); refine hK.out _ _ (by exact Apart.set hHeld _ _) (fun hHeld => ?_); clear hK K; try simp only [Act.put, List.setIfInBounds_toArray, List.set_cons_zero, List.set_cons_succ])
              have hap2 := hHeld
              refine wpAnyH_done (by kernel_rfl) ?_ _
              have hst := (hoy.stored k (.int .i64 (z + 1))).1
              rw [tab_step (g := cbF p col l1 l2 (ps.take (j + 1))) (fun i _ => by rw [HT.out, HCT.out i, HZ.out])] at hst
              have HO := Lib.hid hst
              have hap3 : Apart gm wz _ := ⟨hap2.os.trans hap.os, hap2.tape.trans hap.tape, hap2.output.trans hap.output, Nat.le_trans hap.size hap2.size, fun i h1 h2 => (hap2.block i (Nat.lt_of_lt_of_le h1 hap.size) h2).trans (hap.block i h1 h2)⟩
              have HAP := Lib.hid hap3
              clear hst hap2 hap3 hHeld hoy hown hap
              go_wp2
              go_roundw
              case rel => exact ⟨j + 1, by omega, by go_num, HO.out, HAP.out⟩
              case measure => simp [intOf]; omega
            · have ej : j = ps.length := by omega
              subst ej
              rw [List.take_length] at hown
              have HO := Lib.hid hown
              have hBw : Below w.heap.size w wr := Apart.below (hW0.trans (hbz.mono hW0.size)) (by have := hW0.size; omega) hap
              clear hown
              go_wp2
              (refine bodyPost_ret (v := .tuple #[.slice (some ⟨gm, 0, none⟩) m m, .int .i64 (cbC p col l1 l2 l3)]) (by simp [results, Try.results25, go_sem, HV2.out.2]) rfl (slicePost_mk (by rw [HV2.out.1]; exact own_base HO.out hW0.size) hBw))
        · skip
          have HB : cbB p col l1 l2 l3 = true := by simp [cbB, hd1, hd2, hd3, hd4]
          have HS : cbS p col l1 l2 l3 = 5 := by (simp only [cbS] <;> simp [hd1, hd2, hd3, hd4])
          have HV := Lib.hid (cb_st (col := col) (l1 := l1) (l2 := l2) (l3 := l3) hp HB HS (by decide))
          clear HB HS
          go_wp2
          (refine bodyPost_ret (v := .tuple #[.slice none 0 0, .int .i64 (cbC p col l1 l2 l3)]) (by simp [results, Try.results25, go_sem, HV.out.2]) rfl (slicePost_nil HV.out.1 ?_))
          (repeat (first | with_reducible exact Below.refl _ _ | with_reducible exact hxO | with_reducible refine balloc ?_ _ | with_reducible refine bdrewN ?_ _ | with_reducible refine Below.drew ?_ | with_reducible refine bthen ?_ (by with_reducible assumption) | with_reducible refine Below.setCell ?_ (by first | (simp; done) | (simp; omega)) _))

end Go.Proofs.Ytmpgpmcmhbpjeaa
