/-
  LinesWithSpread: the model's.
-/
import Derived.Test.YtmpgpmcmhbpjeaaMgc0
import Derived.Test.YtmpgpmcmhbpjeaaSpec3Linsc
import Derived.Test.YtmpgpmcmhbpjeaaSpecPtsc
import Derived.Test.YtmpgpmcmhbpjeaaSpecNumsc
import Derived.Test.YtmpgpmcmhbpjeaaCodec
import Derived.Deep.RegionHeld3
import Derived.Deep.DeepCutAuto

namespace Go.Proofs.Ytmpgpmcmhbpjeaa
open Go.RowKit

set_option linter.unusedVariables false in
def lwB (p col l1 l2 l3 a1 a2 s : Int) : Bool := colB col && (lineB p l1 l2 l3 && (numsIn p [a1, a2] && numsIn p [s]))
set_option linter.unusedVariables false in
def lwS (p col l1 l2 l3 a1 a2 s : Int) : Int := if nullB p col l1 l2 = true then 5 else 0
set_option linter.unusedVariables false in
def lwC (p col l1 l2 l3 a1 a2 s : Int) : Int := if isP p = true then (if lwB p col l1 l2 l3 a1 a2 s = true then lwS p col l1 l2 l3 a1 a2 s else 2) else 1
set_option linter.unusedVariables false in
def lwL (p col l1 l2 l3 a1 a2 s : Int) : List Int := if lwC p col l1 l2 l3 a1 a2 s = 0 then flat3 (lwT p col l1 l2 a1 a2 s) else []
theorem lw_zero {p col l1 l2 l3 a1 a2 s k : Int} (h : lwC p col l1 l2 l3 a1 a2 s = k) (hk : k ≠ 0) : lwL p col l1 l2 l3 a1 a2 s = [] ∧ lwC p col l1 l2 l3 a1 a2 s = k := ⟨if_neg fun e => hk (h.symm.trans e), h⟩
theorem lw_no {p col l1 l2 l3 a1 a2 s : Int} (h : isP p = false) : lwL p col l1 l2 l3 a1 a2 s = [] ∧ lwC p col l1 l2 l3 a1 a2 s = 1 := lw_zero (by simp [lwC, h]) (by decide)
theorem lw_out {p col l1 l2 l3 a1 a2 s : Int} (hp : isP p = true) (h : lwB p col l1 l2 l3 a1 a2 s = false) : lwL p col l1 l2 l3 a1 a2 s = [] ∧ lwC p col l1 l2 l3 a1 a2 s = 2 := lw_zero (by simp [lwC, hp, h]) (by decide)
theorem lw_st {p col l1 l2 l3 a1 a2 s k : Int} (hp : isP p = true) (h : lwB p col l1 l2 l3 a1 a2 s = true) (hs : lwS p col l1 l2 l3 a1 a2 s = k) (hk : k ≠ 0) : lwL p col l1 l2 l3 a1 a2 s = [] ∧ lwC p col l1 l2 l3 a1 a2 s = k := lw_zero (by simp [lwC, hp, h, hs]) hk
theorem lw_good {p col l1 l2 l3 a1 a2 s : Int} (hp : isP p = true) (h : lwB p col l1 l2 l3 a1 a2 s = true) (hs : lwS p col l1 l2 l3 a1 a2 s = 0) : lwL p col l1 l2 l3 a1 a2 s = flat3 (lwT p col l1 l2 a1 a2 s) ∧ lwC p col l1 l2 l3 a1 a2 s = 0 := by
  have h' : lwC p col l1 l2 l3 a1 a2 s = 0 := by simp [lwC, hp, h, hs]
  exact ⟨if_pos h', h'⟩

set_option linter.unusedVariables false in
set_option linter.unusedSimpArgs false in
set_option maxRecDepth 20000 in
set_option maxHeartbeats 4000000 in
theorem specLinesWithSpread_any (p col l1 l2 l3 a1 a2 s : Int)  (w : World) :
    Calls Try.prog 19 #[.int .i64 p, .int .i64 col, .agg #[.int .i64 l1, .int .i64 l2, .int .i64 l3], .agg #[.int .i64 a1, .int .i64 a2], .int .i64 s] w fun e w' =>
      SlicePost 30 3 (lwL p col l1 l2 l3 a1 a2 s) (lwC p col l1 l2 l3 a1 a2 s) w e w' := by
  go_enter Try.func19, Try.ntmps19
  go_upto_region 0 with fail
  go_cut [7, 8, 10, 11] (fun s7 s8 s10 s11 wx => s7 = .pointer (some ⟨w.heap.size, 0, none⟩) ∧ s8 = .pointer (some ⟨w.heap.size + 1, 0, none⟩) ∧ s10 = .slice none 0 0 ∧ s11 = .int .i64 0 ∧ wx.cell? ⟨w.heap.size, 0, none⟩ = some (.int .i64 l1) ∧ wx.cell? ⟨w.heap.size, 1, none⟩ = some (.int .i64 l2) ∧ wx.cell? ⟨w.heap.size, 2, none⟩ = some (.int .i64 l3) ∧ wx.cell? ⟨w.heap.size + 1, 0, none⟩ = some (.int .i64 a1) ∧ wx.cell? ⟨w.heap.size + 1, 1, none⟩ = some (.int .i64 a2) ∧ wx.frozen? ⟨w.heap.size, 0, none⟩ = false ∧ wx.frozen? ⟨w.heap.size, 1, none⟩ = false ∧ wx.frozen? ⟨w.heap.size, 2, none⟩ = false ∧ wx.frozen? ⟨w.heap.size + 1, 0, none⟩ = false ∧ wx.frozen? ⟨w.heap.size + 1, 1, none⟩ = false ∧ Below w.heap.size w wx ∧ w.heap.size + 1 + 1 ≤ wx.heap.size)
  case first =>
    go_wp2
    go_meet
    refine ⟨rfl, rfl, rfl, rfl, ?_, ?_, ?_, ?_, ?_, ?_, ?_, ?_, ?_, ?_, ?_, ?_⟩
    · (repeat (first | with_reducible assumption | ((with_reducible refine kfresh ?_ ?_) <;> (first | with_reducible rfl | (simp; done))) | ((with_reducible refine ksameS ?_); focus ((repeat (first | with_reducible exact kis_of (by with_reducible assumption) | with_reducible refine kis_set ?_ | ((with_reducible refine kis_new ?_ ?_) <;> (first | with_reducible rfl | rfl | (simp; done))) | with_reducible refine kis_alloc _ ?_ | with_reducible refine kis_drew ?_ | with_reducible refine kis_call (by with_reducible assumption) ?_ | with_reducible exact kis_of (kcall (by with_reducible assumption) (by with_reducible assumption)))); done)) | with_reducible refine kother (by decide) ?_ | with_reducible refine kset (by first | omega | (simp; done) | (simp; omega)) ?_ | with_reducible refine kalloc _ ?_ | with_reducible refine kdrew ?_ | with_reducible refine kdrewN ?_ | with_reducible refine kcall (by with_reducible assumption) ?_))
    · (repeat (first | with_reducible assumption | ((with_reducible refine kfresh ?_ ?_) <;> (first | with_reducible rfl | (simp; done))) | ((with_reducible refine ksameS ?_); focus ((repeat (first | with_reducible exact kis_of (by with_reducible assumption) | with_reducible refine kis_set ?_ | ((with_reducible refine kis_new ?_ ?_) <;> (first | with_reducible rfl | rfl | (simp; done))) | with_reducible refine kis_alloc _ ?_ | with_reducible refine kis_drew ?_ | with_reducible refine kis_call (by with_reducible assumption) ?_ | with_reducible exact kis_of (kcall (by with_reducible assumption) (by with_reducible assumption)))); done)) | with_reducible refine kother (by decide) ?_ | with_reducible refine kset (by first | omega | (simp; done) | (simp; omega)) ?_ | with_reducible refine kalloc _ ?_ | with_reducible refine kdrew ?_ | with_reducible refine kdrewN ?_ | with_reducible refine kcall (by with_reducible assumption) ?_))
    · (repeat (first | with_reducible assumption | ((with_reducible refine kfresh ?_ ?_) <;> (first | with_reducible rfl | (simp; done))) | ((with_reducible refine ksameS ?_); focus ((repeat (first | with_reducible exact kis_of (by with_reducible assumption) | with_reducible refine kis_set ?_ | ((with_reducible refine kis_new ?_ ?_) <;> (first | with_reducible rfl | rfl | (simp; done))) | with_reducible refine kis_alloc _ ?_ | with_reducible refine kis_drew ?_ | with_reducible refine kis_call (by with_reducible assumption) ?_ | with_reducible exact kis_of (kcall (by with_reducible assumption) (by with_reducible assumption)))); done)) | with_reducible refine kother (by decide) ?_ | with_reducible refine kset (by first | omega | (simp; done) | (simp; omega)) ?_ | with_reducible refine kalloc _ ?_ | with_reducible refine kdrew ?_ | with_reducible refine kdrewN ?_ | with_reducible refine kcall (by with_reducible assumption) ?_))
    · (repeat (first | with_reducible assumption | ((with_reducible refine kfresh ?_ ?_) <;> (first | with_reducible rfl | (simp; done))) | ((with_reducible refine ksameS ?_); focus ((repeat (first | with_reducible exact kis_of (by with_reducible assumption) | with_reducible refine kis_set ?_ | ((with_reducible refine kis_new ?_ ?_) <;> (first | with_reducible rfl | rfl | (simp; done))) | with_reducible refine kis_alloc _ ?_ | with_reducible refine kis_drew ?_ | with_reducible refine kis_call (by with_reducible assumption) ?_ | with_reducible exact kis_of (kcall (by with_reducible assumption) (by with_reducible assumption)))); done)) | with_reducible refine kother (by decide) ?_ | with_reducible refine kset (by first | omega | (simp; done) | (simp; omega)) ?_ | with_reducible refine kalloc _ ?_ | with_reducible refine kdrew ?_ | with_reducible refine kdrewN ?_ | with_reducible refine kcall (by with_reducible assumption) ?_))
    · (repeat (first | with_reducible assumption | ((with_reducible refine kfresh ?_ ?_) <;> (first | with_reducible rfl | (simp; done))) | ((with_reducible refine ksameS ?_); focus ((repeat (first | with_reducible exact kis_of (by with_reducible assumption) | with_reducible refine kis_set ?_ | ((with_reducible refine kis_new ?_ ?_) <;> (first | with_reducible rfl | rfl | (simp; done))) | with_reducible refine kis_alloc _ ?_ | with_reducible refine kis_drew ?_ | with_reducible refine kis_call (by with_reducible assumption) ?_ | with_reducible exact kis_of (kcall (by with_reducible assumption) (by with_reducible assumption)))); done)) | with_reducible refine kother (by decide) ?_ | with_reducible refine kset (by first | omega | (simp; done) | (simp; omega)) ?_ | with_reducible refine kalloc _ ?_ | with_reducible refine kdrew ?_ | with_reducible refine kdrewN ?_ | with_reducible refine kcall (by with_reducible assumption) ?_))
    · (repeat (first | with_reducible assumption | with_reducible refine fdrew ?_ | with_reducible refine fdrewN ?_ | with_reducible refine fset ?_ | ((with_reducible refine fallocNew ?_) <;> (first | with_reducible rfl | (simp; done))) | ((with_reducible refine kfro (by with_reducible assumption) ?_ ?_); focus (first | with_reducible assumption | omega | (simp; done) | (simp; omega))) | ((with_reducible refine falloc ?_ ?_); focus (first | with_reducible assumption | omega | (simp; done) | (simp; omega)))))
    · (repeat (first | with_reducible assumption | with_reducible refine fdrew ?_ | with_reducible refine fdrewN ?_ | with_reducible refine fset ?_ | ((with_reducible refine fallocNew ?_) <;> (first | with_reducible rfl | (simp; done))) | ((with_reducible refine kfro (by with_reducible assumption) ?_ ?_); focus (first | with_reducible assumption | omega | (simp; done) | (simp; omega))) | ((with_reducible refine falloc ?_ ?_); focus (first | with_reducible assumption | omega | (simp; done) | (simp; omega)))))
    · (repeat (first | with_reducible assumption | with_reducible refine fdrew ?_ | with_reducible refine fdrewN ?_ | with_reducible refine fset ?_ | ((with_reducible refine fallocNew ?_) <;> (first | with_reducible rfl | (simp; done))) | ((with_reducible refine kfro (by with_reducible assumption) ?_ ?_); focus (first | with_reducible assumption | omega | (simp; done) | (simp; omega))) | ((with_reducible refine falloc ?_ ?_); focus (first | with_reducible assumption | omega | (simp; done) | (simp; omega)))))
    · (repeat (first | with_reducible assumption | with_reducible refine fdrew ?_ | with_reducible refine fdrewN ?_ | with_reducible refine fset ?_ | ((with_reducible refine fallocNew ?_) <;> (first | with_reducible rfl | (simp; done))) | ((with_reducible refine kfro (by with_reducible assumption) ?_ ?_); focus (first | with_reducible assumption | omega | (simp; done) | (simp; omega))) | ((with_reducible refine falloc ?_ ?_); focus (first | with_reducible assumption | omega | (simp; done) | (simp; omega)))))
    · (repeat (first | with_reducible assumption | with_reducible refine fdrew ?_ | with_reducible refine fdrewN ?_ | with_reducible refine fset ?_ | ((with_reducible refine fallocNew ?_) <;> (first | with_reducible rfl | (simp; done))) | ((with_reducible refine kfro (by with_reducible assumption) ?_ ?_); focus (first | with_reducible assumption | omega | (simp; done) | (simp; omega))) | ((with_reducible refine falloc ?_ ?_); focus (first | with_reducible assumption | omega | (simp; done) | (simp; omega)))))
    · (repeat (first | with_reducible exact Below.refl _ _ | with_reducible refine balloc ?_ _ | with_reducible refine bdrewN ?_ _ | with_reducible refine Below.drew ?_ | with_reducible refine bthen ?_ (by with_reducible assumption) | with_reducible refine Below.setCell ?_ (by first | (simp; done) | (simp; omega)) _))
    · (first | omega | (simp; done) | (simp; omega))
  case' rest => obtain ⟨rfl, rfl, rfl, rfl, cO0, cO1, cO2, cO3, cO4, fO0, fO1, fO2, fO3, fO4, hxO, hsO⟩ := hcut
  obtain ⟨wO, rfl⟩ : ∃ wO : World, wO = wc := ⟨_, rfl⟩
  have lO0 : w.heap.size < wO.heap.size := by omega
  have lO1 : w.heap.size + 1 < wO.heap.size := by omega
  rcases bool_ways (isP p) with hd1 | hd1
  · skip
    have c_1 : codeOf p (colB col && lineB p l1 l2 l3) = 1 := codeOf_no hd1
    have cN : ∀ b, codeOf p b = 1 := fun b => codeOf_no hd1
    go_wp2_with fail
    refine Calls.mono (spec3Lines1 _ _ _ _ _ _ _ (by first | rfl | (simp; done))) ?_
    rintro e w1 ⟨rfl, hB1⟩
    (obtain ⟨hB1c, hB1f⟩ := bcell hB1; have hB1s := hB1.size; (try simp at hB1s); (try have hB1q1 := Nat.lt_of_succ_le hB1s); (try have hB1q2 := Nat.lt_of_succ_lt hB1q1); (try have hB1q3 := Nat.lt_of_succ_lt hB1q2); (try have hB1zw0 : w.heap.size < w1.heap.size := (by omega)); (try have hB1zw1 : w.heap.size + 1 < w1.heap.size := (by omega)); (try have hB1zw2 : w.heap.size + 1 + 1 < w1.heap.size := (by omega)); (try have hB1zw3 : w.heap.size + 1 + 1 + 1 < w1.heap.size := (by omega)); (try have hB1zw4 : w.heap.size + 1 + 1 + 1 + 1 < w1.heap.size := (by omega)); (try have hB1zwO0 : wO.heap.size < w1.heap.size := (by omega)); (try have hB1zwO1 : wO.heap.size + 1 < w1.heap.size := (by omega)); (try have hB1zwO2 : wO.heap.size + 1 + 1 < w1.heap.size := (by omega)); (try have hB1zwO3 : wO.heap.size + 1 + 1 + 1 < w1.heap.size := (by omega)); (try have hB1zwO4 : wO.heap.size + 1 + 1 + 1 + 1 < w1.heap.size := (by omega)))
    have HV := Lib.hid (lw_no (col := col) (l1 := l1) (l2 := l2) (l3 := l3) (a1 := a1) (a2 := a2) (s := s) hd1)
    go_wp2
    (refine bodyPost_ret (v := .tuple #[.slice none 0 0, .int .i64 (lwC p col l1 l2 l3 a1 a2 s)]) (by simp [results, Try.results19, go_sem, HV.out.2]) rfl (slicePost_nil HV.out.1 ?_))
    (repeat (first | with_reducible exact Below.refl _ _ | with_reducible exact hxO | with_reducible refine balloc ?_ _ | with_reducible refine bdrewN ?_ _ | with_reducible refine Below.drew ?_ | with_reducible refine bthen ?_ (by with_reducible assumption) | with_reducible refine Below.setCell ?_ (by first | (simp; done) | (simp; omega)) _))
  · have hp := hd1
    have hr := isP_range hp
    rcases bool_ways (colB col) with hd2 | hd2
    · skip
      have c_1 : codeOf p (colB col && lineB p l1 l2 l3) = 2 := codeOf_out hp (by simp [hd2])
      have cT : codeOf p true = 0 := codeOf_in hp rfl
      have cF : codeOf p false = 2 := codeOf_out hp rfl
      go_wp2_with fail
      refine Calls.mono (spec3Lines1 _ _ _ _ _ _ _ (by first | rfl | (simp; done))) ?_
      rintro e w1 ⟨rfl, hB1⟩
      (obtain ⟨hB1c, hB1f⟩ := bcell hB1; have hB1s := hB1.size; (try simp at hB1s); (try have hB1q1 := Nat.lt_of_succ_le hB1s); (try have hB1q2 := Nat.lt_of_succ_lt hB1q1); (try have hB1q3 := Nat.lt_of_succ_lt hB1q2); (try have hB1zw0 : w.heap.size < w1.heap.size := (by omega)); (try have hB1zw1 : w.heap.size + 1 < w1.heap.size := (by omega)); (try have hB1zw2 : w.heap.size + 1 + 1 < w1.heap.size := (by omega)); (try have hB1zw3 : w.heap.size + 1 + 1 + 1 < w1.heap.size := (by omega)); (try have hB1zw4 : w.heap.size + 1 + 1 + 1 + 1 < w1.heap.size := (by omega)); (try have hB1zwO0 : wO.heap.size < w1.heap.size := (by omega)); (try have hB1zwO1 : wO.heap.size + 1 < w1.heap.size := (by omega)); (try have hB1zwO2 : wO.heap.size + 1 + 1 < w1.heap.size := (by omega)); (try have hB1zwO3 : wO.heap.size + 1 + 1 + 1 < w1.heap.size := (by omega)); (try have hB1zwO4 : wO.heap.size + 1 + 1 + 1 + 1 < w1.heap.size := (by omega)))
      have HV := Lib.hid (lw_out (col := col) (l1 := l1) (l2 := l2) (l3 := l3) (a1 := a1) (a2 := a2) (s := s) hp (by simp [lwB, hd1, hd2]))
      go_wp2
      (refine bodyPost_ret (v := .tuple #[.slice none 0 0, .int .i64 (lwC p col l1 l2 l3 a1 a2 s)]) (by simp [results, Try.results19, go_sem, HV.out.2]) rfl (slicePost_nil HV.out.1 ?_))
      (repeat (first | with_reducible exact Below.refl _ _ | with_reducible exact hxO | with_reducible refine balloc ?_ _ | with_reducible refine bdrewN ?_ _ | with_reducible refine Below.drew ?_ | with_reducible refine bthen ?_ (by with_reducible assumption) | with_reducible refine Below.setCell ?_ (by first | (simp; done) | (simp; omega)) _))
    · have hc := hd2
      have hcr := colB_range hc
      rcases bool_ways (lineB p l1 l2 l3) with hd3 | hd3
      · skip
        have c_1 : codeOf p (colB col && lineB p l1 l2 l3) = 2 := codeOf_out hp (by simp [hd2, hd3])
        have cT : codeOf p true = 0 := codeOf_in hp rfl
        have cF : codeOf p false = 2 := codeOf_out hp rfl
        go_wp2_with fail
        refine Calls.mono (spec3Lines1 _ _ _ _ _ _ _ (by first | rfl | (simp; done))) ?_
        rintro e w1 ⟨rfl, hB1⟩
        (obtain ⟨hB1c, hB1f⟩ := bcell hB1; have hB1s := hB1.size; (try simp at hB1s); (try have hB1q1 := Nat.lt_of_succ_le hB1s); (try have hB1q2 := Nat.lt_of_succ_lt hB1q1); (try have hB1q3 := Nat.lt_of_succ_lt hB1q2); (try have hB1zw0 : w.heap.size < w1.heap.size := (by omega)); (try have hB1zw1 : w.heap.size + 1 < w1.heap.size := (by omega)); (try have hB1zw2 : w.heap.size + 1 + 1 < w1.heap.size := (by omega)); (try have hB1zw3 : w.heap.size + 1 + 1 + 1 < w1.heap.size := (by omega)); (try have hB1zw4 : w.heap.size + 1 + 1 + 1 + 1 < w1.heap.size := (by omega)); (try have hB1zwO0 : wO.heap.size < w1.heap.size := (by omega)); (try have hB1zwO1 : wO.heap.size + 1 < w1.heap.size := (by omega)); (try have hB1zwO2 : wO.heap.size + 1 + 1 < w1.heap.size := (by omega)); (try have hB1zwO3 : wO.heap.size + 1 + 1 + 1 < w1.heap.size := (by omega)); (try have hB1zwO4 : wO.heap.size + 1 + 1 + 1 + 1 < w1.heap.size := (by omega)))
        have HV := Lib.hid (lw_out (col := col) (l1 := l1) (l2 := l2) (l3 := l3) (a1 := a1) (a2 := a2) (s := s) hp (by simp [lwB, hd1, hd2, hd3]))
        go_wp2
        (refine bodyPost_ret (v := .tuple #[.slice none 0 0, .int .i64 (lwC p col l1 l2 l3 a1 a2 s)]) (by simp [results, Try.results19, go_sem, HV.out.2]) rfl (slicePost_nil HV.out.1 ?_))
        (repeat (first | with_reducible exact Below.refl _ _ | with_reducible exact hxO | with_reducible refine balloc ?_ _ | with_reducible refine bdrewN ?_ _ | with_reducible refine Below.drew ?_ | with_reducible refine bthen ?_ (by with_reducible assumption) | with_reducible refine Below.setCell ?_ (by first | (simp; done) | (simp; omega)) _))
      · have hd3q := nums3 (lineB_in hd3).2
        have hd3l := lead_ways (lineB_in hd3).1
        have c_1 : codeOf p (colB col && lineB p l1 l2 l3) = 0 := codeOf_in hp (by simp [hd2, hd3])
        have cT : codeOf p true = 0 := codeOf_in hp rfl
        go_wp2_with fail
        refine Calls.mono (spec3Lines1 _ _ _ _ _ _ _ (by first | rfl | (simp; done))) ?_
        rintro e w1 ⟨rfl, hB1⟩
        (obtain ⟨hB1c, hB1f⟩ := bcell hB1; have hB1s := hB1.size; (try simp at hB1s); (try have hB1q1 := Nat.lt_of_succ_le hB1s); (try have hB1q2 := Nat.lt_of_succ_lt hB1q1); (try have hB1q3 := Nat.lt_of_succ_lt hB1q2); (try have hB1zw0 : w.heap.size < w1.heap.size := (by omega)); (try have hB1zw1 : w.heap.size + 1 < w1.heap.size := (by omega)); (try have hB1zw2 : w.heap.size + 1 + 1 < w1.heap.size := (by omega)); (try have hB1zw3 : w.heap.size + 1 + 1 + 1 < w1.heap.size := (by omega)); (try have hB1zw4 : w.heap.size + 1 + 1 + 1 + 1 < w1.heap.size := (by omega)); (try have hB1zwO0 : wO.heap.size < w1.heap.size := (by omega)); (try have hB1zwO1 : wO.heap.size + 1 < w1.heap.size := (by omega)); (try have hB1zwO2 : wO.heap.size + 1 + 1 < w1.heap.size := (by omega)); (try have hB1zwO3 : wO.heap.size + 1 + 1 + 1 < w1.heap.size := (by omega)); (try have hB1zwO4 : wO.heap.size + 1 + 1 + 1 + 1 < w1.heap.size := (by omega)))
        rcases bool_ways (numsIn p [a1, a2]) with hd4 | hd4
        · skip
          have c_2 : codeOf p (numsIn p [a1, a2]) = 2 := codeOf_out hp (by simp [hd4])
          have cF : codeOf p false = 2 := codeOf_out hp rfl
          go_wp2_with fail
          refine Calls.mono (specCode1 _ _ _ _ _ (by first | rfl | (simp; done))) ?_
          rintro e w2 ⟨rfl, hB2⟩
          (obtain ⟨hB2c, hB2f⟩ := bcell hB2; have hB2s := hB2.size; (try simp at hB2s); (try have hB2q1 := Nat.lt_of_succ_le hB2s); (try have hB2q2 := Nat.lt_of_succ_lt hB2q1); (try have hB2q3 := Nat.lt_of_succ_lt hB2q2); (try have hB2zw0 : w.heap.size < w2.heap.size := (by omega)); (try have hB2zw1 : w.heap.size + 1 < w2.heap.size := (by omega)); (try have hB2zw2 : w.heap.size + 1 + 1 < w2.heap.size := (by omega)); (try have hB2zw3 : w.heap.size + 1 + 1 + 1 < w2.heap.size := (by omega)); (try have hB2zw4 : w.heap.size + 1 + 1 + 1 + 1 < w2.heap.size := (by omega)); (try have hB2zw10 : w1.heap.size < w2.heap.size := (by omega)); (try have hB2zw11 : w1.heap.size + 1 < w2.heap.size := (by omega)); (try have hB2zw12 : w1.heap.size + 1 + 1 < w2.heap.size := (by omega)); (try have hB2zw13 : w1.heap.size + 1 + 1 + 1 < w2.heap.size := (by omega)); (try have hB2zw14 : w1.heap.size + 1 + 1 + 1 + 1 < w2.heap.size := (by omega)); (try have hB2zwO0 : wO.heap.size < w2.heap.size := (by omega)); (try have hB2zwO1 : wO.heap.size + 1 < w2.heap.size := (by omega)); (try have hB2zwO2 : wO.heap.size + 1 + 1 < w2.heap.size := (by omega)); (try have hB2zwO3 : wO.heap.size + 1 + 1 + 1 < w2.heap.size := (by omega)); (try have hB2zwO4 : wO.heap.size + 1 + 1 + 1 + 1 < w2.heap.size := (by omega)))
          have HV := Lib.hid (lw_out (col := col) (l1 := l1) (l2 := l2) (l3 := l3) (a1 := a1) (a2 := a2) (s := s) hp (by simp [lwB, hd1, hd2, hd3, hd4]))
          go_wp2
          (refine bodyPost_ret (v := .tuple #[.slice none 0 0, .int .i64 (lwC p col l1 l2 l3 a1 a2 s)]) (by simp [results, Try.results19, go_sem, HV.out.2]) rfl (slicePost_nil HV.out.1 ?_))
          (repeat (first | with_reducible exact Below.refl _ _ | with_reducible exact hxO | with_reducible refine balloc ?_ _ | with_reducible refine bdrewN ?_ _ | with_reducible refine Below.drew ?_ | with_reducible refine bthen ?_ (by with_reducible assumption) | with_reducible refine Below.setCell ?_ (by first | (simp; done) | (simp; omega)) _))
        · have hd4q := nums2 hd4
          have c_2 : codeOf p (numsIn p [a1, a2]) = 0 := codeOf_in hp (by simp [hd4])
          go_wp2_with fail
          refine Calls.mono (specCode1 _ _ _ _ _ (by first | rfl | (simp; done))) ?_
          rintro e w2 ⟨rfl, hB2⟩
          (obtain ⟨hB2c, hB2f⟩ := bcell hB2; have hB2s := hB2.size; (try simp at hB2s); (try have hB2q1 := Nat.lt_of_succ_le hB2s); (try have hB2q2 := Nat.lt_of_succ_lt hB2q1); (try have hB2q3 := Nat.lt_of_succ_lt hB2q2); (try have hB2zw0 : w.heap.size < w2.heap.size := (by omega)); (try have hB2zw1 : w.heap.size + 1 < w2.heap.size := (by omega)); (try have hB2zw2 : w.heap.size + 1 + 1 < w2.heap.size := (by omega)); (try have hB2zw3 : w.heap.size + 1 + 1 + 1 < w2.heap.size := (by omega)); (try have hB2zw4 : w.heap.size + 1 + 1 + 1 + 1 < w2.heap.size := (by omega)); (try have hB2zw10 : w1.heap.size < w2.heap.size := (by omega)); (try have hB2zw11 : w1.heap.size + 1 < w2.heap.size := (by omega)); (try have hB2zw12 : w1.heap.size + 1 + 1 < w2.heap.size := (by omega)); (try have hB2zw13 : w1.heap.size + 1 + 1 + 1 < w2.heap.size := (by omega)); (try have hB2zw14 : w1.heap.size + 1 + 1 + 1 + 1 < w2.heap.size := (by omega)); (try have hB2zwO0 : wO.heap.size < w2.heap.size := (by omega)); (try have hB2zwO1 : wO.heap.size + 1 < w2.heap.size := (by omega)); (try have hB2zwO2 : wO.heap.size + 1 + 1 < w2.heap.size := (by omega)); (try have hB2zwO3 : wO.heap.size + 1 + 1 + 1 < w2.heap.size := (by omega)); (try have hB2zwO4 : wO.heap.size + 1 + 1 + 1 + 1 < w2.heap.size := (by omega)))
          rcases bool_ways (numsIn p [s]) with hd5 | hd5
          · skip
            have c_3 : codeOf p (numsIn p [s]) = 2 := codeOf_out hp (by simp [hd5])
            have cF : codeOf p false = 2 := codeOf_out hp rfl
            go_wp2_with fail
            refine Calls.mono (numbers_any _ _ _ _ _ [s] _ rfl (by simp) (by exact cells_at (by simp) [s] _)) ?_
            rintro e w' ⟨rfl, rfl⟩
            have HV := Lib.hid (lw_out (col := col) (l1 := l1) (l2 := l2) (l3 := l3) (a1 := a1) (a2 := a2) (s := s) hp (by simp [lwB, hd1, hd2, hd3, hd4, hd5]))
            go_wp2
            (refine bodyPost_ret (v := .tuple #[.slice none 0 0, .int .i64 (lwC p col l1 l2 l3 a1 a2 s)]) (by simp [results, Try.results19, go_sem, HV.out.2]) rfl (slicePost_nil HV.out.1 ?_))
            (repeat (first | with_reducible exact Below.refl _ _ | with_reducible exact hxO | with_reducible refine balloc ?_ _ | with_reducible refine bdrewN ?_ _ | with_reducible refine Below.drew ?_ | with_reducible refine bthen ?_ (by with_reducible assumption) | with_reducible refine Below.setCell ?_ (by first | (simp; done) | (simp; omega)) _))
          · have hd5q := numsIn_one hd5
            have c_3 : codeOf p (numsIn p [s]) = 0 := codeOf_in hp (by simp [hd5])
            go_wp2_with fail
            refine Calls.mono (numbers_any _ _ _ _ _ [s] _ rfl (by simp) (by exact cells_at (by simp) [s] _)) ?_
            rintro e w' ⟨rfl, rfl⟩
            go_wp2_with fail
            refine Calls.mono (specNull_any _ _ _ _ _ _ hp hc (by omega) (by omega)) ?_
            rintro e w3 ⟨rfl, hB3⟩
            (obtain ⟨hB3c, hB3f⟩ := bcell hB3; have hB3s := hB3.size; (try simp at hB3s); (try have hB3q1 := Nat.lt_of_succ_le hB3s); (try have hB3q2 := Nat.lt_of_succ_lt hB3q1); (try have hB3q3 := Nat.lt_of_succ_lt hB3q2); (try have hB3zw0 : w.heap.size < w3.heap.size := (by omega)); (try have hB3zw1 : w.heap.size + 1 < w3.heap.size := (by omega)); (try have hB3zw2 : w.heap.size + 1 + 1 < w3.heap.size := (by omega)); (try have hB3zw3 : w.heap.size + 1 + 1 + 1 < w3.heap.size := (by omega)); (try have hB3zw4 : w.heap.size + 1 + 1 + 1 + 1 < w3.heap.size := (by omega)); (try have hB3zw20 : w2.heap.size < w3.heap.size := (by omega)); (try have hB3zw21 : w2.heap.size + 1 < w3.heap.size := (by omega)); (try have hB3zw22 : w2.heap.size + 1 + 1 < w3.heap.size := (by omega)); (try have hB3zw23 : w2.heap.size + 1 + 1 + 1 < w3.heap.size := (by omega)); (try have hB3zw24 : w2.heap.size + 1 + 1 + 1 + 1 < w3.heap.size := (by omega)); (try have hB3zw10 : w1.heap.size < w3.heap.size := (by omega)); (try have hB3zw11 : w1.heap.size + 1 < w3.heap.size := (by omega)); (try have hB3zw12 : w1.heap.size + 1 + 1 < w3.heap.size := (by omega)); (try have hB3zw13 : w1.heap.size + 1 + 1 + 1 < w3.heap.size := (by omega)); (try have hB3zw14 : w1.heap.size + 1 + 1 + 1 + 1 < w3.heap.size := (by omega)); (try have hB3zwO0 : wO.heap.size < w3.heap.size := (by omega)); (try have hB3zwO1 : wO.heap.size + 1 < w3.heap.size := (by omega)); (try have hB3zwO2 : wO.heap.size + 1 + 1 < w3.heap.size := (by omega)); (try have hB3zwO3 : wO.heap.size + 1 + 1 + 1 < w3.heap.size := (by omega)); (try have hB3zwO4 : wO.heap.size + 1 + 1 + 1 + 1 < w3.heap.size := (by omega)))
            rcases bool_ways (nullB p col l1 l2) with hd6 | hd6
            · skip
              have HB : lwB p col l1 l2 l3 a1 a2 s = true := by simp [lwB, hd1, hd2, hd3, hd4, hd5, hd6]
              have HS : lwS p col l1 l2 l3 a1 a2 s = 0 := by (simp only [lwS] <;> simp [hd1, hd2, hd3, hd4, hd5, hd6])
              have HV := Lib.hid (lw_good (col := col) (l1 := l1) (l2 := l2) (l3 := l3) (a1 := a1) (a2 := a2) (s := s) hp HB HS)
              clear HB HS
              have rl := nums3 (lineB_in hd3).2
              have ra := nums2 hd4
              have rs : 0 ≤ s ∧ s < p := by have := hd5; simp [numsIn, inB] at this; omega
              go_upto_region 10 with fail
              refine wp_name (fun wN hwN => ?_)
              have ka0 : wN.cell? ⟨w.heap.size, 0, none⟩ = some (.int .i64 l1) := by rw [hwN]; (first | with_reducible assumption | (repeat (first | with_reducible assumption | ((with_reducible refine kfresh ?_ ?_) <;> (first | with_reducible rfl | (simp; done))) | ((with_reducible refine ksameS ?_); focus ((repeat (first | with_reducible exact kis_of (by with_reducible assumption) | with_reducible refine kis_set ?_ | ((with_reducible refine kis_new ?_ ?_) <;> (first | with_reducible rfl | rfl | (simp; done))) | with_reducible refine kis_alloc _ ?_ | with_reducible refine kis_drew ?_ | with_reducible refine kis_call (by with_reducible assumption) ?_ | with_reducible exact kis_of (kcall (by with_reducible assumption) (by with_reducible assumption)))); done)) | with_reducible refine kother (by decide) ?_ | with_reducible refine kset (by first | omega | (simp; done) | (simp; omega)) ?_ | with_reducible refine kalloc _ ?_ | with_reducible refine kdrew ?_ | with_reducible refine kdrewN ?_ | with_reducible refine kcall (by with_reducible assumption) ?_)))
              have ka1 : wN.cell? ⟨w.heap.size, 1, none⟩ = some (.int .i64 l2) := by rw [hwN]; (first | with_reducible assumption | (repeat (first | with_reducible assumption | ((with_reducible refine kfresh ?_ ?_) <;> (first | with_reducible rfl | (simp; done))) | ((with_reducible refine ksameS ?_); focus ((repeat (first | with_reducible exact kis_of (by with_reducible assumption) | with_reducible refine kis_set ?_ | ((with_reducible refine kis_new ?_ ?_) <;> (first | with_reducible rfl | rfl | (simp; done))) | with_reducible refine kis_alloc _ ?_ | with_reducible refine kis_drew ?_ | with_reducible refine kis_call (by with_reducible assumption) ?_ | with_reducible exact kis_of (kcall (by with_reducible assumption) (by with_reducible assumption)))); done)) | with_reducible refine kother (by decide) ?_ | with_reducible refine kset (by first | omega | (simp; done) | (simp; omega)) ?_ | with_reducible refine kalloc _ ?_ | with_reducible refine kdrew ?_ | with_reducible refine kdrewN ?_ | with_reducible refine kcall (by with_reducible assumption) ?_)))
              have ka2 : wN.cell? ⟨w.heap.size, 2, none⟩ = some (.int .i64 l3) := by rw [hwN]; (first | with_reducible assumption | (repeat (first | with_reducible assumption | ((with_reducible refine kfresh ?_ ?_) <;> (first | with_reducible rfl | (simp; done))) | ((with_reducible refine ksameS ?_); focus ((repeat (first | with_reducible exact kis_of (by with_reducible assumption) | with_reducible refine kis_set ?_ | ((with_reducible refine kis_new ?_ ?_) <;> (first | with_reducible rfl | rfl | (simp; done))) | with_reducible refine kis_alloc _ ?_ | with_reducible refine kis_drew ?_ | with_reducible refine kis_call (by with_reducible assumption) ?_ | with_reducible exact kis_of (kcall (by with_reducible assumption) (by with_reducible assumption)))); done)) | with_reducible refine kother (by decide) ?_ | with_reducible refine kset (by first | omega | (simp; done) | (simp; omega)) ?_ | with_reducible refine kalloc _ ?_ | with_reducible refine kdrew ?_ | with_reducible refine kdrewN ?_ | with_reducible refine kcall (by with_reducible assumption) ?_)))
              have kv0 : wN.cell? ⟨w.heap.size + 1, 0, none⟩ = some (.int .i64 a1) := by rw [hwN]; (first | with_reducible assumption | (repeat (first | with_reducible assumption | ((with_reducible refine kfresh ?_ ?_) <;> (first | with_reducible rfl | (simp; done))) | ((with_reducible refine ksameS ?_); focus ((repeat (first | with_reducible exact kis_of (by with_reducible assumption) | with_reducible refine kis_set ?_ | ((with_reducible refine kis_new ?_ ?_) <;> (first | with_reducible rfl | rfl | (simp; done))) | with_reducible refine kis_alloc _ ?_ | with_reducible refine kis_drew ?_ | with_reducible refine kis_call (by with_reducible assumption) ?_ | with_reducible exact kis_of (kcall (by with_reducible assumption) (by with_reducible assumption)))); done)) | with_reducible refine kother (by decide) ?_ | with_reducible refine kset (by first | omega | (simp; done) | (simp; omega)) ?_ | with_reducible refine kalloc _ ?_ | with_reducible refine kdrew ?_ | with_reducible refine kdrewN ?_ | with_reducible refine kcall (by with_reducible assumption) ?_)))
              have kv1 : wN.cell? ⟨w.heap.size + 1, 1, none⟩ = some (.int .i64 a2) := by rw [hwN]; (first | with_reducible assumption | (repeat (first | with_reducible assumption | ((with_reducible refine kfresh ?_ ?_) <;> (first | with_reducible rfl | (simp; done))) | ((with_reducible refine ksameS ?_); focus ((repeat (first | with_reducible exact kis_of (by with_reducible assumption) | with_reducible refine kis_set ?_ | ((with_reducible refine kis_new ?_ ?_) <;> (first | with_reducible rfl | rfl | (simp; done))) | with_reducible refine kis_alloc _ ?_ | with_reducible refine kis_drew ?_ | with_reducible refine kis_call (by with_reducible assumption) ?_ | with_reducible exact kis_of (kcall (by with_reducible assumption) (by with_reducible assumption)))); done)) | with_reducible refine kother (by decide) ?_ | with_reducible refine kset (by first | omega | (simp; done) | (simp; omega)) ?_ | with_reducible refine kalloc _ ?_ | with_reducible refine kdrew ?_ | with_reducible refine kdrewN ?_ | with_reducible refine kcall (by with_reducible assumption) ?_)))
              have hW0 : Below w.heap.size w wN := by rw [hwN]; (repeat (first | with_reducible exact Below.refl _ _ | with_reducible exact hxO | with_reducible refine balloc ?_ _ | with_reducible refine bdrewN ?_ _ | with_reducible refine Below.drew ?_ | with_reducible refine bthen ?_ (by with_reducible assumption) | with_reducible refine Below.setCell ?_ (by first | (simp; done) | (simp; omega)) _))
              clear hwN
              have hl0 : w.heap.size + 1 < wN.heap.size := World.block_lt_of_cell? wN ⟨w.heap.size + 1, 0, none⟩ kv0
              have hW0s := hW0.size
              have HVT := Lib.hid (show lwT p col l1 l2 a1 a2 s = (nnP p col a1 a2).filter (lwF p col l1 l2 s) from rfl)
              obtain ⟨i0, hi, hz0, hz1, hz2⟩ := info_parts infoLn
              (go_wp2_with fail; refine Calls.mono (specLines3_any p col a1 a2 _ hp hc (by omega) (by omega)) ?_; rintro e wz ⟨vz, rfl, hoz, hBz⟩)
              have hgl := nnP_le col a1 a2 hp
              have hgm := fun (z : Int × Int × Int) (hz : z ∈ nnP p col a1 a2) => nnP_mem hp hz
              obtain ⟨ps, hps⟩ : ∃ ps : List (Int × Int × Int), ps = nnP p col a1 a2 := ⟨_, rfl⟩
              rw [← hps] at hoz hgl hgm HVT
              clear hps
              obtain ⟨ft, hft⟩ : ∃ ft : Int × Int × Int → Bool, ft = lwF p col l1 l2 s := ⟨_, rfl⟩
              rw [← hft] at HVT
              have HFT := Lib.hid (show ∀ x : Int × Int × Int, ft x = (spO p col l1 l2 x.1 x.2.1 == s) from fun x => by rw [hft]; rfl)
              clear hft
              have HGM := Lib.hid hgm
              clear hgm
              obtain ⟨ao, cz, rfl, hnz, hsh⟩ := own_shapeL hoz
              have HSH := Lib.hid hsh
              clear hsh
              have hbz := hBz.size
              have kz0 := (cell_back hBz (by omega) 0).trans ka0
              have kz1 := (cell_back hBz (by omega) 1).trans ka1
              have kz2 := (cell_back hBz (by omega) 2).trans ka2
              have hB0 := hW0.trans (hBz.mono hW0.size)
              go_wp2_with fail
              go_loopw [14, 15] (fun v i wr => ∃ j : Nat, j ≤ ps.length ∧ i = .int .i64 j ∧ wr.ownsRow wz.heap.size 30 3 v ((ps.take j).filter ft).length (ints (flat3 ((ps.take j).filter ft))) ∧ Below wz.heap.size wz wr) (fun _ i _ => ps.length - (intOf i).toNat)
              case atStart => exact ⟨0, by omega, rfl, by simpa [flat3] using (own_lit0 (base := wz.heap.size) (b := wz.heap.size) wz 30 3 (Nat.le_refl _) rfl), (Below.refl _ _).alloc (Nat.le_refl _) _⟩
              case round =>
                obtain ⟨j, hj, rfl, hown, hbel⟩ := hrel
                have hle := siftL_le ft ps j
                have hsr := hbel.size
                by_cases hlt : j < ps.length
                · obtain ⟨g, rfl, hg0, hgl'⟩ := HSH.out (by omega)
                  have hozr := own_below hoz hbel (fun g' e => by cases e; exact hgl')
                  have hget := flat3_at ps j hlt
                  have hmem := HGM.out ps[j] (List.getElem_mem hlt)
                  have c0 := (own_cell hozr (j := j * 3) (by omega)).trans (by rw [hget.1])
                  have c1 := (own_cell hozr (j := j * 3 + 1) (by omega)).trans (by rw [hget.2.1])
                  have c2 := (own_cell hozr (j := j * 3 + 2) (by omega)).trans (by rw [hget.2.2])
                  have hYes := siftL_yes (f := ft) (xs := ps) hlt
                  have hNo := siftL_no (f := ft) (xs := ps) hlt
                  have hft := HFT.out ps[j]
                  have HFl := Lib.hid (flat3_append ((ps.take j).filter ft) ps[j])
                  obtain ⟨x, hx⟩ : ∃ x, x = ps[j] := ⟨_, rfl⟩
                  rw [← hx] at c0 c1 c2 hYes hNo hft hmem HFl
                  clear hx hget hozr
                  obtain ⟨x1, x2, x3⟩ := x
                  simp only at c0 c1 c2 hft hmem HFl
                  obtain ⟨bo, hbo⟩ : ∃ b, b = ft (x1, x2, x3) := ⟨_, rfl⟩
                  rw [← hbo] at hYes hNo hft
                  clear hbo
                  have kk0 := (cell_old hbel (by omega) 0).trans kz0
                  have kk1 := (cell_old hbel (by omega) 1).trans kz1
                  have kk2 := (cell_old hbel (by omega) 2).trans kz2
                  have hcall1 := fun w' => (show Calls Try.prog 55 #[.int .i64 p, .int .i64 col, .agg #[.int .i64 l1, .int .i64 l2, .int .i64 l3], .agg #[.int .i64 x1, .int .i64 x2, .int .i64 x3]] w' fun e w'' => e = .returned (.int .i64 (spO p col l1 l2 x1 x2)) ∧ Below w'.heap.size w' w'' from specSpread_any p col l1 l2 l3 x1 x2 x3 w' hp hc (by omega) (by omega) (by omega) (by omega))
                  obtain ⟨z1, hz1'⟩ : ∃ z, z = spO p col l1 l2 x1 x2 := ⟨_, rfl⟩
                  rw [← hz1'] at hft hcall1
                  clear hz1'
                  have HFB := Lib.hid hft
                  have HC1 := Lib.hid hcall1
                  clear hft hcall1
                  have hgr : g < wr.heap.size := by omega
                  have hjn : (j : Int) < (ps.length : Int) := by omega
                  have q0 : ∀ W : World, Below wr.heap.size wr W → W.cell? ⟨w.heap.size, 0, none⟩ = some (.int .i64 l1) := fun W h => bholds kk0 h
                  have q1 : ∀ W : World, Below wr.heap.size wr W → W.cell? ⟨w.heap.size, 1, none⟩ = some (.int .i64 l2) := fun W h => bholds kk1 h
                  have q2 : ∀ W : World, Below wr.heap.size wr W → W.cell? ⟨w.heap.size, 2, none⟩ = some (.int .i64 l3) := fun W h => bholds kk2 h
                  have qc0 : ∀ W : World, Below wr.heap.size wr W → W.cell? ⟨g, j * 3, none⟩ = some (.int .i64 x1) := fun W h => bholds c0 h
                  have qc1 : ∀ W : World, Below wr.heap.size wr W → W.cell? ⟨g, j * 3 + 1, none⟩ = some (.int .i64 x2) := fun W h => bholds c1 h
                  have qc2 : ∀ W : World, Below wr.heap.size wr W → W.cell? ⟨g, j * 3 + 2, none⟩ = some (.int .i64 x3) := fun W h => bholds c2 h
                  cases bo
                  · have HN := Lib.hid (hNo rfl)
                    clear hYes hNo
                    have hzb := HFB.out.symm
                    go_upto_region 14 with fail
                    go_region_held3 (fun W => Below wr.heap.size wr W) (first | with_reducible assumption | with_reducible exact bthen (by with_reducible assumption) hB | with_reducible exact bfromdrew hB | with_reducible exact balloc (by with_reducible assumption) _ | with_reducible exact Below.drew (balloc (bundrew (by with_reducible assumption)) _) | with_reducible exact Below.drew (Below.refl _ _) | with_reducible exact Below.refl _ _ | with_reducible exact Below.drew (by with_reducible assumption)) (first | (go_at_call 55; with_reducible refine Calls.mono (HC1.out _) ?_; rintro e wq ⟨rfl, hB⟩; have hBs := hB.size))
                    all_goals
                      have hb1 : Below wr.heap.size wr wq := by first | with_reducible assumption | exact bundrew (by with_reducible assumption) | exact bthen (Below.refl _ _) hB | (repeat (first | with_reducible exact Below.refl _ _ | with_reducible refine balloc ?_ _ | with_reducible refine bdrewN ?_ _ | with_reducible refine Below.drew ?_ | with_reducible refine bthen ?_ (by with_reducible assumption) | with_reducible refine Below.setCell ?_ (by first | (simp; done) | (simp; omega)) _))
                      have hs1 := hb1.size
                      have ho1 := own_call hown hb1
                      have hb2 : Below wz.heap.size wz wq := hbel.trans (hb1.mono (by omega))
                      have m0 := (cell_back hb1 (by omega) 0).trans kk0
                      have m1 := (cell_back hb1 (by omega) 1).trans kk1
                      have m2 := (cell_back hb1 (by omega) 2).trans kk2
                      have d0 := (cell_back hb1 hgr (j * 3)).trans c0
                      have d1 := (cell_back hb1 hgr (j * 3 + 1)).trans c1
                      have d2 := (cell_back hb1 hgr (j * 3 + 2)).trans c2
                      have hgq : g < wq.heap.size := by omega
                      go_wp2
                      go_roundw
                      case rel => exact ⟨j + 1, by omega, by go_num, by rw [HN.out]; exact ho1, hb2⟩
                      case measure => simp [intOf]; omega
                  · have HN := Lib.hid (hYes rfl)
                    clear hYes hNo
                    have hzb := HFB.out.symm
                    go_upto_region 14 with fail
                    go_region_held3 (fun W => Below wr.heap.size wr W) (first | with_reducible assumption | with_reducible exact bthen (by with_reducible assumption) hB | with_reducible exact bfromdrew hB | with_reducible exact balloc (by with_reducible assumption) _ | with_reducible exact Below.drew (balloc (bundrew (by with_reducible assumption)) _) | with_reducible exact Below.drew (Below.refl _ _) | with_reducible exact Below.refl _ _ | with_reducible exact Below.drew (by with_reducible assumption)) (first | (go_at_call 55; with_reducible refine Calls.mono (HC1.out _) ?_; rintro e wq ⟨rfl, hB⟩; have hBs := hB.size))
                    all_goals
                      have hb1 : Below wr.heap.size wr wq := by first | with_reducible assumption | exact bundrew (by with_reducible assumption) | exact bthen (Below.refl _ _) hB | (repeat (first | with_reducible exact Below.refl _ _ | with_reducible refine balloc ?_ _ | with_reducible refine bdrewN ?_ _ | with_reducible refine Below.drew ?_ | with_reducible refine bthen ?_ (by with_reducible assumption) | with_reducible refine Below.setCell ?_ (by first | (simp; done) | (simp; omega)) _))
                      have hs1 := hb1.size
                      have ho1 := own_call hown hb1
                      have hb2 : Below wz.heap.size wz wq := hbel.trans (hb1.mono (by omega))
                      have m0 := (cell_back hb1 (by omega) 0).trans kk0
                      have m1 := (cell_back hb1 (by omega) 1).trans kk1
                      have m2 := (cell_back hb1 (by omega) 2).trans kk2
                      have d0 := (cell_back hb1 hgr (j * 3)).trans c0
                      have d1 := (cell_back hb1 hgr (j * 3 + 1)).trans c1
                      have d2 := (cell_back hb1 hgr (j * 3 + 2)).trans c2
                      have hgq : g < wq.heap.size := by omega
                      go_wp2_with (at_builtin; refine wpList_append_own _ rfl _ _ 43 rfl wz.heap.size 30 i0 (.agg #[.int .i64 0, .int .i64 0, .int .i64 0]) 3 24 Try.underlying43 hi hz0 hz1 hz2 rfl (by decide) _ _ _ rfl (ho1.alloc _) ⟨wq.heap.size, 0, none⟩ 1 1 [.int .i64 x1, .int .i64 x2, .int .i64 x3] rfl rfl (ln_cells rfl) (ln_one _ _ _) ?c3 ?c4 ?c5 ?_)
                      case c3 => unfold maxLen; omega
                      case c4 => omega
                      case c5 => simp; omega
                      intro v' w3 hown' hgrow _
                      have hb3 : Below wz.heap.size wz w3 := (hb2.alloc (by omega) _).grown hgrow (by simp; omega) (fun g' hg' => (ho1.lt g' hg').1)
                      have HO := Lib.hid (show w3.ownsRow wz.heap.size 30 3 v' ((ps.take (j + 1)).filter ft).length (ints (flat3 ((ps.take (j + 1)).filter ft))) from by rw [HN.out, HFl.out, ints_append, List.length_append]; exact hown')
                      clear hown' hgrow ho1 hown hbel hb2
                      go_wp2
                      go_roundw
                      case rel => exact ⟨j + 1, by omega, by go_num, HO.out, hb3⟩
                      case measure => simp [intOf]; omega
                · have ej : j = ps.length := by omega
                  subst ej
                  rw [List.take_length] at hown
                  have HO := Lib.hid hown
                  clear hown
                  go_wp2
                  (refine bodyPost_ret (v := .tuple #[u14, .int .i64 (lwC p col l1 l2 l3 a1 a2 s)]) (by simp [results, Try.results19, go_sem, HV.out.2]) rfl (slicePost_mk (by rw [HV.out.1, HVT.out]; exact own_base HO.out (by omega)) (hB0.trans (hbel.mono (by omega)))))
            · skip
              have HB : lwB p col l1 l2 l3 a1 a2 s = true := by simp [lwB, hd1, hd2, hd3, hd4, hd5, hd6]
              have HS : lwS p col l1 l2 l3 a1 a2 s = 5 := by (simp only [lwS] <;> simp [hd1, hd2, hd3, hd4, hd5, hd6])
              have HV := Lib.hid (lw_st (col := col) (l1 := l1) (l2 := l2) (l3 := l3) (a1 := a1) (a2 := a2) (s := s) hp HB HS (by decide))
              clear HB HS
              go_wp2
              (refine bodyPost_ret (v := .tuple #[.slice none 0 0, .int .i64 (lwC p col l1 l2 l3 a1 a2 s)]) (by simp [results, Try.results19, go_sem, HV.out.2]) rfl (slicePost_nil HV.out.1 ?_))
              (repeat (first | with_reducible exact Below.refl _ _ | with_reducible exact hxO | with_reducible refine balloc ?_ _ | with_reducible refine bdrewN ?_ _ | with_reducible refine Below.drew ?_ | with_reducible refine bthen ?_ (by with_reducible assumption) | with_reducible refine Below.setCell ?_ (by first | (simp; done) | (simp; omega)) _))

end Go.Proofs.Ytmpgpmcmhbpjeaa
