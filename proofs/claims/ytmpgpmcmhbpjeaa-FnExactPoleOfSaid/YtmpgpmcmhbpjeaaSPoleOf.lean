/-
  PoleOf: the model's.
-/
import Derived.Test.YtmpgpmcmhbpjeaaPoleMath
import Derived.Test.YtmpgpmcmhbpjeaaSpecPolar
import Derived.Test.YtmpgpmcmhbpjeaaSpecDtm
import Derived.Test.YtmpgpmcmhbpjeaaSpecConCode
import Derived.Test.YtmpgpmcmhbpjeaaSpecLins
import Derived.Test.YtmpgpmcmhbpjeaaArrEq
import Derived.Test.YtmpgpmcmhbpjeaaCode
import Derived.Test.YtmpgpmcmhbpjeaaLast
import Derived.Test.YtmpgpmcmhbpjeaaSlice
import Derived.Deep.RegionHeld3
import Derived.Deep.DeepCutAuto
import Derived.Test.YtmpgpmcmhbpjeaaBaseMath
namespace Go.Proofs.Ytmpgpmcmhbpjeaa
open Go.RowKit

theorem equalLine (w : World) (a b c a' b' c' : Int) : (Op.equalIn 10000 30 (.agg #[.int .i64 a, .int .i64 b, .int .i64 c]) (.agg #[.int .i64 a', .int .i64 b', .int .i64 c'])).run Try.prog w = .ok (a == a' && b == b' && c == c') w := by
  obtain ⟨i, hi, _⟩ := Option.map_eq_some_iff.1 infoInt
  exact equal_arr3 w (by kernel_rfl) Try.underlying2 hi (by kernel_rfl) a b c a' b' c'

set_option linter.unusedVariables false in
def peB (p k1 k2 k3 k4 k5 k6 l1 l2 l3 : Int) : Bool := cnB p k1 k2 k3 k4 k5 k6 && lineB p l1 l2 l3
set_option linter.unusedVariables false in
def peS (p k1 k2 k3 k4 k5 k6 l1 l2 l3 : Int) : Int := if (dtm p k1 k2 k3 k4 k5 k6 == 0) = true then 5 else poT p k1 k2 k3 k4 k5 k6 l1 l2 l3
set_option linter.unusedVariables false in
def peC (p k1 k2 k3 k4 k5 k6 l1 l2 l3 : Int) : Int := if isP p = true then (if peB p k1 k2 k3 k4 k5 k6 l1 l2 l3 = true then peS p k1 k2 k3 k4 k5 k6 l1 l2 l3 else 2) else 1
set_option linter.unusedVariables false in
def peV1 (p k1 k2 k3 k4 k5 k6 l1 l2 l3 : Int) : Int := if peC p k1 k2 k3 k4 k5 k6 l1 l2 l3 = 0 then poX p k1 k2 k3 k4 k5 k6 l1 l2 l3 else 0
set_option linter.unusedVariables false in
def peV2 (p k1 k2 k3 k4 k5 k6 l1 l2 l3 : Int) : Int := if peC p k1 k2 k3 k4 k5 k6 l1 l2 l3 = 0 then poY p k1 k2 k3 k4 k5 k6 l1 l2 l3 else 0
theorem pe_zero {p k1 k2 k3 k4 k5 k6 l1 l2 l3 k : Int} (h : peC p k1 k2 k3 k4 k5 k6 l1 l2 l3 = k) (hk : k ≠ 0) : peV1 p k1 k2 k3 k4 k5 k6 l1 l2 l3 = 0 ∧ peV2 p k1 k2 k3 k4 k5 k6 l1 l2 l3 = 0 ∧ peC p k1 k2 k3 k4 k5 k6 l1 l2 l3 = k := by
  have hn : ¬ (peC p k1 k2 k3 k4 k5 k6 l1 l2 l3 = 0) := fun e => hk (h.symm.trans e)
  exact ⟨if_neg hn, if_neg hn, h⟩
theorem pe_no {p k1 k2 k3 k4 k5 k6 l1 l2 l3 : Int} (h : isP p = false) : peV1 p k1 k2 k3 k4 k5 k6 l1 l2 l3 = 0 ∧ peV2 p k1 k2 k3 k4 k5 k6 l1 l2 l3 = 0 ∧ peC p k1 k2 k3 k4 k5 k6 l1 l2 l3 = 1 := pe_zero (by simp [peC, h]) (by decide)
theorem pe_out {p k1 k2 k3 k4 k5 k6 l1 l2 l3 : Int} (hp : isP p = true) (h : peB p k1 k2 k3 k4 k5 k6 l1 l2 l3 = false) : peV1 p k1 k2 k3 k4 k5 k6 l1 l2 l3 = 0 ∧ peV2 p k1 k2 k3 k4 k5 k6 l1 l2 l3 = 0 ∧ peC p k1 k2 k3 k4 k5 k6 l1 l2 l3 = 2 := pe_zero (by simp [peC, hp, h]) (by decide)
theorem pe_st {p k1 k2 k3 k4 k5 k6 l1 l2 l3 k : Int} (hp : isP p = true) (h : peB p k1 k2 k3 k4 k5 k6 l1 l2 l3 = true) (hs : peS p k1 k2 k3 k4 k5 k6 l1 l2 l3 = k) (hk : k ≠ 0) : peV1 p k1 k2 k3 k4 k5 k6 l1 l2 l3 = 0 ∧ peV2 p k1 k2 k3 k4 k5 k6 l1 l2 l3 = 0 ∧ peC p k1 k2 k3 k4 k5 k6 l1 l2 l3 = k := pe_zero (by simp [peC, hp, h, hs]) hk
theorem pe_good {p k1 k2 k3 k4 k5 k6 l1 l2 l3 : Int} (hp : isP p = true) (h : peB p k1 k2 k3 k4 k5 k6 l1 l2 l3 = true) (hs : peS p k1 k2 k3 k4 k5 k6 l1 l2 l3 = 0) : peV1 p k1 k2 k3 k4 k5 k6 l1 l2 l3 = poX p k1 k2 k3 k4 k5 k6 l1 l2 l3 ∧ peV2 p k1 k2 k3 k4 k5 k6 l1 l2 l3 = poY p k1 k2 k3 k4 k5 k6 l1 l2 l3 ∧ peC p k1 k2 k3 k4 k5 k6 l1 l2 l3 = 0 := by
  have h' : peC p k1 k2 k3 k4 k5 k6 l1 l2 l3 = 0 := by simp [peC, hp, h, hs]
  exact ⟨if_pos h', if_pos h', h'⟩

set_option linter.unusedVariables false in
set_option linter.unusedSimpArgs false in
set_option maxRecDepth 20000 in
set_option maxHeartbeats 4000000 in
theorem specPoleOf_any (p k1 k2 k3 k4 k5 k6 l1 l2 l3 : Int)  (w : World) :
    Calls Try.prog 8 #[.int .i64 p, .agg #[.int .i64 k1, .int .i64 k2, .int .i64 k3, .int .i64 k4, .int .i64 k5, .int .i64 k6], .agg #[.int .i64 l1, .int .i64 l2, .int .i64 l3]] w fun e w' =>
      e = .returned (.tuple #[.agg #[.int .i64 (peV1 p k1 k2 k3 k4 k5 k6 l1 l2 l3), .int .i64 (peV2 p k1 k2 k3 k4 k5 k6 l1 l2 l3)], .int .i64 (peC p k1 k2 k3 k4 k5 k6 l1 l2 l3)]) ∧ Below w.heap.size w w' := by
  go_enter Try.func8, Try.ntmps8
  go_upto_region 0 with fail
  go_cut [4, 5, 6, 7] (fun s4 s5 s6 s7 wx => s4 = .pointer (some ⟨w.heap.size, 0, none⟩) ∧ s5 = .pointer (some ⟨w.heap.size + 1, 0, none⟩) ∧ s6 = .pointer (some ⟨w.heap.size + 1 + 1, 0, none⟩) ∧ s7 = .int .i64 0 ∧ wx.cell? ⟨w.heap.size, 0, none⟩ = some (.int .i64 k1) ∧ wx.cell? ⟨w.heap.size, 1, none⟩ = some (.int .i64 k2) ∧ wx.cell? ⟨w.heap.size, 2, none⟩ = some (.int .i64 k3) ∧ wx.cell? ⟨w.heap.size, 3, none⟩ = some (.int .i64 k4) ∧ wx.cell? ⟨w.heap.size, 4, none⟩ = some (.int .i64 k5) ∧ wx.cell? ⟨w.heap.size, 5, none⟩ = some (.int .i64 k6) ∧ wx.cell? ⟨w.heap.size + 1, 0, none⟩ = some (.int .i64 l1) ∧ wx.cell? ⟨w.heap.size + 1, 1, none⟩ = some (.int .i64 l2) ∧ wx.cell? ⟨w.heap.size + 1, 2, none⟩ = some (.int .i64 l3) ∧ wx.cell? ⟨w.heap.size + 1 + 1, 0, none⟩ = some (.int .i64 0) ∧ wx.cell? ⟨w.heap.size + 1 + 1, 1, none⟩ = some (.int .i64 0) ∧ wx.frozen? ⟨w.heap.size, 0, none⟩ = false ∧ wx.frozen? ⟨w.heap.size, 1, none⟩ = false ∧ wx.frozen? ⟨w.heap.size, 2, none⟩ = false ∧ wx.frozen? ⟨w.heap.size, 3, none⟩ = false ∧ wx.frozen? ⟨w.heap.size, 4, none⟩ = false ∧ wx.frozen? ⟨w.heap.size, 5, none⟩ = false ∧ wx.frozen? ⟨w.heap.size + 1, 0, none⟩ = false ∧ wx.frozen? ⟨w.heap.size + 1, 1, none⟩ = false ∧ wx.frozen? ⟨w.heap.size + 1, 2, none⟩ = false ∧ wx.frozen? ⟨w.heap.size + 1 + 1, 0, none⟩ = false ∧ wx.frozen? ⟨w.heap.size + 1 + 1, 1, none⟩ = false ∧ Below w.heap.size w wx ∧ w.heap.size + 1 + 1 + 1 ≤ wx.heap.size)
  case first =>
    go_wp2
    go_meet
    refine ⟨rfl, rfl, rfl, rfl, ?_, ?_, ?_, ?_, ?_, ?_, ?_, ?_, ?_, ?_, ?_, ?_, ?_, ?_, ?_, ?_, ?_, ?_, ?_, ?_, ?_, ?_, ?_, ?_⟩
    · (repeat (first | with_reducible assumption | ((with_reducible refine kfresh ?_ ?_) <;> (first | with_reducible rfl | (simp; done))) | ((with_reducible refine ksameS ?_); focus ((repeat (first | with_reducible exact kis_of (by with_reducible assumption) | with_reducible refine kis_set ?_ | ((with_reducible refine kis_new ?_ ?_) <;> (first | with_reducible rfl | rfl | (simp; done))) | with_reducible refine kis_alloc _ ?_ | with_reducible refine kis_drew ?_ | with_reducible refine kis_call (by with_reducible assumption) ?_ | with_reducible exact kis_of (kcall (by with_reducible assumption) (by with_reducible assumption)))); done)) | with_reducible refine kother (by decide) ?_ | with_reducible refine kset (by first | omega | (simp; done) | (simp; omega)) ?_ | with_reducible refine kalloc _ ?_ | with_reducible refine kdrew ?_ | with_reducible refine kdrewN ?_ | with_reducible refine kcall (by with_reducible assumption) ?_))
    · (repeat (first | with_reducible assumption | ((with_reducible refine kfresh ?_ ?_) <;> (first | with_reducible rfl | (simp; done))) | ((with_reducible refine ksameS ?_); focus ((repeat (first | with_reducible exact kis_of (by with_reducible assumption) | with_reducible refine kis_set ?_ | ((with_reducible refine kis_new ?_ ?_) <;> (first | with_reducible rfl | rfl | (simp; done))) | with_reducible refine kis_alloc _ ?_ | with_reducible refine kis_drew ?_ | with_reducible refine kis_call (by with_reducible assumption) ?_ | with_reducible exact kis_of (kcall (by with_reducible assumption) (by with_reducible assumption)))); done)) | with_reducible refine kother (by decide) ?_ | with_reducible refine kset (by first | omega | (simp; done) | (simp; omega)) ?_ | with_reducible refine kalloc _ ?_ | with_reducible refine kdrew ?_ | with_reducible refine kdrewN ?_ | with_reducible refine kcall (by with_reducible assumption) ?_))
    · (repeat (first | with_reducible assumption | ((with_reducible refine kfresh ?_ ?_) <;> (first | with_reducible rfl | (simp; done))) | ((with_reducible refine ksameS ?_); focus ((repeat (first | with_reducible exact kis_of (by with_reducible assumption) | with_reducible refine kis_set ?_ | ((with_reducible refine kis_new ?_ ?_) <;> (first | with_reducible rfl | rfl | (simp; done))) | with_reducible refine kis_alloc _ ?_ | with_reducible refine kis_drew ?_ | with_reducible refine kis_call (by with_reducible assumption) ?_ | with_reducible exact kis_of (kcall (by with_reducible assumption) (by with_reducible assumption)))); done)) | with_reducible refine kother (by decide) ?_ | with_reducible refine kset (by first | omega | (simp; done) | (simp; omega)) ?_ | with_reducible refine kalloc _ ?_ | with_reducible refine kdrew ?_ | with_reducible refine kdrewN ?_ | with_reducible refine kcall (by with_reducible assumption) ?_))
    · (repeat (first | with_reducible assumption | ((with_reducible refine kfresh ?_ ?_) <;> (first | with_reducible rfl | (simp; done))) | ((with_reducible refine ksameS ?_); focus ((repeat (first | with_reducible exact kis_of (by with_reducible assumption) | with_reducible refine kis_set ?_ | ((with_reducible refine kis_new ?_ ?_) <;> (first | with_reducible rfl | rfl | (simp; done))) | with_reducible refine kis_alloc _ ?_ | with_reducible refine kis_drew ?_ | with_reducible refine kis_call (by with_reducible assumption) ?_ | with_reducible exact kis_of (kcall (by with_reducible assumption) (by with_reducible assumption)))); done)) | with_reducible refine kother (by decide) ?_ | with_reducible refine kset (by first | omega | (simp; done) | (simp; omega)) ?_ | with_reducible refine kalloc _ ?_ | with_reducible refine kdrew ?_ | with_reducible refine kdrewN ?_ | with_reducible refine kcall (by with_reducible assumption) ?_))
    · (repeat (first | with_reducible assumption | ((with_reducible refine kfresh ?_ ?_) <;> (first | with_reducible rfl | (simp; done))) | ((with_reducible refine ksameS ?_); focus ((repeat (first | with_reducible exact kis_of (by with_reducible assumption) | with_reducible refine kis_set ?_ | ((with_reducible refine kis_new ?_ ?_) <;> (first | with_reducible rfl | rfl | (simp; done))) | with_reducible refine kis_alloc _ ?_ | with_reducible refine kis_drew ?_ | with_reducible refine kis_call (by with_reducible assumption) ?_ | with_reducible exact kis_of (kcall (by with_reducible assumption) (by with_reducible assumption)))); done)) | with_reducible refine kother (by decide) ?_ | with_reducible refine kset (by first | omega | (simp; done) | (simp; omega)) ?_ | with_reducible refine kalloc _ ?_ | with_reducible refine kdrew ?_ | with_reducible refine kdrewN ?_ | with_reducible refine kcall (by with_reducible assumption) ?_))
    · (repeat (first | with_reducible assumption | ((with_reducible refine kfresh ?_ ?_) <;> (first | with_reducible rfl | (simp; done))) | ((with_reducible refine ksameS ?_); focus ((repeat (first | with_reducible exact kis_of (by with_reducible assumption) | with_reducible refine kis_set ?_ | ((with_reducible refine kis_new ?_ ?_) <;> (first | with_reducible rfl | rfl | (simp; done))) | with_reducible refine kis_alloc _ ?_ | with_reducible refine kis_drew ?_ | with_reducible refine kis_call (by with_reducible assumption) ?_ | with_reducible exact kis_of (kcall (by with_reducible assumption) (by with_reducible assumption)))); done)) | with_reducible refine kother (by decide) ?_ | with_reducible refine kset (by first | omega | (simp; done) | (simp; omega)) ?_ | with_reducible refine kalloc _ ?_ | with_reducible refine kdrew ?_ | with_reducible refine kdrewN ?_ | with_reducible refine kcall (by with_reducible assumption) ?_))
    · (repeat (first | with_reducible assumption | ((with_reducible refine kfresh ?_ ?_) <;> (first | with_reducible rfl | (simp; done))) | ((with_reducible refine ksameS ?_); focus ((repeat (first | with_reducible exact kis_of (by with_reducible assumption) | with_reducible refine kis_set ?_ | ((with_reducible refine kis_new ?_ ?_) <;> (first | with_reducible rfl | rfl | (simp; done))) | with_reducible refine kis_alloc _ ?_ | with_reducible refine kis_drew ?_ | with_reducible refine kis_call (by with_reducible assumption) ?_ | with_reducible exact kis_of (kcall (by with_reducible assumption) (by with_reducible assumption)))); done)) | with_reducible refine kother (by decide) ?_ | with_reducible refine kset (by first | omega | (simp; done) | (simp; omega)) ?_ | with_reducible refine kalloc _ ?_ | with_reducible refine kdrew ?_ | with_reducible refine kdrewN ?_ | with_reducible refine kcall (by with_reducible assumption) ?_))
    · (repeat (first | with_reducible assumption | ((with_reducible refine kfresh ?_ ?_) <;> (first | with_reducible rfl | (simp; done))) | ((with_reducible refine ksameS ?_); focus ((repeat (first | with_reducible exact kis_of (by with_reducible assumption) | with_reducible refine kis_set ?_ | ((with_reducible refine kis_new ?_ ?_) <;> (first | with_reducible rfl | rfl | (simp; done))) | with_reducible refine kis_alloc _ ?_ | with_reducible refine kis_drew ?_ | with_reducible refine kis_call (by with_reducible assumption) ?_ | with_reducible exact kis_of (kcall (by with_reducible assumption) (by with_reducible assumption)))); done)) | with_reducible refine kother (by decide) ?_ | with_reducible refine kset (by first | omega | (simp; done) | (simp; omega)) ?_ | with_reducible refine kalloc _ ?_ | with_reducible refine kdrew ?_ | with_reducible refine kdrewN ?_ | with_reducible refine kcall (by with_reducible assumption) ?_))
    · (repeat (first | with_reducible assumption | ((with_reducible refine kfresh ?_ ?_) <;> (first | with_reducible rfl | (simp; done))) | ((with_reducible refine ksameS ?_); focus ((repeat (first | with_reducible exact kis_of (by with_reducible assumption) | with_reducible refine kis_set ?_ | ((with_reducible refine kis_new ?_ ?_) <;> (first | with_reducible rfl | rfl | (simp; done))) | with_reducible refine kis_alloc _ ?_ | with_reducible refine kis_drew ?_ | with_reducible refine kis_call (by with_reducible assumption) ?_ | with_reducible exact kis_of (kcall (by with_reducible assumption) (by with_reducible assumption)))); done)) | with_reducible refine kother (by decide) ?_ | with_reducible refine kset (by first | omega | (simp; done) | (simp; omega)) ?_ | with_reducible refine kalloc _ ?_ | with_reducible refine kdrew ?_ | with_reducible refine kdrewN ?_ | with_reducible refine kcall (by with_reducible assumption) ?_))
    · (repeat (first | with_reducible assumption | ((with_reducible refine kfresh ?_ ?_) <;> (first | with_reducible rfl | (simp; done))) | ((with_reducible refine ksameS ?_); focus ((repeat (first | with_reducible exact kis_of (by with_reducible assumption) | with_reducible refine kis_set ?_ | ((with_reducible refine kis_new ?_ ?_) <;> (first | with_reducible rfl | rfl | (simp; done))) | with_reducible refine kis_alloc _ ?_ | with_reducible refine kis_drew ?_ | with_reducible refine kis_call (by with_reducible assumption) ?_ | with_reducible exact kis_of (kcall (by with_reducible assumption) (by with_reducible assumption)))); done)) | with_reducible refine kother (by decide) ?_ | with_reducible refine kset (by first | omega | (simp; done) | (simp; omega)) ?_ | with_reducible refine kalloc _ ?_ | with_reducible refine kdrew ?_ | with_reducible refine kdrewN ?_ | with_reducible refine kcall (by with_reducible assumption) ?_))
    · (repeat (first | with_reducible assumption | ((with_reducible refine kfresh ?_ ?_) <;> (first | with_reducible rfl | (simp; done))) | ((with_reducible refine ksameS ?_); focus ((repeat (first | with_reducible exact kis_of (by with_reducible assumption) | with_reducible refine kis_set ?_ | ((with_reducible refine kis_new ?_ ?_) <;> (first | with_reducible rfl | rfl | (simp; done))) | with_reducible refine kis_alloc _ ?_ | with_reducible refine kis_drew ?_ | with_reducible refine kis_call (by with_reducible assumption) ?_ | with_reducible exact kis_of (kcall (by with_reducible assumption) (by with_reducible assumption)))); done)) | with_reducible refine kother (by decide) ?_ | with_reducible refine kset (by first | omega | (simp; done) | (simp; omega)) ?_ | with_reducible refine kalloc _ ?_ | with_reducible refine kdrew ?_ | with_reducible refine kdrewN ?_ | with_reducible refine kcall (by with_reducible assumption) ?_))
    · (repeat (first | with_reducible assumption | with_reducible refine fdrew ?_ | with_reducible refine fdrewN ?_ | with_reducible refine fset ?_ | ((with_reducible refine fallocNew ?_) <;> (first | with_reducible rfl | (simp; done))) | ((with_reducible refine kfro (by with_reducible assumption) ?_ ?_); focus (first | with_reducible assumption | omega | (simp; done) | (simp; omega))) | ((with_reducible refine falloc ?_ ?_); focus (first | with_reducible assumption | omega | (simp; done) | (simp; omega)))))
    · (repeat (first | with_reducible assumption | with_reducible refine fdrew ?_ | with_reducible refine fdrewN ?_ | with_reducible refine fset ?_ | ((with_reducible refine fallocNew ?_) <;> (first | with_reducible rfl | (simp; done))) | ((with_reducible refine kfro (by with_reducible assumption) ?_ ?_); focus (first | with_reducible assumption | omega | (simp; done) | (simp; omega))) | ((with_reducible refine falloc ?_ ?_); focus (first | with_reducible assumption | omega | (simp; done) | (simp; omega)))))
    · (repeat (first | with_reducible assumption | with_reducible refine fdrew ?_ | with_reducible refine fdrewN ?_ | with_reducible refine fset ?_ | ((with_reducible refine fallocNew ?_) <;> (first | with_reducible rfl | (simp; done))) | ((with_reducible refine kfro (by with_reducible assumption) ?_ ?_); focus (first | with_reducible assumption | omega | (simp; done) | (simp; omega))) | ((with_reducible refine falloc ?_ ?_); focus (first | with_reducible assumption | omega | (simp; done) | (simp; omega)))))
    · (repeat (first | with_reducible assumption | with_reducible refine fdrew ?_ | with_reducible refine fdrewN ?_ | with_reducible refine fset ?_ | ((with_reducible refine fallocNew ?_) <;> (first | with_reducible rfl | (simp; done))) | ((with_reducible refine kfro (by with_reducible assumption) ?_ ?_); focus (first | with_reducible assumption | omega | (simp; done) | (simp; omega))) | ((with_reducible refine falloc ?_ ?_); focus (first | with_reducible assumption | omega | (simp; done) | (simp; omega)))))
    · (repeat (first | with_reducible assumption | with_reducible refine fdrew ?_ | with_reducible refine fdrewN ?_ | with_reducible refine fset ?_ | ((with_reducible refine fallocNew ?_) <;> (first | with_reducible rfl | (simp; done))) | ((with_reducible refine kfro (by with_reducible assumption) ?_ ?_); focus (first | with_reducible assumption | omega | (simp; done) | (simp; omega))) | ((with_reducible refine falloc ?_ ?_); focus (first | with_reducible assumption | omega | (simp; done) | (simp; omega)))))
    · (repeat (first | with_reducible assumption | with_reducible refine fdrew ?_ | with_reducible refine fdrewN ?_ | with_reducible refine fset ?_ | ((with_reducible refine fallocNew ?_) <;> (first | with_reducible rfl | (simp; done))) | ((with_reducible refine kfro (by with_reducible assumption) ?_ ?_); focus (first | with_reducible assumption | omega | (simp; done) | (simp; omega))) | ((with_reducible refine falloc ?_ ?_); focus (first | with_reducible assumption | omega | (simp; done) | (simp; omega)))))
    · (repeat (first | with_reducible assumption | with_reducible refine fdrew ?_ | with_reducible refine fdrewN ?_ | with_reducible refine fset ?_ | ((with_reducible refine fallocNew ?_) <;> (first | with_reducible rfl | (simp; done))) | ((with_reducible refine kfro (by with_reducible assumption) ?_ ?_); focus (first | with_reducible assumption | omega | (simp; done) | (simp; omega))) | ((with_reducible refine falloc ?_ ?_); focus (first | with_reducible assumption | omega | (simp; done) | (simp; omega)))))
    · (repeat (first | with_reducible assumption | with_reducible refine fdrew ?_ | with_reducible refine fdrewN ?_ | with_reducible refine fset ?_ | ((with_reducible refine fallocNew ?_) <;> (first | with_reducible rfl | (simp; done))) | ((with_reducible refine kfro (by with_reducible assumption) ?_ ?_); focus (first | with_reducible assumption | omega | (simp; done) | (simp; omega))) | ((with_reducible refine falloc ?_ ?_); focus (first | with_reducible assumption | omega | (simp; done) | (simp; omega)))))
    · (repeat (first | with_reducible assumption | with_reducible refine fdrew ?_ | with_reducible refine fdrewN ?_ | with_reducible refine fset ?_ | ((with_reducible refine fallocNew ?_) <;> (first | with_reducible rfl | (simp; done))) | ((with_reducible refine kfro (by with_reducible assumption) ?_ ?_); focus (first | with_reducible assumption | omega | (simp; done) | (simp; omega))) | ((with_reducible refine falloc ?_ ?_); focus (first | with_reducible assumption | omega | (simp; done) | (simp; omega)))))
    · (repeat (first | with_reducible assumption | with_reducible refine fdrew ?_ | with_reducible refine fdrewN ?_ | with_reducible refine fset ?_ | ((with_reducible refine fallocNew ?_) <;> (first | with_reducible rfl | (simp; done))) | ((with_reducible refine kfro (by with_reducible assumption) ?_ ?_); focus (first | with_reducible assumption | omega | (simp; done) | (simp; omega))) | ((with_reducible refine falloc ?_ ?_); focus (first | with_reducible assumption | omega | (simp; done) | (simp; omega)))))
    · (repeat (first | with_reducible assumption | with_reducible refine fdrew ?_ | with_reducible refine fdrewN ?_ | with_reducible refine fset ?_ | ((with_reducible refine fallocNew ?_) <;> (first | with_reducible rfl | (simp; done))) | ((with_reducible refine kfro (by with_reducible assumption) ?_ ?_); focus (first | with_reducible assumption | omega | (simp; done) | (simp; omega))) | ((with_reducible refine falloc ?_ ?_); focus (first | with_reducible assumption | omega | (simp; done) | (simp; omega)))))
    · (repeat (first | with_reducible exact Below.refl _ _ | with_reducible refine balloc ?_ _ | with_reducible refine bdrewN ?_ _ | with_reducible refine Below.drew ?_ | with_reducible refine bthen ?_ (by with_reducible assumption) | with_reducible refine Below.setCell ?_ (by first | (simp; done) | (simp; omega)) _))
    · (first | omega | (simp; done) | (simp; omega))
  case' rest => obtain ⟨rfl, rfl, rfl, rfl, cO0, cO1, cO2, cO3, cO4, cO5, cO6, cO7, cO8, cO9, cO10, fO0, fO1, fO2, fO3, fO4, fO5, fO6, fO7, fO8, fO9, fO10, hxO, hsO⟩ := hcut
  obtain ⟨wO, rfl⟩ : ∃ wO : World, wO = wc := ⟨_, rfl⟩
  have lO0 : w.heap.size < wO.heap.size := by omega
  have lO1 : w.heap.size + 1 < wO.heap.size := by omega
  have lO2 : w.heap.size + 1 + 1 < wO.heap.size := by omega
  rcases bool_ways (isP p) with hd1 | hd1
  · skip
    have c_1 : codeOf p (cnB p k1 k2 k3 k4 k5 k6) = 1 := codeOf_no hd1
    have cN : ∀ b, codeOf p b = 1 := fun b => codeOf_no hd1
    go_wp2_with fail
    refine Calls.mono (specConCode_any _ _ _ _ _ _ _ _) ?_
    rintro e w1 ⟨rfl, hB1⟩
    (obtain ⟨hB1c, hB1f⟩ := bcell hB1; have hB1s := hB1.size; (try simp at hB1s); (try have hB1q1 := Nat.lt_of_succ_le hB1s); (try have hB1q2 := Nat.lt_of_succ_lt hB1q1); (try have hB1q3 := Nat.lt_of_succ_lt hB1q2); (try have hB1zw0 : w.heap.size < w1.heap.size := (by omega)); (try have hB1zw1 : w.heap.size + 1 < w1.heap.size := (by omega)); (try have hB1zw2 : w.heap.size + 1 + 1 < w1.heap.size := (by omega)); (try have hB1zw3 : w.heap.size + 1 + 1 + 1 < w1.heap.size := (by omega)); (try have hB1zw4 : w.heap.size + 1 + 1 + 1 + 1 < w1.heap.size := (by omega)); (try have hB1zwO0 : wO.heap.size < w1.heap.size := (by omega)); (try have hB1zwO1 : wO.heap.size + 1 < w1.heap.size := (by omega)); (try have hB1zwO2 : wO.heap.size + 1 + 1 < w1.heap.size := (by omega)); (try have hB1zwO3 : wO.heap.size + 1 + 1 + 1 < w1.heap.size := (by omega)); (try have hB1zwO4 : wO.heap.size + 1 + 1 + 1 + 1 < w1.heap.size := (by omega)))
    have HV := Lib.hid (pe_no (k1 := k1) (k2 := k2) (k3 := k3) (k4 := k4) (k5 := k5) (k6 := k6) (l1 := l1) (l2 := l2) (l3 := l3) hd1)
    go_wp2
    (refine bodyPost_ret (v := .tuple #[.agg #[.int .i64 (peV1 p k1 k2 k3 k4 k5 k6 l1 l2 l3), .int .i64 (peV2 p k1 k2 k3 k4 k5 k6 l1 l2 l3)], .int .i64 (peC p k1 k2 k3 k4 k5 k6 l1 l2 l3)]) (by simp [results, Try.results8, go_sem, HV.out.1, HV.out.2.1, HV.out.2.2, *]) rfl ⟨?_, ?_⟩)
    · rfl
    · (repeat (first | with_reducible exact Below.refl _ _ | with_reducible exact hxO | with_reducible refine balloc ?_ _ | with_reducible refine bdrewN ?_ _ | with_reducible refine Below.drew ?_ | with_reducible refine bthen ?_ (by with_reducible assumption) | with_reducible refine Below.setCell ?_ (by first | (simp; done) | (simp; omega)) _))
  · have hp := hd1
    have hr := isP_range hp
    rcases bool_ways (cnB p k1 k2 k3 k4 k5 k6) with hd2 | hd2
    · skip
      have c_1 : codeOf p (cnB p k1 k2 k3 k4 k5 k6) = 2 := codeOf_out hp (by simp [hd2])
      have cT : codeOf p true = 0 := codeOf_in hp rfl
      have cF : codeOf p false = 2 := codeOf_out hp rfl
      go_wp2_with fail
      refine Calls.mono (specConCode_any _ _ _ _ _ _ _ _) ?_
      rintro e w1 ⟨rfl, hB1⟩
      (obtain ⟨hB1c, hB1f⟩ := bcell hB1; have hB1s := hB1.size; (try simp at hB1s); (try have hB1q1 := Nat.lt_of_succ_le hB1s); (try have hB1q2 := Nat.lt_of_succ_lt hB1q1); (try have hB1q3 := Nat.lt_of_succ_lt hB1q2); (try have hB1zw0 : w.heap.size < w1.heap.size := (by omega)); (try have hB1zw1 : w.heap.size + 1 < w1.heap.size := (by omega)); (try have hB1zw2 : w.heap.size + 1 + 1 < w1.heap.size := (by omega)); (try have hB1zw3 : w.heap.size + 1 + 1 + 1 < w1.heap.size := (by omega)); (try have hB1zw4 : w.heap.size + 1 + 1 + 1 + 1 < w1.heap.size := (by omega)); (try have hB1zwO0 : wO.heap.size < w1.heap.size := (by omega)); (try have hB1zwO1 : wO.heap.size + 1 < w1.heap.size := (by omega)); (try have hB1zwO2 : wO.heap.size + 1 + 1 < w1.heap.size := (by omega)); (try have hB1zwO3 : wO.heap.size + 1 + 1 + 1 < w1.heap.size := (by omega)); (try have hB1zwO4 : wO.heap.size + 1 + 1 + 1 + 1 < w1.heap.size := (by omega)))
      have HV := Lib.hid (pe_out (k1 := k1) (k2 := k2) (k3 := k3) (k4 := k4) (k5 := k5) (k6 := k6) (l1 := l1) (l2 := l2) (l3 := l3) hp (by simp [peB, hd1, hd2]))
      go_wp2
      (refine bodyPost_ret (v := .tuple #[.agg #[.int .i64 (peV1 p k1 k2 k3 k4 k5 k6 l1 l2 l3), .int .i64 (peV2 p k1 k2 k3 k4 k5 k6 l1 l2 l3)], .int .i64 (peC p k1 k2 k3 k4 k5 k6 l1 l2 l3)]) (by simp [results, Try.results8, go_sem, HV.out.1, HV.out.2.1, HV.out.2.2, *]) rfl ⟨?_, ?_⟩)
      · rfl
      · (repeat (first | with_reducible exact Below.refl _ _ | with_reducible exact hxO | with_reducible refine balloc ?_ _ | with_reducible refine bdrewN ?_ _ | with_reducible refine Below.drew ?_ | with_reducible refine bthen ?_ (by with_reducible assumption) | with_reducible refine Below.setCell ?_ (by first | (simp; done) | (simp; omega)) _))
    · have hd2q := nums6 (cnB_nums hd2)
      have c_1 : codeOf p (cnB p k1 k2 k3 k4 k5 k6) = 0 := codeOf_in hp (by simp [hd2])
      have cT : codeOf p true = 0 := codeOf_in hp rfl
      go_wp2_with fail
      refine Calls.mono (specConCode_any _ _ _ _ _ _ _ _) ?_
      rintro e w1 ⟨rfl, hB1⟩
      (obtain ⟨hB1c, hB1f⟩ := bcell hB1; have hB1s := hB1.size; (try simp at hB1s); (try have hB1q1 := Nat.lt_of_succ_le hB1s); (try have hB1q2 := Nat.lt_of_succ_lt hB1q1); (try have hB1q3 := Nat.lt_of_succ_lt hB1q2); (try have hB1zw0 : w.heap.size < w1.heap.size := (by omega)); (try have hB1zw1 : w.heap.size + 1 < w1.heap.size := (by omega)); (try have hB1zw2 : w.heap.size + 1 + 1 < w1.heap.size := (by omega)); (try have hB1zw3 : w.heap.size + 1 + 1 + 1 < w1.heap.size := (by omega)); (try have hB1zw4 : w.heap.size + 1 + 1 + 1 + 1 < w1.heap.size := (by omega)); (try have hB1zwO0 : wO.heap.size < w1.heap.size := (by omega)); (try have hB1zwO1 : wO.heap.size + 1 < w1.heap.size := (by omega)); (try have hB1zwO2 : wO.heap.size + 1 + 1 < w1.heap.size := (by omega)); (try have hB1zwO3 : wO.heap.size + 1 + 1 + 1 < w1.heap.size := (by omega)); (try have hB1zwO4 : wO.heap.size + 1 + 1 + 1 + 1 < w1.heap.size := (by omega)))
      rcases bool_ways (lineB p l1 l2 l3) with hd3 | hd3
      · skip
        have c_2 : codeOf p (lineB p l1 l2 l3) = 2 := codeOf_out hp (by simp [hd3])
        have cF : codeOf p false = 2 := codeOf_out hp rfl
        go_wp2_with fail
        refine Calls.mono (specLines1 _ _ _ _ _ _ (by first | rfl | (simp; done))) ?_
        rintro e w2 ⟨rfl, hB2⟩
        (obtain ⟨hB2c, hB2f⟩ := bcell hB2; have hB2s := hB2.size; (try simp at hB2s); (try have hB2q1 := Nat.lt_of_succ_le hB2s); (try have hB2q2 := Nat.lt_of_succ_lt hB2q1); (try have hB2q3 := Nat.lt_of_succ_lt hB2q2); (try have hB2zw0 : w.heap.size < w2.heap.size := (by omega)); (try have hB2zw1 : w.heap.size + 1 < w2.heap.size := (by omega)); (try have hB2zw2 : w.heap.size + 1 + 1 < w2.heap.size := (by omega)); (try have hB2zw3 : w.heap.size + 1 + 1 + 1 < w2.heap.size := (by omega)); (try have hB2zw4 : w.heap.size + 1 + 1 + 1 + 1 < w2.heap.size := (by omega)); (try have hB2zw10 : w1.heap.size < w2.heap.size := (by omega)); (try have hB2zw11 : w1.heap.size + 1 < w2.heap.size := (by omega)); (try have hB2zw12 : w1.heap.size + 1 + 1 < w2.heap.size := (by omega)); (try have hB2zw13 : w1.heap.size + 1 + 1 + 1 < w2.heap.size := (by omega)); (try have hB2zw14 : w1.heap.size + 1 + 1 + 1 + 1 < w2.heap.size := (by omega)); (try have hB2zwO0 : wO.heap.size < w2.heap.size := (by omega)); (try have hB2zwO1 : wO.heap.size + 1 < w2.heap.size := (by omega)); (try have hB2zwO2 : wO.heap.size + 1 + 1 < w2.heap.size := (by omega)); (try have hB2zwO3 : wO.heap.size + 1 + 1 + 1 < w2.heap.size := (by omega)); (try have hB2zwO4 : wO.heap.size + 1 + 1 + 1 + 1 < w2.heap.size := (by omega)))
        have HV := Lib.hid (pe_out (k1 := k1) (k2 := k2) (k3 := k3) (k4 := k4) (k5 := k5) (k6 := k6) (l1 := l1) (l2 := l2) (l3 := l3) hp (by simp [peB, hd1, hd2, hd3]))
        go_wp2
        (refine bodyPost_ret (v := .tuple #[.agg #[.int .i64 (peV1 p k1 k2 k3 k4 k5 k6 l1 l2 l3), .int .i64 (peV2 p k1 k2 k3 k4 k5 k6 l1 l2 l3)], .int .i64 (peC p k1 k2 k3 k4 k5 k6 l1 l2 l3)]) (by simp [results, Try.results8, go_sem, HV.out.1, HV.out.2.1, HV.out.2.2, *]) rfl ⟨?_, ?_⟩)
        · rfl
        · (repeat (first | with_reducible exact Below.refl _ _ | with_reducible exact hxO | with_reducible refine balloc ?_ _ | with_reducible refine bdrewN ?_ _ | with_reducible refine Below.drew ?_ | with_reducible refine bthen ?_ (by with_reducible assumption) | with_reducible refine Below.setCell ?_ (by first | (simp; done) | (simp; omega)) _))
      · have hd3q := nums3 (lineB_in hd3).2
        have hd3l := lead_ways (lineB_in hd3).1
        have c_2 : codeOf p (lineB p l1 l2 l3) = 0 := codeOf_in hp (by simp [hd3])
        obtain ⟨v1, hv1⟩ : ∃ v : Int, v = dtm p k1 k2 k3 k4 k5 k6 := ⟨_, rfl⟩
        have rv1 := dtm_r k1 k2 k3 k4 k5 k6 hp
        rw [← hv1] at rv1
        have Hv1 := Lib.hid hv1
        clear hv1
        go_wp2_with fail
        refine Calls.mono (specLines1 _ _ _ _ _ _ (by first | rfl | (simp; done))) ?_
        rintro e w2 ⟨rfl, hB2⟩
        (obtain ⟨hB2c, hB2f⟩ := bcell hB2; have hB2s := hB2.size; (try simp at hB2s); (try have hB2q1 := Nat.lt_of_succ_le hB2s); (try have hB2q2 := Nat.lt_of_succ_lt hB2q1); (try have hB2q3 := Nat.lt_of_succ_lt hB2q2); (try have hB2zw0 : w.heap.size < w2.heap.size := (by omega)); (try have hB2zw1 : w.heap.size + 1 < w2.heap.size := (by omega)); (try have hB2zw2 : w.heap.size + 1 + 1 < w2.heap.size := (by omega)); (try have hB2zw3 : w.heap.size + 1 + 1 + 1 < w2.heap.size := (by omega)); (try have hB2zw4 : w.heap.size + 1 + 1 + 1 + 1 < w2.heap.size := (by omega)); (try have hB2zw10 : w1.heap.size < w2.heap.size := (by omega)); (try have hB2zw11 : w1.heap.size + 1 < w2.heap.size := (by omega)); (try have hB2zw12 : w1.heap.size + 1 + 1 < w2.heap.size := (by omega)); (try have hB2zw13 : w1.heap.size + 1 + 1 + 1 < w2.heap.size := (by omega)); (try have hB2zw14 : w1.heap.size + 1 + 1 + 1 + 1 < w2.heap.size := (by omega)); (try have hB2zwO0 : wO.heap.size < w2.heap.size := (by omega)); (try have hB2zwO1 : wO.heap.size + 1 < w2.heap.size := (by omega)); (try have hB2zwO2 : wO.heap.size + 1 + 1 < w2.heap.size := (by omega)); (try have hB2zwO3 : wO.heap.size + 1 + 1 + 1 < w2.heap.size := (by omega)); (try have hB2zwO4 : wO.heap.size + 1 + 1 + 1 + 1 < w2.heap.size := (by omega)))
        go_wp2_with fail
        refine Calls.mono (specDtm_any _ _ _ _ _ _ _ _ hp (by omega) (by omega) (by omega) (by omega) (by omega) (by omega)) ?_
        rw [← Hv1.out]
        rintro e w3 ⟨rfl, hB3⟩
        (obtain ⟨hB3c, hB3f⟩ := bcell hB3; have hB3s := hB3.size; (try simp at hB3s); (try have hB3q1 := Nat.lt_of_succ_le hB3s); (try have hB3q2 := Nat.lt_of_succ_lt hB3q1); (try have hB3q3 := Nat.lt_of_succ_lt hB3q2); (try have hB3zw0 : w.heap.size < w3.heap.size := (by omega)); (try have hB3zw1 : w.heap.size + 1 < w3.heap.size := (by omega)); (try have hB3zw2 : w.heap.size + 1 + 1 < w3.heap.size := (by omega)); (try have hB3zw3 : w.heap.size + 1 + 1 + 1 < w3.heap.size := (by omega)); (try have hB3zw4 : w.heap.size + 1 + 1 + 1 + 1 < w3.heap.size := (by omega)); (try have hB3zw20 : w2.heap.size < w3.heap.size := (by omega)); (try have hB3zw21 : w2.heap.size + 1 < w3.heap.size := (by omega)); (try have hB3zw22 : w2.heap.size + 1 + 1 < w3.heap.size := (by omega)); (try have hB3zw23 : w2.heap.size + 1 + 1 + 1 < w3.heap.size := (by omega)); (try have hB3zw24 : w2.heap.size + 1 + 1 + 1 + 1 < w3.heap.size := (by omega)); (try have hB3zw10 : w1.heap.size < w3.heap.size := (by omega)); (try have hB3zw11 : w1.heap.size + 1 < w3.heap.size := (by omega)); (try have hB3zw12 : w1.heap.size + 1 + 1 < w3.heap.size := (by omega)); (try have hB3zw13 : w1.heap.size + 1 + 1 + 1 < w3.heap.size := (by omega)); (try have hB3zw14 : w1.heap.size + 1 + 1 + 1 + 1 < w3.heap.size := (by omega)); (try have hB3zwO0 : wO.heap.size < w3.heap.size := (by omega)); (try have hB3zwO1 : wO.heap.size + 1 < w3.heap.size := (by omega)); (try have hB3zwO2 : wO.heap.size + 1 + 1 < w3.heap.size := (by omega)); (try have hB3zwO3 : wO.heap.size + 1 + 1 + 1 < w3.heap.size := (by omega)); (try have hB3zwO4 : wO.heap.size + 1 + 1 + 1 + 1 < w3.heap.size := (by omega)))
        rcases bool_ways (v1 == 0) with hd4 | hd4
        · have hd4n : (v1 != 0) = true := by rw [bne, hd4]; rfl
          have Hhd4p := Lib.hid (beq_eq_false_iff_ne.1 hd4)
          have HB : peB p k1 k2 k3 k4 k5 k6 l1 l2 l3 = true := by simp [peB, hd1, hd2, hd3, hd4]
          have hdt : (dtm p k1 k2 k3 k4 k5 k6 == 0) = false := by rw [← Hv1.out]; assumption
          have g0 : w3.cell? ⟨w.heap.size, 0, none⟩ = some (.int .i64 k1) := by (repeat (first | with_reducible assumption | ((with_reducible refine kfresh ?_ ?_) <;> (first | with_reducible rfl | (simp; done))) | ((with_reducible refine ksameS ?_); focus ((repeat (first | with_reducible exact kis_of (by with_reducible assumption) | with_reducible refine kis_set ?_ | ((with_reducible refine kis_new ?_ ?_) <;> (first | with_reducible rfl | rfl | (simp; done))) | with_reducible refine kis_alloc _ ?_ | with_reducible refine kis_drew ?_ | with_reducible refine kis_call (by with_reducible assumption) ?_ | with_reducible exact kis_of (kcall (by with_reducible assumption) (by with_reducible assumption)))); done)) | with_reducible refine kother (by decide) ?_ | with_reducible refine kset (by first | omega | (simp; done) | (simp; omega)) ?_ | with_reducible refine kalloc _ ?_ | with_reducible refine kdrew ?_ | with_reducible refine kdrewN ?_ | with_reducible refine kcall (by with_reducible assumption) ?_))
          have g1 : w3.cell? ⟨w.heap.size, 1, none⟩ = some (.int .i64 k2) := by (repeat (first | with_reducible assumption | ((with_reducible refine kfresh ?_ ?_) <;> (first | with_reducible rfl | (simp; done))) | ((with_reducible refine ksameS ?_); focus ((repeat (first | with_reducible exact kis_of (by with_reducible assumption) | with_reducible refine kis_set ?_ | ((with_reducible refine kis_new ?_ ?_) <;> (first | with_reducible rfl | rfl | (simp; done))) | with_reducible refine kis_alloc _ ?_ | with_reducible refine kis_drew ?_ | with_reducible refine kis_call (by with_reducible assumption) ?_ | with_reducible exact kis_of (kcall (by with_reducible assumption) (by with_reducible assumption)))); done)) | with_reducible refine kother (by decide) ?_ | with_reducible refine kset (by first | omega | (simp; done) | (simp; omega)) ?_ | with_reducible refine kalloc _ ?_ | with_reducible refine kdrew ?_ | with_reducible refine kdrewN ?_ | with_reducible refine kcall (by with_reducible assumption) ?_))
          have g2 : w3.cell? ⟨w.heap.size, 2, none⟩ = some (.int .i64 k3) := by (repeat (first | with_reducible assumption | ((with_reducible refine kfresh ?_ ?_) <;> (first | with_reducible rfl | (simp; done))) | ((with_reducible refine ksameS ?_); focus ((repeat (first | with_reducible exact kis_of (by with_reducible assumption) | with_reducible refine kis_set ?_ | ((with_reducible refine kis_new ?_ ?_) <;> (first | with_reducible rfl | rfl | (simp; done))) | with_reducible refine kis_alloc _ ?_ | with_reducible refine kis_drew ?_ | with_reducible refine kis_call (by with_reducible assumption) ?_ | with_reducible exact kis_of (kcall (by with_reducible assumption) (by with_reducible assumption)))); done)) | with_reducible refine kother (by decide) ?_ | with_reducible refine kset (by first | omega | (simp; done) | (simp; omega)) ?_ | with_reducible refine kalloc _ ?_ | with_reducible refine kdrew ?_ | with_reducible refine kdrewN ?_ | with_reducible refine kcall (by with_reducible assumption) ?_))
          have g3 : w3.cell? ⟨w.heap.size, 3, none⟩ = some (.int .i64 k4) := by (repeat (first | with_reducible assumption | ((with_reducible refine kfresh ?_ ?_) <;> (first | with_reducible rfl | (simp; done))) | ((with_reducible refine ksameS ?_); focus ((repeat (first | with_reducible exact kis_of (by with_reducible assumption) | with_reducible refine kis_set ?_ | ((with_reducible refine kis_new ?_ ?_) <;> (first | with_reducible rfl | rfl | (simp; done))) | with_reducible refine kis_alloc _ ?_ | with_reducible refine kis_drew ?_ | with_reducible refine kis_call (by with_reducible assumption) ?_ | with_reducible exact kis_of (kcall (by with_reducible assumption) (by with_reducible assumption)))); done)) | with_reducible refine kother (by decide) ?_ | with_reducible refine kset (by first | omega | (simp; done) | (simp; omega)) ?_ | with_reducible refine kalloc _ ?_ | with_reducible refine kdrew ?_ | with_reducible refine kdrewN ?_ | with_reducible refine kcall (by with_reducible assumption) ?_))
          have g4 : w3.cell? ⟨w.heap.size, 4, none⟩ = some (.int .i64 k5) := by (repeat (first | with_reducible assumption | ((with_reducible refine kfresh ?_ ?_) <;> (first | with_reducible rfl | (simp; done))) | ((with_reducible refine ksameS ?_); focus ((repeat (first | with_reducible exact kis_of (by with_reducible assumption) | with_reducible refine kis_set ?_ | ((with_reducible refine kis_new ?_ ?_) <;> (first | with_reducible rfl | rfl | (simp; done))) | with_reducible refine kis_alloc _ ?_ | with_reducible refine kis_drew ?_ | with_reducible refine kis_call (by with_reducible assumption) ?_ | with_reducible exact kis_of (kcall (by with_reducible assumption) (by with_reducible assumption)))); done)) | with_reducible refine kother (by decide) ?_ | with_reducible refine kset (by first | omega | (simp; done) | (simp; omega)) ?_ | with_reducible refine kalloc _ ?_ | with_reducible refine kdrew ?_ | with_reducible refine kdrewN ?_ | with_reducible refine kcall (by with_reducible assumption) ?_))
          have g5 : w3.cell? ⟨w.heap.size, 5, none⟩ = some (.int .i64 k6) := by (repeat (first | with_reducible assumption | ((with_reducible refine kfresh ?_ ?_) <;> (first | with_reducible rfl | (simp; done))) | ((with_reducible refine ksameS ?_); focus ((repeat (first | with_reducible exact kis_of (by with_reducible assumption) | with_reducible refine kis_set ?_ | ((with_reducible refine kis_new ?_ ?_) <;> (first | with_reducible rfl | rfl | (simp; done))) | with_reducible refine kis_alloc _ ?_ | with_reducible refine kis_drew ?_ | with_reducible refine kis_call (by with_reducible assumption) ?_ | with_reducible exact kis_of (kcall (by with_reducible assumption) (by with_reducible assumption)))); done)) | with_reducible refine kother (by decide) ?_ | with_reducible refine kset (by first | omega | (simp; done) | (simp; omega)) ?_ | with_reducible refine kalloc _ ?_ | with_reducible refine kdrew ?_ | with_reducible refine kdrewN ?_ | with_reducible refine kcall (by with_reducible assumption) ?_))
          have g6 : w3.cell? ⟨w.heap.size + 1, 0, none⟩ = some (.int .i64 l1) := by (repeat (first | with_reducible assumption | ((with_reducible refine kfresh ?_ ?_) <;> (first | with_reducible rfl | (simp; done))) | ((with_reducible refine ksameS ?_); focus ((repeat (first | with_reducible exact kis_of (by with_reducible assumption) | with_reducible refine kis_set ?_ | ((with_reducible refine kis_new ?_ ?_) <;> (first | with_reducible rfl | rfl | (simp; done))) | with_reducible refine kis_alloc _ ?_ | with_reducible refine kis_drew ?_ | with_reducible refine kis_call (by with_reducible assumption) ?_ | with_reducible exact kis_of (kcall (by with_reducible assumption) (by with_reducible assumption)))); done)) | with_reducible refine kother (by decide) ?_ | with_reducible refine kset (by first | omega | (simp; done) | (simp; omega)) ?_ | with_reducible refine kalloc _ ?_ | with_reducible refine kdrew ?_ | with_reducible refine kdrewN ?_ | with_reducible refine kcall (by with_reducible assumption) ?_))
          have g7 : w3.cell? ⟨w.heap.size + 1, 1, none⟩ = some (.int .i64 l2) := by (repeat (first | with_reducible assumption | ((with_reducible refine kfresh ?_ ?_) <;> (first | with_reducible rfl | (simp; done))) | ((with_reducible refine ksameS ?_); focus ((repeat (first | with_reducible exact kis_of (by with_reducible assumption) | with_reducible refine kis_set ?_ | ((with_reducible refine kis_new ?_ ?_) <;> (first | with_reducible rfl | rfl | (simp; done))) | with_reducible refine kis_alloc _ ?_ | with_reducible refine kis_drew ?_ | with_reducible refine kis_call (by with_reducible assumption) ?_ | with_reducible exact kis_of (kcall (by with_reducible assumption) (by with_reducible assumption)))); done)) | with_reducible refine kother (by decide) ?_ | with_reducible refine kset (by first | omega | (simp; done) | (simp; omega)) ?_ | with_reducible refine kalloc _ ?_ | with_reducible refine kdrew ?_ | with_reducible refine kdrewN ?_ | with_reducible refine kcall (by with_reducible assumption) ?_))
          have g8 : w3.cell? ⟨w.heap.size + 1, 2, none⟩ = some (.int .i64 l3) := by (repeat (first | with_reducible assumption | ((with_reducible refine kfresh ?_ ?_) <;> (first | with_reducible rfl | (simp; done))) | ((with_reducible refine ksameS ?_); focus ((repeat (first | with_reducible exact kis_of (by with_reducible assumption) | with_reducible refine kis_set ?_ | ((with_reducible refine kis_new ?_ ?_) <;> (first | with_reducible rfl | rfl | (simp; done))) | with_reducible refine kis_alloc _ ?_ | with_reducible refine kis_drew ?_ | with_reducible refine kis_call (by with_reducible assumption) ?_ | with_reducible exact kis_of (kcall (by with_reducible assumption) (by with_reducible assumption)))); done)) | with_reducible refine kother (by decide) ?_ | with_reducible refine kset (by first | omega | (simp; done) | (simp; omega)) ?_ | with_reducible refine kalloc _ ?_ | with_reducible refine kdrew ?_ | with_reducible refine kdrewN ?_ | with_reducible refine kcall (by with_reducible assumption) ?_))
          have g9 : w3.cell? ⟨w.heap.size + 1 + 1, 0, none⟩ = some (.int .i64 0) := by (repeat (first | with_reducible assumption | ((with_reducible refine kfresh ?_ ?_) <;> (first | with_reducible rfl | (simp; done))) | ((with_reducible refine ksameS ?_); focus ((repeat (first | with_reducible exact kis_of (by with_reducible assumption) | with_reducible refine kis_set ?_ | ((with_reducible refine kis_new ?_ ?_) <;> (first | with_reducible rfl | rfl | (simp; done))) | with_reducible refine kis_alloc _ ?_ | with_reducible refine kis_drew ?_ | with_reducible refine kis_call (by with_reducible assumption) ?_ | with_reducible exact kis_of (kcall (by with_reducible assumption) (by with_reducible assumption)))); done)) | with_reducible refine kother (by decide) ?_ | with_reducible refine kset (by first | omega | (simp; done) | (simp; omega)) ?_ | with_reducible refine kalloc _ ?_ | with_reducible refine kdrew ?_ | with_reducible refine kdrewN ?_ | with_reducible refine kcall (by with_reducible assumption) ?_))
          have g10 : w3.cell? ⟨w.heap.size + 1 + 1, 1, none⟩ = some (.int .i64 0) := by (repeat (first | with_reducible assumption | ((with_reducible refine kfresh ?_ ?_) <;> (first | with_reducible rfl | (simp; done))) | ((with_reducible refine ksameS ?_); focus ((repeat (first | with_reducible exact kis_of (by with_reducible assumption) | with_reducible refine kis_set ?_ | ((with_reducible refine kis_new ?_ ?_) <;> (first | with_reducible rfl | rfl | (simp; done))) | with_reducible refine kis_alloc _ ?_ | with_reducible refine kis_drew ?_ | with_reducible refine kis_call (by with_reducible assumption) ?_ | with_reducible exact kis_of (kcall (by with_reducible assumption) (by with_reducible assumption)))); done)) | with_reducible refine kother (by decide) ?_ | with_reducible refine kset (by first | omega | (simp; done) | (simp; omega)) ?_ | with_reducible refine kalloc _ ?_ | with_reducible refine kdrew ?_ | with_reducible refine kdrewN ?_ | with_reducible refine kcall (by with_reducible assumption) ?_))
          have gf0 : w3.frozen? ⟨w.heap.size + 1 + 1, 0, none⟩ = false := by (repeat (first | with_reducible assumption | with_reducible refine fdrew ?_ | with_reducible refine fdrewN ?_ | with_reducible refine fset ?_ | ((with_reducible refine fallocNew ?_) <;> (first | with_reducible rfl | (simp; done))) | ((with_reducible refine kfro (by with_reducible assumption) ?_ ?_); focus (first | with_reducible assumption | omega | (simp; done) | (simp; omega))) | ((with_reducible refine falloc ?_ ?_); focus (first | with_reducible assumption | omega | (simp; done) | (simp; omega)))))
          have gf1 : w3.frozen? ⟨w.heap.size + 1 + 1, 1, none⟩ = false := by (repeat (first | with_reducible assumption | with_reducible refine fdrew ?_ | with_reducible refine fdrewN ?_ | with_reducible refine fset ?_ | ((with_reducible refine fallocNew ?_) <;> (first | with_reducible rfl | (simp; done))) | ((with_reducible refine kfro (by with_reducible assumption) ?_ ?_); focus (first | with_reducible assumption | omega | (simp; done) | (simp; omega))) | ((with_reducible refine falloc ?_ ?_); focus (first | with_reducible assumption | omega | (simp; done) | (simp; omega)))))
          have hW0 : Below w.heap.size w w3 := by (repeat (first | with_reducible exact Below.refl _ _ | with_reducible exact hxO | with_reducible refine balloc ?_ _ | with_reducible refine bdrewN ?_ _ | with_reducible refine Below.drew ?_ | with_reducible refine bthen ?_ (by with_reducible assumption) | with_reducible refine Below.setCell ?_ (by first | (simp; done) | (simp; omega)) _))
          have lz : w.heap.size + 1 + 1 < w3.heap.size := by omega
          have hc0 : (p.toNat : Int) = p := Int.toNat_of_nonneg (by omega)
          have HC0 := Lib.hid hc0
          clear hc0
          obtain ⟨wb, hwb⟩ : ∃ wb, wb = w3 := ⟨_, rfl⟩
          rw [← hwb] at g0 g1 g2 g3 g4 g5 g6 g7 g8 g9 g10 gf0 gf1 hW0 lz
          rw [← hwb]
          clear hwb
          have HG0 := Lib.hid g0
          clear g0
          have HG1 := Lib.hid g1
          clear g1
          have HG2 := Lib.hid g2
          clear g2
          have HG3 := Lib.hid g3
          clear g3
          have HG4 := Lib.hid g4
          clear g4
          have HG5 := Lib.hid g5
          clear g5
          have HG6 := Lib.hid g6
          clear g6
          have HG7 := Lib.hid g7
          clear g7
          have HG8 := Lib.hid g8
          clear g8
          have HG9 := Lib.hid g9
          clear g9
          have HG10 := Lib.hid g10
          clear g10
          have HF0 := Lib.hid gf0
          clear gf0
          have HF1 := Lib.hid gf1
          clear gf1
          obtain ⟨f, hf⟩ : ∃ f : Int → Int → Bool, f = fun x y => plM p k1 k2 k3 k4 k5 k6 l1 l2 l3 x y := ⟨_, rfl⟩
          have HFE := Lib.hid (show ∀ x y, (!plZ p k1 k2 k3 k4 k5 x y && (pl1 p k1 k2 k3 k4 k5 k6 x y == l1 && pl2 p k1 k2 k3 k4 k5 k6 x y == l2 && pl3 p k1 k2 k3 k4 k5 k6 x y == l3)) = f x y from fun x y => by rw [hf]; rfl)
          have Hpole := Lib.hid (show poF p k1 k2 k3 k4 k5 k6 l1 l2 l3 = (gridL f p.toNat p.toNat).head? from by rw [hf]; rfl)
          clear hf
          have rk := nums6 (cnB_nums (show cnB p k1 k2 k3 k4 k5 k6 = true by assumption))
          have heq := equalLine
          go_wp2_with fail
          go_loopw [9, 10] (fun i _ wr => ∃ x : Nat, (x : Int) ≤ p ∧ i = .int .i64 x ∧ gridL f p.toNat x = [] ∧ Below wb.heap.size wb wr) (fun i _ _ => p.toNat - (intOf i).toNat)
          case' atStart => exact ⟨0, by omega, rfl, rfl, Below.refl _ _⟩
          case' round =>
            obtain ⟨x, hx, rfl, hgr, hbel⟩ := hrel
            by_cases hlt : (x : Int) < p
            · have HGR := Lib.hid hgr
              clear hgr
              go_wp2_with fail
              go_loopw [10] (fun i wr => ∃ y : Nat, (y : Int) ≤ p ∧ i = .int .i64 y ∧ rowL f x y = [] ∧ Below wb.heap.size wb wr) (fun i _ => p.toNat - (intOf i).toNat)
              case' atStart => exact ⟨0, by omega, rfl, rfl, hbel⟩
              case' round =>
                obtain ⟨y, hy, rfl, hro, hbel⟩ := hrel
                by_cases hlty : (y : Int) < p
                · have hbs := hbel.size
                  have l0 : w.heap.size < wr.heap.size := by omega
                  have l1' : w.heap.size + 1 < wr.heap.size := by omega
                  have l2' : w.heap.size + 1 + 1 < wr.heap.size := by omega
                  have r0 : wr.cell? ⟨w.heap.size, 0, none⟩ = some (.int .i64 k1) := (cell_back hbel (by omega) 0).trans HG0.out
                  have r1 : wr.cell? ⟨w.heap.size, 1, none⟩ = some (.int .i64 k2) := (cell_back hbel (by omega) 1).trans HG1.out
                  have r2 : wr.cell? ⟨w.heap.size, 2, none⟩ = some (.int .i64 k3) := (cell_back hbel (by omega) 2).trans HG2.out
                  have r3 : wr.cell? ⟨w.heap.size, 3, none⟩ = some (.int .i64 k4) := (cell_back hbel (by omega) 3).trans HG3.out
                  have r4 : wr.cell? ⟨w.heap.size, 4, none⟩ = some (.int .i64 k5) := (cell_back hbel (by omega) 4).trans HG4.out
                  have r5 : wr.cell? ⟨w.heap.size, 5, none⟩ = some (.int .i64 k6) := (cell_back hbel (by omega) 5).trans HG5.out
                  have r6 : wr.cell? ⟨w.heap.size + 1, 0, none⟩ = some (.int .i64 l1) := (cell_back hbel (by omega) 0).trans HG6.out
                  have r7 : wr.cell? ⟨w.heap.size + 1, 1, none⟩ = some (.int .i64 l2) := (cell_back hbel (by omega) 1).trans HG7.out
                  have r8 : wr.cell? ⟨w.heap.size + 1, 2, none⟩ = some (.int .i64 l3) := (cell_back hbel (by omega) 2).trans HG8.out
                  have r9 : wr.cell? ⟨w.heap.size + 1 + 1, 0, none⟩ = some (.int .i64 0) := (cell_back hbel (by omega) 0).trans HG9.out
                  have r10 : wr.cell? ⟨w.heap.size + 1 + 1, 1, none⟩ = some (.int .i64 0) := (cell_back hbel (by omega) 1).trans HG10.out
                  have rf0 : wr.frozen? ⟨w.heap.size + 1 + 1, 0, none⟩ = false := kfro hbel (by omega) HF0.out
                  have rf1 : wr.frozen? ⟨w.heap.size + 1 + 1, 1, none⟩ = false := kfro hbel (by omega) HF1.out
                  obtain ⟨bz, hbz⟩ : ∃ b, b = plZ p k1 k2 k3 k4 k5 (x : Int) (y : Int) := ⟨_, rfl⟩
                  obtain ⟨z1, hz1⟩ : ∃ z, z = pl1 p k1 k2 k3 k4 k5 k6 (x : Int) (y : Int) := ⟨_, rfl⟩
                  obtain ⟨z2, hz2⟩ : ∃ z, z = pl2 p k1 k2 k3 k4 k5 k6 (x : Int) (y : Int) := ⟨_, rfl⟩
                  obtain ⟨z3, hz3⟩ : ∃ z, z = pl3 p k1 k2 k3 k4 k5 k6 (x : Int) (y : Int) := ⟨_, rfl⟩
                  have hfz : (!bz && (z1 == l1 && z2 == l2 && z3 == l3)) = f x y := by rw [hbz, hz1, hz2, hz3]; exact HFE.out _ _
                  have hcall := fun w' => specPolar_any p k1 k2 k3 k4 k5 k6 (x : Int) (y : Int) w' hp (by omega) (by omega) (by omega) (by omega) (by omega) (by omega) (by omega) (by omega)
                  rw [← hbz, ← hz1, ← hz2, ← hz3] at hcall
                  have HCL := Lib.hid hcall
                  clear hcall hbz hz1 hz2 hz3
                  have HRO := Lib.hid hro
                  clear hro
                  have hno := fun h => (rowL_no (f := f) (x := x) (y := y) h).trans HRO.out
                  have hhead := fun h => (Hpole.out).trans (grid_head (m := p.toNat) HGR.out HRO.out h (by have := HC0.out; omega) (by have := HC0.out; omega))
                  go_wp2_with fail
                  refine Calls.mono (HCL.out _) ?_
                  rintro e wq ⟨rfl, hB⟩
                  have hBs := hB.size
                  have hbq : Below wb.heap.size wb wq := hbel.trans (hB.mono hbs)
                  have lq0 : w.heap.size < wq.heap.size := by omega
                  have lq1 : w.heap.size + 1 < wq.heap.size := by omega
                  have lq2 : w.heap.size + 1 + 1 < wq.heap.size := by omega
                  have q0 : wq.cell? ⟨w.heap.size, 0, none⟩ = some (.int .i64 k1) := (cell_back hbq (by omega) 0).trans HG0.out
                  have q1 : wq.cell? ⟨w.heap.size, 1, none⟩ = some (.int .i64 k2) := (cell_back hbq (by omega) 1).trans HG1.out
                  have q2 : wq.cell? ⟨w.heap.size, 2, none⟩ = some (.int .i64 k3) := (cell_back hbq (by omega) 2).trans HG2.out
                  have q3 : wq.cell? ⟨w.heap.size, 3, none⟩ = some (.int .i64 k4) := (cell_back hbq (by omega) 3).trans HG3.out
                  have q4 : wq.cell? ⟨w.heap.size, 4, none⟩ = some (.int .i64 k5) := (cell_back hbq (by omega) 4).trans HG4.out
                  have q5 : wq.cell? ⟨w.heap.size, 5, none⟩ = some (.int .i64 k6) := (cell_back hbq (by omega) 5).trans HG5.out
                  have q6 : wq.cell? ⟨w.heap.size + 1, 0, none⟩ = some (.int .i64 l1) := (cell_back hbq (by omega) 0).trans HG6.out
                  have q7 : wq.cell? ⟨w.heap.size + 1, 1, none⟩ = some (.int .i64 l2) := (cell_back hbq (by omega) 1).trans HG7.out
                  have q8 : wq.cell? ⟨w.heap.size + 1, 2, none⟩ = some (.int .i64 l3) := (cell_back hbq (by omega) 2).trans HG8.out
                  have q9 : wq.cell? ⟨w.heap.size + 1 + 1, 0, none⟩ = some (.int .i64 0) := (cell_back hbq (by omega) 0).trans HG9.out
                  have q10 : wq.cell? ⟨w.heap.size + 1 + 1, 1, none⟩ = some (.int .i64 0) := (cell_back hbq (by omega) 1).trans HG10.out
                  have qf0 : wq.frozen? ⟨w.heap.size + 1 + 1, 0, none⟩ = false := kfro hbq (by omega) HF0.out
                  have qf1 : wq.frozen? ⟨w.heap.size + 1 + 1, 1, none⟩ = false := kfro hbq (by omega) HF1.out
                  cases bz
                  · obtain ⟨be, hbe⟩ : ∃ b, b = (z1 == l1 && z2 == l2 && z3 == l3) := ⟨_, rfl⟩
                    have HBE := Lib.hid hbe
                    have hq : (z1 == l1 && z2 == l2 && z3 == l3) = be := hbe.symm
                    clear hbe
                    cases be
                    · have HN := Lib.hid (hno (by rw [← hfz, hq]; rfl))
                      clear hhead hno hfz
                      go_wp2
                      go_roundw
                      case rel => exact ⟨y + 1, by omega, by go_num, HN.out, hbq.alloc (by omega) _⟩
                      case measure => have := HC0.out; simp [intOf]; omega
                    · have HH := Lib.hid (hhead (by rw [← hfz, hq]; rfl))
                      clear hhead hno hfz
                      have HS : peS p k1 k2 k3 k4 k5 k6 l1 l2 l3 = 0 := by simp [peS, hdt, poT, HH.out]
                      have HV := Lib.hid (pe_good hp HB HS)
                      have HXY := Lib.hid (show poX p k1 k2 k3 k4 k5 k6 l1 l2 l3 = (x : Int) ∧ poY p k1 k2 k3 k4 k5 k6 l1 l2 l3 = (y : Int) from by unfold poX poY; rw [HH.out]; exact ⟨rfl, rfl⟩)
                      clear HB HS
                      go_wp2
                      (refine bodyPost_ret (v := .tuple #[.agg #[.int .i64 (peV1 p k1 k2 k3 k4 k5 k6 l1 l2 l3), .int .i64 (peV2 p k1 k2 k3 k4 k5 k6 l1 l2 l3)], .int .i64 (peC p k1 k2 k3 k4 k5 k6 l1 l2 l3)]) (by simp [results, Try.results8, go_sem, HV.out.1, HV.out.2.1, HV.out.2.2, HXY.out.1, HXY.out.2, *]) rfl ⟨rfl, ?_⟩)
                      (repeat (first | with_reducible exact Below.refl _ _ | with_reducible exact (bthen hW0 hbq) | with_reducible refine balloc ?_ _ | with_reducible refine bdrewN ?_ _ | with_reducible refine Below.drew ?_ | with_reducible refine bthen ?_ (by with_reducible assumption) | with_reducible refine Below.setCell ?_ (by first | (simp; done) | (simp; omega)) _))
                  · have HN := Lib.hid (hno (by rw [← hfz]; rfl))
                    clear hhead hno hfz
                    go_wp2
                    go_roundw
                    case rel => exact ⟨y + 1, by omega, by go_num, HN.out, hbq.alloc (by omega) _⟩
                    case measure => have := HC0.out; simp [intOf]; omega
                · have hy' : y = p.toNat := by have := HC0.out; omega
                  subst hy'
                  have HN := Lib.hid (show gridL f p.toNat (x + 1) = [] from by rw [gridL_succ, HGR.out, hro]; rfl)
                  clear hro
                  go_wp2
                  go_roundw
                  case rel => exact ⟨x + 1, by omega, by go_num, HN.out, hbel⟩
                  case measure => have := HC0.out; simp [intOf]; omega
            · have hx' : x = p.toNat := by have := HC0.out; omega
              subst hx'
              have HN := Lib.hid (show poF p k1 k2 k3 k4 k5 k6 l1 l2 l3 = none from by rw [Hpole.out, hgr]; rfl)
              clear hgr
              have hbs := hbel.size
              have l2' : w.heap.size + 1 + 1 < wr.heap.size := by omega
              have t0 : wr.cell? ⟨w.heap.size + 1 + 1, 0, none⟩ = some (.int .i64 0) := (cell_back hbel (by omega) 0).trans HG9.out
              have t1 : wr.cell? ⟨w.heap.size + 1 + 1, 1, none⟩ = some (.int .i64 0) := (cell_back hbel (by omega) 1).trans HG10.out
              have tf0 : wr.frozen? ⟨w.heap.size + 1 + 1, 0, none⟩ = false := kfro hbel (by omega) HF0.out
              have tf1 : wr.frozen? ⟨w.heap.size + 1 + 1, 1, none⟩ = false := kfro hbel (by omega) HF1.out
              have HS : peS p k1 k2 k3 k4 k5 k6 l1 l2 l3 = 4 := by simp [peS, hdt, poT, HN.out]
              have HV := Lib.hid (pe_st (k1 := k1) (k2 := k2) (k3 := k3) (k4 := k4) (k5 := k5) (k6 := k6) (l1 := l1) (l2 := l2) (l3 := l3) hp HB HS (by decide))
              clear HB HS
              go_wp2
              (refine bodyPost_ret (v := .tuple #[.agg #[.int .i64 (peV1 p k1 k2 k3 k4 k5 k6 l1 l2 l3), .int .i64 (peV2 p k1 k2 k3 k4 k5 k6 l1 l2 l3)], .int .i64 (peC p k1 k2 k3 k4 k5 k6 l1 l2 l3)]) (by simp [results, Try.results8, go_sem, HV.out.1, HV.out.2.1, HV.out.2.2, *]) rfl ⟨rfl, ?_⟩)
              (repeat (first | with_reducible exact Below.refl _ _ | with_reducible exact (bthen hW0 hbel) | with_reducible refine balloc ?_ _ | with_reducible refine bdrewN ?_ _ | with_reducible refine Below.drew ?_ | with_reducible refine bthen ?_ (by with_reducible assumption) | with_reducible refine Below.setCell ?_ (by first | (simp; done) | (simp; omega)) _))
        · have hd4n : (v1 != 0) = false := by rw [bne, hd4]; rfl
          have Hhd4p := Lib.hid (beq_iff_eq.1 hd4)
          have HB : peB p k1 k2 k3 k4 k5 k6 l1 l2 l3 = true := by simp [peB, hd1, hd2, hd3, hd4]
          have HS : peS p k1 k2 k3 k4 k5 k6 l1 l2 l3 = 5 := by (simp only [peS, ← Hv1.out] <;> simp [hd1, hd2, hd3, hd4])
          have HV := Lib.hid (pe_st (k1 := k1) (k2 := k2) (k3 := k3) (k4 := k4) (k5 := k5) (k6 := k6) (l1 := l1) (l2 := l2) (l3 := l3) hp HB HS (by decide))
          clear HB HS
          go_wp2
          (refine bodyPost_ret (v := .tuple #[.agg #[.int .i64 (peV1 p k1 k2 k3 k4 k5 k6 l1 l2 l3), .int .i64 (peV2 p k1 k2 k3 k4 k5 k6 l1 l2 l3)], .int .i64 (peC p k1 k2 k3 k4 k5 k6 l1 l2 l3)]) (by simp [results, Try.results8, go_sem, HV.out.1, HV.out.2.1, HV.out.2.2, *]) rfl ⟨?_, ?_⟩)
          · rfl
          · (repeat (first | with_reducible exact Below.refl _ _ | with_reducible exact hxO | with_reducible refine balloc ?_ _ | with_reducible refine bdrewN ?_ _ | with_reducible refine Below.drew ?_ | with_reducible refine bthen ?_ (by with_reducible assumption) | with_reducible refine Below.setCell ?_ (by first | (simp; done) | (simp; omega)) _))

end Go.Proofs.Ytmpgpmcmhbpjeaa
