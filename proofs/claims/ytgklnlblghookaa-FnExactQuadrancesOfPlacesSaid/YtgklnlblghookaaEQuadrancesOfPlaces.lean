/-
  QuadrancesOfPlaces: the program's and the model's.
-/
import Derived.Test.YtgklnlblghookaaSpecPlq
import Derived.Test.YtgklnlblghookaaSpecNull
import Derived.Test.YtgklnlblghookaaImplPlq
import Derived.Test.YtgklnlblghookaaImplPlaces3
import Derived.Test.YtgklnlblghookaaSlice
import Derived.Test.YtgklnlblghookaaGrow
import Derived.Test.YtgklnlblghookaaSpecPlCode
import Derived.Test.YtgklnlblghookaaCode
import Derived.Test.YtgklnlblghookaaLast
import Derived.Deep.RegionHeld3
import Derived.Deep.DeepCutAuto
import Derived.Test.YtgklnlblghookaaBaseMath
import Derived.LoopN
import Derived.Test.YtgklnlblghookaaKeepDrew
namespace Go.Proofs.Ytgklnlblghookaa
open Go.RowKit

set_option linter.unusedVariables false in
def qoB (p a1 a2 a3 b1 b2 b3 c1 c2 c3 : Int) : Bool := plB p a1 a2 a3 && plB p b1 b2 b3 && plB p c1 c2 c3
set_option linter.unusedVariables false in
def qoS (p a1 a2 a3 b1 b2 b3 c1 c2 c3 : Int) : Int := if ((ppd p a1 a2 a3 a1 a2 a3 == 0) || ((ppd p b1 b2 b3 b1 b2 b3 == 0) || (ppd p c1 c2 c3 c1 c2 c3 == 0))) = true then 5 else 0
set_option linter.unusedVariables false in
def qoC (p a1 a2 a3 b1 b2 b3 c1 c2 c3 : Int) : Int := if isP p = true then (if qoB p a1 a2 a3 b1 b2 b3 c1 c2 c3 = true then qoS p a1 a2 a3 b1 b2 b3 c1 c2 c3 else 2) else 1
set_option linter.unusedVariables false in
def qoL (p a1 a2 a3 b1 b2 b3 c1 c2 c3 : Int) : List Int := if qoC p a1 a2 a3 b1 b2 b3 c1 c2 c3 = 0 then [plq p b1 b2 b3 c1 c2 c3, plq p a1 a2 a3 c1 c2 c3, plq p a1 a2 a3 b1 b2 b3] else []
theorem qo_zero {p a1 a2 a3 b1 b2 b3 c1 c2 c3 k : Int} (h : qoC p a1 a2 a3 b1 b2 b3 c1 c2 c3 = k) (hk : k ≠ 0) : qoL p a1 a2 a3 b1 b2 b3 c1 c2 c3 = [] ∧ qoC p a1 a2 a3 b1 b2 b3 c1 c2 c3 = k := ⟨if_neg fun e => hk (h.symm.trans e), h⟩
theorem qo_no {p a1 a2 a3 b1 b2 b3 c1 c2 c3 : Int} (h : isP p = false) : qoL p a1 a2 a3 b1 b2 b3 c1 c2 c3 = [] ∧ qoC p a1 a2 a3 b1 b2 b3 c1 c2 c3 = 1 := qo_zero (by simp [qoC, h]) (by decide)
theorem qo_out {p a1 a2 a3 b1 b2 b3 c1 c2 c3 : Int} (hp : isP p = true) (h : qoB p a1 a2 a3 b1 b2 b3 c1 c2 c3 = false) : qoL p a1 a2 a3 b1 b2 b3 c1 c2 c3 = [] ∧ qoC p a1 a2 a3 b1 b2 b3 c1 c2 c3 = 2 := qo_zero (by simp [qoC, hp, h]) (by decide)
theorem qo_st {p a1 a2 a3 b1 b2 b3 c1 c2 c3 k : Int} (hp : isP p = true) (h : qoB p a1 a2 a3 b1 b2 b3 c1 c2 c3 = true) (hs : qoS p a1 a2 a3 b1 b2 b3 c1 c2 c3 = k) (hk : k ≠ 0) : qoL p a1 a2 a3 b1 b2 b3 c1 c2 c3 = [] ∧ qoC p a1 a2 a3 b1 b2 b3 c1 c2 c3 = k := qo_zero (by simp [qoC, hp, h, hs]) hk
theorem qo_good {p a1 a2 a3 b1 b2 b3 c1 c2 c3 : Int} (hp : isP p = true) (h : qoB p a1 a2 a3 b1 b2 b3 c1 c2 c3 = true) (hs : qoS p a1 a2 a3 b1 b2 b3 c1 c2 c3 = 0) : qoL p a1 a2 a3 b1 b2 b3 c1 c2 c3 = [plq p b1 b2 b3 c1 c2 c3, plq p a1 a2 a3 c1 c2 c3, plq p a1 a2 a3 b1 b2 b3] ∧ qoC p a1 a2 a3 b1 b2 b3 c1 c2 c3 = 0 := by
  have h' : qoC p a1 a2 a3 b1 b2 b3 c1 c2 c3 = 0 := by simp [qoC, hp, h, hs]
  exact ⟨if_pos h', h'⟩

set_option linter.unusedVariables false in
set_option linter.unusedSimpArgs false in
set_option maxRecDepth 20000 in
set_option maxHeartbeats 4000000 in
theorem specQuadrancesOfPlaces_any (p a1 a2 a3 b1 b2 b3 c1 c2 c3 : Int)  (w : World) :
    Calls Try.prog 29 #[.int .i64 p, .agg #[.int .i64 a1, .int .i64 a2, .int .i64 a3], .agg #[.int .i64 b1, .int .i64 b2, .int .i64 b3], .agg #[.int .i64 c1, .int .i64 c2, .int .i64 c3]] w fun e w' =>
      SlicePost 2 1 (qoL p a1 a2 a3 b1 b2 b3 c1 c2 c3) (qoC p a1 a2 a3 b1 b2 b3 c1 c2 c3) w e w' := by
  go_enter Try.func29, Try.ntmps29
  go_upto_region 0 with fail
  go_cut [5, 6, 7, 8, 9] (fun s5 s6 s7 s8 s9 wx => s5 = .pointer (some ⟨w.heap.size, 0, none⟩) ∧ s6 = .pointer (some ⟨w.heap.size + 1, 0, none⟩) ∧ s7 = .pointer (some ⟨w.heap.size + 1 + 1, 0, none⟩) ∧ s8 = .slice none 0 0 ∧ s9 = .int .i64 0 ∧ wx.cell? ⟨w.heap.size, 0, none⟩ = some (.int .i64 a1) ∧ wx.cell? ⟨w.heap.size, 1, none⟩ = some (.int .i64 a2) ∧ wx.cell? ⟨w.heap.size, 2, none⟩ = some (.int .i64 a3) ∧ wx.cell? ⟨w.heap.size + 1, 0, none⟩ = some (.int .i64 b1) ∧ wx.cell? ⟨w.heap.size + 1, 1, none⟩ = some (.int .i64 b2) ∧ wx.cell? ⟨w.heap.size + 1, 2, none⟩ = some (.int .i64 b3) ∧ wx.cell? ⟨w.heap.size + 1 + 1, 0, none⟩ = some (.int .i64 c1) ∧ wx.cell? ⟨w.heap.size + 1 + 1, 1, none⟩ = some (.int .i64 c2) ∧ wx.cell? ⟨w.heap.size + 1 + 1, 2, none⟩ = some (.int .i64 c3) ∧ wx.frozen? ⟨w.heap.size, 0, none⟩ = false ∧ wx.frozen? ⟨w.heap.size, 1, none⟩ = false ∧ wx.frozen? ⟨w.heap.size, 2, none⟩ = false ∧ wx.frozen? ⟨w.heap.size + 1, 0, none⟩ = false ∧ wx.frozen? ⟨w.heap.size + 1, 1, none⟩ = false ∧ wx.frozen? ⟨w.heap.size + 1, 2, none⟩ = false ∧ wx.frozen? ⟨w.heap.size + 1 + 1, 0, none⟩ = false ∧ wx.frozen? ⟨w.heap.size + 1 + 1, 1, none⟩ = false ∧ wx.frozen? ⟨w.heap.size + 1 + 1, 2, none⟩ = false ∧ Below w.heap.size w wx ∧ w.heap.size + 1 + 1 + 1 ≤ wx.heap.size)
  case first =>
    go_wp2
    go_meet
    refine ⟨rfl, rfl, rfl, rfl, rfl, ?_, ?_, ?_, ?_, ?_, ?_, ?_, ?_, ?_, ?_, ?_, ?_, ?_, ?_, ?_, ?_, ?_, ?_, ?_, ?_⟩
    · (repeat (first | with_reducible assumption | ((with_reducible refine kfresh ?_ ?_) <;> (first | with_reducible rfl | (simp; done))) | ((with_reducible refine ksameS ?_); focus ((repeat (first | with_reducible exact kis_of (by with_reducible assumption) | with_reducible refine kis_set ?_ | ((with_reducible refine kis_new ?_ ?_) <;> (first | with_reducible rfl | rfl | (simp; done))) | with_reducible refine kis_alloc _ ?_ | with_reducible refine kis_drew ?_ | with_reducible refine kis_call (by with_reducible assumption) ?_ | with_reducible exact kis_of (kcall (by with_reducible assumption) (by with_reducible assumption)))); done)) | with_reducible refine kother (by decide) ?_ | with_reducible refine kset (by first | omega | (simp; done) | (simp; omega)) ?_ | with_reducible refine kalloc _ ?_ | with_reducible refine kdrew ?_ | with_reducible refine kdrewN ?_ | with_reducible refine kcall (by with_reducible assumption) ?_))
    · (repeat (first | with_reducible assumption | ((with_reducible refine kfresh ?_ ?_) <;> (first | with_reducible rfl | (simp; done))) | ((with_reducible refine ksameS ?_); focus ((repeat (first | with_reducible exact kis_of (by with_reducible assumption) | with_reducible refine kis_set ?_ | ((with_reducible refine kis_new ?_ ?_) <;> (first | with_reducible rfl | rfl | (simp; done))) | with_reducible refine kis_alloc _ ?_ | with_reducible refine kis_drew ?_ | with_reducible refine kis_call (by with_reducible assumption) ?_ | with_reducible exact kis_of (kcall (by with_reducible assumption) (by with_reducible assumption)))); done)) | with_reducible refine kother (by decide) ?_ | with_reducible refine kset (by first | omega | (simp; done) | (simp; omega)) ?_ | with_reducible refine kalloc _ ?_ | with_reducible refine kdrew ?_ | with_reducible refine kdrewN ?_ | with_reducible refine kcall (by with_reducible assumption) ?_))
    · (repeat (first | with_reducible assumption | ((with_reducible refine kfresh ?_ ?_) <;> (first | with_reducible rfl | (simp; done))) | ((with_reducible refine ksameS ?_); focus ((repeat (first | with_reducible exact kis_of (by with_reducible assumption) | with_reducible refine kis_set ?_ | ((with_reducible refine kis_new ?_ ?_) <;> (first | with_reducible rfl | rfl | (simp; done))) | with_reducible refine kis_alloc _ ?_ | with_reducible refine kis_drew ?_ | with_reducible refine kis_call (by with_reducible assumption) ?_ | with_reducible exact kis_of (kcall (by with_reducible assumption) (by with_reducible assumption)))); done)) | with_reducible refine kother (by decide) ?_ | with_reducible refine kset (by first | omega | (simp; done) | (simp; omega)) ?_ | with_reducible refine kalloc _ ?_ | with_reducible refine kdrew ?_ | with_reducible refine kdrewN ?_ | with_reducible refine kcall (by with_reducible assumption) ?_))
    · (repeat (first | with_reducible assumption | ((with_reducible refine kfresh ?_ ?_) <;> (first | with_reducible rfl | (simp; done))) | ((with_reducible refine ksameS ?_); focus ((repeat (first | with_reducible exact kis_of (by with_reducible assumption) | with_reducible refine kis_set ?_ | ((with_reducible refine kis_new ?_ ?_) <;> (first | with_reducible rfl | rfl | (simp; done))) | with_reducible refine kis_alloc _ ?_ | with_reducible refine kis_drew ?_ | with_reducible refine kis_call (by with_reducible assumption) ?_ | with_reducible exact kis_of (kcall (by with_reducible assumption) (by with_reducible assumption)))); done)) | with_reducible refine kother (by decide) ?_ | with_reducible refine kset (by first | omega | (simp; done) | (simp; omega)) ?_ | with_reducible refine kalloc _ ?_ | with_reducible refine kdrew ?_ | with_reducible refine kdrewN ?_ | with_reducible refine kcall (by with_reducible assumption) ?_))
    · (repeat (first | with_reducible assumption | ((with_reducible refine kfresh ?_ ?_) <;> (first | with_reducible rfl | (simp; done))) | ((with_reducible refine ksameS ?_); focus ((repeat (first | with_reducible exact kis_of (by with_reducible assumption) | with_reducible refine kis_set ?_ | ((with_reducible refine kis_new ?_ ?_) <;> (first | with_reducible rfl | rfl | (simp; done))) | with_reducible refine kis_alloc _ ?_ | with_reducible refine kis_drew ?_ | with_reducible refine kis_call (by with_reducible assumption) ?_ | with_reducible exact kis_of (kcall (by with_reducible assumption) (by with_reducible assumption)))); done)) | with_reducible refine kother (by decide) ?_ | with_reducible refine kset (by first | omega | (simp; done) | (simp; omega)) ?_ | with_reducible refine kalloc _ ?_ | with_reducible refine kdrew ?_ | with_reducible refine kdrewN ?_ | with_reducible refine kcall (by with_reducible assumption) ?_))
    · (repeat (first | with_reducible assumption | ((with_reducible refine kfresh ?_ ?_) <;> (first | with_reducible rfl | (simp; done))) | ((with_reducible refine ksameS ?_); focus ((repeat (first | with_reducible exact kis_of (by with_reducible assumption) | with_reducible refine kis_set ?_ | ((with_reducible refine kis_new ?_ ?_) <;> (first | with_reducible rfl | rfl | (simp; done))) | with_reducible refine kis_alloc _ ?_ | with_reducible refine kis_drew ?_ | with_reducible refine kis_call (by with_reducible assumption) ?_ | with_reducible exact kis_of (kcall (by with_reducible assumption) (by with_reducible assumption)))); done)) | with_reducible refine kother (by decide) ?_ | with_reducible refine kset (by first | omega | (simp; done) | (simp; omega)) ?_ | with_reducible refine kalloc _ ?_ | with_reducible refine kdrew ?_ | with_reducible refine kdrewN ?_ | with_reducible refine kcall (by with_reducible assumption) ?_))
    · (repeat (first | with_reducible assumption | ((with_reducible refine kfresh ?_ ?_) <;> (first | with_reducible rfl | (simp; done))) | ((with_reducible refine ksameS ?_); focus ((repeat (first | with_reducible exact kis_of (by with_reducible assumption) | with_reducible refine kis_set ?_ | ((with_reducible refine kis_new ?_ ?_) <;> (first | with_reducible rfl | rfl | (simp; done))) | with_reducible refine kis_alloc _ ?_ | with_reducible refine kis_drew ?_ | with_reducible refine kis_call (by with_reducible assumption) ?_ | with_reducible exact kis_of (kcall (by with_reducible assumption) (by with_reducible assumption)))); done)) | with_reducible refine kother (by decide) ?_ | with_reducible refine kset (by first | omega | (simp; done) | (simp; omega)) ?_ | with_reducible refine kalloc _ ?_ | with_reducible refine kdrew ?_ | with_reducible refine kdrewN ?_ | with_reducible refine kcall (by with_reducible assumption) ?_))
    · (repeat (first | with_reducible assumption | ((with_reducible refine kfresh ?_ ?_) <;> (first | with_reducible rfl | (simp; done))) | ((with_reducible refine ksameS ?_); focus ((repeat (first | with_reducible exact kis_of (by with_reducible assumption) | with_reducible refine kis_set ?_ | ((with_reducible refine kis_new ?_ ?_) <;> (first | with_reducible rfl | rfl | (simp; done))) | with_reducible refine kis_alloc _ ?_ | with_reducible refine kis_drew ?_ | with_reducible refine kis_call (by with_reducible assumption) ?_ | with_reducible exact kis_of (kcall (by with_reducible assumption) (by with_reducible assumption)))); done)) | with_reducible refine kother (by decide) ?_ | with_reducible refine kset (by first | omega | (simp; done) | (simp; omega)) ?_ | with_reducible refine kalloc _ ?_ | with_reducible refine kdrew ?_ | with_reducible refine kdrewN ?_ | with_reducible refine kcall (by with_reducible assumption) ?_))
    · (repeat (first | with_reducible assumption | ((with_reducible refine kfresh ?_ ?_) <;> (first | with_reducible rfl | (simp; done))) | ((with_reducible refine ksameS ?_); focus ((repeat (first | with_reducible exact kis_of (by with_reducible assumption) | with_reducible refine kis_set ?_ | ((with_reducible refine kis_new ?_ ?_) <;> (first | with_reducible rfl | rfl | (simp; done))) | with_reducible refine kis_alloc _ ?_ | with_reducible refine kis_drew ?_ | with_reducible refine kis_call (by with_reducible assumption) ?_ | with_reducible exact kis_of (kcall (by with_reducible assumption) (by with_reducible assumption)))); done)) | with_reducible refine kother (by decide) ?_ | with_reducible refine kset (by first | omega | (simp; done) | (simp; omega)) ?_ | with_reducible refine kalloc _ ?_ | with_reducible refine kdrew ?_ | with_reducible refine kdrewN ?_ | with_reducible refine kcall (by with_reducible assumption) ?_))
    · (repeat (first | with_reducible assumption | with_reducible refine fdrew ?_ | with_reducible refine fdrewN ?_ | with_reducible refine fset ?_ | ((with_reducible refine fallocNew ?_) <;> (first | with_reducible rfl | (simp; done))) | ((with_reducible refine kfro (by with_reducible assumption) ?_ ?_); focus (first | with_reducible assumption | omega | (simp; done) | (simp; omega))) | ((with_reducible refine falloc ?_ ?_); focus (first | with_reducible assumption | omega | (simp; done) | (simp; omega)))))
    · (repeat (first | with_reducible assumption | with_reducible refine fdrew ?_ | with_reducible refine fdrewN ?_ | with_reducible refine fset ?_ | ((with_reducible refine fallocNew ?_) <;> (first | with_reducible rfl | (simp; done))) | ((with_reducible refine kfro (by with_reducible assumption) ?_ ?_); focus (first | with_reducible assumption | omega | (simp; done) | (simp; omega))) | ((with_reducible refine falloc ?_ ?_); focus (first | with_reducible assumption | omega | (simp; done) | (simp; omega)))))
    · (repeat (first | with_reducible assumption | with_reducible refine fdrew ?_ | with_reducible refine fdrewN ?_ | with_reducible refine fset ?_ | ((with_reducible refine fallocNew ?_) <;> (first | with_reducible rfl | (simp; done))) | ((with_reducible refine kfro (by with_reducible assumption) ?_ ?_); focus (first | with_reducible assumption | omega | (simp; done) | (simp; omega))) | ((with_reducible refine falloc ?_ ?_); focus (first | with_reducible assumption | omega | (simp; done) | (simp; omega)))))
    · (repeat (first | with_reducible assumption | with_reducible refine fdrew ?_ | with_reducible refine fdrewN ?_ | with_reducible refine fset ?_ | ((with_reducible refine fallocNew ?_) <;> (first | with_reducible rfl | (simp; done))) | ((with_reducible refine kfro (by with_reducible assumption) ?_ ?_); focus (first | with_reducible assumption | omega | (simp; done) | (simp; omega))) | ((with_reducible refine falloc ?_ ?_); focus (first | with_reducible assumption | omega | (simp; done) | (simp; omega)))))
    · (repeat (first | with_reducible assumption | with_reducible refine fdrew ?_ | with_reducible refine fdrewN ?_ | with_reducible refine fset ?_ | ((with_reducible refine fallocNew ?_) <;> (first | with_reducible rfl | (simp; done))) | ((with_reducible refine kfro (by with_reducible assumption) ?_ ?_); focus (first | with_reducible assumption | omega | (simp; done) | (simp; omega))) | ((with_reducible refine falloc ?_ ?_); focus (first | with_reducible assumption | omega | (simp; done) | (simp; omega)))))
    · (repeat (first | with_reducible assumption | with_reducible refine fdrew ?_ | with_reducible refine fdrewN ?_ | with_reducible refine fset ?_ | ((with_reducible refine fallocNew ?_) <;> (first | with_reducible rfl | (simp; done))) | ((with_reducible refine kfro (by with_reducible assumption) ?_ ?_); focus (first | with_reducible assumption | omega | (simp; done) | (simp; omega))) | ((with_reducible refine falloc ?_ ?_); focus (first | with_reducible assumption | omega | (simp; done) | (simp; omega)))))
    · (repeat (first | with_reducible assumption | with_reducible refine fdrew ?_ | with_reducible refine fdrewN ?_ | with_reducible refine fset ?_ | ((with_reducible refine fallocNew ?_) <;> (first | with_reducible rfl | (simp; done))) | ((with_reducible refine kfro (by with_reducible assumption) ?_ ?_); focus (first | with_reducible assumption | omega | (simp; done) | (simp; omega))) | ((with_reducible refine falloc ?_ ?_); focus (first | with_reducible assumption | omega | (simp; done) | (simp; omega)))))
    · (repeat (first | with_reducible assumption | with_reducible refine fdrew ?_ | with_reducible refine fdrewN ?_ | with_reducible refine fset ?_ | ((with_reducible refine fallocNew ?_) <;> (first | with_reducible rfl | (simp; done))) | ((with_reducible refine kfro (by with_reducible assumption) ?_ ?_); focus (first | with_reducible assumption | omega | (simp; done) | (simp; omega))) | ((with_reducible refine falloc ?_ ?_); focus (first | with_reducible assumption | omega | (simp; done) | (simp; omega)))))
    · (repeat (first | with_reducible assumption | with_reducible refine fdrew ?_ | with_reducible refine fdrewN ?_ | with_reducible refine fset ?_ | ((with_reducible refine fallocNew ?_) <;> (first | with_reducible rfl | (simp; done))) | ((with_reducible refine kfro (by with_reducible assumption) ?_ ?_); focus (first | with_reducible assumption | omega | (simp; done) | (simp; omega))) | ((with_reducible refine falloc ?_ ?_); focus (first | with_reducible assumption | omega | (simp; done) | (simp; omega)))))
    · (repeat (first | with_reducible exact Below.refl _ _ | with_reducible refine balloc ?_ _ | with_reducible refine bdrewN ?_ _ | with_reducible refine Below.drew ?_ | with_reducible refine bthen ?_ (by with_reducible assumption) | with_reducible refine Below.setCell ?_ (by first | (simp; done) | (simp; omega)) _))
    · (first | omega | (simp; done) | (simp; omega))
  case' rest => obtain ⟨rfl, rfl, rfl, rfl, rfl, cO0, cO1, cO2, cO3, cO4, cO5, cO6, cO7, cO8, fO0, fO1, fO2, fO3, fO4, fO5, fO6, fO7, fO8, hxO, hsO⟩ := hcut
  obtain ⟨wO, rfl⟩ : ∃ wO : World, wO = wc := ⟨_, rfl⟩
  have lO0 : w.heap.size < wO.heap.size := by omega
  have lO1 : w.heap.size + 1 < wO.heap.size := by omega
  have lO2 : w.heap.size + 1 + 1 < wO.heap.size := by omega
  rcases bool_ways (isP p) with hd1 | hd1
  · skip
    have c_1 : codeOf p (plB p a1 a2 a3 && plB p b1 b2 b3 && plB p c1 c2 c3) = 1 := codeOf_no hd1
    have cN : ∀ b, codeOf p b = 1 := fun b => codeOf_no hd1
    go_wp2_with fail
    refine Calls.mono (specPlCode3 _ _ _ _ _ _ _ _ _ _ _ _ (by first | rfl | (simp; done))) ?_
    rintro e w1 ⟨rfl, hB1⟩
    (obtain ⟨hB1c, hB1f⟩ := bcell hB1; have hB1s := hB1.size; (try simp at hB1s); (try have hB1q1 := Nat.lt_of_succ_le hB1s); (try have hB1q2 := Nat.lt_of_succ_lt hB1q1); (try have hB1q3 := Nat.lt_of_succ_lt hB1q2); (try have hB1zw0 : w.heap.size < w1.heap.size := (by omega)); (try have hB1zw1 : w.heap.size + 1 < w1.heap.size := (by omega)); (try have hB1zw2 : w.heap.size + 1 + 1 < w1.heap.size := (by omega)); (try have hB1zw3 : w.heap.size + 1 + 1 + 1 < w1.heap.size := (by omega)); (try have hB1zw4 : w.heap.size + 1 + 1 + 1 + 1 < w1.heap.size := (by omega)); (try have hB1zwO0 : wO.heap.size < w1.heap.size := (by omega)); (try have hB1zwO1 : wO.heap.size + 1 < w1.heap.size := (by omega)); (try have hB1zwO2 : wO.heap.size + 1 + 1 < w1.heap.size := (by omega)); (try have hB1zwO3 : wO.heap.size + 1 + 1 + 1 < w1.heap.size := (by omega)); (try have hB1zwO4 : wO.heap.size + 1 + 1 + 1 + 1 < w1.heap.size := (by omega)))
    have HV := Lib.hid (qo_no (a1 := a1) (a2 := a2) (a3 := a3) (b1 := b1) (b2 := b2) (b3 := b3) (c1 := c1) (c2 := c2) (c3 := c3) hd1)
    go_wp2
    (refine bodyPost_ret (v := .tuple #[.slice none 0 0, .int .i64 (qoC p a1 a2 a3 b1 b2 b3 c1 c2 c3)]) (by simp [results, Try.results29, go_sem, HV.out.2]) rfl (slicePost_nil HV.out.1 ?_))
    (repeat (first | with_reducible exact Below.refl _ _ | with_reducible exact hxO | with_reducible refine balloc ?_ _ | with_reducible refine bdrewN ?_ _ | with_reducible refine Below.drew ?_ | with_reducible refine bthen ?_ (by with_reducible assumption) | with_reducible refine Below.setCell ?_ (by first | (simp; done) | (simp; omega)) _))
  · have hp := hd1
    have hr := isP_range hp
    rcases bool_ways (plB p a1 a2 a3) with hd2 | hd2
    · skip
      have c_1 : codeOf p (plB p a1 a2 a3 && plB p b1 b2 b3 && plB p c1 c2 c3) = 2 := codeOf_out hp (by simp [hd2])
      have cT : codeOf p true = 0 := codeOf_in hp rfl
      have cF : codeOf p false = 2 := codeOf_out hp rfl
      go_wp2_with fail
      refine Calls.mono (specPlCode3 _ _ _ _ _ _ _ _ _ _ _ _ (by first | rfl | (simp; done))) ?_
      rintro e w1 ⟨rfl, hB1⟩
      (obtain ⟨hB1c, hB1f⟩ := bcell hB1; have hB1s := hB1.size; (try simp at hB1s); (try have hB1q1 := Nat.lt_of_succ_le hB1s); (try have hB1q2 := Nat.lt_of_succ_lt hB1q1); (try have hB1q3 := Nat.lt_of_succ_lt hB1q2); (try have hB1zw0 : w.heap.size < w1.heap.size := (by omega)); (try have hB1zw1 : w.heap.size + 1 < w1.heap.size := (by omega)); (try have hB1zw2 : w.heap.size + 1 + 1 < w1.heap.size := (by omega)); (try have hB1zw3 : w.heap.size + 1 + 1 + 1 < w1.heap.size := (by omega)); (try have hB1zw4 : w.heap.size + 1 + 1 + 1 + 1 < w1.heap.size := (by omega)); (try have hB1zwO0 : wO.heap.size < w1.heap.size := (by omega)); (try have hB1zwO1 : wO.heap.size + 1 < w1.heap.size := (by omega)); (try have hB1zwO2 : wO.heap.size + 1 + 1 < w1.heap.size := (by omega)); (try have hB1zwO3 : wO.heap.size + 1 + 1 + 1 < w1.heap.size := (by omega)); (try have hB1zwO4 : wO.heap.size + 1 + 1 + 1 + 1 < w1.heap.size := (by omega)))
      have HV := Lib.hid (qo_out (a1 := a1) (a2 := a2) (a3 := a3) (b1 := b1) (b2 := b2) (b3 := b3) (c1 := c1) (c2 := c2) (c3 := c3) hp (by simp [qoB, hd1, hd2]))
      go_wp2
      (refine bodyPost_ret (v := .tuple #[.slice none 0 0, .int .i64 (qoC p a1 a2 a3 b1 b2 b3 c1 c2 c3)]) (by simp [results, Try.results29, go_sem, HV.out.2]) rfl (slicePost_nil HV.out.1 ?_))
      (repeat (first | with_reducible exact Below.refl _ _ | with_reducible exact hxO | with_reducible refine balloc ?_ _ | with_reducible refine bdrewN ?_ _ | with_reducible refine Below.drew ?_ | with_reducible refine bthen ?_ (by with_reducible assumption) | with_reducible refine Below.setCell ?_ (by first | (simp; done) | (simp; omega)) _))
    · have hd2q := nums3 (plB_nums hd2)
      rcases bool_ways (plB p b1 b2 b3) with hd3 | hd3
      · skip
        have c_1 : codeOf p (plB p a1 a2 a3 && plB p b1 b2 b3 && plB p c1 c2 c3) = 2 := codeOf_out hp (by simp [hd2, hd3])
        have cT : codeOf p true = 0 := codeOf_in hp rfl
        have cF : codeOf p false = 2 := codeOf_out hp rfl
        go_wp2_with fail
        refine Calls.mono (specPlCode3 _ _ _ _ _ _ _ _ _ _ _ _ (by first | rfl | (simp; done))) ?_
        rintro e w1 ⟨rfl, hB1⟩
        (obtain ⟨hB1c, hB1f⟩ := bcell hB1; have hB1s := hB1.size; (try simp at hB1s); (try have hB1q1 := Nat.lt_of_succ_le hB1s); (try have hB1q2 := Nat.lt_of_succ_lt hB1q1); (try have hB1q3 := Nat.lt_of_succ_lt hB1q2); (try have hB1zw0 : w.heap.size < w1.heap.size := (by omega)); (try have hB1zw1 : w.heap.size + 1 < w1.heap.size := (by omega)); (try have hB1zw2 : w.heap.size + 1 + 1 < w1.heap.size := (by omega)); (try have hB1zw3 : w.heap.size + 1 + 1 + 1 < w1.heap.size := (by omega)); (try have hB1zw4 : w.heap.size + 1 + 1 + 1 + 1 < w1.heap.size := (by omega)); (try have hB1zwO0 : wO.heap.size < w1.heap.size := (by omega)); (try have hB1zwO1 : wO.heap.size + 1 < w1.heap.size := (by omega)); (try have hB1zwO2 : wO.heap.size + 1 + 1 < w1.heap.size := (by omega)); (try have hB1zwO3 : wO.heap.size + 1 + 1 + 1 < w1.heap.size := (by omega)); (try have hB1zwO4 : wO.heap.size + 1 + 1 + 1 + 1 < w1.heap.size := (by omega)))
        have HV := Lib.hid (qo_out (a1 := a1) (a2 := a2) (a3 := a3) (b1 := b1) (b2 := b2) (b3 := b3) (c1 := c1) (c2 := c2) (c3 := c3) hp (by simp [qoB, hd1, hd2, hd3]))
        go_wp2
        (refine bodyPost_ret (v := .tuple #[.slice none 0 0, .int .i64 (qoC p a1 a2 a3 b1 b2 b3 c1 c2 c3)]) (by simp [results, Try.results29, go_sem, HV.out.2]) rfl (slicePost_nil HV.out.1 ?_))
        (repeat (first | with_reducible exact Below.refl _ _ | with_reducible exact hxO | with_reducible refine balloc ?_ _ | with_reducible refine bdrewN ?_ _ | with_reducible refine Below.drew ?_ | with_reducible refine bthen ?_ (by with_reducible assumption) | with_reducible refine Below.setCell ?_ (by first | (simp; done) | (simp; omega)) _))
      · have hd3q := nums3 (plB_nums hd3)
        rcases bool_ways (plB p c1 c2 c3) with hd4 | hd4
        · skip
          have c_1 : codeOf p (plB p a1 a2 a3 && plB p b1 b2 b3 && plB p c1 c2 c3) = 2 := codeOf_out hp (by simp [hd2, hd3, hd4])
          have cT : codeOf p true = 0 := codeOf_in hp rfl
          have cF : codeOf p false = 2 := codeOf_out hp rfl
          go_wp2_with fail
          refine Calls.mono (specPlCode3 _ _ _ _ _ _ _ _ _ _ _ _ (by first | rfl | (simp; done))) ?_
          rintro e w1 ⟨rfl, hB1⟩
          (obtain ⟨hB1c, hB1f⟩ := bcell hB1; have hB1s := hB1.size; (try simp at hB1s); (try have hB1q1 := Nat.lt_of_succ_le hB1s); (try have hB1q2 := Nat.lt_of_succ_lt hB1q1); (try have hB1q3 := Nat.lt_of_succ_lt hB1q2); (try have hB1zw0 : w.heap.size < w1.heap.size := (by omega)); (try have hB1zw1 : w.heap.size + 1 < w1.heap.size := (by omega)); (try have hB1zw2 : w.heap.size + 1 + 1 < w1.heap.size := (by omega)); (try have hB1zw3 : w.heap.size + 1 + 1 + 1 < w1.heap.size := (by omega)); (try have hB1zw4 : w.heap.size + 1 + 1 + 1 + 1 < w1.heap.size := (by omega)); (try have hB1zwO0 : wO.heap.size < w1.heap.size := (by omega)); (try have hB1zwO1 : wO.heap.size + 1 < w1.heap.size := (by omega)); (try have hB1zwO2 : wO.heap.size + 1 + 1 < w1.heap.size := (by omega)); (try have hB1zwO3 : wO.heap.size + 1 + 1 + 1 < w1.heap.size := (by omega)); (try have hB1zwO4 : wO.heap.size + 1 + 1 + 1 + 1 < w1.heap.size := (by omega)))
          have HV := Lib.hid (qo_out (a1 := a1) (a2 := a2) (a3 := a3) (b1 := b1) (b2 := b2) (b3 := b3) (c1 := c1) (c2 := c2) (c3 := c3) hp (by simp [qoB, hd1, hd2, hd3, hd4]))
          go_wp2
          (refine bodyPost_ret (v := .tuple #[.slice none 0 0, .int .i64 (qoC p a1 a2 a3 b1 b2 b3 c1 c2 c3)]) (by simp [results, Try.results29, go_sem, HV.out.2]) rfl (slicePost_nil HV.out.1 ?_))
          (repeat (first | with_reducible exact Below.refl _ _ | with_reducible exact hxO | with_reducible refine balloc ?_ _ | with_reducible refine bdrewN ?_ _ | with_reducible refine Below.drew ?_ | with_reducible refine bthen ?_ (by with_reducible assumption) | with_reducible refine Below.setCell ?_ (by first | (simp; done) | (simp; omega)) _))
        · have hd4q := nums3 (plB_nums hd4)
          have c_1 : codeOf p (plB p a1 a2 a3 && plB p b1 b2 b3 && plB p c1 c2 c3) = 0 := codeOf_in hp (by simp [hd2, hd3, hd4])
          have cT : codeOf p true = 0 := codeOf_in hp rfl
          go_wp2_with fail
          refine Calls.mono (specPlCode3 _ _ _ _ _ _ _ _ _ _ _ _ (by first | rfl | (simp; done))) ?_
          rintro e w1 ⟨rfl, hB1⟩
          (obtain ⟨hB1c, hB1f⟩ := bcell hB1; have hB1s := hB1.size; (try simp at hB1s); (try have hB1q1 := Nat.lt_of_succ_le hB1s); (try have hB1q2 := Nat.lt_of_succ_lt hB1q1); (try have hB1q3 := Nat.lt_of_succ_lt hB1q2); (try have hB1zw0 : w.heap.size < w1.heap.size := (by omega)); (try have hB1zw1 : w.heap.size + 1 < w1.heap.size := (by omega)); (try have hB1zw2 : w.heap.size + 1 + 1 < w1.heap.size := (by omega)); (try have hB1zw3 : w.heap.size + 1 + 1 + 1 < w1.heap.size := (by omega)); (try have hB1zw4 : w.heap.size + 1 + 1 + 1 + 1 < w1.heap.size := (by omega)); (try have hB1zwO0 : wO.heap.size < w1.heap.size := (by omega)); (try have hB1zwO1 : wO.heap.size + 1 < w1.heap.size := (by omega)); (try have hB1zwO2 : wO.heap.size + 1 + 1 < w1.heap.size := (by omega)); (try have hB1zwO3 : wO.heap.size + 1 + 1 + 1 < w1.heap.size := (by omega)); (try have hB1zwO4 : wO.heap.size + 1 + 1 + 1 + 1 < w1.heap.size := (by omega)))
          rcases bool_ways (ppd p a1 a2 a3 a1 a2 a3 == 0) with hd5 | hd5
          · have hd5n : (ppd p a1 a2 a3 a1 a2 a3 != 0) = true := by rw [bne, hd5]; rfl
            have Hhd5p := Lib.hid (beq_eq_false_iff_ne.1 hd5)
            rcases bool_ways (ppd p b1 b2 b3 b1 b2 b3 == 0) with hd6 | hd6
            · have hd6n : (ppd p b1 b2 b3 b1 b2 b3 != 0) = true := by rw [bne, hd6]; rfl
              have Hhd6p := Lib.hid (beq_eq_false_iff_ne.1 hd6)
              go_wp2_with fail
              refine Calls.mono (specNull_any _ _ _ _ _ hp (by omega) (by omega) (by omega)) ?_
              rintro e w2 ⟨rfl, hB2⟩
              (obtain ⟨hB2c, hB2f⟩ := bcell hB2; have hB2s := hB2.size; (try simp at hB2s); (try have hB2q1 := Nat.lt_of_succ_le hB2s); (try have hB2q2 := Nat.lt_of_succ_lt hB2q1); (try have hB2q3 := Nat.lt_of_succ_lt hB2q2); (try have hB2zw0 : w.heap.size < w2.heap.size := (by omega)); (try have hB2zw1 : w.heap.size + 1 < w2.heap.size := (by omega)); (try have hB2zw2 : w.heap.size + 1 + 1 < w2.heap.size := (by omega)); (try have hB2zw3 : w.heap.size + 1 + 1 + 1 < w2.heap.size := (by omega)); (try have hB2zw4 : w.heap.size + 1 + 1 + 1 + 1 < w2.heap.size := (by omega)); (try have hB2zw10 : w1.heap.size < w2.heap.size := (by omega)); (try have hB2zw11 : w1.heap.size + 1 < w2.heap.size := (by omega)); (try have hB2zw12 : w1.heap.size + 1 + 1 < w2.heap.size := (by omega)); (try have hB2zw13 : w1.heap.size + 1 + 1 + 1 < w2.heap.size := (by omega)); (try have hB2zw14 : w1.heap.size + 1 + 1 + 1 + 1 < w2.heap.size := (by omega)); (try have hB2zwO0 : wO.heap.size < w2.heap.size := (by omega)); (try have hB2zwO1 : wO.heap.size + 1 < w2.heap.size := (by omega)); (try have hB2zwO2 : wO.heap.size + 1 + 1 < w2.heap.size := (by omega)); (try have hB2zwO3 : wO.heap.size + 1 + 1 + 1 < w2.heap.size := (by omega)); (try have hB2zwO4 : wO.heap.size + 1 + 1 + 1 + 1 < w2.heap.size := (by omega)))
              go_wp2_with fail
              refine Calls.mono (specNull_any _ _ _ _ _ hp (by omega) (by omega) (by omega)) ?_
              rintro e w3 ⟨rfl, hB3⟩
              (obtain ⟨hB3c, hB3f⟩ := bcell hB3; have hB3s := hB3.size; (try simp at hB3s); (try have hB3q1 := Nat.lt_of_succ_le hB3s); (try have hB3q2 := Nat.lt_of_succ_lt hB3q1); (try have hB3q3 := Nat.lt_of_succ_lt hB3q2); (try have hB3zw0 : w.heap.size < w3.heap.size := (by omega)); (try have hB3zw1 : w.heap.size + 1 < w3.heap.size := (by omega)); (try have hB3zw2 : w.heap.size + 1 + 1 < w3.heap.size := (by omega)); (try have hB3zw3 : w.heap.size + 1 + 1 + 1 < w3.heap.size := (by omega)); (try have hB3zw4 : w.heap.size + 1 + 1 + 1 + 1 < w3.heap.size := (by omega)); (try have hB3zw20 : w2.heap.size < w3.heap.size := (by omega)); (try have hB3zw21 : w2.heap.size + 1 < w3.heap.size := (by omega)); (try have hB3zw22 : w2.heap.size + 1 + 1 < w3.heap.size := (by omega)); (try have hB3zw23 : w2.heap.size + 1 + 1 + 1 < w3.heap.size := (by omega)); (try have hB3zw24 : w2.heap.size + 1 + 1 + 1 + 1 < w3.heap.size := (by omega)); (try have hB3zw10 : w1.heap.size < w3.heap.size := (by omega)); (try have hB3zw11 : w1.heap.size + 1 < w3.heap.size := (by omega)); (try have hB3zw12 : w1.heap.size + 1 + 1 < w3.heap.size := (by omega)); (try have hB3zw13 : w1.heap.size + 1 + 1 + 1 < w3.heap.size := (by omega)); (try have hB3zw14 : w1.heap.size + 1 + 1 + 1 + 1 < w3.heap.size := (by omega)); (try have hB3zwO0 : wO.heap.size < w3.heap.size := (by omega)); (try have hB3zwO1 : wO.heap.size + 1 < w3.heap.size := (by omega)); (try have hB3zwO2 : wO.heap.size + 1 + 1 < w3.heap.size := (by omega)); (try have hB3zwO3 : wO.heap.size + 1 + 1 + 1 < w3.heap.size := (by omega)); (try have hB3zwO4 : wO.heap.size + 1 + 1 + 1 + 1 < w3.heap.size := (by omega)))
              go_wp2_with fail
              refine Calls.mono (specNull_any _ _ _ _ _ hp (by omega) (by omega) (by omega)) ?_
              rintro e w4 ⟨rfl, hB4⟩
              (obtain ⟨hB4c, hB4f⟩ := bcell hB4; have hB4s := hB4.size; (try simp at hB4s); (try have hB4q1 := Nat.lt_of_succ_le hB4s); (try have hB4q2 := Nat.lt_of_succ_lt hB4q1); (try have hB4q3 := Nat.lt_of_succ_lt hB4q2); (try have hB4zw0 : w.heap.size < w4.heap.size := (by omega)); (try have hB4zw1 : w.heap.size + 1 < w4.heap.size := (by omega)); (try have hB4zw2 : w.heap.size + 1 + 1 < w4.heap.size := (by omega)); (try have hB4zw3 : w.heap.size + 1 + 1 + 1 < w4.heap.size := (by omega)); (try have hB4zw4 : w.heap.size + 1 + 1 + 1 + 1 < w4.heap.size := (by omega)); (try have hB4zw30 : w3.heap.size < w4.heap.size := (by omega)); (try have hB4zw31 : w3.heap.size + 1 < w4.heap.size := (by omega)); (try have hB4zw32 : w3.heap.size + 1 + 1 < w4.heap.size := (by omega)); (try have hB4zw33 : w3.heap.size + 1 + 1 + 1 < w4.heap.size := (by omega)); (try have hB4zw34 : w3.heap.size + 1 + 1 + 1 + 1 < w4.heap.size := (by omega)); (try have hB4zw20 : w2.heap.size < w4.heap.size := (by omega)); (try have hB4zw21 : w2.heap.size + 1 < w4.heap.size := (by omega)); (try have hB4zw22 : w2.heap.size + 1 + 1 < w4.heap.size := (by omega)); (try have hB4zw23 : w2.heap.size + 1 + 1 + 1 < w4.heap.size := (by omega)); (try have hB4zw24 : w2.heap.size + 1 + 1 + 1 + 1 < w4.heap.size := (by omega)); (try have hB4zw10 : w1.heap.size < w4.heap.size := (by omega)); (try have hB4zw11 : w1.heap.size + 1 < w4.heap.size := (by omega)); (try have hB4zw12 : w1.heap.size + 1 + 1 < w4.heap.size := (by omega)); (try have hB4zw13 : w1.heap.size + 1 + 1 + 1 < w4.heap.size := (by omega)); (try have hB4zw14 : w1.heap.size + 1 + 1 + 1 + 1 < w4.heap.size := (by omega)); (try have hB4zwO0 : wO.heap.size < w4.heap.size := (by omega)); (try have hB4zwO1 : wO.heap.size + 1 < w4.heap.size := (by omega)); (try have hB4zwO2 : wO.heap.size + 1 + 1 < w4.heap.size := (by omega)); (try have hB4zwO3 : wO.heap.size + 1 + 1 + 1 < w4.heap.size := (by omega)); (try have hB4zwO4 : wO.heap.size + 1 + 1 + 1 + 1 < w4.heap.size := (by omega)))
              rcases bool_ways (ppd p c1 c2 c3 c1 c2 c3 == 0) with hd7 | hd7
              · have hd7n : (ppd p c1 c2 c3 c1 c2 c3 != 0) = true := by rw [bne, hd7]; rfl
                have Hhd7p := Lib.hid (beq_eq_false_iff_ne.1 hd7)
                have HB : qoB p a1 a2 a3 b1 b2 b3 c1 c2 c3 = true := by simp [qoB, hd1, hd2, hd3, hd4, hd5, hd6, hd7]
                have HS : qoS p a1 a2 a3 b1 b2 b3 c1 c2 c3 = 0 := by simp [qoS, hd1, hd2, hd3, hd4, hd5, hd6, hd7]
                have HV := Lib.hid (qo_good (a1 := a1) (a2 := a2) (a3 := a3) (b1 := b1) (b2 := b2) (b3 := b3) (c1 := c1) (c2 := c2) (c3 := c3) hp HB HS)
                clear HB HS
                obtain ⟨x0, hx0⟩ : ∃ v : Int, v = plq p b1 b2 b3 c1 c2 c3 := ⟨_, rfl⟩
                have Hx0 := Lib.hid hx0
                clear hx0
                obtain ⟨x1, hx1⟩ : ∃ v : Int, v = plq p a1 a2 a3 c1 c2 c3 := ⟨_, rfl⟩
                have Hx1 := Lib.hid hx1
                clear hx1
                obtain ⟨x2, hx2⟩ : ∃ v : Int, v = plq p a1 a2 a3 b1 b2 b3 := ⟨_, rfl⟩
                have Hx2 := Lib.hid hx2
                clear hx2
                have HX := Lib.hid (show qoL p a1 a2 a3 b1 b2 b3 c1 c2 c3 = [x0, x1, x2] ∧ qoC p a1 a2 a3 b1 b2 b3 c1 c2 c3 = 0 from by rw [Hx2.out, Hx1.out, Hx0.out]; exact HV.out)
                have ka0 : w4.cell? ⟨w.heap.size, 0, none⟩ = some (.int .i64 a1) := by (first | with_reducible assumption | (repeat (first | with_reducible assumption | ((with_reducible refine kfresh ?_ ?_) <;> (first | with_reducible rfl | (simp; done))) | ((with_reducible refine ksameS ?_); focus ((repeat (first | with_reducible exact kis_of (by with_reducible assumption) | with_reducible refine kis_set ?_ | ((with_reducible refine kis_new ?_ ?_) <;> (first | with_reducible rfl | rfl | (simp; done))) | with_reducible refine kis_alloc _ ?_ | with_reducible refine kis_drew ?_ | with_reducible refine kis_call (by with_reducible assumption) ?_ | with_reducible exact kis_of (kcall (by with_reducible assumption) (by with_reducible assumption)))); done)) | with_reducible refine kother (by decide) ?_ | with_reducible refine kset (by first | omega | (simp; done) | (simp; omega)) ?_ | with_reducible refine kalloc _ ?_ | with_reducible refine kdrew ?_ | with_reducible refine kdrewN ?_ | with_reducible refine kcall (by with_reducible assumption) ?_)))
                have q0 : ∀ W : World, Below w4.heap.size w4 W → W.cell? ⟨w.heap.size, 0, none⟩ = some (.int .i64 a1) := fun W h => bholds ka0 h
                have ka1 : w4.cell? ⟨w.heap.size, 1, none⟩ = some (.int .i64 a2) := by (first | with_reducible assumption | (repeat (first | with_reducible assumption | ((with_reducible refine kfresh ?_ ?_) <;> (first | with_reducible rfl | (simp; done))) | ((with_reducible refine ksameS ?_); focus ((repeat (first | with_reducible exact kis_of (by with_reducible assumption) | with_reducible refine kis_set ?_ | ((with_reducible refine kis_new ?_ ?_) <;> (first | with_reducible rfl | rfl | (simp; done))) | with_reducible refine kis_alloc _ ?_ | with_reducible refine kis_drew ?_ | with_reducible refine kis_call (by with_reducible assumption) ?_ | with_reducible exact kis_of (kcall (by with_reducible assumption) (by with_reducible assumption)))); done)) | with_reducible refine kother (by decide) ?_ | with_reducible refine kset (by first | omega | (simp; done) | (simp; omega)) ?_ | with_reducible refine kalloc _ ?_ | with_reducible refine kdrew ?_ | with_reducible refine kdrewN ?_ | with_reducible refine kcall (by with_reducible assumption) ?_)))
                have q1 : ∀ W : World, Below w4.heap.size w4 W → W.cell? ⟨w.heap.size, 1, none⟩ = some (.int .i64 a2) := fun W h => bholds ka1 h
                have ka2 : w4.cell? ⟨w.heap.size, 2, none⟩ = some (.int .i64 a3) := by (first | with_reducible assumption | (repeat (first | with_reducible assumption | ((with_reducible refine kfresh ?_ ?_) <;> (first | with_reducible rfl | (simp; done))) | ((with_reducible refine ksameS ?_); focus ((repeat (first | with_reducible exact kis_of (by with_reducible assumption) | with_reducible refine kis_set ?_ | ((with_reducible refine kis_new ?_ ?_) <;> (first | with_reducible rfl | rfl | (simp; done))) | with_reducible refine kis_alloc _ ?_ | with_reducible refine kis_drew ?_ | with_reducible refine kis_call (by with_reducible assumption) ?_ | with_reducible exact kis_of (kcall (by with_reducible assumption) (by with_reducible assumption)))); done)) | with_reducible refine kother (by decide) ?_ | with_reducible refine kset (by first | omega | (simp; done) | (simp; omega)) ?_ | with_reducible refine kalloc _ ?_ | with_reducible refine kdrew ?_ | with_reducible refine kdrewN ?_ | with_reducible refine kcall (by with_reducible assumption) ?_)))
                have q2 : ∀ W : World, Below w4.heap.size w4 W → W.cell? ⟨w.heap.size, 2, none⟩ = some (.int .i64 a3) := fun W h => bholds ka2 h
                have ka3 : w4.cell? ⟨w.heap.size + 1, 0, none⟩ = some (.int .i64 b1) := by (first | with_reducible assumption | (repeat (first | with_reducible assumption | ((with_reducible refine kfresh ?_ ?_) <;> (first | with_reducible rfl | (simp; done))) | ((with_reducible refine ksameS ?_); focus ((repeat (first | with_reducible exact kis_of (by with_reducible assumption) | with_reducible refine kis_set ?_ | ((with_reducible refine kis_new ?_ ?_) <;> (first | with_reducible rfl | rfl | (simp; done))) | with_reducible refine kis_alloc _ ?_ | with_reducible refine kis_drew ?_ | with_reducible refine kis_call (by with_reducible assumption) ?_ | with_reducible exact kis_of (kcall (by with_reducible assumption) (by with_reducible assumption)))); done)) | with_reducible refine kother (by decide) ?_ | with_reducible refine kset (by first | omega | (simp; done) | (simp; omega)) ?_ | with_reducible refine kalloc _ ?_ | with_reducible refine kdrew ?_ | with_reducible refine kdrewN ?_ | with_reducible refine kcall (by with_reducible assumption) ?_)))
                have q3 : ∀ W : World, Below w4.heap.size w4 W → W.cell? ⟨w.heap.size + 1, 0, none⟩ = some (.int .i64 b1) := fun W h => bholds ka3 h
                have ka4 : w4.cell? ⟨w.heap.size + 1, 1, none⟩ = some (.int .i64 b2) := by (first | with_reducible assumption | (repeat (first | with_reducible assumption | ((with_reducible refine kfresh ?_ ?_) <;> (first | with_reducible rfl | (simp; done))) | ((with_reducible refine ksameS ?_); focus ((repeat (first | with_reducible exact kis_of (by with_reducible assumption) | with_reducible refine kis_set ?_ | ((with_reducible refine kis_new ?_ ?_) <;> (first | with_reducible rfl | rfl | (simp; done))) | with_reducible refine kis_alloc _ ?_ | with_reducible refine kis_drew ?_ | with_reducible refine kis_call (by with_reducible assumption) ?_ | with_reducible exact kis_of (kcall (by with_reducible assumption) (by with_reducible assumption)))); done)) | with_reducible refine kother (by decide) ?_ | with_reducible refine kset (by first | omega | (simp; done) | (simp; omega)) ?_ | with_reducible refine kalloc _ ?_ | with_reducible refine kdrew ?_ | with_reducible refine kdrewN ?_ | with_reducible refine kcall (by with_reducible assumption) ?_)))
                have q4 : ∀ W : World, Below w4.heap.size w4 W → W.cell? ⟨w.heap.size + 1, 1, none⟩ = some (.int .i64 b2) := fun W h => bholds ka4 h
                have ka5 : w4.cell? ⟨w.heap.size + 1, 2, none⟩ = some (.int .i64 b3) := by (first | with_reducible assumption | (repeat (first | with_reducible assumption | ((with_reducible refine kfresh ?_ ?_) <;> (first | with_reducible rfl | (simp; done))) | ((with_reducible refine ksameS ?_); focus ((repeat (first | with_reducible exact kis_of (by with_reducible assumption) | with_reducible refine kis_set ?_ | ((with_reducible refine kis_new ?_ ?_) <;> (first | with_reducible rfl | rfl | (simp; done))) | with_reducible refine kis_alloc _ ?_ | with_reducible refine kis_drew ?_ | with_reducible refine kis_call (by with_reducible assumption) ?_ | with_reducible exact kis_of (kcall (by with_reducible assumption) (by with_reducible assumption)))); done)) | with_reducible refine kother (by decide) ?_ | with_reducible refine kset (by first | omega | (simp; done) | (simp; omega)) ?_ | with_reducible refine kalloc _ ?_ | with_reducible refine kdrew ?_ | with_reducible refine kdrewN ?_ | with_reducible refine kcall (by with_reducible assumption) ?_)))
                have q5 : ∀ W : World, Below w4.heap.size w4 W → W.cell? ⟨w.heap.size + 1, 2, none⟩ = some (.int .i64 b3) := fun W h => bholds ka5 h
                have ka6 : w4.cell? ⟨w.heap.size + 1 + 1, 0, none⟩ = some (.int .i64 c1) := by (first | with_reducible assumption | (repeat (first | with_reducible assumption | ((with_reducible refine kfresh ?_ ?_) <;> (first | with_reducible rfl | (simp; done))) | ((with_reducible refine ksameS ?_); focus ((repeat (first | with_reducible exact kis_of (by with_reducible assumption) | with_reducible refine kis_set ?_ | ((with_reducible refine kis_new ?_ ?_) <;> (first | with_reducible rfl | rfl | (simp; done))) | with_reducible refine kis_alloc _ ?_ | with_reducible refine kis_drew ?_ | with_reducible refine kis_call (by with_reducible assumption) ?_ | with_reducible exact kis_of (kcall (by with_reducible assumption) (by with_reducible assumption)))); done)) | with_reducible refine kother (by decide) ?_ | with_reducible refine kset (by first | omega | (simp; done) | (simp; omega)) ?_ | with_reducible refine kalloc _ ?_ | with_reducible refine kdrew ?_ | with_reducible refine kdrewN ?_ | with_reducible refine kcall (by with_reducible assumption) ?_)))
                have q6 : ∀ W : World, Below w4.heap.size w4 W → W.cell? ⟨w.heap.size + 1 + 1, 0, none⟩ = some (.int .i64 c1) := fun W h => bholds ka6 h
                have ka7 : w4.cell? ⟨w.heap.size + 1 + 1, 1, none⟩ = some (.int .i64 c2) := by (first | with_reducible assumption | (repeat (first | with_reducible assumption | ((with_reducible refine kfresh ?_ ?_) <;> (first | with_reducible rfl | (simp; done))) | ((with_reducible refine ksameS ?_); focus ((repeat (first | with_reducible exact kis_of (by with_reducible assumption) | with_reducible refine kis_set ?_ | ((with_reducible refine kis_new ?_ ?_) <;> (first | with_reducible rfl | rfl | (simp; done))) | with_reducible refine kis_alloc _ ?_ | with_reducible refine kis_drew ?_ | with_reducible refine kis_call (by with_reducible assumption) ?_ | with_reducible exact kis_of (kcall (by with_reducible assumption) (by with_reducible assumption)))); done)) | with_reducible refine kother (by decide) ?_ | with_reducible refine kset (by first | omega | (simp; done) | (simp; omega)) ?_ | with_reducible refine kalloc _ ?_ | with_reducible refine kdrew ?_ | with_reducible refine kdrewN ?_ | with_reducible refine kcall (by with_reducible assumption) ?_)))
                have q7 : ∀ W : World, Below w4.heap.size w4 W → W.cell? ⟨w.heap.size + 1 + 1, 1, none⟩ = some (.int .i64 c2) := fun W h => bholds ka7 h
                have ka8 : w4.cell? ⟨w.heap.size + 1 + 1, 2, none⟩ = some (.int .i64 c3) := by (first | with_reducible assumption | (repeat (first | with_reducible assumption | ((with_reducible refine kfresh ?_ ?_) <;> (first | with_reducible rfl | (simp; done))) | ((with_reducible refine ksameS ?_); focus ((repeat (first | with_reducible exact kis_of (by with_reducible assumption) | with_reducible refine kis_set ?_ | ((with_reducible refine kis_new ?_ ?_) <;> (first | with_reducible rfl | rfl | (simp; done))) | with_reducible refine kis_alloc _ ?_ | with_reducible refine kis_drew ?_ | with_reducible refine kis_call (by with_reducible assumption) ?_ | with_reducible exact kis_of (kcall (by with_reducible assumption) (by with_reducible assumption)))); done)) | with_reducible refine kother (by decide) ?_ | with_reducible refine kset (by first | omega | (simp; done) | (simp; omega)) ?_ | with_reducible refine kalloc _ ?_ | with_reducible refine kdrew ?_ | with_reducible refine kdrewN ?_ | with_reducible refine kcall (by with_reducible assumption) ?_)))
                have q8 : ∀ W : World, Below w4.heap.size w4 W → W.cell? ⟨w.heap.size + 1 + 1, 2, none⟩ = some (.int .i64 c3) := fun W h => bholds ka8 h
                have hW : Below w.heap.size w w4 := by (repeat (first | with_reducible exact Below.refl _ _ | with_reducible exact hxO | with_reducible refine balloc ?_ _ | with_reducible refine bdrewN ?_ _ | with_reducible refine Below.drew ?_ | with_reducible refine bthen ?_ (by with_reducible assumption) | with_reducible refine Below.setCell ?_ (by first | (simp; done) | (simp; omega)) _))
                go_upto_region 6 with fail
                go_cut [8, 9] (fun s8 s9 wx => ∃ g : Nat, s8 = .slice (some ⟨g, 0, none⟩) 3 3 ∧ s9 = .int .i64 0 ∧ wx.ownsRow w.heap.size 2 1 (.slice (some ⟨g, 0, none⟩) 3 3) 3 (ints [x0, x1, x2]) ∧ Below w.heap.size w wx)
                case first =>
                  go_region_held3 (fun W => Below w4.heap.size w4 W) (first | with_reducible assumption | with_reducible exact bthen (by with_reducible assumption) hB | with_reducible exact bfromdrew hB | with_reducible exact balloc (by with_reducible assumption) _ | with_reducible exact Below.drew (balloc (bundrew (by with_reducible assumption)) _) | with_reducible exact Below.drew (Below.refl _ _) | with_reducible exact Below.refl _ _ | with_reducible exact Below.drew (by with_reducible assumption)) (first | (go_at_call 56; refine Calls.mono (specPlq_any _ _ _ _ _ _ _ _ hp (by omega) (by omega) (by omega) (by omega) (by omega) (by omega)) ?_; (first | rw [← Hx0.out] | rw [← Hx1.out] | rw [← Hx2.out]); rintro e wq ⟨rfl, hB⟩; have hBs := hB.size; (try simp at hBs)))
                  all_goals
                    go_wp2_with fail
                    go_meet
                    refine ⟨_, rfl, rfl, ?_, ?_⟩
                    · exact own_lit (cs := [x0, x1, x2]) (by first | omega | (simp; omega)) (by first | rfl | (simp; done)) (by decide) rfl
                    · exact (bthen hW (by first | with_reducible assumption | (repeat (first | with_reducible exact Below.refl _ _ | with_reducible refine balloc ?_ _ | with_reducible refine bdrewN ?_ _ | with_reducible refine Below.drew ?_ | with_reducible refine bthen ?_ (by with_reducible assumption) | with_reducible refine Below.setCell ?_ (by first | (simp; done) | (simp; omega)) _))))
                case' rest => obtain ⟨g, rfl, rfl, hown, hx⟩ := hcut
                go_wp2
                (refine bodyPost_ret (v := .tuple #[.slice (some ⟨g, 0, none⟩) 3 3, .int .i64 (qoC p a1 a2 a3 b1 b2 b3 c1 c2 c3)]) (by simp [results, Try.results29, go_sem, HX.out.2]) rfl (slicePost_mk (by rw [HX.out.1]; exact hown) hx))
              · have hd7n : (ppd p c1 c2 c3 c1 c2 c3 != 0) = false := by rw [bne, hd7]; rfl
                have Hhd7p := Lib.hid (beq_iff_eq.1 hd7)
                have HB : qoB p a1 a2 a3 b1 b2 b3 c1 c2 c3 = true := by simp [qoB, hd1, hd2, hd3, hd4, hd5, hd6, hd7]
                have HS : qoS p a1 a2 a3 b1 b2 b3 c1 c2 c3 = 5 := by simp [qoS, hd1, hd2, hd3, hd4, hd5, hd6, hd7]
                have HV := Lib.hid (qo_st (a1 := a1) (a2 := a2) (a3 := a3) (b1 := b1) (b2 := b2) (b3 := b3) (c1 := c1) (c2 := c2) (c3 := c3) hp HB HS (by decide))
                clear HB HS
                go_wp2
                (refine bodyPost_ret (v := .tuple #[.slice none 0 0, .int .i64 (qoC p a1 a2 a3 b1 b2 b3 c1 c2 c3)]) (by simp [results, Try.results29, go_sem, HV.out.2]) rfl (slicePost_nil HV.out.1 ?_))
                (repeat (first | with_reducible exact Below.refl _ _ | with_reducible exact hxO | with_reducible refine balloc ?_ _ | with_reducible refine bdrewN ?_ _ | with_reducible refine Below.drew ?_ | with_reducible refine bthen ?_ (by with_reducible assumption) | with_reducible refine Below.setCell ?_ (by first | (simp; done) | (simp; omega)) _))
            · have hd6n : (ppd p b1 b2 b3 b1 b2 b3 != 0) = false := by rw [bne, hd6]; rfl
              have Hhd6p := Lib.hid (beq_iff_eq.1 hd6)
              go_wp2_with fail
              refine Calls.mono (specNull_any _ _ _ _ _ hp (by omega) (by omega) (by omega)) ?_
              rintro e w2 ⟨rfl, hB2⟩
              (obtain ⟨hB2c, hB2f⟩ := bcell hB2; have hB2s := hB2.size; (try simp at hB2s); (try have hB2q1 := Nat.lt_of_succ_le hB2s); (try have hB2q2 := Nat.lt_of_succ_lt hB2q1); (try have hB2q3 := Nat.lt_of_succ_lt hB2q2); (try have hB2zw0 : w.heap.size < w2.heap.size := (by omega)); (try have hB2zw1 : w.heap.size + 1 < w2.heap.size := (by omega)); (try have hB2zw2 : w.heap.size + 1 + 1 < w2.heap.size := (by omega)); (try have hB2zw3 : w.heap.size + 1 + 1 + 1 < w2.heap.size := (by omega)); (try have hB2zw4 : w.heap.size + 1 + 1 + 1 + 1 < w2.heap.size := (by omega)); (try have hB2zw10 : w1.heap.size < w2.heap.size := (by omega)); (try have hB2zw11 : w1.heap.size + 1 < w2.heap.size := (by omega)); (try have hB2zw12 : w1.heap.size + 1 + 1 < w2.heap.size := (by omega)); (try have hB2zw13 : w1.heap.size + 1 + 1 + 1 < w2.heap.size := (by omega)); (try have hB2zw14 : w1.heap.size + 1 + 1 + 1 + 1 < w2.heap.size := (by omega)); (try have hB2zwO0 : wO.heap.size < w2.heap.size := (by omega)); (try have hB2zwO1 : wO.heap.size + 1 < w2.heap.size := (by omega)); (try have hB2zwO2 : wO.heap.size + 1 + 1 < w2.heap.size := (by omega)); (try have hB2zwO3 : wO.heap.size + 1 + 1 + 1 < w2.heap.size := (by omega)); (try have hB2zwO4 : wO.heap.size + 1 + 1 + 1 + 1 < w2.heap.size := (by omega)))
              go_wp2_with fail
              refine Calls.mono (specNull_any _ _ _ _ _ hp (by omega) (by omega) (by omega)) ?_
              rintro e w3 ⟨rfl, hB3⟩
              (obtain ⟨hB3c, hB3f⟩ := bcell hB3; have hB3s := hB3.size; (try simp at hB3s); (try have hB3q1 := Nat.lt_of_succ_le hB3s); (try have hB3q2 := Nat.lt_of_succ_lt hB3q1); (try have hB3q3 := Nat.lt_of_succ_lt hB3q2); (try have hB3zw0 : w.heap.size < w3.heap.size := (by omega)); (try have hB3zw1 : w.heap.size + 1 < w3.heap.size := (by omega)); (try have hB3zw2 : w.heap.size + 1 + 1 < w3.heap.size := (by omega)); (try have hB3zw3 : w.heap.size + 1 + 1 + 1 < w3.heap.size := (by omega)); (try have hB3zw4 : w.heap.size + 1 + 1 + 1 + 1 < w3.heap.size := (by omega)); (try have hB3zw20 : w2.heap.size < w3.heap.size := (by omega)); (try have hB3zw21 : w2.heap.size + 1 < w3.heap.size := (by omega)); (try have hB3zw22 : w2.heap.size + 1 + 1 < w3.heap.size := (by omega)); (try have hB3zw23 : w2.heap.size + 1 + 1 + 1 < w3.heap.size := (by omega)); (try have hB3zw24 : w2.heap.size + 1 + 1 + 1 + 1 < w3.heap.size := (by omega)); (try have hB3zw10 : w1.heap.size < w3.heap.size := (by omega)); (try have hB3zw11 : w1.heap.size + 1 < w3.heap.size := (by omega)); (try have hB3zw12 : w1.heap.size + 1 + 1 < w3.heap.size := (by omega)); (try have hB3zw13 : w1.heap.size + 1 + 1 + 1 < w3.heap.size := (by omega)); (try have hB3zw14 : w1.heap.size + 1 + 1 + 1 + 1 < w3.heap.size := (by omega)); (try have hB3zwO0 : wO.heap.size < w3.heap.size := (by omega)); (try have hB3zwO1 : wO.heap.size + 1 < w3.heap.size := (by omega)); (try have hB3zwO2 : wO.heap.size + 1 + 1 < w3.heap.size := (by omega)); (try have hB3zwO3 : wO.heap.size + 1 + 1 + 1 < w3.heap.size := (by omega)); (try have hB3zwO4 : wO.heap.size + 1 + 1 + 1 + 1 < w3.heap.size := (by omega)))
              have HB : qoB p a1 a2 a3 b1 b2 b3 c1 c2 c3 = true := by simp [qoB, hd1, hd2, hd3, hd4, hd5, hd6]
              have HS : qoS p a1 a2 a3 b1 b2 b3 c1 c2 c3 = 5 := by simp [qoS, hd1, hd2, hd3, hd4, hd5, hd6]
              have HV := Lib.hid (qo_st (a1 := a1) (a2 := a2) (a3 := a3) (b1 := b1) (b2 := b2) (b3 := b3) (c1 := c1) (c2 := c2) (c3 := c3) hp HB HS (by decide))
              clear HB HS
              go_wp2
              (refine bodyPost_ret (v := .tuple #[.slice none 0 0, .int .i64 (qoC p a1 a2 a3 b1 b2 b3 c1 c2 c3)]) (by simp [results, Try.results29, go_sem, HV.out.2]) rfl (slicePost_nil HV.out.1 ?_))
              (repeat (first | with_reducible exact Below.refl _ _ | with_reducible exact hxO | with_reducible refine balloc ?_ _ | with_reducible refine bdrewN ?_ _ | with_reducible refine Below.drew ?_ | with_reducible refine bthen ?_ (by with_reducible assumption) | with_reducible refine Below.setCell ?_ (by first | (simp; done) | (simp; omega)) _))
          · have hd5n : (ppd p a1 a2 a3 a1 a2 a3 != 0) = false := by rw [bne, hd5]; rfl
            have Hhd5p := Lib.hid (beq_iff_eq.1 hd5)
            go_wp2_with fail
            refine Calls.mono (specNull_any _ _ _ _ _ hp (by omega) (by omega) (by omega)) ?_
            rintro e w2 ⟨rfl, hB2⟩
            (obtain ⟨hB2c, hB2f⟩ := bcell hB2; have hB2s := hB2.size; (try simp at hB2s); (try have hB2q1 := Nat.lt_of_succ_le hB2s); (try have hB2q2 := Nat.lt_of_succ_lt hB2q1); (try have hB2q3 := Nat.lt_of_succ_lt hB2q2); (try have hB2zw0 : w.heap.size < w2.heap.size := (by omega)); (try have hB2zw1 : w.heap.size + 1 < w2.heap.size := (by omega)); (try have hB2zw2 : w.heap.size + 1 + 1 < w2.heap.size := (by omega)); (try have hB2zw3 : w.heap.size + 1 + 1 + 1 < w2.heap.size := (by omega)); (try have hB2zw4 : w.heap.size + 1 + 1 + 1 + 1 < w2.heap.size := (by omega)); (try have hB2zw10 : w1.heap.size < w2.heap.size := (by omega)); (try have hB2zw11 : w1.heap.size + 1 < w2.heap.size := (by omega)); (try have hB2zw12 : w1.heap.size + 1 + 1 < w2.heap.size := (by omega)); (try have hB2zw13 : w1.heap.size + 1 + 1 + 1 < w2.heap.size := (by omega)); (try have hB2zw14 : w1.heap.size + 1 + 1 + 1 + 1 < w2.heap.size := (by omega)); (try have hB2zwO0 : wO.heap.size < w2.heap.size := (by omega)); (try have hB2zwO1 : wO.heap.size + 1 < w2.heap.size := (by omega)); (try have hB2zwO2 : wO.heap.size + 1 + 1 < w2.heap.size := (by omega)); (try have hB2zwO3 : wO.heap.size + 1 + 1 + 1 < w2.heap.size := (by omega)); (try have hB2zwO4 : wO.heap.size + 1 + 1 + 1 + 1 < w2.heap.size := (by omega)))
            have HB : qoB p a1 a2 a3 b1 b2 b3 c1 c2 c3 = true := by simp [qoB, hd1, hd2, hd3, hd4, hd5]
            have HS : qoS p a1 a2 a3 b1 b2 b3 c1 c2 c3 = 5 := by simp [qoS, hd1, hd2, hd3, hd4, hd5]
            have HV := Lib.hid (qo_st (a1 := a1) (a2 := a2) (a3 := a3) (b1 := b1) (b2 := b2) (b3 := b3) (c1 := c1) (c2 := c2) (c3 := c3) hp HB HS (by decide))
            clear HB HS
            go_wp2
            (refine bodyPost_ret (v := .tuple #[.slice none 0 0, .int .i64 (qoC p a1 a2 a3 b1 b2 b3 c1 c2 c3)]) (by simp [results, Try.results29, go_sem, HV.out.2]) rfl (slicePost_nil HV.out.1 ?_))
            (repeat (first | with_reducible exact Below.refl _ _ | with_reducible exact hxO | with_reducible refine balloc ?_ _ | with_reducible refine bdrewN ?_ _ | with_reducible refine Below.drew ?_ | with_reducible refine bthen ?_ (by with_reducible assumption) | with_reducible refine Below.setCell ?_ (by first | (simp; done) | (simp; omega)) _))

set_option linter.unusedVariables false in
set_option linter.unusedSimpArgs false in
set_option maxRecDepth 20000 in
set_option maxHeartbeats 4000000 in
theorem implQuadrancesOfPlaces_any (p a1 a2 a3 b1 b2 b3 c1 c2 c3 : Int)  (w : World) :
    Calls Try.prog 30 #[.int .i64 p, .agg #[.int .i64 a1, .int .i64 a2, .int .i64 a3], .agg #[.int .i64 b1, .int .i64 b2, .int .i64 b3], .agg #[.int .i64 c1, .int .i64 c2, .int .i64 c3]] w fun e w' =>
      SlicePost 2 1 (qoL p a1 a2 a3 b1 b2 b3 c1 c2 c3) (qoC p a1 a2 a3 b1 b2 b3 c1 c2 c3) w e w' := by
  go_enter Try.func30, Try.ntmps30
  go_upto_region 0 with fail
  go_cut [5, 6, 7, 8, 9] (fun s5 s6 s7 s8 s9 wx => s5 = .pointer (some ⟨w.heap.size, 0, none⟩) ∧ s6 = .pointer (some ⟨w.heap.size + 1, 0, none⟩) ∧ s7 = .pointer (some ⟨w.heap.size + 1 + 1, 0, none⟩) ∧ s8 = .slice none 0 0 ∧ s9 = .int .i64 0 ∧ wx.cell? ⟨w.heap.size, 0, none⟩ = some (.int .i64 a1) ∧ wx.cell? ⟨w.heap.size, 1, none⟩ = some (.int .i64 a2) ∧ wx.cell? ⟨w.heap.size, 2, none⟩ = some (.int .i64 a3) ∧ wx.cell? ⟨w.heap.size + 1, 0, none⟩ = some (.int .i64 b1) ∧ wx.cell? ⟨w.heap.size + 1, 1, none⟩ = some (.int .i64 b2) ∧ wx.cell? ⟨w.heap.size + 1, 2, none⟩ = some (.int .i64 b3) ∧ wx.cell? ⟨w.heap.size + 1 + 1, 0, none⟩ = some (.int .i64 c1) ∧ wx.cell? ⟨w.heap.size + 1 + 1, 1, none⟩ = some (.int .i64 c2) ∧ wx.cell? ⟨w.heap.size + 1 + 1, 2, none⟩ = some (.int .i64 c3) ∧ wx.frozen? ⟨w.heap.size, 0, none⟩ = false ∧ wx.frozen? ⟨w.heap.size, 1, none⟩ = false ∧ wx.frozen? ⟨w.heap.size, 2, none⟩ = false ∧ wx.frozen? ⟨w.heap.size + 1, 0, none⟩ = false ∧ wx.frozen? ⟨w.heap.size + 1, 1, none⟩ = false ∧ wx.frozen? ⟨w.heap.size + 1, 2, none⟩ = false ∧ wx.frozen? ⟨w.heap.size + 1 + 1, 0, none⟩ = false ∧ wx.frozen? ⟨w.heap.size + 1 + 1, 1, none⟩ = false ∧ wx.frozen? ⟨w.heap.size + 1 + 1, 2, none⟩ = false ∧ Below w.heap.size w wx ∧ w.heap.size + 1 + 1 + 1 ≤ wx.heap.size)
  case first =>
    go_wp2
    go_meet
    refine ⟨rfl, rfl, rfl, rfl, rfl, ?_, ?_, ?_, ?_, ?_, ?_, ?_, ?_, ?_, ?_, ?_, ?_, ?_, ?_, ?_, ?_, ?_, ?_, ?_, ?_⟩
    · (repeat (first | with_reducible assumption | ((with_reducible refine kfresh ?_ ?_) <;> (first | with_reducible rfl | (simp; done))) | ((with_reducible refine ksameS ?_); focus ((repeat (first | with_reducible exact kis_of (by with_reducible assumption) | with_reducible refine kis_set ?_ | ((with_reducible refine kis_new ?_ ?_) <;> (first | with_reducible rfl | rfl | (simp; done))) | with_reducible refine kis_alloc _ ?_ | with_reducible refine kis_drew ?_ | with_reducible refine kis_call (by with_reducible assumption) ?_ | with_reducible exact kis_of (kcall (by with_reducible assumption) (by with_reducible assumption)))); done)) | with_reducible refine kother (by decide) ?_ | with_reducible refine kset (by first | omega | (simp; done) | (simp; omega)) ?_ | with_reducible refine kalloc _ ?_ | with_reducible refine kdrew ?_ | with_reducible refine kdrewN ?_ | with_reducible refine kcall (by with_reducible assumption) ?_))
    · (repeat (first | with_reducible assumption | ((with_reducible refine kfresh ?_ ?_) <;> (first | with_reducible rfl | (simp; done))) | ((with_reducible refine ksameS ?_); focus ((repeat (first | with_reducible exact kis_of (by with_reducible assumption) | with_reducible refine kis_set ?_ | ((with_reducible refine kis_new ?_ ?_) <;> (first | with_reducible rfl | rfl | (simp; done))) | with_reducible refine kis_alloc _ ?_ | with_reducible refine kis_drew ?_ | with_reducible refine kis_call (by with_reducible assumption) ?_ | with_reducible exact kis_of (kcall (by with_reducible assumption) (by with_reducible assumption)))); done)) | with_reducible refine kother (by decide) ?_ | with_reducible refine kset (by first | omega | (simp; done) | (simp; omega)) ?_ | with_reducible refine kalloc _ ?_ | with_reducible refine kdrew ?_ | with_reducible refine kdrewN ?_ | with_reducible refine kcall (by with_reducible assumption) ?_))
    · (repeat (first | with_reducible assumption | ((with_reducible refine kfresh ?_ ?_) <;> (first | with_reducible rfl | (simp; done))) | ((with_reducible refine ksameS ?_); focus ((repeat (first | with_reducible exact kis_of (by with_reducible assumption) | with_reducible refine kis_set ?_ | ((with_reducible refine kis_new ?_ ?_) <;> (first | with_reducible rfl | rfl | (simp; done))) | with_reducible refine kis_alloc _ ?_ | with_reducible refine kis_drew ?_ | with_reducible refine kis_call (by with_reducible assumption) ?_ | with_reducible exact kis_of (kcall (by with_reducible assumption) (by with_reducible assumption)))); done)) | with_reducible refine kother (by decide) ?_ | with_reducible refine kset (by first | omega | (simp; done) | (simp; omega)) ?_ | with_reducible refine kalloc _ ?_ | with_reducible refine kdrew ?_ | with_reducible refine kdrewN ?_ | with_reducible refine kcall (by with_reducible assumption) ?_))
    · (repeat (first | with_reducible assumption | ((with_reducible refine kfresh ?_ ?_) <;> (first | with_reducible rfl | (simp; done))) | ((with_reducible refine ksameS ?_); focus ((repeat (first | with_reducible exact kis_of (by with_reducible assumption) | with_reducible refine kis_set ?_ | ((with_reducible refine kis_new ?_ ?_) <;> (first | with_reducible rfl | rfl | (simp; done))) | with_reducible refine kis_alloc _ ?_ | with_reducible refine kis_drew ?_ | with_reducible refine kis_call (by with_reducible assumption) ?_ | with_reducible exact kis_of (kcall (by with_reducible assumption) (by with_reducible assumption)))); done)) | with_reducible refine kother (by decide) ?_ | with_reducible refine kset (by first | omega | (simp; done) | (simp; omega)) ?_ | with_reducible refine kalloc _ ?_ | with_reducible refine kdrew ?_ | with_reducible refine kdrewN ?_ | with_reducible refine kcall (by with_reducible assumption) ?_))
    · (repeat (first | with_reducible assumption | ((with_reducible refine kfresh ?_ ?_) <;> (first | with_reducible rfl | (simp; done))) | ((with_reducible refine ksameS ?_); focus ((repeat (first | with_reducible exact kis_of (by with_reducible assumption) | with_reducible refine kis_set ?_ | ((with_reducible refine kis_new ?_ ?_) <;> (first | with_reducible rfl | rfl | (simp; done))) | with_reducible refine kis_alloc _ ?_ | with_reducible refine kis_drew ?_ | with_reducible refine kis_call (by with_reducible assumption) ?_ | with_reducible exact kis_of (kcall (by with_reducible assumption) (by with_reducible assumption)))); done)) | with_reducible refine kother (by decide) ?_ | with_reducible refine kset (by first | omega | (simp; done) | (simp; omega)) ?_ | with_reducible refine kalloc _ ?_ | with_reducible refine kdrew ?_ | with_reducible refine kdrewN ?_ | with_reducible refine kcall (by with_reducible assumption) ?_))
    · (repeat (first | with_reducible assumption | ((with_reducible refine kfresh ?_ ?_) <;> (first | with_reducible rfl | (simp; done))) | ((with_reducible refine ksameS ?_); focus ((repeat (first | with_reducible exact kis_of (by with_reducible assumption) | with_reducible refine kis_set ?_ | ((with_reducible refine kis_new ?_ ?_) <;> (first | with_reducible rfl | rfl | (simp; done))) | with_reducible refine kis_alloc _ ?_ | with_reducible refine kis_drew ?_ | with_reducible refine kis_call (by with_reducible assumption) ?_ | with_reducible exact kis_of (kcall (by with_reducible assumption) (by with_reducible assumption)))); done)) | with_reducible refine kother (by decide) ?_ | with_reducible refine kset (by first | omega | (simp; done) | (simp; omega)) ?_ | with_reducible refine kalloc _ ?_ | with_reducible refine kdrew ?_ | with_reducible refine kdrewN ?_ | with_reducible refine kcall (by with_reducible assumption) ?_))
    · (repeat (first | with_reducible assumption | ((with_reducible refine kfresh ?_ ?_) <;> (first | with_reducible rfl | (simp; done))) | ((with_reducible refine ksameS ?_); focus ((repeat (first | with_reducible exact kis_of (by with_reducible assumption) | with_reducible refine kis_set ?_ | ((with_reducible refine kis_new ?_ ?_) <;> (first | with_reducible rfl | rfl | (simp; done))) | with_reducible refine kis_alloc _ ?_ | with_reducible refine kis_drew ?_ | with_reducible refine kis_call (by with_reducible assumption) ?_ | with_reducible exact kis_of (kcall (by with_reducible assumption) (by with_reducible assumption)))); done)) | with_reducible refine kother (by decide) ?_ | with_reducible refine kset (by first | omega | (simp; done) | (simp; omega)) ?_ | with_reducible refine kalloc _ ?_ | with_reducible refine kdrew ?_ | with_reducible refine kdrewN ?_ | with_reducible refine kcall (by with_reducible assumption) ?_))
    · (repeat (first | with_reducible assumption | ((with_reducible refine kfresh ?_ ?_) <;> (first | with_reducible rfl | (simp; done))) | ((with_reducible refine ksameS ?_); focus ((repeat (first | with_reducible exact kis_of (by with_reducible assumption) | with_reducible refine kis_set ?_ | ((with_reducible refine kis_new ?_ ?_) <;> (first | with_reducible rfl | rfl | (simp; done))) | with_reducible refine kis_alloc _ ?_ | with_reducible refine kis_drew ?_ | with_reducible refine kis_call (by with_reducible assumption) ?_ | with_reducible exact kis_of (kcall (by with_reducible assumption) (by with_reducible assumption)))); done)) | with_reducible refine kother (by decide) ?_ | with_reducible refine kset (by first | omega | (simp; done) | (simp; omega)) ?_ | with_reducible refine kalloc _ ?_ | with_reducible refine kdrew ?_ | with_reducible refine kdrewN ?_ | with_reducible refine kcall (by with_reducible assumption) ?_))
    · (repeat (first | with_reducible assumption | ((with_reducible refine kfresh ?_ ?_) <;> (first | with_reducible rfl | (simp; done))) | ((with_reducible refine ksameS ?_); focus ((repeat (first | with_reducible exact kis_of (by with_reducible assumption) | with_reducible refine kis_set ?_ | ((with_reducible refine kis_new ?_ ?_) <;> (first | with_reducible rfl | rfl | (simp; done))) | with_reducible refine kis_alloc _ ?_ | with_reducible refine kis_drew ?_ | with_reducible refine kis_call (by with_reducible assumption) ?_ | with_reducible exact kis_of (kcall (by with_reducible assumption) (by with_reducible assumption)))); done)) | with_reducible refine kother (by decide) ?_ | with_reducible refine kset (by first | omega | (simp; done) | (simp; omega)) ?_ | with_reducible refine kalloc _ ?_ | with_reducible refine kdrew ?_ | with_reducible refine kdrewN ?_ | with_reducible refine kcall (by with_reducible assumption) ?_))
    · (repeat (first | with_reducible assumption | with_reducible refine fdrew ?_ | with_reducible refine fdrewN ?_ | with_reducible refine fset ?_ | ((with_reducible refine fallocNew ?_) <;> (first | with_reducible rfl | (simp; done))) | ((with_reducible refine kfro (by with_reducible assumption) ?_ ?_); focus (first | with_reducible assumption | omega | (simp; done) | (simp; omega))) | ((with_reducible refine falloc ?_ ?_); focus (first | with_reducible assumption | omega | (simp; done) | (simp; omega)))))
    · (repeat (first | with_reducible assumption | with_reducible refine fdrew ?_ | with_reducible refine fdrewN ?_ | with_reducible refine fset ?_ | ((with_reducible refine fallocNew ?_) <;> (first | with_reducible rfl | (simp; done))) | ((with_reducible refine kfro (by with_reducible assumption) ?_ ?_); focus (first | with_reducible assumption | omega | (simp; done) | (simp; omega))) | ((with_reducible refine falloc ?_ ?_); focus (first | with_reducible assumption | omega | (simp; done) | (simp; omega)))))
    · (repeat (first | with_reducible assumption | with_reducible refine fdrew ?_ | with_reducible refine fdrewN ?_ | with_reducible refine fset ?_ | ((with_reducible refine fallocNew ?_) <;> (first | with_reducible rfl | (simp; done))) | ((with_reducible refine kfro (by with_reducible assumption) ?_ ?_); focus (first | with_reducible assumption | omega | (simp; done) | (simp; omega))) | ((with_reducible refine falloc ?_ ?_); focus (first | with_reducible assumption | omega | (simp; done) | (simp; omega)))))
    · (repeat (first | with_reducible assumption | with_reducible refine fdrew ?_ | with_reducible refine fdrewN ?_ | with_reducible refine fset ?_ | ((with_reducible refine fallocNew ?_) <;> (first | with_reducible rfl | (simp; done))) | ((with_reducible refine kfro (by with_reducible assumption) ?_ ?_); focus (first | with_reducible assumption | omega | (simp; done) | (simp; omega))) | ((with_reducible refine falloc ?_ ?_); focus (first | with_reducible assumption | omega | (simp; done) | (simp; omega)))))
    · (repeat (first | with_reducible assumption | with_reducible refine fdrew ?_ | with_reducible refine fdrewN ?_ | with_reducible refine fset ?_ | ((with_reducible refine fallocNew ?_) <;> (first | with_reducible rfl | (simp; done))) | ((with_reducible refine kfro (by with_reducible assumption) ?_ ?_); focus (first | with_reducible assumption | omega | (simp; done) | (simp; omega))) | ((with_reducible refine falloc ?_ ?_); focus (first | with_reducible assumption | omega | (simp; done) | (simp; omega)))))
    · (repeat (first | with_reducible assumption | with_reducible refine fdrew ?_ | with_reducible refine fdrewN ?_ | with_reducible refine fset ?_ | ((with_reducible refine fallocNew ?_) <;> (first | with_reducible rfl | (simp; done))) | ((with_reducible refine kfro (by with_reducible assumption) ?_ ?_); focus (first | with_reducible assumption | omega | (simp; done) | (simp; omega))) | ((with_reducible refine falloc ?_ ?_); focus (first | with_reducible assumption | omega | (simp; done) | (simp; omega)))))
    · (repeat (first | with_reducible assumption | with_reducible refine fdrew ?_ | with_reducible refine fdrewN ?_ | with_reducible refine fset ?_ | ((with_reducible refine fallocNew ?_) <;> (first | with_reducible rfl | (simp; done))) | ((with_reducible refine kfro (by with_reducible assumption) ?_ ?_); focus (first | with_reducible assumption | omega | (simp; done) | (simp; omega))) | ((with_reducible refine falloc ?_ ?_); focus (first | with_reducible assumption | omega | (simp; done) | (simp; omega)))))
    · (repeat (first | with_reducible assumption | with_reducible refine fdrew ?_ | with_reducible refine fdrewN ?_ | with_reducible refine fset ?_ | ((with_reducible refine fallocNew ?_) <;> (first | with_reducible rfl | (simp; done))) | ((with_reducible refine kfro (by with_reducible assumption) ?_ ?_); focus (first | with_reducible assumption | omega | (simp; done) | (simp; omega))) | ((with_reducible refine falloc ?_ ?_); focus (first | with_reducible assumption | omega | (simp; done) | (simp; omega)))))
    · (repeat (first | with_reducible assumption | with_reducible refine fdrew ?_ | with_reducible refine fdrewN ?_ | with_reducible refine fset ?_ | ((with_reducible refine fallocNew ?_) <;> (first | with_reducible rfl | (simp; done))) | ((with_reducible refine kfro (by with_reducible assumption) ?_ ?_); focus (first | with_reducible assumption | omega | (simp; done) | (simp; omega))) | ((with_reducible refine falloc ?_ ?_); focus (first | with_reducible assumption | omega | (simp; done) | (simp; omega)))))
    · (repeat (first | with_reducible exact Below.refl _ _ | with_reducible refine balloc ?_ _ | with_reducible refine bdrewN ?_ _ | with_reducible refine Below.drew ?_ | with_reducible refine bthen ?_ (by with_reducible assumption) | with_reducible refine Below.setCell ?_ (by first | (simp; done) | (simp; omega)) _))
    · (first | omega | (simp; done) | (simp; omega))
  case' rest => obtain ⟨rfl, rfl, rfl, rfl, rfl, cO0, cO1, cO2, cO3, cO4, cO5, cO6, cO7, cO8, fO0, fO1, fO2, fO3, fO4, fO5, fO6, fO7, fO8, hxO, hsO⟩ := hcut
  obtain ⟨wO, rfl⟩ : ∃ wO : World, wO = wc := ⟨_, rfl⟩
  have lO0 : w.heap.size < wO.heap.size := by omega
  have lO1 : w.heap.size + 1 < wO.heap.size := by omega
  have lO2 : w.heap.size + 1 + 1 < wO.heap.size := by omega
  rcases bool_ways (plB p a1 a2 a3) with hd1 | hd1
  · skip
    rcases bool_ways (plB p b1 b2 b3) with hd2 | hd2
    · skip
      rcases bool_ways (plB p c1 c2 c3) with hd3 | hd3
      · skip
        rcases bool_ways (isP p) with hd4 | hd4
        · skip
          have c_1 : codeOf p false = 1 := codeOf_no hd4
          have cN : ∀ b, codeOf p b = 1 := fun b => codeOf_no hd4
          go_wp2_with fail
          refine Calls.mono (implPlaces3 _ _ _ _ _ _ _ _ _ _ _ _ (by first | rfl | (simp; done))) ?_
          rintro e w1 ⟨rfl, hB1⟩
          (obtain ⟨hB1c, hB1f⟩ := bcell hB1; have hB1s := hB1.size; (try simp at hB1s); (try have hB1q1 := Nat.lt_of_succ_le hB1s); (try have hB1q2 := Nat.lt_of_succ_lt hB1q1); (try have hB1q3 := Nat.lt_of_succ_lt hB1q2); (try have hB1zw0 : w.heap.size < w1.heap.size := (by omega)); (try have hB1zw1 : w.heap.size + 1 < w1.heap.size := (by omega)); (try have hB1zw2 : w.heap.size + 1 + 1 < w1.heap.size := (by omega)); (try have hB1zw3 : w.heap.size + 1 + 1 + 1 < w1.heap.size := (by omega)); (try have hB1zw4 : w.heap.size + 1 + 1 + 1 + 1 < w1.heap.size := (by omega)); (try have hB1zwO0 : wO.heap.size < w1.heap.size := (by omega)); (try have hB1zwO1 : wO.heap.size + 1 < w1.heap.size := (by omega)); (try have hB1zwO2 : wO.heap.size + 1 + 1 < w1.heap.size := (by omega)); (try have hB1zwO3 : wO.heap.size + 1 + 1 + 1 < w1.heap.size := (by omega)); (try have hB1zwO4 : wO.heap.size + 1 + 1 + 1 + 1 < w1.heap.size := (by omega)))
          go_wp2_with fail
          refine Calls.mono (codeFor_any _ _ _) ?_
          rintro e w' ⟨rfl, rfl⟩
          have HV := Lib.hid (qo_no (a1 := a1) (a2 := a2) (a3 := a3) (b1 := b1) (b2 := b2) (b3 := b3) (c1 := c1) (c2 := c2) (c3 := c3) hd4)
          go_wp2
          (refine bodyPost_ret (v := .tuple #[.slice none 0 0, .int .i64 (qoC p a1 a2 a3 b1 b2 b3 c1 c2 c3)]) (by simp [results, Try.results30, go_sem, HV.out.2]) rfl (slicePost_nil HV.out.1 ?_))
          (repeat (first | with_reducible exact Below.refl _ _ | with_reducible exact hxO | with_reducible refine balloc ?_ _ | with_reducible refine bdrewN ?_ _ | with_reducible refine Below.drew ?_ | with_reducible refine bthen ?_ (by with_reducible assumption) | with_reducible refine Below.setCell ?_ (by first | (simp; done) | (simp; omega)) _))
        · have hp := hd4
          have hr := isP_range hp
          have c_1 : codeOf p false = 2 := codeOf_out hp (by simp)
          have cT : codeOf p true = 0 := codeOf_in hp rfl
          have cF : codeOf p false = 2 := codeOf_out hp rfl
          go_wp2_with fail
          refine Calls.mono (implPlaces3 _ _ _ _ _ _ _ _ _ _ _ _ (by first | rfl | (simp; done))) ?_
          rintro e w1 ⟨rfl, hB1⟩
          (obtain ⟨hB1c, hB1f⟩ := bcell hB1; have hB1s := hB1.size; (try simp at hB1s); (try have hB1q1 := Nat.lt_of_succ_le hB1s); (try have hB1q2 := Nat.lt_of_succ_lt hB1q1); (try have hB1q3 := Nat.lt_of_succ_lt hB1q2); (try have hB1zw0 : w.heap.size < w1.heap.size := (by omega)); (try have hB1zw1 : w.heap.size + 1 < w1.heap.size := (by omega)); (try have hB1zw2 : w.heap.size + 1 + 1 < w1.heap.size := (by omega)); (try have hB1zw3 : w.heap.size + 1 + 1 + 1 < w1.heap.size := (by omega)); (try have hB1zw4 : w.heap.size + 1 + 1 + 1 + 1 < w1.heap.size := (by omega)); (try have hB1zwO0 : wO.heap.size < w1.heap.size := (by omega)); (try have hB1zwO1 : wO.heap.size + 1 < w1.heap.size := (by omega)); (try have hB1zwO2 : wO.heap.size + 1 + 1 < w1.heap.size := (by omega)); (try have hB1zwO3 : wO.heap.size + 1 + 1 + 1 < w1.heap.size := (by omega)); (try have hB1zwO4 : wO.heap.size + 1 + 1 + 1 + 1 < w1.heap.size := (by omega)))
          go_wp2_with fail
          refine Calls.mono (codeFor_any _ _ _) ?_
          rintro e w' ⟨rfl, rfl⟩
          have HV := Lib.hid (qo_out (a1 := a1) (a2 := a2) (a3 := a3) (b1 := b1) (b2 := b2) (b3 := b3) (c1 := c1) (c2 := c2) (c3 := c3) hp (by simp [qoB, hd1, hd2, hd3, hd4]))
          go_wp2
          (refine bodyPost_ret (v := .tuple #[.slice none 0 0, .int .i64 (qoC p a1 a2 a3 b1 b2 b3 c1 c2 c3)]) (by simp [results, Try.results30, go_sem, HV.out.2]) rfl (slicePost_nil HV.out.1 ?_))
          (repeat (first | with_reducible exact Below.refl _ _ | with_reducible exact hxO | with_reducible refine balloc ?_ _ | with_reducible refine bdrewN ?_ _ | with_reducible refine Below.drew ?_ | with_reducible refine bthen ?_ (by with_reducible assumption) | with_reducible refine Below.setCell ?_ (by first | (simp; done) | (simp; omega)) _))
      · have hd3q := nums3 (plB_nums hd3)
        rcases bool_ways (isP p) with hd4 | hd4
        · skip
          have c_1 : codeOf p false = 1 := codeOf_no hd4
          have cN : ∀ b, codeOf p b = 1 := fun b => codeOf_no hd4
          go_wp2_with fail
          refine Calls.mono (implPlaces3 _ _ _ _ _ _ _ _ _ _ _ _ (by first | rfl | (simp; done))) ?_
          rintro e w1 ⟨rfl, hB1⟩
          (obtain ⟨hB1c, hB1f⟩ := bcell hB1; have hB1s := hB1.size; (try simp at hB1s); (try have hB1q1 := Nat.lt_of_succ_le hB1s); (try have hB1q2 := Nat.lt_of_succ_lt hB1q1); (try have hB1q3 := Nat.lt_of_succ_lt hB1q2); (try have hB1zw0 : w.heap.size < w1.heap.size := (by omega)); (try have hB1zw1 : w.heap.size + 1 < w1.heap.size := (by omega)); (try have hB1zw2 : w.heap.size + 1 + 1 < w1.heap.size := (by omega)); (try have hB1zw3 : w.heap.size + 1 + 1 + 1 < w1.heap.size := (by omega)); (try have hB1zw4 : w.heap.size + 1 + 1 + 1 + 1 < w1.heap.size := (by omega)); (try have hB1zwO0 : wO.heap.size < w1.heap.size := (by omega)); (try have hB1zwO1 : wO.heap.size + 1 < w1.heap.size := (by omega)); (try have hB1zwO2 : wO.heap.size + 1 + 1 < w1.heap.size := (by omega)); (try have hB1zwO3 : wO.heap.size + 1 + 1 + 1 < w1.heap.size := (by omega)); (try have hB1zwO4 : wO.heap.size + 1 + 1 + 1 + 1 < w1.heap.size := (by omega)))
          go_wp2_with fail
          refine Calls.mono (codeFor_any _ _ _) ?_
          rintro e w' ⟨rfl, rfl⟩
          have HV := Lib.hid (qo_no (a1 := a1) (a2 := a2) (a3 := a3) (b1 := b1) (b2 := b2) (b3 := b3) (c1 := c1) (c2 := c2) (c3 := c3) hd4)
          go_wp2
          (refine bodyPost_ret (v := .tuple #[.slice none 0 0, .int .i64 (qoC p a1 a2 a3 b1 b2 b3 c1 c2 c3)]) (by simp [results, Try.results30, go_sem, HV.out.2]) rfl (slicePost_nil HV.out.1 ?_))
          (repeat (first | with_reducible exact Below.refl _ _ | with_reducible exact hxO | with_reducible refine balloc ?_ _ | with_reducible refine bdrewN ?_ _ | with_reducible refine Below.drew ?_ | with_reducible refine bthen ?_ (by with_reducible assumption) | with_reducible refine Below.setCell ?_ (by first | (simp; done) | (simp; omega)) _))
        · have hp := hd4
          have hr := isP_range hp
          have c_1 : codeOf p false = 2 := codeOf_out hp (by simp)
          have cT : codeOf p true = 0 := codeOf_in hp rfl
          have cF : codeOf p false = 2 := codeOf_out hp rfl
          go_wp2_with fail
          refine Calls.mono (implPlaces3 _ _ _ _ _ _ _ _ _ _ _ _ (by first | rfl | (simp; done))) ?_
          rintro e w1 ⟨rfl, hB1⟩
          (obtain ⟨hB1c, hB1f⟩ := bcell hB1; have hB1s := hB1.size; (try simp at hB1s); (try have hB1q1 := Nat.lt_of_succ_le hB1s); (try have hB1q2 := Nat.lt_of_succ_lt hB1q1); (try have hB1q3 := Nat.lt_of_succ_lt hB1q2); (try have hB1zw0 : w.heap.size < w1.heap.size := (by omega)); (try have hB1zw1 : w.heap.size + 1 < w1.heap.size := (by omega)); (try have hB1zw2 : w.heap.size + 1 + 1 < w1.heap.size := (by omega)); (try have hB1zw3 : w.heap.size + 1 + 1 + 1 < w1.heap.size := (by omega)); (try have hB1zw4 : w.heap.size + 1 + 1 + 1 + 1 < w1.heap.size := (by omega)); (try have hB1zwO0 : wO.heap.size < w1.heap.size := (by omega)); (try have hB1zwO1 : wO.heap.size + 1 < w1.heap.size := (by omega)); (try have hB1zwO2 : wO.heap.size + 1 + 1 < w1.heap.size := (by omega)); (try have hB1zwO3 : wO.heap.size + 1 + 1 + 1 < w1.heap.size := (by omega)); (try have hB1zwO4 : wO.heap.size + 1 + 1 + 1 + 1 < w1.heap.size := (by omega)))
          go_wp2_with fail
          refine Calls.mono (codeFor_any _ _ _) ?_
          rintro e w' ⟨rfl, rfl⟩
          have HV := Lib.hid (qo_out (a1 := a1) (a2 := a2) (a3 := a3) (b1 := b1) (b2 := b2) (b3 := b3) (c1 := c1) (c2 := c2) (c3 := c3) hp (by simp [qoB, hd1, hd2, hd3, hd4]))
          go_wp2
          (refine bodyPost_ret (v := .tuple #[.slice none 0 0, .int .i64 (qoC p a1 a2 a3 b1 b2 b3 c1 c2 c3)]) (by simp [results, Try.results30, go_sem, HV.out.2]) rfl (slicePost_nil HV.out.1 ?_))
          (repeat (first | with_reducible exact Below.refl _ _ | with_reducible exact hxO | with_reducible refine balloc ?_ _ | with_reducible refine bdrewN ?_ _ | with_reducible refine Below.drew ?_ | with_reducible refine bthen ?_ (by with_reducible assumption) | with_reducible refine Below.setCell ?_ (by first | (simp; done) | (simp; omega)) _))
    · have hd2q := nums3 (plB_nums hd2)
      rcases bool_ways (plB p c1 c2 c3) with hd3 | hd3
      · skip
        rcases bool_ways (isP p) with hd4 | hd4
        · skip
          have c_1 : codeOf p false = 1 := codeOf_no hd4
          have cN : ∀ b, codeOf p b = 1 := fun b => codeOf_no hd4
          go_wp2_with fail
          refine Calls.mono (implPlaces3 _ _ _ _ _ _ _ _ _ _ _ _ (by first | rfl | (simp; done))) ?_
          rintro e w1 ⟨rfl, hB1⟩
          (obtain ⟨hB1c, hB1f⟩ := bcell hB1; have hB1s := hB1.size; (try simp at hB1s); (try have hB1q1 := Nat.lt_of_succ_le hB1s); (try have hB1q2 := Nat.lt_of_succ_lt hB1q1); (try have hB1q3 := Nat.lt_of_succ_lt hB1q2); (try have hB1zw0 : w.heap.size < w1.heap.size := (by omega)); (try have hB1zw1 : w.heap.size + 1 < w1.heap.size := (by omega)); (try have hB1zw2 : w.heap.size + 1 + 1 < w1.heap.size := (by omega)); (try have hB1zw3 : w.heap.size + 1 + 1 + 1 < w1.heap.size := (by omega)); (try have hB1zw4 : w.heap.size + 1 + 1 + 1 + 1 < w1.heap.size := (by omega)); (try have hB1zwO0 : wO.heap.size < w1.heap.size := (by omega)); (try have hB1zwO1 : wO.heap.size + 1 < w1.heap.size := (by omega)); (try have hB1zwO2 : wO.heap.size + 1 + 1 < w1.heap.size := (by omega)); (try have hB1zwO3 : wO.heap.size + 1 + 1 + 1 < w1.heap.size := (by omega)); (try have hB1zwO4 : wO.heap.size + 1 + 1 + 1 + 1 < w1.heap.size := (by omega)))
          go_wp2_with fail
          refine Calls.mono (codeFor_any _ _ _) ?_
          rintro e w' ⟨rfl, rfl⟩
          have HV := Lib.hid (qo_no (a1 := a1) (a2 := a2) (a3 := a3) (b1 := b1) (b2 := b2) (b3 := b3) (c1 := c1) (c2 := c2) (c3 := c3) hd4)
          go_wp2
          (refine bodyPost_ret (v := .tuple #[.slice none 0 0, .int .i64 (qoC p a1 a2 a3 b1 b2 b3 c1 c2 c3)]) (by simp [results, Try.results30, go_sem, HV.out.2]) rfl (slicePost_nil HV.out.1 ?_))
          (repeat (first | with_reducible exact Below.refl _ _ | with_reducible exact hxO | with_reducible refine balloc ?_ _ | with_reducible refine bdrewN ?_ _ | with_reducible refine Below.drew ?_ | with_reducible refine bthen ?_ (by with_reducible assumption) | with_reducible refine Below.setCell ?_ (by first | (simp; done) | (simp; omega)) _))
        · have hp := hd4
          have hr := isP_range hp
          have c_1 : codeOf p false = 2 := codeOf_out hp (by simp)
          have cT : codeOf p true = 0 := codeOf_in hp rfl
          have cF : codeOf p false = 2 := codeOf_out hp rfl
          go_wp2_with fail
          refine Calls.mono (implPlaces3 _ _ _ _ _ _ _ _ _ _ _ _ (by first | rfl | (simp; done))) ?_
          rintro e w1 ⟨rfl, hB1⟩
          (obtain ⟨hB1c, hB1f⟩ := bcell hB1; have hB1s := hB1.size; (try simp at hB1s); (try have hB1q1 := Nat.lt_of_succ_le hB1s); (try have hB1q2 := Nat.lt_of_succ_lt hB1q1); (try have hB1q3 := Nat.lt_of_succ_lt hB1q2); (try have hB1zw0 : w.heap.size < w1.heap.size := (by omega)); (try have hB1zw1 : w.heap.size + 1 < w1.heap.size := (by omega)); (try have hB1zw2 : w.heap.size + 1 + 1 < w1.heap.size := (by omega)); (try have hB1zw3 : w.heap.size + 1 + 1 + 1 < w1.heap.size := (by omega)); (try have hB1zw4 : w.heap.size + 1 + 1 + 1 + 1 < w1.heap.size := (by omega)); (try have hB1zwO0 : wO.heap.size < w1.heap.size := (by omega)); (try have hB1zwO1 : wO.heap.size + 1 < w1.heap.size := (by omega)); (try have hB1zwO2 : wO.heap.size + 1 + 1 < w1.heap.size := (by omega)); (try have hB1zwO3 : wO.heap.size + 1 + 1 + 1 < w1.heap.size := (by omega)); (try have hB1zwO4 : wO.heap.size + 1 + 1 + 1 + 1 < w1.heap.size := (by omega)))
          go_wp2_with fail
          refine Calls.mono (codeFor_any _ _ _) ?_
          rintro e w' ⟨rfl, rfl⟩
          have HV := Lib.hid (qo_out (a1 := a1) (a2 := a2) (a3 := a3) (b1 := b1) (b2 := b2) (b3 := b3) (c1 := c1) (c2 := c2) (c3 := c3) hp (by simp [qoB, hd1, hd2, hd3, hd4]))
          go_wp2
          (refine bodyPost_ret (v := .tuple #[.slice none 0 0, .int .i64 (qoC p a1 a2 a3 b1 b2 b3 c1 c2 c3)]) (by simp [results, Try.results30, go_sem, HV.out.2]) rfl (slicePost_nil HV.out.1 ?_))
          (repeat (first | with_reducible exact Below.refl _ _ | with_reducible exact hxO | with_reducible refine balloc ?_ _ | with_reducible refine bdrewN ?_ _ | with_reducible refine Below.drew ?_ | with_reducible refine bthen ?_ (by with_reducible assumption) | with_reducible refine Below.setCell ?_ (by first | (simp; done) | (simp; omega)) _))
      · have hd3q := nums3 (plB_nums hd3)
        rcases bool_ways (isP p) with hd4 | hd4
        · skip
          have c_1 : codeOf p false = 1 := codeOf_no hd4
          have cN : ∀ b, codeOf p b = 1 := fun b => codeOf_no hd4
          go_wp2_with fail
          refine Calls.mono (implPlaces3 _ _ _ _ _ _ _ _ _ _ _ _ (by first | rfl | (simp; done))) ?_
          rintro e w1 ⟨rfl, hB1⟩
          (obtain ⟨hB1c, hB1f⟩ := bcell hB1; have hB1s := hB1.size; (try simp at hB1s); (try have hB1q1 := Nat.lt_of_succ_le hB1s); (try have hB1q2 := Nat.lt_of_succ_lt hB1q1); (try have hB1q3 := Nat.lt_of_succ_lt hB1q2); (try have hB1zw0 : w.heap.size < w1.heap.size := (by omega)); (try have hB1zw1 : w.heap.size + 1 < w1.heap.size := (by omega)); (try have hB1zw2 : w.heap.size + 1 + 1 < w1.heap.size := (by omega)); (try have hB1zw3 : w.heap.size + 1 + 1 + 1 < w1.heap.size := (by omega)); (try have hB1zw4 : w.heap.size + 1 + 1 + 1 + 1 < w1.heap.size := (by omega)); (try have hB1zwO0 : wO.heap.size < w1.heap.size := (by omega)); (try have hB1zwO1 : wO.heap.size + 1 < w1.heap.size := (by omega)); (try have hB1zwO2 : wO.heap.size + 1 + 1 < w1.heap.size := (by omega)); (try have hB1zwO3 : wO.heap.size + 1 + 1 + 1 < w1.heap.size := (by omega)); (try have hB1zwO4 : wO.heap.size + 1 + 1 + 1 + 1 < w1.heap.size := (by omega)))
          go_wp2_with fail
          refine Calls.mono (codeFor_any _ _ _) ?_
          rintro e w' ⟨rfl, rfl⟩
          have HV := Lib.hid (qo_no (a1 := a1) (a2 := a2) (a3 := a3) (b1 := b1) (b2 := b2) (b3 := b3) (c1 := c1) (c2 := c2) (c3 := c3) hd4)
          go_wp2
          (refine bodyPost_ret (v := .tuple #[.slice none 0 0, .int .i64 (qoC p a1 a2 a3 b1 b2 b3 c1 c2 c3)]) (by simp [results, Try.results30, go_sem, HV.out.2]) rfl (slicePost_nil HV.out.1 ?_))
          (repeat (first | with_reducible exact Below.refl _ _ | with_reducible exact hxO | with_reducible refine balloc ?_ _ | with_reducible refine bdrewN ?_ _ | with_reducible refine Below.drew ?_ | with_reducible refine bthen ?_ (by with_reducible assumption) | with_reducible refine Below.setCell ?_ (by first | (simp; done) | (simp; omega)) _))
        · have hp := hd4
          have hr := isP_range hp
          have c_1 : codeOf p false = 2 := codeOf_out hp (by simp)
          have cT : codeOf p true = 0 := codeOf_in hp rfl
          have cF : codeOf p false = 2 := codeOf_out hp rfl
          go_wp2_with fail
          refine Calls.mono (implPlaces3 _ _ _ _ _ _ _ _ _ _ _ _ (by first | rfl | (simp; done))) ?_
          rintro e w1 ⟨rfl, hB1⟩
          (obtain ⟨hB1c, hB1f⟩ := bcell hB1; have hB1s := hB1.size; (try simp at hB1s); (try have hB1q1 := Nat.lt_of_succ_le hB1s); (try have hB1q2 := Nat.lt_of_succ_lt hB1q1); (try have hB1q3 := Nat.lt_of_succ_lt hB1q2); (try have hB1zw0 : w.heap.size < w1.heap.size := (by omega)); (try have hB1zw1 : w.heap.size + 1 < w1.heap.size := (by omega)); (try have hB1zw2 : w.heap.size + 1 + 1 < w1.heap.size := (by omega)); (try have hB1zw3 : w.heap.size + 1 + 1 + 1 < w1.heap.size := (by omega)); (try have hB1zw4 : w.heap.size + 1 + 1 + 1 + 1 < w1.heap.size := (by omega)); (try have hB1zwO0 : wO.heap.size < w1.heap.size := (by omega)); (try have hB1zwO1 : wO.heap.size + 1 < w1.heap.size := (by omega)); (try have hB1zwO2 : wO.heap.size + 1 + 1 < w1.heap.size := (by omega)); (try have hB1zwO3 : wO.heap.size + 1 + 1 + 1 < w1.heap.size := (by omega)); (try have hB1zwO4 : wO.heap.size + 1 + 1 + 1 + 1 < w1.heap.size := (by omega)))
          go_wp2_with fail
          refine Calls.mono (codeFor_any _ _ _) ?_
          rintro e w' ⟨rfl, rfl⟩
          have HV := Lib.hid (qo_out (a1 := a1) (a2 := a2) (a3 := a3) (b1 := b1) (b2 := b2) (b3 := b3) (c1 := c1) (c2 := c2) (c3 := c3) hp (by simp [qoB, hd1, hd2, hd3, hd4]))
          go_wp2
          (refine bodyPost_ret (v := .tuple #[.slice none 0 0, .int .i64 (qoC p a1 a2 a3 b1 b2 b3 c1 c2 c3)]) (by simp [results, Try.results30, go_sem, HV.out.2]) rfl (slicePost_nil HV.out.1 ?_))
          (repeat (first | with_reducible exact Below.refl _ _ | with_reducible exact hxO | with_reducible refine balloc ?_ _ | with_reducible refine bdrewN ?_ _ | with_reducible refine Below.drew ?_ | with_reducible refine bthen ?_ (by with_reducible assumption) | with_reducible refine Below.setCell ?_ (by first | (simp; done) | (simp; omega)) _))
  · have hd1q := nums3 (plB_nums hd1)
    rcases bool_ways (plB p b1 b2 b3) with hd2 | hd2
    · skip
      rcases bool_ways (plB p c1 c2 c3) with hd3 | hd3
      · skip
        rcases bool_ways (isP p) with hd4 | hd4
        · skip
          have c_1 : codeOf p false = 1 := codeOf_no hd4
          have cN : ∀ b, codeOf p b = 1 := fun b => codeOf_no hd4
          go_wp2_with fail
          refine Calls.mono (implPlaces3 _ _ _ _ _ _ _ _ _ _ _ _ (by first | rfl | (simp; done))) ?_
          rintro e w1 ⟨rfl, hB1⟩
          (obtain ⟨hB1c, hB1f⟩ := bcell hB1; have hB1s := hB1.size; (try simp at hB1s); (try have hB1q1 := Nat.lt_of_succ_le hB1s); (try have hB1q2 := Nat.lt_of_succ_lt hB1q1); (try have hB1q3 := Nat.lt_of_succ_lt hB1q2); (try have hB1zw0 : w.heap.size < w1.heap.size := (by omega)); (try have hB1zw1 : w.heap.size + 1 < w1.heap.size := (by omega)); (try have hB1zw2 : w.heap.size + 1 + 1 < w1.heap.size := (by omega)); (try have hB1zw3 : w.heap.size + 1 + 1 + 1 < w1.heap.size := (by omega)); (try have hB1zw4 : w.heap.size + 1 + 1 + 1 + 1 < w1.heap.size := (by omega)); (try have hB1zwO0 : wO.heap.size < w1.heap.size := (by omega)); (try have hB1zwO1 : wO.heap.size + 1 < w1.heap.size := (by omega)); (try have hB1zwO2 : wO.heap.size + 1 + 1 < w1.heap.size := (by omega)); (try have hB1zwO3 : wO.heap.size + 1 + 1 + 1 < w1.heap.size := (by omega)); (try have hB1zwO4 : wO.heap.size + 1 + 1 + 1 + 1 < w1.heap.size := (by omega)))
          go_wp2_with fail
          refine Calls.mono (codeFor_any _ _ _) ?_
          rintro e w' ⟨rfl, rfl⟩
          have HV := Lib.hid (qo_no (a1 := a1) (a2 := a2) (a3 := a3) (b1 := b1) (b2 := b2) (b3 := b3) (c1 := c1) (c2 := c2) (c3 := c3) hd4)
          go_wp2
          (refine bodyPost_ret (v := .tuple #[.slice none 0 0, .int .i64 (qoC p a1 a2 a3 b1 b2 b3 c1 c2 c3)]) (by simp [results, Try.results30, go_sem, HV.out.2]) rfl (slicePost_nil HV.out.1 ?_))
          (repeat (first | with_reducible exact Below.refl _ _ | with_reducible exact hxO | with_reducible refine balloc ?_ _ | with_reducible refine bdrewN ?_ _ | with_reducible refine Below.drew ?_ | with_reducible refine bthen ?_ (by with_reducible assumption) | with_reducible refine Below.setCell ?_ (by first | (simp; done) | (simp; omega)) _))
        · have hp := hd4
          have hr := isP_range hp
          have c_1 : codeOf p false = 2 := codeOf_out hp (by simp)
          have cT : codeOf p true = 0 := codeOf_in hp rfl
          have cF : codeOf p false = 2 := codeOf_out hp rfl
          go_wp2_with fail
          refine Calls.mono (implPlaces3 _ _ _ _ _ _ _ _ _ _ _ _ (by first | rfl | (simp; done))) ?_
          rintro e w1 ⟨rfl, hB1⟩
          (obtain ⟨hB1c, hB1f⟩ := bcell hB1; have hB1s := hB1.size; (try simp at hB1s); (try have hB1q1 := Nat.lt_of_succ_le hB1s); (try have hB1q2 := Nat.lt_of_succ_lt hB1q1); (try have hB1q3 := Nat.lt_of_succ_lt hB1q2); (try have hB1zw0 : w.heap.size < w1.heap.size := (by omega)); (try have hB1zw1 : w.heap.size + 1 < w1.heap.size := (by omega)); (try have hB1zw2 : w.heap.size + 1 + 1 < w1.heap.size := (by omega)); (try have hB1zw3 : w.heap.size + 1 + 1 + 1 < w1.heap.size := (by omega)); (try have hB1zw4 : w.heap.size + 1 + 1 + 1 + 1 < w1.heap.size := (by omega)); (try have hB1zwO0 : wO.heap.size < w1.heap.size := (by omega)); (try have hB1zwO1 : wO.heap.size + 1 < w1.heap.size := (by omega)); (try have hB1zwO2 : wO.heap.size + 1 + 1 < w1.heap.size := (by omega)); (try have hB1zwO3 : wO.heap.size + 1 + 1 + 1 < w1.heap.size := (by omega)); (try have hB1zwO4 : wO.heap.size + 1 + 1 + 1 + 1 < w1.heap.size := (by omega)))
          go_wp2_with fail
          refine Calls.mono (codeFor_any _ _ _) ?_
          rintro e w' ⟨rfl, rfl⟩
          have HV := Lib.hid (qo_out (a1 := a1) (a2 := a2) (a3 := a3) (b1 := b1) (b2 := b2) (b3 := b3) (c1 := c1) (c2 := c2) (c3 := c3) hp (by simp [qoB, hd1, hd2, hd3, hd4]))
          go_wp2
          (refine bodyPost_ret (v := .tuple #[.slice none 0 0, .int .i64 (qoC p a1 a2 a3 b1 b2 b3 c1 c2 c3)]) (by simp [results, Try.results30, go_sem, HV.out.2]) rfl (slicePost_nil HV.out.1 ?_))
          (repeat (first | with_reducible exact Below.refl _ _ | with_reducible exact hxO | with_reducible refine balloc ?_ _ | with_reducible refine bdrewN ?_ _ | with_reducible refine Below.drew ?_ | with_reducible refine bthen ?_ (by with_reducible assumption) | with_reducible refine Below.setCell ?_ (by first | (simp; done) | (simp; omega)) _))
      · have hd3q := nums3 (plB_nums hd3)
        rcases bool_ways (isP p) with hd4 | hd4
        · skip
          have c_1 : codeOf p false = 1 := codeOf_no hd4
          have cN : ∀ b, codeOf p b = 1 := fun b => codeOf_no hd4
          go_wp2_with fail
          refine Calls.mono (implPlaces3 _ _ _ _ _ _ _ _ _ _ _ _ (by first | rfl | (simp; done))) ?_
          rintro e w1 ⟨rfl, hB1⟩
          (obtain ⟨hB1c, hB1f⟩ := bcell hB1; have hB1s := hB1.size; (try simp at hB1s); (try have hB1q1 := Nat.lt_of_succ_le hB1s); (try have hB1q2 := Nat.lt_of_succ_lt hB1q1); (try have hB1q3 := Nat.lt_of_succ_lt hB1q2); (try have hB1zw0 : w.heap.size < w1.heap.size := (by omega)); (try have hB1zw1 : w.heap.size + 1 < w1.heap.size := (by omega)); (try have hB1zw2 : w.heap.size + 1 + 1 < w1.heap.size := (by omega)); (try have hB1zw3 : w.heap.size + 1 + 1 + 1 < w1.heap.size := (by omega)); (try have hB1zw4 : w.heap.size + 1 + 1 + 1 + 1 < w1.heap.size := (by omega)); (try have hB1zwO0 : wO.heap.size < w1.heap.size := (by omega)); (try have hB1zwO1 : wO.heap.size + 1 < w1.heap.size := (by omega)); (try have hB1zwO2 : wO.heap.size + 1 + 1 < w1.heap.size := (by omega)); (try have hB1zwO3 : wO.heap.size + 1 + 1 + 1 < w1.heap.size := (by omega)); (try have hB1zwO4 : wO.heap.size + 1 + 1 + 1 + 1 < w1.heap.size := (by omega)))
          go_wp2_with fail
          refine Calls.mono (codeFor_any _ _ _) ?_
          rintro e w' ⟨rfl, rfl⟩
          have HV := Lib.hid (qo_no (a1 := a1) (a2 := a2) (a3 := a3) (b1 := b1) (b2 := b2) (b3 := b3) (c1 := c1) (c2 := c2) (c3 := c3) hd4)
          go_wp2
          (refine bodyPost_ret (v := .tuple #[.slice none 0 0, .int .i64 (qoC p a1 a2 a3 b1 b2 b3 c1 c2 c3)]) (by simp [results, Try.results30, go_sem, HV.out.2]) rfl (slicePost_nil HV.out.1 ?_))
          (repeat (first | with_reducible exact Below.refl _ _ | with_reducible exact hxO | with_reducible refine balloc ?_ _ | with_reducible refine bdrewN ?_ _ | with_reducible refine Below.drew ?_ | with_reducible refine bthen ?_ (by with_reducible assumption) | with_reducible refine Below.setCell ?_ (by first | (simp; done) | (simp; omega)) _))
        · have hp := hd4
          have hr := isP_range hp
          have c_1 : codeOf p false = 2 := codeOf_out hp (by simp)
          have cT : codeOf p true = 0 := codeOf_in hp rfl
          have cF : codeOf p false = 2 := codeOf_out hp rfl
          go_wp2_with fail
          refine Calls.mono (implPlaces3 _ _ _ _ _ _ _ _ _ _ _ _ (by first | rfl | (simp; done))) ?_
          rintro e w1 ⟨rfl, hB1⟩
          (obtain ⟨hB1c, hB1f⟩ := bcell hB1; have hB1s := hB1.size; (try simp at hB1s); (try have hB1q1 := Nat.lt_of_succ_le hB1s); (try have hB1q2 := Nat.lt_of_succ_lt hB1q1); (try have hB1q3 := Nat.lt_of_succ_lt hB1q2); (try have hB1zw0 : w.heap.size < w1.heap.size := (by omega)); (try have hB1zw1 : w.heap.size + 1 < w1.heap.size := (by omega)); (try have hB1zw2 : w.heap.size + 1 + 1 < w1.heap.size := (by omega)); (try have hB1zw3 : w.heap.size + 1 + 1 + 1 < w1.heap.size := (by omega)); (try have hB1zw4 : w.heap.size + 1 + 1 + 1 + 1 < w1.heap.size := (by omega)); (try have hB1zwO0 : wO.heap.size < w1.heap.size := (by omega)); (try have hB1zwO1 : wO.heap.size + 1 < w1.heap.size := (by omega)); (try have hB1zwO2 : wO.heap.size + 1 + 1 < w1.heap.size := (by omega)); (try have hB1zwO3 : wO.heap.size + 1 + 1 + 1 < w1.heap.size := (by omega)); (try have hB1zwO4 : wO.heap.size + 1 + 1 + 1 + 1 < w1.heap.size := (by omega)))
          go_wp2_with fail
          refine Calls.mono (codeFor_any _ _ _) ?_
          rintro e w' ⟨rfl, rfl⟩
          have HV := Lib.hid (qo_out (a1 := a1) (a2 := a2) (a3 := a3) (b1 := b1) (b2 := b2) (b3 := b3) (c1 := c1) (c2 := c2) (c3 := c3) hp (by simp [qoB, hd1, hd2, hd3, hd4]))
          go_wp2
          (refine bodyPost_ret (v := .tuple #[.slice none 0 0, .int .i64 (qoC p a1 a2 a3 b1 b2 b3 c1 c2 c3)]) (by simp [results, Try.results30, go_sem, HV.out.2]) rfl (slicePost_nil HV.out.1 ?_))
          (repeat (first | with_reducible exact Below.refl _ _ | with_reducible exact hxO | with_reducible refine balloc ?_ _ | with_reducible refine bdrewN ?_ _ | with_reducible refine Below.drew ?_ | with_reducible refine bthen ?_ (by with_reducible assumption) | with_reducible refine Below.setCell ?_ (by first | (simp; done) | (simp; omega)) _))
    · have hd2q := nums3 (plB_nums hd2)
      rcases bool_ways (plB p c1 c2 c3) with hd3 | hd3
      · skip
        rcases bool_ways (isP p) with hd4 | hd4
        · skip
          have c_1 : codeOf p false = 1 := codeOf_no hd4
          have cN : ∀ b, codeOf p b = 1 := fun b => codeOf_no hd4
          go_wp2_with fail
          refine Calls.mono (implPlaces3 _ _ _ _ _ _ _ _ _ _ _ _ (by first | rfl | (simp; done))) ?_
          rintro e w1 ⟨rfl, hB1⟩
          (obtain ⟨hB1c, hB1f⟩ := bcell hB1; have hB1s := hB1.size; (try simp at hB1s); (try have hB1q1 := Nat.lt_of_succ_le hB1s); (try have hB1q2 := Nat.lt_of_succ_lt hB1q1); (try have hB1q3 := Nat.lt_of_succ_lt hB1q2); (try have hB1zw0 : w.heap.size < w1.heap.size := (by omega)); (try have hB1zw1 : w.heap.size + 1 < w1.heap.size := (by omega)); (try have hB1zw2 : w.heap.size + 1 + 1 < w1.heap.size := (by omega)); (try have hB1zw3 : w.heap.size + 1 + 1 + 1 < w1.heap.size := (by omega)); (try have hB1zw4 : w.heap.size + 1 + 1 + 1 + 1 < w1.heap.size := (by omega)); (try have hB1zwO0 : wO.heap.size < w1.heap.size := (by omega)); (try have hB1zwO1 : wO.heap.size + 1 < w1.heap.size := (by omega)); (try have hB1zwO2 : wO.heap.size + 1 + 1 < w1.heap.size := (by omega)); (try have hB1zwO3 : wO.heap.size + 1 + 1 + 1 < w1.heap.size := (by omega)); (try have hB1zwO4 : wO.heap.size + 1 + 1 + 1 + 1 < w1.heap.size := (by omega)))
          go_wp2_with fail
          refine Calls.mono (codeFor_any _ _ _) ?_
          rintro e w' ⟨rfl, rfl⟩
          have HV := Lib.hid (qo_no (a1 := a1) (a2 := a2) (a3 := a3) (b1 := b1) (b2 := b2) (b3 := b3) (c1 := c1) (c2 := c2) (c3 := c3) hd4)
          go_wp2
          (refine bodyPost_ret (v := .tuple #[.slice none 0 0, .int .i64 (qoC p a1 a2 a3 b1 b2 b3 c1 c2 c3)]) (by simp [results, Try.results30, go_sem, HV.out.2]) rfl (slicePost_nil HV.out.1 ?_))
          (repeat (first | with_reducible exact Below.refl _ _ | with_reducible exact hxO | with_reducible refine balloc ?_ _ | with_reducible refine bdrewN ?_ _ | with_reducible refine Below.drew ?_ | with_reducible refine bthen ?_ (by with_reducible assumption) | with_reducible refine Below.setCell ?_ (by first | (simp; done) | (simp; omega)) _))
        · have hp := hd4
          have hr := isP_range hp
          have c_1 : codeOf p false = 2 := codeOf_out hp (by simp)
          have cT : codeOf p true = 0 := codeOf_in hp rfl
          have cF : codeOf p false = 2 := codeOf_out hp rfl
          go_wp2_with fail
          refine Calls.mono (implPlaces3 _ _ _ _ _ _ _ _ _ _ _ _ (by first | rfl | (simp; done))) ?_
          rintro e w1 ⟨rfl, hB1⟩
          (obtain ⟨hB1c, hB1f⟩ := bcell hB1; have hB1s := hB1.size; (try simp at hB1s); (try have hB1q1 := Nat.lt_of_succ_le hB1s); (try have hB1q2 := Nat.lt_of_succ_lt hB1q1); (try have hB1q3 := Nat.lt_of_succ_lt hB1q2); (try have hB1zw0 : w.heap.size < w1.heap.size := (by omega)); (try have hB1zw1 : w.heap.size + 1 < w1.heap.size := (by omega)); (try have hB1zw2 : w.heap.size + 1 + 1 < w1.heap.size := (by omega)); (try have hB1zw3 : w.heap.size + 1 + 1 + 1 < w1.heap.size := (by omega)); (try have hB1zw4 : w.heap.size + 1 + 1 + 1 + 1 < w1.heap.size := (by omega)); (try have hB1zwO0 : wO.heap.size < w1.heap.size := (by omega)); (try have hB1zwO1 : wO.heap.size + 1 < w1.heap.size := (by omega)); (try have hB1zwO2 : wO.heap.size + 1 + 1 < w1.heap.size := (by omega)); (try have hB1zwO3 : wO.heap.size + 1 + 1 + 1 < w1.heap.size := (by omega)); (try have hB1zwO4 : wO.heap.size + 1 + 1 + 1 + 1 < w1.heap.size := (by omega)))
          go_wp2_with fail
          refine Calls.mono (codeFor_any _ _ _) ?_
          rintro e w' ⟨rfl, rfl⟩
          have HV := Lib.hid (qo_out (a1 := a1) (a2 := a2) (a3 := a3) (b1 := b1) (b2 := b2) (b3 := b3) (c1 := c1) (c2 := c2) (c3 := c3) hp (by simp [qoB, hd1, hd2, hd3, hd4]))
          go_wp2
          (refine bodyPost_ret (v := .tuple #[.slice none 0 0, .int .i64 (qoC p a1 a2 a3 b1 b2 b3 c1 c2 c3)]) (by simp [results, Try.results30, go_sem, HV.out.2]) rfl (slicePost_nil HV.out.1 ?_))
          (repeat (first | with_reducible exact Below.refl _ _ | with_reducible exact hxO | with_reducible refine balloc ?_ _ | with_reducible refine bdrewN ?_ _ | with_reducible refine Below.drew ?_ | with_reducible refine bthen ?_ (by with_reducible assumption) | with_reducible refine Below.setCell ?_ (by first | (simp; done) | (simp; omega)) _))
      · have hd3q := nums3 (plB_nums hd3)
        rcases bool_ways (isP p) with hd4 | hd4
        · skip
          have c_1 : codeOf p true = 1 := codeOf_no hd4
          have cN : ∀ b, codeOf p b = 1 := fun b => codeOf_no hd4
          go_wp2_with fail
          refine Calls.mono (implPlaces3 _ _ _ _ _ _ _ _ _ _ _ _ (by first | rfl | (simp; done))) ?_
          rintro e w1 ⟨rfl, hB1⟩
          (obtain ⟨hB1c, hB1f⟩ := bcell hB1; have hB1s := hB1.size; (try simp at hB1s); (try have hB1q1 := Nat.lt_of_succ_le hB1s); (try have hB1q2 := Nat.lt_of_succ_lt hB1q1); (try have hB1q3 := Nat.lt_of_succ_lt hB1q2); (try have hB1zw0 : w.heap.size < w1.heap.size := (by omega)); (try have hB1zw1 : w.heap.size + 1 < w1.heap.size := (by omega)); (try have hB1zw2 : w.heap.size + 1 + 1 < w1.heap.size := (by omega)); (try have hB1zw3 : w.heap.size + 1 + 1 + 1 < w1.heap.size := (by omega)); (try have hB1zw4 : w.heap.size + 1 + 1 + 1 + 1 < w1.heap.size := (by omega)); (try have hB1zwO0 : wO.heap.size < w1.heap.size := (by omega)); (try have hB1zwO1 : wO.heap.size + 1 < w1.heap.size := (by omega)); (try have hB1zwO2 : wO.heap.size + 1 + 1 < w1.heap.size := (by omega)); (try have hB1zwO3 : wO.heap.size + 1 + 1 + 1 < w1.heap.size := (by omega)); (try have hB1zwO4 : wO.heap.size + 1 + 1 + 1 + 1 < w1.heap.size := (by omega)))
          go_wp2_with fail
          refine Calls.mono (codeFor_any _ _ _) ?_
          rintro e w' ⟨rfl, rfl⟩
          have HV := Lib.hid (qo_no (a1 := a1) (a2 := a2) (a3 := a3) (b1 := b1) (b2 := b2) (b3 := b3) (c1 := c1) (c2 := c2) (c3 := c3) hd4)
          go_wp2
          (refine bodyPost_ret (v := .tuple #[.slice none 0 0, .int .i64 (qoC p a1 a2 a3 b1 b2 b3 c1 c2 c3)]) (by simp [results, Try.results30, go_sem, HV.out.2]) rfl (slicePost_nil HV.out.1 ?_))
          (repeat (first | with_reducible exact Below.refl _ _ | with_reducible exact hxO | with_reducible refine balloc ?_ _ | with_reducible refine bdrewN ?_ _ | with_reducible refine Below.drew ?_ | with_reducible refine bthen ?_ (by with_reducible assumption) | with_reducible refine Below.setCell ?_ (by first | (simp; done) | (simp; omega)) _))
        · have hp := hd4
          have hr := isP_range hp
          have c_1 : codeOf p true = 0 := codeOf_in hp (by simp)
          have cT : codeOf p true = 0 := codeOf_in hp rfl
          go_wp2_with fail
          refine Calls.mono (implPlaces3 _ _ _ _ _ _ _ _ _ _ _ _ (by first | rfl | (simp; done))) ?_
          rintro e w1 ⟨rfl, hB1⟩
          (obtain ⟨hB1c, hB1f⟩ := bcell hB1; have hB1s := hB1.size; (try simp at hB1s); (try have hB1q1 := Nat.lt_of_succ_le hB1s); (try have hB1q2 := Nat.lt_of_succ_lt hB1q1); (try have hB1q3 := Nat.lt_of_succ_lt hB1q2); (try have hB1zw0 : w.heap.size < w1.heap.size := (by omega)); (try have hB1zw1 : w.heap.size + 1 < w1.heap.size := (by omega)); (try have hB1zw2 : w.heap.size + 1 + 1 < w1.heap.size := (by omega)); (try have hB1zw3 : w.heap.size + 1 + 1 + 1 < w1.heap.size := (by omega)); (try have hB1zw4 : w.heap.size + 1 + 1 + 1 + 1 < w1.heap.size := (by omega)); (try have hB1zwO0 : wO.heap.size < w1.heap.size := (by omega)); (try have hB1zwO1 : wO.heap.size + 1 < w1.heap.size := (by omega)); (try have hB1zwO2 : wO.heap.size + 1 + 1 < w1.heap.size := (by omega)); (try have hB1zwO3 : wO.heap.size + 1 + 1 + 1 < w1.heap.size := (by omega)); (try have hB1zwO4 : wO.heap.size + 1 + 1 + 1 + 1 < w1.heap.size := (by omega)))
          go_wp2_with fail
          refine Calls.mono (codeFor_any _ _ _) ?_
          rintro e w' ⟨rfl, rfl⟩
          have hBB : qoB p a1 a2 a3 b1 b2 b3 c1 c2 c3 = true := by simp [qoB, hd1, hd2, hd3]
          have HBB := Lib.hid hBB
          clear hBB
          obtain ⟨i0, hi, hz0, hz1, hz2⟩ := info_parts infoInt1
          have ka0 : w1.cell? ⟨w.heap.size, 0, none⟩ = some (.int .i64 a1) := by (first | with_reducible assumption | (repeat (first | with_reducible assumption | ((with_reducible refine kfresh ?_ ?_) <;> (first | with_reducible rfl | (simp; done))) | ((with_reducible refine ksameS ?_); focus ((repeat (first | with_reducible exact kis_of (by with_reducible assumption) | with_reducible refine kis_set ?_ | ((with_reducible refine kis_new ?_ ?_) <;> (first | with_reducible rfl | rfl | (simp; done))) | with_reducible refine kis_alloc _ ?_ | with_reducible refine kis_drew ?_ | with_reducible refine kis_call (by with_reducible assumption) ?_ | with_reducible exact kis_of (kcall (by with_reducible assumption) (by with_reducible assumption)))); done)) | with_reducible refine kother (by decide) ?_ | with_reducible refine kset (by first | omega | (simp; done) | (simp; omega)) ?_ | with_reducible refine kalloc _ ?_ | with_reducible refine kdrew ?_ | with_reducible refine kdrewN ?_ | with_reducible refine kcall (by with_reducible assumption) ?_)))
          have ka1 : w1.cell? ⟨w.heap.size, 1, none⟩ = some (.int .i64 a2) := by (first | with_reducible assumption | (repeat (first | with_reducible assumption | ((with_reducible refine kfresh ?_ ?_) <;> (first | with_reducible rfl | (simp; done))) | ((with_reducible refine ksameS ?_); focus ((repeat (first | with_reducible exact kis_of (by with_reducible assumption) | with_reducible refine kis_set ?_ | ((with_reducible refine kis_new ?_ ?_) <;> (first | with_reducible rfl | rfl | (simp; done))) | with_reducible refine kis_alloc _ ?_ | with_reducible refine kis_drew ?_ | with_reducible refine kis_call (by with_reducible assumption) ?_ | with_reducible exact kis_of (kcall (by with_reducible assumption) (by with_reducible assumption)))); done)) | with_reducible refine kother (by decide) ?_ | with_reducible refine kset (by first | omega | (simp; done) | (simp; omega)) ?_ | with_reducible refine kalloc _ ?_ | with_reducible refine kdrew ?_ | with_reducible refine kdrewN ?_ | with_reducible refine kcall (by with_reducible assumption) ?_)))
          have ka2 : w1.cell? ⟨w.heap.size, 2, none⟩ = some (.int .i64 a3) := by (first | with_reducible assumption | (repeat (first | with_reducible assumption | ((with_reducible refine kfresh ?_ ?_) <;> (first | with_reducible rfl | (simp; done))) | ((with_reducible refine ksameS ?_); focus ((repeat (first | with_reducible exact kis_of (by with_reducible assumption) | with_reducible refine kis_set ?_ | ((with_reducible refine kis_new ?_ ?_) <;> (first | with_reducible rfl | rfl | (simp; done))) | with_reducible refine kis_alloc _ ?_ | with_reducible refine kis_drew ?_ | with_reducible refine kis_call (by with_reducible assumption) ?_ | with_reducible exact kis_of (kcall (by with_reducible assumption) (by with_reducible assumption)))); done)) | with_reducible refine kother (by decide) ?_ | with_reducible refine kset (by first | omega | (simp; done) | (simp; omega)) ?_ | with_reducible refine kalloc _ ?_ | with_reducible refine kdrew ?_ | with_reducible refine kdrewN ?_ | with_reducible refine kcall (by with_reducible assumption) ?_)))
          have ka3 : w1.cell? ⟨w.heap.size + 1, 0, none⟩ = some (.int .i64 b1) := by (first | with_reducible assumption | (repeat (first | with_reducible assumption | ((with_reducible refine kfresh ?_ ?_) <;> (first | with_reducible rfl | (simp; done))) | ((with_reducible refine ksameS ?_); focus ((repeat (first | with_reducible exact kis_of (by with_reducible assumption) | with_reducible refine kis_set ?_ | ((with_reducible refine kis_new ?_ ?_) <;> (first | with_reducible rfl | rfl | (simp; done))) | with_reducible refine kis_alloc _ ?_ | with_reducible refine kis_drew ?_ | with_reducible refine kis_call (by with_reducible assumption) ?_ | with_reducible exact kis_of (kcall (by with_reducible assumption) (by with_reducible assumption)))); done)) | with_reducible refine kother (by decide) ?_ | with_reducible refine kset (by first | omega | (simp; done) | (simp; omega)) ?_ | with_reducible refine kalloc _ ?_ | with_reducible refine kdrew ?_ | with_reducible refine kdrewN ?_ | with_reducible refine kcall (by with_reducible assumption) ?_)))
          have ka4 : w1.cell? ⟨w.heap.size + 1, 1, none⟩ = some (.int .i64 b2) := by (first | with_reducible assumption | (repeat (first | with_reducible assumption | ((with_reducible refine kfresh ?_ ?_) <;> (first | with_reducible rfl | (simp; done))) | ((with_reducible refine ksameS ?_); focus ((repeat (first | with_reducible exact kis_of (by with_reducible assumption) | with_reducible refine kis_set ?_ | ((with_reducible refine kis_new ?_ ?_) <;> (first | with_reducible rfl | rfl | (simp; done))) | with_reducible refine kis_alloc _ ?_ | with_reducible refine kis_drew ?_ | with_reducible refine kis_call (by with_reducible assumption) ?_ | with_reducible exact kis_of (kcall (by with_reducible assumption) (by with_reducible assumption)))); done)) | with_reducible refine kother (by decide) ?_ | with_reducible refine kset (by first | omega | (simp; done) | (simp; omega)) ?_ | with_reducible refine kalloc _ ?_ | with_reducible refine kdrew ?_ | with_reducible refine kdrewN ?_ | with_reducible refine kcall (by with_reducible assumption) ?_)))
          have ka5 : w1.cell? ⟨w.heap.size + 1, 2, none⟩ = some (.int .i64 b3) := by (first | with_reducible assumption | (repeat (first | with_reducible assumption | ((with_reducible refine kfresh ?_ ?_) <;> (first | with_reducible rfl | (simp; done))) | ((with_reducible refine ksameS ?_); focus ((repeat (first | with_reducible exact kis_of (by with_reducible assumption) | with_reducible refine kis_set ?_ | ((with_reducible refine kis_new ?_ ?_) <;> (first | with_reducible rfl | rfl | (simp; done))) | with_reducible refine kis_alloc _ ?_ | with_reducible refine kis_drew ?_ | with_reducible refine kis_call (by with_reducible assumption) ?_ | with_reducible exact kis_of (kcall (by with_reducible assumption) (by with_reducible assumption)))); done)) | with_reducible refine kother (by decide) ?_ | with_reducible refine kset (by first | omega | (simp; done) | (simp; omega)) ?_ | with_reducible refine kalloc _ ?_ | with_reducible refine kdrew ?_ | with_reducible refine kdrewN ?_ | with_reducible refine kcall (by with_reducible assumption) ?_)))
          have ka6 : w1.cell? ⟨w.heap.size + 1 + 1, 0, none⟩ = some (.int .i64 c1) := by (first | with_reducible assumption | (repeat (first | with_reducible assumption | ((with_reducible refine kfresh ?_ ?_) <;> (first | with_reducible rfl | (simp; done))) | ((with_reducible refine ksameS ?_); focus ((repeat (first | with_reducible exact kis_of (by with_reducible assumption) | with_reducible refine kis_set ?_ | ((with_reducible refine kis_new ?_ ?_) <;> (first | with_reducible rfl | rfl | (simp; done))) | with_reducible refine kis_alloc _ ?_ | with_reducible refine kis_drew ?_ | with_reducible refine kis_call (by with_reducible assumption) ?_ | with_reducible exact kis_of (kcall (by with_reducible assumption) (by with_reducible assumption)))); done)) | with_reducible refine kother (by decide) ?_ | with_reducible refine kset (by first | omega | (simp; done) | (simp; omega)) ?_ | with_reducible refine kalloc _ ?_ | with_reducible refine kdrew ?_ | with_reducible refine kdrewN ?_ | with_reducible refine kcall (by with_reducible assumption) ?_)))
          have ka7 : w1.cell? ⟨w.heap.size + 1 + 1, 1, none⟩ = some (.int .i64 c2) := by (first | with_reducible assumption | (repeat (first | with_reducible assumption | ((with_reducible refine kfresh ?_ ?_) <;> (first | with_reducible rfl | (simp; done))) | ((with_reducible refine ksameS ?_); focus ((repeat (first | with_reducible exact kis_of (by with_reducible assumption) | with_reducible refine kis_set ?_ | ((with_reducible refine kis_new ?_ ?_) <;> (first | with_reducible rfl | rfl | (simp; done))) | with_reducible refine kis_alloc _ ?_ | with_reducible refine kis_drew ?_ | with_reducible refine kis_call (by with_reducible assumption) ?_ | with_reducible exact kis_of (kcall (by with_reducible assumption) (by with_reducible assumption)))); done)) | with_reducible refine kother (by decide) ?_ | with_reducible refine kset (by first | omega | (simp; done) | (simp; omega)) ?_ | with_reducible refine kalloc _ ?_ | with_reducible refine kdrew ?_ | with_reducible refine kdrewN ?_ | with_reducible refine kcall (by with_reducible assumption) ?_)))
          have ka8 : w1.cell? ⟨w.heap.size + 1 + 1, 2, none⟩ = some (.int .i64 c3) := by (first | with_reducible assumption | (repeat (first | with_reducible assumption | ((with_reducible refine kfresh ?_ ?_) <;> (first | with_reducible rfl | (simp; done))) | ((with_reducible refine ksameS ?_); focus ((repeat (first | with_reducible exact kis_of (by with_reducible assumption) | with_reducible refine kis_set ?_ | ((with_reducible refine kis_new ?_ ?_) <;> (first | with_reducible rfl | rfl | (simp; done))) | with_reducible refine kis_alloc _ ?_ | with_reducible refine kis_drew ?_ | with_reducible refine kis_call (by with_reducible assumption) ?_ | with_reducible exact kis_of (kcall (by with_reducible assumption) (by with_reducible assumption)))); done)) | with_reducible refine kother (by decide) ?_ | with_reducible refine kset (by first | omega | (simp; done) | (simp; omega)) ?_ | with_reducible refine kalloc _ ?_ | with_reducible refine kdrew ?_ | with_reducible refine kdrewN ?_ | with_reducible refine kcall (by with_reducible assumption) ?_)))
          have hW0 : Below w.heap.size w w1 := by (repeat (first | with_reducible exact Below.refl _ _ | with_reducible exact hxO | with_reducible refine balloc ?_ _ | with_reducible refine bdrewN ?_ _ | with_reducible refine Below.drew ?_ | with_reducible refine bthen ?_ (by with_reducible assumption) | with_reducible refine Below.setCell ?_ (by first | (simp; done) | (simp; omega)) _))
          go_upto_region 5 with fail
          go_cut [36, 37, 38] (fun s36 s37 s38 wx => ∃ g : Nat, s36 = .slice (some ⟨g, 0, none⟩) 3 3 ∧ s37 = .int .i64 3 ∧ s38 = .int .i64 0 ∧ wx.cell? ⟨g, 0, none⟩ = some (.int .i64 b1) ∧ wx.cell? ⟨g, 1, none⟩ = some (.int .i64 b2) ∧ wx.cell? ⟨g, 2, none⟩ = some (.int .i64 b3) ∧ wx.cell? ⟨g, 3, none⟩ = some (.int .i64 c1) ∧ wx.cell? ⟨g, 4, none⟩ = some (.int .i64 c2) ∧ wx.cell? ⟨g, 5, none⟩ = some (.int .i64 c3) ∧ wx.cell? ⟨g, 6, none⟩ = some (.int .i64 a1) ∧ wx.cell? ⟨g, 7, none⟩ = some (.int .i64 a2) ∧ wx.cell? ⟨g, 8, none⟩ = some (.int .i64 a3) ∧ wx.cell? ⟨g, 9, none⟩ = some (.int .i64 c1) ∧ wx.cell? ⟨g, 10, none⟩ = some (.int .i64 c2) ∧ wx.cell? ⟨g, 11, none⟩ = some (.int .i64 c3) ∧ wx.cell? ⟨g, 12, none⟩ = some (.int .i64 a1) ∧ wx.cell? ⟨g, 13, none⟩ = some (.int .i64 a2) ∧ wx.cell? ⟨g, 14, none⟩ = some (.int .i64 a3) ∧ wx.cell? ⟨g, 15, none⟩ = some (.int .i64 b1) ∧ wx.cell? ⟨g, 16, none⟩ = some (.int .i64 b2) ∧ wx.cell? ⟨g, 17, none⟩ = some (.int .i64 b3) ∧ Below w1.heap.size w1 wx)
          case first =>
            go_wp2
            go_meet
            refine ⟨_, rfl, rfl, rfl, ?_, ?_, ?_, ?_, ?_, ?_, ?_, ?_, ?_, ?_, ?_, ?_, ?_, ?_, ?_, ?_, ?_, ?_, ?_⟩
            · (repeat (first | with_reducible assumption | ((with_reducible refine kfresh ?_ ?_) <;> (first | with_reducible rfl | (simp; done))) | ((with_reducible refine ksameS ?_); focus ((repeat (first | with_reducible exact kis_of (by with_reducible assumption) | with_reducible refine kis_set ?_ | ((with_reducible refine kis_new ?_ ?_) <;> (first | with_reducible rfl | rfl | (simp; done))) | with_reducible refine kis_alloc _ ?_ | with_reducible refine kis_drew ?_ | with_reducible refine kis_call (by with_reducible assumption) ?_ | with_reducible exact kis_of (kcall (by with_reducible assumption) (by with_reducible assumption)))); done)) | with_reducible refine kother (by decide) ?_ | with_reducible refine kset (by first | omega | (simp; done) | (simp; omega)) ?_ | with_reducible refine kalloc _ ?_ | with_reducible refine kdrew ?_ | with_reducible refine kdrewN ?_ | with_reducible refine kcall (by with_reducible assumption) ?_))
            · (repeat (first | with_reducible assumption | ((with_reducible refine kfresh ?_ ?_) <;> (first | with_reducible rfl | (simp; done))) | ((with_reducible refine ksameS ?_); focus ((repeat (first | with_reducible exact kis_of (by with_reducible assumption) | with_reducible refine kis_set ?_ | ((with_reducible refine kis_new ?_ ?_) <;> (first | with_reducible rfl | rfl | (simp; done))) | with_reducible refine kis_alloc _ ?_ | with_reducible refine kis_drew ?_ | with_reducible refine kis_call (by with_reducible assumption) ?_ | with_reducible exact kis_of (kcall (by with_reducible assumption) (by with_reducible assumption)))); done)) | with_reducible refine kother (by decide) ?_ | with_reducible refine kset (by first | omega | (simp; done) | (simp; omega)) ?_ | with_reducible refine kalloc _ ?_ | with_reducible refine kdrew ?_ | with_reducible refine kdrewN ?_ | with_reducible refine kcall (by with_reducible assumption) ?_))
            · (repeat (first | with_reducible assumption | ((with_reducible refine kfresh ?_ ?_) <;> (first | with_reducible rfl | (simp; done))) | ((with_reducible refine ksameS ?_); focus ((repeat (first | with_reducible exact kis_of (by with_reducible assumption) | with_reducible refine kis_set ?_ | ((with_reducible refine kis_new ?_ ?_) <;> (first | with_reducible rfl | rfl | (simp; done))) | with_reducible refine kis_alloc _ ?_ | with_reducible refine kis_drew ?_ | with_reducible refine kis_call (by with_reducible assumption) ?_ | with_reducible exact kis_of (kcall (by with_reducible assumption) (by with_reducible assumption)))); done)) | with_reducible refine kother (by decide) ?_ | with_reducible refine kset (by first | omega | (simp; done) | (simp; omega)) ?_ | with_reducible refine kalloc _ ?_ | with_reducible refine kdrew ?_ | with_reducible refine kdrewN ?_ | with_reducible refine kcall (by with_reducible assumption) ?_))
            · (repeat (first | with_reducible assumption | ((with_reducible refine kfresh ?_ ?_) <;> (first | with_reducible rfl | (simp; done))) | ((with_reducible refine ksameS ?_); focus ((repeat (first | with_reducible exact kis_of (by with_reducible assumption) | with_reducible refine kis_set ?_ | ((with_reducible refine kis_new ?_ ?_) <;> (first | with_reducible rfl | rfl | (simp; done))) | with_reducible refine kis_alloc _ ?_ | with_reducible refine kis_drew ?_ | with_reducible refine kis_call (by with_reducible assumption) ?_ | with_reducible exact kis_of (kcall (by with_reducible assumption) (by with_reducible assumption)))); done)) | with_reducible refine kother (by decide) ?_ | with_reducible refine kset (by first | omega | (simp; done) | (simp; omega)) ?_ | with_reducible refine kalloc _ ?_ | with_reducible refine kdrew ?_ | with_reducible refine kdrewN ?_ | with_reducible refine kcall (by with_reducible assumption) ?_))
            · (repeat (first | with_reducible assumption | ((with_reducible refine kfresh ?_ ?_) <;> (first | with_reducible rfl | (simp; done))) | ((with_reducible refine ksameS ?_); focus ((repeat (first | with_reducible exact kis_of (by with_reducible assumption) | with_reducible refine kis_set ?_ | ((with_reducible refine kis_new ?_ ?_) <;> (first | with_reducible rfl | rfl | (simp; done))) | with_reducible refine kis_alloc _ ?_ | with_reducible refine kis_drew ?_ | with_reducible refine kis_call (by with_reducible assumption) ?_ | with_reducible exact kis_of (kcall (by with_reducible assumption) (by with_reducible assumption)))); done)) | with_reducible refine kother (by decide) ?_ | with_reducible refine kset (by first | omega | (simp; done) | (simp; omega)) ?_ | with_reducible refine kalloc _ ?_ | with_reducible refine kdrew ?_ | with_reducible refine kdrewN ?_ | with_reducible refine kcall (by with_reducible assumption) ?_))
            · (repeat (first | with_reducible assumption | ((with_reducible refine kfresh ?_ ?_) <;> (first | with_reducible rfl | (simp; done))) | ((with_reducible refine ksameS ?_); focus ((repeat (first | with_reducible exact kis_of (by with_reducible assumption) | with_reducible refine kis_set ?_ | ((with_reducible refine kis_new ?_ ?_) <;> (first | with_reducible rfl | rfl | (simp; done))) | with_reducible refine kis_alloc _ ?_ | with_reducible refine kis_drew ?_ | with_reducible refine kis_call (by with_reducible assumption) ?_ | with_reducible exact kis_of (kcall (by with_reducible assumption) (by with_reducible assumption)))); done)) | with_reducible refine kother (by decide) ?_ | with_reducible refine kset (by first | omega | (simp; done) | (simp; omega)) ?_ | with_reducible refine kalloc _ ?_ | with_reducible refine kdrew ?_ | with_reducible refine kdrewN ?_ | with_reducible refine kcall (by with_reducible assumption) ?_))
            · (repeat (first | with_reducible assumption | ((with_reducible refine kfresh ?_ ?_) <;> (first | with_reducible rfl | (simp; done))) | ((with_reducible refine ksameS ?_); focus ((repeat (first | with_reducible exact kis_of (by with_reducible assumption) | with_reducible refine kis_set ?_ | ((with_reducible refine kis_new ?_ ?_) <;> (first | with_reducible rfl | rfl | (simp; done))) | with_reducible refine kis_alloc _ ?_ | with_reducible refine kis_drew ?_ | with_reducible refine kis_call (by with_reducible assumption) ?_ | with_reducible exact kis_of (kcall (by with_reducible assumption) (by with_reducible assumption)))); done)) | with_reducible refine kother (by decide) ?_ | with_reducible refine kset (by first | omega | (simp; done) | (simp; omega)) ?_ | with_reducible refine kalloc _ ?_ | with_reducible refine kdrew ?_ | with_reducible refine kdrewN ?_ | with_reducible refine kcall (by with_reducible assumption) ?_))
            · (repeat (first | with_reducible assumption | ((with_reducible refine kfresh ?_ ?_) <;> (first | with_reducible rfl | (simp; done))) | ((with_reducible refine ksameS ?_); focus ((repeat (first | with_reducible exact kis_of (by with_reducible assumption) | with_reducible refine kis_set ?_ | ((with_reducible refine kis_new ?_ ?_) <;> (first | with_reducible rfl | rfl | (simp; done))) | with_reducible refine kis_alloc _ ?_ | with_reducible refine kis_drew ?_ | with_reducible refine kis_call (by with_reducible assumption) ?_ | with_reducible exact kis_of (kcall (by with_reducible assumption) (by with_reducible assumption)))); done)) | with_reducible refine kother (by decide) ?_ | with_reducible refine kset (by first | omega | (simp; done) | (simp; omega)) ?_ | with_reducible refine kalloc _ ?_ | with_reducible refine kdrew ?_ | with_reducible refine kdrewN ?_ | with_reducible refine kcall (by with_reducible assumption) ?_))
            · (repeat (first | with_reducible assumption | ((with_reducible refine kfresh ?_ ?_) <;> (first | with_reducible rfl | (simp; done))) | ((with_reducible refine ksameS ?_); focus ((repeat (first | with_reducible exact kis_of (by with_reducible assumption) | with_reducible refine kis_set ?_ | ((with_reducible refine kis_new ?_ ?_) <;> (first | with_reducible rfl | rfl | (simp; done))) | with_reducible refine kis_alloc _ ?_ | with_reducible refine kis_drew ?_ | with_reducible refine kis_call (by with_reducible assumption) ?_ | with_reducible exact kis_of (kcall (by with_reducible assumption) (by with_reducible assumption)))); done)) | with_reducible refine kother (by decide) ?_ | with_reducible refine kset (by first | omega | (simp; done) | (simp; omega)) ?_ | with_reducible refine kalloc _ ?_ | with_reducible refine kdrew ?_ | with_reducible refine kdrewN ?_ | with_reducible refine kcall (by with_reducible assumption) ?_))
            · (repeat (first | with_reducible assumption | ((with_reducible refine kfresh ?_ ?_) <;> (first | with_reducible rfl | (simp; done))) | ((with_reducible refine ksameS ?_); focus ((repeat (first | with_reducible exact kis_of (by with_reducible assumption) | with_reducible refine kis_set ?_ | ((with_reducible refine kis_new ?_ ?_) <;> (first | with_reducible rfl | rfl | (simp; done))) | with_reducible refine kis_alloc _ ?_ | with_reducible refine kis_drew ?_ | with_reducible refine kis_call (by with_reducible assumption) ?_ | with_reducible exact kis_of (kcall (by with_reducible assumption) (by with_reducible assumption)))); done)) | with_reducible refine kother (by decide) ?_ | with_reducible refine kset (by first | omega | (simp; done) | (simp; omega)) ?_ | with_reducible refine kalloc _ ?_ | with_reducible refine kdrew ?_ | with_reducible refine kdrewN ?_ | with_reducible refine kcall (by with_reducible assumption) ?_))
            · (repeat (first | with_reducible assumption | ((with_reducible refine kfresh ?_ ?_) <;> (first | with_reducible rfl | (simp; done))) | ((with_reducible refine ksameS ?_); focus ((repeat (first | with_reducible exact kis_of (by with_reducible assumption) | with_reducible refine kis_set ?_ | ((with_reducible refine kis_new ?_ ?_) <;> (first | with_reducible rfl | rfl | (simp; done))) | with_reducible refine kis_alloc _ ?_ | with_reducible refine kis_drew ?_ | with_reducible refine kis_call (by with_reducible assumption) ?_ | with_reducible exact kis_of (kcall (by with_reducible assumption) (by with_reducible assumption)))); done)) | with_reducible refine kother (by decide) ?_ | with_reducible refine kset (by first | omega | (simp; done) | (simp; omega)) ?_ | with_reducible refine kalloc _ ?_ | with_reducible refine kdrew ?_ | with_reducible refine kdrewN ?_ | with_reducible refine kcall (by with_reducible assumption) ?_))
            · (repeat (first | with_reducible assumption | ((with_reducible refine kfresh ?_ ?_) <;> (first | with_reducible rfl | (simp; done))) | ((with_reducible refine ksameS ?_); focus ((repeat (first | with_reducible exact kis_of (by with_reducible assumption) | with_reducible refine kis_set ?_ | ((with_reducible refine kis_new ?_ ?_) <;> (first | with_reducible rfl | rfl | (simp; done))) | with_reducible refine kis_alloc _ ?_ | with_reducible refine kis_drew ?_ | with_reducible refine kis_call (by with_reducible assumption) ?_ | with_reducible exact kis_of (kcall (by with_reducible assumption) (by with_reducible assumption)))); done)) | with_reducible refine kother (by decide) ?_ | with_reducible refine kset (by first | omega | (simp; done) | (simp; omega)) ?_ | with_reducible refine kalloc _ ?_ | with_reducible refine kdrew ?_ | with_reducible refine kdrewN ?_ | with_reducible refine kcall (by with_reducible assumption) ?_))
            · (repeat (first | with_reducible assumption | ((with_reducible refine kfresh ?_ ?_) <;> (first | with_reducible rfl | (simp; done))) | ((with_reducible refine ksameS ?_); focus ((repeat (first | with_reducible exact kis_of (by with_reducible assumption) | with_reducible refine kis_set ?_ | ((with_reducible refine kis_new ?_ ?_) <;> (first | with_reducible rfl | rfl | (simp; done))) | with_reducible refine kis_alloc _ ?_ | with_reducible refine kis_drew ?_ | with_reducible refine kis_call (by with_reducible assumption) ?_ | with_reducible exact kis_of (kcall (by with_reducible assumption) (by with_reducible assumption)))); done)) | with_reducible refine kother (by decide) ?_ | with_reducible refine kset (by first | omega | (simp; done) | (simp; omega)) ?_ | with_reducible refine kalloc _ ?_ | with_reducible refine kdrew ?_ | with_reducible refine kdrewN ?_ | with_reducible refine kcall (by with_reducible assumption) ?_))
            · (repeat (first | with_reducible assumption | ((with_reducible refine kfresh ?_ ?_) <;> (first | with_reducible rfl | (simp; done))) | ((with_reducible refine ksameS ?_); focus ((repeat (first | with_reducible exact kis_of (by with_reducible assumption) | with_reducible refine kis_set ?_ | ((with_reducible refine kis_new ?_ ?_) <;> (first | with_reducible rfl | rfl | (simp; done))) | with_reducible refine kis_alloc _ ?_ | with_reducible refine kis_drew ?_ | with_reducible refine kis_call (by with_reducible assumption) ?_ | with_reducible exact kis_of (kcall (by with_reducible assumption) (by with_reducible assumption)))); done)) | with_reducible refine kother (by decide) ?_ | with_reducible refine kset (by first | omega | (simp; done) | (simp; omega)) ?_ | with_reducible refine kalloc _ ?_ | with_reducible refine kdrew ?_ | with_reducible refine kdrewN ?_ | with_reducible refine kcall (by with_reducible assumption) ?_))
            · (repeat (first | with_reducible assumption | ((with_reducible refine kfresh ?_ ?_) <;> (first | with_reducible rfl | (simp; done))) | ((with_reducible refine ksameS ?_); focus ((repeat (first | with_reducible exact kis_of (by with_reducible assumption) | with_reducible refine kis_set ?_ | ((with_reducible refine kis_new ?_ ?_) <;> (first | with_reducible rfl | rfl | (simp; done))) | with_reducible refine kis_alloc _ ?_ | with_reducible refine kis_drew ?_ | with_reducible refine kis_call (by with_reducible assumption) ?_ | with_reducible exact kis_of (kcall (by with_reducible assumption) (by with_reducible assumption)))); done)) | with_reducible refine kother (by decide) ?_ | with_reducible refine kset (by first | omega | (simp; done) | (simp; omega)) ?_ | with_reducible refine kalloc _ ?_ | with_reducible refine kdrew ?_ | with_reducible refine kdrewN ?_ | with_reducible refine kcall (by with_reducible assumption) ?_))
            · (repeat (first | with_reducible assumption | ((with_reducible refine kfresh ?_ ?_) <;> (first | with_reducible rfl | (simp; done))) | ((with_reducible refine ksameS ?_); focus ((repeat (first | with_reducible exact kis_of (by with_reducible assumption) | with_reducible refine kis_set ?_ | ((with_reducible refine kis_new ?_ ?_) <;> (first | with_reducible rfl | rfl | (simp; done))) | with_reducible refine kis_alloc _ ?_ | with_reducible refine kis_drew ?_ | with_reducible refine kis_call (by with_reducible assumption) ?_ | with_reducible exact kis_of (kcall (by with_reducible assumption) (by with_reducible assumption)))); done)) | with_reducible refine kother (by decide) ?_ | with_reducible refine kset (by first | omega | (simp; done) | (simp; omega)) ?_ | with_reducible refine kalloc _ ?_ | with_reducible refine kdrew ?_ | with_reducible refine kdrewN ?_ | with_reducible refine kcall (by with_reducible assumption) ?_))
            · (repeat (first | with_reducible assumption | ((with_reducible refine kfresh ?_ ?_) <;> (first | with_reducible rfl | (simp; done))) | ((with_reducible refine ksameS ?_); focus ((repeat (first | with_reducible exact kis_of (by with_reducible assumption) | with_reducible refine kis_set ?_ | ((with_reducible refine kis_new ?_ ?_) <;> (first | with_reducible rfl | rfl | (simp; done))) | with_reducible refine kis_alloc _ ?_ | with_reducible refine kis_drew ?_ | with_reducible refine kis_call (by with_reducible assumption) ?_ | with_reducible exact kis_of (kcall (by with_reducible assumption) (by with_reducible assumption)))); done)) | with_reducible refine kother (by decide) ?_ | with_reducible refine kset (by first | omega | (simp; done) | (simp; omega)) ?_ | with_reducible refine kalloc _ ?_ | with_reducible refine kdrew ?_ | with_reducible refine kdrewN ?_ | with_reducible refine kcall (by with_reducible assumption) ?_))
            · (repeat (first | with_reducible assumption | ((with_reducible refine kfresh ?_ ?_) <;> (first | with_reducible rfl | (simp; done))) | ((with_reducible refine ksameS ?_); focus ((repeat (first | with_reducible exact kis_of (by with_reducible assumption) | with_reducible refine kis_set ?_ | ((with_reducible refine kis_new ?_ ?_) <;> (first | with_reducible rfl | rfl | (simp; done))) | with_reducible refine kis_alloc _ ?_ | with_reducible refine kis_drew ?_ | with_reducible refine kis_call (by with_reducible assumption) ?_ | with_reducible exact kis_of (kcall (by with_reducible assumption) (by with_reducible assumption)))); done)) | with_reducible refine kother (by decide) ?_ | with_reducible refine kset (by first | omega | (simp; done) | (simp; omega)) ?_ | with_reducible refine kalloc _ ?_ | with_reducible refine kdrew ?_ | with_reducible refine kdrewN ?_ | with_reducible refine kcall (by with_reducible assumption) ?_))
            · (repeat (first | with_reducible exact Below.refl _ _ | with_reducible refine balloc ?_ _ | with_reducible refine bdrewN ?_ _ | with_reducible refine Below.drew ?_ | with_reducible refine bthen ?_ (by with_reducible assumption) | with_reducible refine Below.setCell ?_ (by first | (simp; done) | (simp; omega)) _))
          case' rest => obtain ⟨g, rfl, rfl, rfl, g0, g1, g2, g3, g4, g5, g6, g7, g8, g9, g10, g11, g12, g13, g14, g15, g16, g17, hzP⟩ := hcut
          obtain ⟨X0, rfl⟩ : ∃ wP : World, wP = wc := ⟨_, rfl⟩
          have hlg := World.block_lt_of_cell? X0 ⟨g, 0, none⟩ g0
          simp only at hlg
          have hsP := hzP.size
          have hWX0 : Below w.heap.size w X0 := bthen hW0 hzP
          have hown0 : X0.ownsRow X0.heap.size 2 1 (.slice none 0 0) 0 (ints []) := World.ownsRow_nil _ _ _ _
          have hP0 : Below X0.heap.size X0 X0 := Below.refl _ _
          clear ka0 ka1 ka2 ka3 ka4 ka5 ka6 ka7 ka8
          go_wp2_with fail
          refine wp_loop_rounds 4 ?_
          rw [rounds_succ]
          rcases bool_ways (ppd p b1 b2 b3 b1 b2 b3 == 0) with n1 | n1
          · rcases bool_ways (ppd p c1 c2 c3 c1 c2 c3 == 0) with n2 | n2
            · rcases bool_ways (ppd p a1 a2 a3 a1 a2 a3 == 0) with n0 | n0
              · have HNL := Lib.hid (show (ppd p a1 a2 a3 a1 a2 a3 == 0) = false ∧ (ppd p b1 b2 b3 b1 b2 b3 == 0) = false ∧ (ppd p c1 c2 c3 c1 c2 c3 == 0) = false from ⟨n0, n1, n2⟩)
                have z0_0 : X0.cell? ⟨g, 0, none⟩ = some (.int .i64 b1) := g0
                have z0_1 : X0.cell? ⟨g, 1, none⟩ = some (.int .i64 b2) := g1
                have z0_2 : X0.cell? ⟨g, 2, none⟩ = some (.int .i64 b3) := g2
                have z0_3 : X0.cell? ⟨g, 3, none⟩ = some (.int .i64 c1) := g3
                have z0_4 : X0.cell? ⟨g, 4, none⟩ = some (.int .i64 c2) := g4
                have z0_5 : X0.cell? ⟨g, 5, none⟩ = some (.int .i64 c3) := g5
                have hq0 : quC p b1 b2 b3 c1 c2 c3 = 0 ∧ quV p b1 b2 b3 c1 c2 c3 = plq p b1 b2 b3 c1 c2 c3 := by simp [quC, quV, quZ, HNL.out]
                have HQ0 := Lib.hid hq0
                clear hq0
                obtain ⟨x0, hx0⟩ : ∃ x : Int, x = quV p b1 b2 b3 c1 c2 c3 := ⟨_, rfl⟩
                have Hx0 := Lib.hid hx0
                clear hx0
                (go_wp2_with fail; refine Calls.mono (implPlq_any p b1 b2 b3 c1 c2 c3 _ hp (by omega) (by omega) (by omega) (by omega) (by omega) (by omega)) ?_; rw [← Hx0.out, HQ0.out.1]; rintro e u0 ⟨rfl, hU0⟩)
                have hUs0 := hU0.size
                have hXU0 : Below X0.heap.size X0 u0 := by (repeat (first | with_reducible exact Below.refl _ _ | with_reducible exact hU0 | with_reducible refine balloc ?_ _ | with_reducible refine bdrewN ?_ _ | with_reducible refine Below.drew ?_ | with_reducible refine bthen ?_ (by with_reducible assumption) | with_reducible refine Below.setCell ?_ (by first | (simp; done) | (simp; omega)) _))
                have hXs0 := hXU0.size
                have ho0 := own_call hown0 hXU0
                go_wp2_with (at_builtin; refine wpList_append_own _ rfl _ _ 42 rfl X0.heap.size 2 i0 (.int .i64 0) 1 8 Try.underlying42 hi hz0 hz1 hz2 rfl (by decide) _ _ _ rfl (ho0.alloc _) ⟨u0.heap.size, 0, none⟩ 1 1 [.int .i64 x0] rfl rfl ?c1 (int_oneCell _) (by decide) (by decide) (by simp; omega) ?_)
                case c1 =>
                  intro j u hj
                  match j, hj with
                  | 0, hj => simp at hj; subst hj; simp [Addr.add]
                intro zz0 X1 hown1 hgrow0 _
                have hP1 : Below X0.heap.size X0 X1 := Below.grown ((hP0.trans (hXU0.mono hP0.size)).alloc (by omega) _) hgrow0 (by simp; omega) (fun g' hg' => (ho0.lt g' hg').1)
                have hWX1 : Below w.heap.size w X1 := hWX0.trans (hP1.mono hWX0.size)
                clear hgrow0
                have hsX1 := hP1.size
                go_wp2
                rw [rounds_succ]
                have z1_0 : X1.cell? ⟨g, 6, none⟩ = some (.int .i64 a1) := (cell_old hP1 hlg 6).trans g6
                have z1_1 : X1.cell? ⟨g, 7, none⟩ = some (.int .i64 a2) := (cell_old hP1 hlg 7).trans g7
                have z1_2 : X1.cell? ⟨g, 8, none⟩ = some (.int .i64 a3) := (cell_old hP1 hlg 8).trans g8
                have z1_3 : X1.cell? ⟨g, 9, none⟩ = some (.int .i64 c1) := (cell_old hP1 hlg 9).trans g9
                have z1_4 : X1.cell? ⟨g, 10, none⟩ = some (.int .i64 c2) := (cell_old hP1 hlg 10).trans g10
                have z1_5 : X1.cell? ⟨g, 11, none⟩ = some (.int .i64 c3) := (cell_old hP1 hlg 11).trans g11
                have hq1 : quC p a1 a2 a3 c1 c2 c3 = 0 ∧ quV p a1 a2 a3 c1 c2 c3 = plq p a1 a2 a3 c1 c2 c3 := by simp [quC, quV, quZ, HNL.out]
                have HQ1 := Lib.hid hq1
                clear hq1
                obtain ⟨x1, hx1⟩ : ∃ x : Int, x = quV p a1 a2 a3 c1 c2 c3 := ⟨_, rfl⟩
                have Hx1 := Lib.hid hx1
                clear hx1
                (go_wp2_with fail; refine Calls.mono (implPlq_any p a1 a2 a3 c1 c2 c3 _ hp (by omega) (by omega) (by omega) (by omega) (by omega) (by omega)) ?_; rw [← Hx1.out, HQ1.out.1]; rintro e u1 ⟨rfl, hU1⟩)
                have hUs1 := hU1.size
                have hXU1 : Below X1.heap.size X1 u1 := by (repeat (first | with_reducible exact Below.refl _ _ | with_reducible exact hU1 | with_reducible refine balloc ?_ _ | with_reducible refine bdrewN ?_ _ | with_reducible refine Below.drew ?_ | with_reducible refine bthen ?_ (by with_reducible assumption) | with_reducible refine Below.setCell ?_ (by first | (simp; done) | (simp; omega)) _))
                have hXs1 := hXU1.size
                have ho1 := own_call hown1 hXU1
                go_wp2_with (at_builtin; refine wpList_append_own _ rfl _ _ 42 rfl X0.heap.size 2 i0 (.int .i64 0) 1 8 Try.underlying42 hi hz0 hz1 hz2 rfl (by decide) _ _ _ rfl (ho1.alloc _) ⟨u1.heap.size, 0, none⟩ 1 1 [.int .i64 x1] rfl rfl ?c1 (int_oneCell _) (by decide) (by decide) (by simp; omega) ?_)
                case c1 =>
                  intro j u hj
                  match j, hj with
                  | 0, hj => simp at hj; subst hj; simp [Addr.add]
                intro zz1 X2 hown2 hgrow1 _
                have hP2 : Below X0.heap.size X0 X2 := Below.grown ((hP1.trans (hXU1.mono hP1.size)).alloc (by omega) _) hgrow1 (by simp; omega) (fun g' hg' => (ho1.lt g' hg').1)
                have hWX2 : Below w.heap.size w X2 := hWX0.trans (hP2.mono hWX0.size)
                clear hgrow1
                have hsX2 := hP2.size
                go_wp2
                rw [rounds_succ]
                have z2_0 : X2.cell? ⟨g, 12, none⟩ = some (.int .i64 a1) := (cell_old hP2 hlg 12).trans g12
                have z2_1 : X2.cell? ⟨g, 13, none⟩ = some (.int .i64 a2) := (cell_old hP2 hlg 13).trans g13
                have z2_2 : X2.cell? ⟨g, 14, none⟩ = some (.int .i64 a3) := (cell_old hP2 hlg 14).trans g14
                have z2_3 : X2.cell? ⟨g, 15, none⟩ = some (.int .i64 b1) := (cell_old hP2 hlg 15).trans g15
                have z2_4 : X2.cell? ⟨g, 16, none⟩ = some (.int .i64 b2) := (cell_old hP2 hlg 16).trans g16
                have z2_5 : X2.cell? ⟨g, 17, none⟩ = some (.int .i64 b3) := (cell_old hP2 hlg 17).trans g17
                have hq2 : quC p a1 a2 a3 b1 b2 b3 = 0 ∧ quV p a1 a2 a3 b1 b2 b3 = plq p a1 a2 a3 b1 b2 b3 := by simp [quC, quV, quZ, HNL.out]
                have HQ2 := Lib.hid hq2
                clear hq2
                obtain ⟨x2, hx2⟩ : ∃ x : Int, x = quV p a1 a2 a3 b1 b2 b3 := ⟨_, rfl⟩
                have Hx2 := Lib.hid hx2
                clear hx2
                (go_wp2_with fail; refine Calls.mono (implPlq_any p a1 a2 a3 b1 b2 b3 _ hp (by omega) (by omega) (by omega) (by omega) (by omega) (by omega)) ?_; rw [← Hx2.out, HQ2.out.1]; rintro e u2 ⟨rfl, hU2⟩)
                have hUs2 := hU2.size
                have hXU2 : Below X2.heap.size X2 u2 := by (repeat (first | with_reducible exact Below.refl _ _ | with_reducible exact hU2 | with_reducible refine balloc ?_ _ | with_reducible refine bdrewN ?_ _ | with_reducible refine Below.drew ?_ | with_reducible refine bthen ?_ (by with_reducible assumption) | with_reducible refine Below.setCell ?_ (by first | (simp; done) | (simp; omega)) _))
                have hXs2 := hXU2.size
                have ho2 := own_call hown2 hXU2
                go_wp2_with (at_builtin; refine wpList_append_own _ rfl _ _ 42 rfl X0.heap.size 2 i0 (.int .i64 0) 1 8 Try.underlying42 hi hz0 hz1 hz2 rfl (by decide) _ _ _ rfl (ho2.alloc _) ⟨u2.heap.size, 0, none⟩ 1 1 [.int .i64 x2] rfl rfl ?c1 (int_oneCell _) (by decide) (by decide) (by simp; omega) ?_)
                case c1 =>
                  intro j u hj
                  match j, hj with
                  | 0, hj => simp at hj; subst hj; simp [Addr.add]
                intro zz2 X3 hown3 hgrow2 _
                have hP3 : Below X0.heap.size X0 X3 := Below.grown ((hP2.trans (hXU2.mono hP2.size)).alloc (by omega) _) hgrow2 (by simp; omega) (fun g' hg' => (ho2.lt g' hg').1)
                have hWX3 : Below w.heap.size w X3 := hWX0.trans (hP3.mono hWX0.size)
                clear hgrow2
                have hsX3 := hP3.size
                go_wp2
                rw [rounds_succ]
                have HV := Lib.hid (show qoL p a1 a2 a3 b1 b2 b3 c1 c2 c3 = [x0, x1, x2] ∧ qoC p a1 a2 a3 b1 b2 b3 c1 c2 c3 = 0 from by
                  have hg := qo_good (a1 := a1) (a2 := a2) (a3 := a3) (b1 := b1) (b2 := b2) (b3 := b3) (c1 := c1) (c2 := c2) (c3 := c3) hp HBB.out (by simp [qoS, HNL.out])
                  rw [Hx0.out, Hx1.out, Hx2.out, HQ0.out.2, HQ1.out.2, HQ2.out.2]; exact hg)
                go_wp2
                (refine bodyPost_ret (v := .tuple #[zz2, .int .i64 (qoC p a1 a2 a3 b1 b2 b3 c1 c2 c3)]) (by simp [results, Try.results30, go_sem, HV.out.2]) rfl (slicePost_mk (by rw [HV.out.1]; exact own_base hown3 hWX0.size) hWX3))
              · have HNL := Lib.hid (show (ppd p a1 a2 a3 a1 a2 a3 == 0) = true ∧ (ppd p b1 b2 b3 b1 b2 b3 == 0) = false ∧ (ppd p c1 c2 c3 c1 c2 c3 == 0) = false from ⟨n0, n1, n2⟩)
                have z0_0 : X0.cell? ⟨g, 0, none⟩ = some (.int .i64 b1) := g0
                have z0_1 : X0.cell? ⟨g, 1, none⟩ = some (.int .i64 b2) := g1
                have z0_2 : X0.cell? ⟨g, 2, none⟩ = some (.int .i64 b3) := g2
                have z0_3 : X0.cell? ⟨g, 3, none⟩ = some (.int .i64 c1) := g3
                have z0_4 : X0.cell? ⟨g, 4, none⟩ = some (.int .i64 c2) := g4
                have z0_5 : X0.cell? ⟨g, 5, none⟩ = some (.int .i64 c3) := g5
                have hq0 : quC p b1 b2 b3 c1 c2 c3 = 0 ∧ quV p b1 b2 b3 c1 c2 c3 = plq p b1 b2 b3 c1 c2 c3 := by simp [quC, quV, quZ, HNL.out]
                have HQ0 := Lib.hid hq0
                clear hq0
                obtain ⟨x0, hx0⟩ : ∃ x : Int, x = quV p b1 b2 b3 c1 c2 c3 := ⟨_, rfl⟩
                have Hx0 := Lib.hid hx0
                clear hx0
                (go_wp2_with fail; refine Calls.mono (implPlq_any p b1 b2 b3 c1 c2 c3 _ hp (by omega) (by omega) (by omega) (by omega) (by omega) (by omega)) ?_; rw [← Hx0.out, HQ0.out.1]; rintro e u0 ⟨rfl, hU0⟩)
                have hUs0 := hU0.size
                have hXU0 : Below X0.heap.size X0 u0 := by (repeat (first | with_reducible exact Below.refl _ _ | with_reducible exact hU0 | with_reducible refine balloc ?_ _ | with_reducible refine bdrewN ?_ _ | with_reducible refine Below.drew ?_ | with_reducible refine bthen ?_ (by with_reducible assumption) | with_reducible refine Below.setCell ?_ (by first | (simp; done) | (simp; omega)) _))
                have hXs0 := hXU0.size
                have ho0 := own_call hown0 hXU0
                go_wp2_with (at_builtin; refine wpList_append_own _ rfl _ _ 42 rfl X0.heap.size 2 i0 (.int .i64 0) 1 8 Try.underlying42 hi hz0 hz1 hz2 rfl (by decide) _ _ _ rfl (ho0.alloc _) ⟨u0.heap.size, 0, none⟩ 1 1 [.int .i64 x0] rfl rfl ?c1 (int_oneCell _) (by decide) (by decide) (by simp; omega) ?_)
                case c1 =>
                  intro j u hj
                  match j, hj with
                  | 0, hj => simp at hj; subst hj; simp [Addr.add]
                intro zz0 X1 hown1 hgrow0 _
                have hP1 : Below X0.heap.size X0 X1 := Below.grown ((hP0.trans (hXU0.mono hP0.size)).alloc (by omega) _) hgrow0 (by simp; omega) (fun g' hg' => (ho0.lt g' hg').1)
                have hWX1 : Below w.heap.size w X1 := hWX0.trans (hP1.mono hWX0.size)
                clear hgrow0
                have hsX1 := hP1.size
                go_wp2
                rw [rounds_succ]
                have z1_0 : X1.cell? ⟨g, 6, none⟩ = some (.int .i64 a1) := (cell_old hP1 hlg 6).trans g6
                have z1_1 : X1.cell? ⟨g, 7, none⟩ = some (.int .i64 a2) := (cell_old hP1 hlg 7).trans g7
                have z1_2 : X1.cell? ⟨g, 8, none⟩ = some (.int .i64 a3) := (cell_old hP1 hlg 8).trans g8
                have z1_3 : X1.cell? ⟨g, 9, none⟩ = some (.int .i64 c1) := (cell_old hP1 hlg 9).trans g9
                have z1_4 : X1.cell? ⟨g, 10, none⟩ = some (.int .i64 c2) := (cell_old hP1 hlg 10).trans g10
                have z1_5 : X1.cell? ⟨g, 11, none⟩ = some (.int .i64 c3) := (cell_old hP1 hlg 11).trans g11
                have hq1 : quC p a1 a2 a3 c1 c2 c3 = 5 ∧ quV p a1 a2 a3 c1 c2 c3 = 0 := by simp [quC, quV, quZ, HNL.out]
                have HQ1 := Lib.hid hq1
                clear hq1
                obtain ⟨x1, hx1⟩ : ∃ x : Int, x = quV p a1 a2 a3 c1 c2 c3 := ⟨_, rfl⟩
                have Hx1 := Lib.hid hx1
                clear hx1
                (go_wp2_with fail; refine Calls.mono (implPlq_any p a1 a2 a3 c1 c2 c3 _ hp (by omega) (by omega) (by omega) (by omega) (by omega) (by omega)) ?_; rw [← Hx1.out, HQ1.out.1]; rintro e u1 ⟨rfl, hU1⟩)
                have hUs1 := hU1.size
                have hXU1 : Below X1.heap.size X1 u1 := by (repeat (first | with_reducible exact Below.refl _ _ | with_reducible exact hU1 | with_reducible refine balloc ?_ _ | with_reducible refine bdrewN ?_ _ | with_reducible refine Below.drew ?_ | with_reducible refine bthen ?_ (by with_reducible assumption) | with_reducible refine Below.setCell ?_ (by first | (simp; done) | (simp; omega)) _))
                have hXs1 := hXU1.size
                have HV := Lib.hid (qo_st (a1 := a1) (a2 := a2) (a3 := a3) (b1 := b1) (b2 := b2) (b3 := b3) (c1 := c1) (c2 := c2) (c3 := c3) (k := 5) hp HBB.out (by simp [qoS, HNL.out]) (by decide))
                go_wp2
                (refine bodyPost_ret (v := .tuple #[.slice none 0 0, .int .i64 (qoC p a1 a2 a3 b1 b2 b3 c1 c2 c3)]) (by simp [results, Try.results30, go_sem, HV.out.2]) rfl (slicePost_nil HV.out.1 ?_))
                exact bthen hWX1 hXU1
            · have HNL := Lib.hid (show (ppd p b1 b2 b3 b1 b2 b3 == 0) = false ∧ (ppd p c1 c2 c3 c1 c2 c3 == 0) = true from ⟨n1, n2⟩)
              have z0_0 : X0.cell? ⟨g, 0, none⟩ = some (.int .i64 b1) := g0
              have z0_1 : X0.cell? ⟨g, 1, none⟩ = some (.int .i64 b2) := g1
              have z0_2 : X0.cell? ⟨g, 2, none⟩ = some (.int .i64 b3) := g2
              have z0_3 : X0.cell? ⟨g, 3, none⟩ = some (.int .i64 c1) := g3
              have z0_4 : X0.cell? ⟨g, 4, none⟩ = some (.int .i64 c2) := g4
              have z0_5 : X0.cell? ⟨g, 5, none⟩ = some (.int .i64 c3) := g5
              have hq0 : quC p b1 b2 b3 c1 c2 c3 = 5 ∧ quV p b1 b2 b3 c1 c2 c3 = 0 := by simp [quC, quV, quZ, HNL.out]
              have HQ0 := Lib.hid hq0
              clear hq0
              obtain ⟨x0, hx0⟩ : ∃ x : Int, x = quV p b1 b2 b3 c1 c2 c3 := ⟨_, rfl⟩
              have Hx0 := Lib.hid hx0
              clear hx0
              (go_wp2_with fail; refine Calls.mono (implPlq_any p b1 b2 b3 c1 c2 c3 _ hp (by omega) (by omega) (by omega) (by omega) (by omega) (by omega)) ?_; rw [← Hx0.out, HQ0.out.1]; rintro e u0 ⟨rfl, hU0⟩)
              have hUs0 := hU0.size
              have hXU0 : Below X0.heap.size X0 u0 := by (repeat (first | with_reducible exact Below.refl _ _ | with_reducible exact hU0 | with_reducible refine balloc ?_ _ | with_reducible refine bdrewN ?_ _ | with_reducible refine Below.drew ?_ | with_reducible refine bthen ?_ (by with_reducible assumption) | with_reducible refine Below.setCell ?_ (by first | (simp; done) | (simp; omega)) _))
              have hXs0 := hXU0.size
              have HV := Lib.hid (qo_st (a1 := a1) (a2 := a2) (a3 := a3) (b1 := b1) (b2 := b2) (b3 := b3) (c1 := c1) (c2 := c2) (c3 := c3) (k := 5) hp HBB.out (by simp [qoS, HNL.out]) (by decide))
              go_wp2
              (refine bodyPost_ret (v := .tuple #[.slice none 0 0, .int .i64 (qoC p a1 a2 a3 b1 b2 b3 c1 c2 c3)]) (by simp [results, Try.results30, go_sem, HV.out.2]) rfl (slicePost_nil HV.out.1 ?_))
              exact bthen hWX0 hXU0
          · have HNL := Lib.hid (show (ppd p b1 b2 b3 b1 b2 b3 == 0) = true from n1)
            have z0_0 : X0.cell? ⟨g, 0, none⟩ = some (.int .i64 b1) := g0
            have z0_1 : X0.cell? ⟨g, 1, none⟩ = some (.int .i64 b2) := g1
            have z0_2 : X0.cell? ⟨g, 2, none⟩ = some (.int .i64 b3) := g2
            have z0_3 : X0.cell? ⟨g, 3, none⟩ = some (.int .i64 c1) := g3
            have z0_4 : X0.cell? ⟨g, 4, none⟩ = some (.int .i64 c2) := g4
            have z0_5 : X0.cell? ⟨g, 5, none⟩ = some (.int .i64 c3) := g5
            have hq0 : quC p b1 b2 b3 c1 c2 c3 = 5 ∧ quV p b1 b2 b3 c1 c2 c3 = 0 := by simp [quC, quV, quZ, HNL.out]
            have HQ0 := Lib.hid hq0
            clear hq0
            obtain ⟨x0, hx0⟩ : ∃ x : Int, x = quV p b1 b2 b3 c1 c2 c3 := ⟨_, rfl⟩
            have Hx0 := Lib.hid hx0
            clear hx0
            (go_wp2_with fail; refine Calls.mono (implPlq_any p b1 b2 b3 c1 c2 c3 _ hp (by omega) (by omega) (by omega) (by omega) (by omega) (by omega)) ?_; rw [← Hx0.out, HQ0.out.1]; rintro e u0 ⟨rfl, hU0⟩)
            have hUs0 := hU0.size
            have hXU0 : Below X0.heap.size X0 u0 := by (repeat (first | with_reducible exact Below.refl _ _ | with_reducible exact hU0 | with_reducible refine balloc ?_ _ | with_reducible refine bdrewN ?_ _ | with_reducible refine Below.drew ?_ | with_reducible refine bthen ?_ (by with_reducible assumption) | with_reducible refine Below.setCell ?_ (by first | (simp; done) | (simp; omega)) _))
            have hXs0 := hXU0.size
            have HV := Lib.hid (qo_st (a1 := a1) (a2 := a2) (a3 := a3) (b1 := b1) (b2 := b2) (b3 := b3) (c1 := c1) (c2 := c2) (c3 := c3) (k := 5) hp HBB.out (by simp [qoS, HNL.out]) (by decide))
            go_wp2
            (refine bodyPost_ret (v := .tuple #[.slice none 0 0, .int .i64 (qoC p a1 a2 a3 b1 b2 b3 c1 c2 c3)]) (by simp [results, Try.results30, go_sem, HV.out.2]) rfl (slicePost_nil HV.out.1 ?_))
            exact bthen hWX0 hXU0

theorem qo_len (p a1 a2 a3 b1 b2 b3 c1 c2 c3 : Int) : (qoL p a1 a2 a3 b1 b2 b3 c1 c2 c3).length ≤ 4096 := by
  unfold qoL
  split
  · exact (by decide : 3 ≤ 4096)
  · simp

end Go.Proofs.Ytgklnlblghookaa
