/-
  OrthicPoints: the program's and the model's.
-/
import Derived.Test.YtjjeekmhpcllaaaSpecFootIn
import Derived.Test.YtjjeekmhpcllaaaSpecThrough
import Derived.Test.YtjjeekmhpcllaaaImplLine
import Derived.Test.YtjjeekmhpcllaaaMeetAlt
import Derived.Test.YtjjeekmhpcllaaaSpecTriCode
import Derived.Test.YtjjeekmhpcllaaaImplTriCode
import Derived.Test.YtjjeekmhpcllaaaImplCol
import Derived.Test.YtjjeekmhpcllaaaSlice
import Derived.Test.YtjjeekmhpcllaaaPtCells
import Derived.Test.YtjjeekmhpcllaaaGrow
import Derived.Test.YtjjeekmhpcllaaaArr3
import Derived.Deep.RegionHeld3
import Derived.Deep.DeepCutAuto
import Derived.Test.YtjjeekmhpcllaaaBaseMath
import Derived.Test.YtjjeekmhpcllaaaKeepDrew
namespace Go.Proofs.Ytjjeekmhpcllaaa
open Go.RowKit

set_option linter.unusedVariables false in
def ogB (p col a1 a2 b1 b2 c1 c2 : Int) : Bool := colB col && numsIn p [a1, a2, b1, b2, c1, c2]
set_option linter.unusedVariables false in
def ogS (p col a1 a2 b1 b2 c1 c2 : Int) : Int := if (area p a1 a2 b1 b2 c1 c2 == 0) = true then 5 else if (perpB p col (th1 p b1 b2 c1 c2) (th2 p b1 b2 c1 c2) (th1 p b1 b2 c1 c2) (th2 p b1 b2 c1 c2)) = true then 5 else if (perpB p col (th1 p a1 a2 c1 c2) (th2 p a1 a2 c1 c2) (th1 p a1 a2 c1 c2) (th2 p a1 a2 c1 c2)) = true then 5 else if (perpB p col (th1 p a1 a2 b1 b2) (th2 p a1 a2 b1 b2) (th1 p a1 a2 b1 b2) (th2 p a1 a2 b1 b2)) = true then 5 else 0
set_option linter.unusedVariables false in
def ogC (p col a1 a2 b1 b2 c1 c2 : Int) : Int := if isP p = true then (if ogB p col a1 a2 b1 b2 c1 c2 = true then ogS p col a1 a2 b1 b2 c1 c2 else 2) else 1
set_option linter.unusedVariables false in
def ogL (p col a1 a2 b1 b2 c1 c2 : Int) : List Int := if ogC p col a1 a2 b1 b2 c1 c2 = 0 then [ftX p col a1 a2 (th1 p b1 b2 c1 c2) (th2 p b1 b2 c1 c2) (th3 p b1 b2 c1 c2), ftY p col a1 a2 (th1 p b1 b2 c1 c2) (th2 p b1 b2 c1 c2) (th3 p b1 b2 c1 c2), ftX p col b1 b2 (th1 p a1 a2 c1 c2) (th2 p a1 a2 c1 c2) (th3 p a1 a2 c1 c2), ftY p col b1 b2 (th1 p a1 a2 c1 c2) (th2 p a1 a2 c1 c2) (th3 p a1 a2 c1 c2), ftX p col c1 c2 (th1 p a1 a2 b1 b2) (th2 p a1 a2 b1 b2) (th3 p a1 a2 b1 b2), ftY p col c1 c2 (th1 p a1 a2 b1 b2) (th2 p a1 a2 b1 b2) (th3 p a1 a2 b1 b2)] else []
theorem og_zero {p col a1 a2 b1 b2 c1 c2 k : Int} (h : ogC p col a1 a2 b1 b2 c1 c2 = k) (hk : k ≠ 0) : ogL p col a1 a2 b1 b2 c1 c2 = [] ∧ ogC p col a1 a2 b1 b2 c1 c2 = k := ⟨if_neg fun e => hk (h.symm.trans e), h⟩
theorem og_no {p col a1 a2 b1 b2 c1 c2 : Int} (h : isP p = false) : ogL p col a1 a2 b1 b2 c1 c2 = [] ∧ ogC p col a1 a2 b1 b2 c1 c2 = 1 := og_zero (by simp [ogC, h]) (by decide)
theorem og_out {p col a1 a2 b1 b2 c1 c2 : Int} (hp : isP p = true) (h : ogB p col a1 a2 b1 b2 c1 c2 = false) : ogL p col a1 a2 b1 b2 c1 c2 = [] ∧ ogC p col a1 a2 b1 b2 c1 c2 = 2 := og_zero (by simp [ogC, hp, h]) (by decide)
theorem og_st {p col a1 a2 b1 b2 c1 c2 k : Int} (hp : isP p = true) (h : ogB p col a1 a2 b1 b2 c1 c2 = true) (hs : ogS p col a1 a2 b1 b2 c1 c2 = k) (hk : k ≠ 0) : ogL p col a1 a2 b1 b2 c1 c2 = [] ∧ ogC p col a1 a2 b1 b2 c1 c2 = k := og_zero (by simp [ogC, hp, h, hs]) hk
theorem og_good {p col a1 a2 b1 b2 c1 c2 : Int} (hp : isP p = true) (h : ogB p col a1 a2 b1 b2 c1 c2 = true) (hs : ogS p col a1 a2 b1 b2 c1 c2 = 0) : ogL p col a1 a2 b1 b2 c1 c2 = [ftX p col a1 a2 (th1 p b1 b2 c1 c2) (th2 p b1 b2 c1 c2) (th3 p b1 b2 c1 c2), ftY p col a1 a2 (th1 p b1 b2 c1 c2) (th2 p b1 b2 c1 c2) (th3 p b1 b2 c1 c2), ftX p col b1 b2 (th1 p a1 a2 c1 c2) (th2 p a1 a2 c1 c2) (th3 p a1 a2 c1 c2), ftY p col b1 b2 (th1 p a1 a2 c1 c2) (th2 p a1 a2 c1 c2) (th3 p a1 a2 c1 c2), ftX p col c1 c2 (th1 p a1 a2 b1 b2) (th2 p a1 a2 b1 b2) (th3 p a1 a2 b1 b2), ftY p col c1 c2 (th1 p a1 a2 b1 b2) (th2 p a1 a2 b1 b2) (th3 p a1 a2 b1 b2)] ∧ ogC p col a1 a2 b1 b2 c1 c2 = 0 := by
  have h' : ogC p col a1 a2 b1 b2 c1 c2 = 0 := by simp [ogC, hp, h, hs]
  exact ⟨if_pos h', h'⟩

set_option linter.unusedSimpArgs false in
set_option maxRecDepth 20000 in
set_option maxHeartbeats 4000000 in
theorem specOrthicPoints_any (p col a1 a2 b1 b2 c1 c2 : Int) (w : World) :
    Calls Try.prog 34 #[.int .i64 p, .int .i64 col, .agg #[.int .i64 a1, .int .i64 a2], .agg #[.int .i64 b1, .int .i64 b2], .agg #[.int .i64 c1, .int .i64 c2]] w fun e w' =>
      SlicePost 25 2 (ogL p col a1 a2 b1 b2 c1 c2) (ogC p col a1 a2 b1 b2 c1 c2) w e w' := by
  go_enter Try.func34, Try.ntmps34
  go_upto_region 0 with fail
  go_cut [7, 8, 9, 10, 11] (fun s7 s8 s9 s10 s11 wx => s7 = .pointer (some ⟨w.heap.size, 0, none⟩) ∧ s8 = .pointer (some ⟨w.heap.size + 1, 0, none⟩) ∧ s9 = .pointer (some ⟨w.heap.size + 1 + 1, 0, none⟩) ∧ s10 = .slice none 0 0 ∧ s11 = .int .i64 0 ∧ wx.cell? ⟨w.heap.size, 0, none⟩ = some (.int .i64 a1) ∧ wx.cell? ⟨w.heap.size, 1, none⟩ = some (.int .i64 a2) ∧ wx.cell? ⟨w.heap.size + 1, 0, none⟩ = some (.int .i64 b1) ∧ wx.cell? ⟨w.heap.size + 1, 1, none⟩ = some (.int .i64 b2) ∧ wx.cell? ⟨w.heap.size + 1 + 1, 0, none⟩ = some (.int .i64 c1) ∧ wx.cell? ⟨w.heap.size + 1 + 1, 1, none⟩ = some (.int .i64 c2) ∧ wx.frozen? ⟨w.heap.size, 0, none⟩ = false ∧ wx.frozen? ⟨w.heap.size, 1, none⟩ = false ∧ wx.frozen? ⟨w.heap.size + 1, 0, none⟩ = false ∧ wx.frozen? ⟨w.heap.size + 1, 1, none⟩ = false ∧ wx.frozen? ⟨w.heap.size + 1 + 1, 0, none⟩ = false ∧ wx.frozen? ⟨w.heap.size + 1 + 1, 1, none⟩ = false ∧ Below w.heap.size w wx ∧ w.heap.size + 1 + 1 + 1 ≤ wx.heap.size)
  case first =>
    go_wp2
    go_meet
    refine ⟨rfl, rfl, rfl, rfl, rfl, ?_, ?_, ?_, ?_, ?_, ?_, ?_, ?_, ?_, ?_, ?_, ?_, ?_, ?_⟩
    · (repeat (first | with_reducible assumption | ((with_reducible refine kfresh ?_ ?_) <;> (first | with_reducible rfl | (simp; done))) | ((with_reducible refine ksameS ?_); focus ((repeat (first | with_reducible exact kis_of (by with_reducible assumption) | with_reducible refine kis_set ?_ | ((with_reducible refine kis_new ?_ ?_) <;> (first | with_reducible rfl | rfl | (simp; done))) | with_reducible refine kis_alloc _ ?_ | with_reducible refine kis_drew ?_ | with_reducible refine kis_call (by with_reducible assumption) ?_ | with_reducible exact kis_of (kcall (by with_reducible assumption) (by with_reducible assumption)))); done)) | with_reducible refine kother (by decide) ?_ | with_reducible refine kset (by first | omega | (simp; done) | (simp; omega)) ?_ | with_reducible refine kalloc _ ?_ | with_reducible refine kdrew ?_ | with_reducible refine kcall (by with_reducible assumption) ?_))
    · (repeat (first | with_reducible assumption | ((with_reducible refine kfresh ?_ ?_) <;> (first | with_reducible rfl | (simp; done))) | ((with_reducible refine ksameS ?_); focus ((repeat (first | with_reducible exact kis_of (by with_reducible assumption) | with_reducible refine kis_set ?_ | ((with_reducible refine kis_new ?_ ?_) <;> (first | with_reducible rfl | rfl | (simp; done))) | with_reducible refine kis_alloc _ ?_ | with_reducible refine kis_drew ?_ | with_reducible refine kis_call (by with_reducible assumption) ?_ | with_reducible exact kis_of (kcall (by with_reducible assumption) (by with_reducible assumption)))); done)) | with_reducible refine kother (by decide) ?_ | with_reducible refine kset (by first | omega | (simp; done) | (simp; omega)) ?_ | with_reducible refine kalloc _ ?_ | with_reducible refine kdrew ?_ | with_reducible refine kcall (by with_reducible assumption) ?_))
    · (repeat (first | with_reducible assumption | ((with_reducible refine kfresh ?_ ?_) <;> (first | with_reducible rfl | (simp; done))) | ((with_reducible refine ksameS ?_); focus ((repeat (first | with_reducible exact kis_of (by with_reducible assumption) | with_reducible refine kis_set ?_ | ((with_reducible refine kis_new ?_ ?_) <;> (first | with_reducible rfl | rfl | (simp; done))) | with_reducible refine kis_alloc _ ?_ | with_reducible refine kis_drew ?_ | with_reducible refine kis_call (by with_reducible assumption) ?_ | with_reducible exact kis_of (kcall (by with_reducible assumption) (by with_reducible assumption)))); done)) | with_reducible refine kother (by decide) ?_ | with_reducible refine kset (by first | omega | (simp; done) | (simp; omega)) ?_ | with_reducible refine kalloc _ ?_ | with_reducible refine kdrew ?_ | with_reducible refine kcall (by with_reducible assumption) ?_))
    · (repeat (first | with_reducible assumption | ((with_reducible refine kfresh ?_ ?_) <;> (first | with_reducible rfl | (simp; done))) | ((with_reducible refine ksameS ?_); focus ((repeat (first | with_reducible exact kis_of (by with_reducible assumption) | with_reducible refine kis_set ?_ | ((with_reducible refine kis_new ?_ ?_) <;> (first | with_reducible rfl | rfl | (simp; done))) | with_reducible refine kis_alloc _ ?_ | with_reducible refine kis_drew ?_ | with_reducible refine kis_call (by with_reducible assumption) ?_ | with_reducible exact kis_of (kcall (by with_reducible assumption) (by with_reducible assumption)))); done)) | with_reducible refine kother (by decide) ?_ | with_reducible refine kset (by first | omega | (simp; done) | (simp; omega)) ?_ | with_reducible refine kalloc _ ?_ | with_reducible refine kdrew ?_ | with_reducible refine kcall (by with_reducible assumption) ?_))
    · (repeat (first | with_reducible assumption | ((with_reducible refine kfresh ?_ ?_) <;> (first | with_reducible rfl | (simp; done))) | ((with_reducible refine ksameS ?_); focus ((repeat (first | with_reducible exact kis_of (by with_reducible assumption) | with_reducible refine kis_set ?_ | ((with_reducible refine kis_new ?_ ?_) <;> (first | with_reducible rfl | rfl | (simp; done))) | with_reducible refine kis_alloc _ ?_ | with_reducible refine kis_drew ?_ | with_reducible refine kis_call (by with_reducible assumption) ?_ | with_reducible exact kis_of (kcall (by with_reducible assumption) (by with_reducible assumption)))); done)) | with_reducible refine kother (by decide) ?_ | with_reducible refine kset (by first | omega | (simp; done) | (simp; omega)) ?_ | with_reducible refine kalloc _ ?_ | with_reducible refine kdrew ?_ | with_reducible refine kcall (by with_reducible assumption) ?_))
    · (repeat (first | with_reducible assumption | ((with_reducible refine kfresh ?_ ?_) <;> (first | with_reducible rfl | (simp; done))) | ((with_reducible refine ksameS ?_); focus ((repeat (first | with_reducible exact kis_of (by with_reducible assumption) | with_reducible refine kis_set ?_ | ((with_reducible refine kis_new ?_ ?_) <;> (first | with_reducible rfl | rfl | (simp; done))) | with_reducible refine kis_alloc _ ?_ | with_reducible refine kis_drew ?_ | with_reducible refine kis_call (by with_reducible assumption) ?_ | with_reducible exact kis_of (kcall (by with_reducible assumption) (by with_reducible assumption)))); done)) | with_reducible refine kother (by decide) ?_ | with_reducible refine kset (by first | omega | (simp; done) | (simp; omega)) ?_ | with_reducible refine kalloc _ ?_ | with_reducible refine kdrew ?_ | with_reducible refine kcall (by with_reducible assumption) ?_))
    · (repeat (first | with_reducible assumption | with_reducible refine fdrew ?_ | with_reducible refine fset ?_ | ((with_reducible refine fallocNew ?_) <;> (first | with_reducible rfl | (simp; done))) | ((with_reducible refine kfro (by with_reducible assumption) ?_ ?_); focus (first | with_reducible assumption | (simp; done) | (simp; omega))) | ((with_reducible refine falloc ?_ ?_); focus (first | with_reducible assumption | (simp; done) | (simp; omega)))))
    · (repeat (first | with_reducible assumption | with_reducible refine fdrew ?_ | with_reducible refine fset ?_ | ((with_reducible refine fallocNew ?_) <;> (first | with_reducible rfl | (simp; done))) | ((with_reducible refine kfro (by with_reducible assumption) ?_ ?_); focus (first | with_reducible assumption | (simp; done) | (simp; omega))) | ((with_reducible refine falloc ?_ ?_); focus (first | with_reducible assumption | (simp; done) | (simp; omega)))))
    · (repeat (first | with_reducible assumption | with_reducible refine fdrew ?_ | with_reducible refine fset ?_ | ((with_reducible refine fallocNew ?_) <;> (first | with_reducible rfl | (simp; done))) | ((with_reducible refine kfro (by with_reducible assumption) ?_ ?_); focus (first | with_reducible assumption | (simp; done) | (simp; omega))) | ((with_reducible refine falloc ?_ ?_); focus (first | with_reducible assumption | (simp; done) | (simp; omega)))))
    · (repeat (first | with_reducible assumption | with_reducible refine fdrew ?_ | with_reducible refine fset ?_ | ((with_reducible refine fallocNew ?_) <;> (first | with_reducible rfl | (simp; done))) | ((with_reducible refine kfro (by with_reducible assumption) ?_ ?_); focus (first | with_reducible assumption | (simp; done) | (simp; omega))) | ((with_reducible refine falloc ?_ ?_); focus (first | with_reducible assumption | (simp; done) | (simp; omega)))))
    · (repeat (first | with_reducible assumption | with_reducible refine fdrew ?_ | with_reducible refine fset ?_ | ((with_reducible refine fallocNew ?_) <;> (first | with_reducible rfl | (simp; done))) | ((with_reducible refine kfro (by with_reducible assumption) ?_ ?_); focus (first | with_reducible assumption | (simp; done) | (simp; omega))) | ((with_reducible refine falloc ?_ ?_); focus (first | with_reducible assumption | (simp; done) | (simp; omega)))))
    · (repeat (first | with_reducible assumption | with_reducible refine fdrew ?_ | with_reducible refine fset ?_ | ((with_reducible refine fallocNew ?_) <;> (first | with_reducible rfl | (simp; done))) | ((with_reducible refine kfro (by with_reducible assumption) ?_ ?_); focus (first | with_reducible assumption | (simp; done) | (simp; omega))) | ((with_reducible refine falloc ?_ ?_); focus (first | with_reducible assumption | (simp; done) | (simp; omega)))))
    · (repeat (first | with_reducible exact Below.refl _ _ | with_reducible refine balloc ?_ _ | with_reducible refine bdrewN ?_ _ | with_reducible refine Below.drew ?_ | with_reducible refine bthen ?_ (by with_reducible assumption) | with_reducible refine Below.setCell ?_ (by first | (simp; done) | (simp; omega)) _))
    · (first | omega | (simp; done) | (simp; omega))
  case' rest => obtain ⟨rfl, rfl, rfl, rfl, rfl, cO0, cO1, cO2, cO3, cO4, cO5, fO0, fO1, fO2, fO3, fO4, fO5, hxO, hsO⟩ := hcut
  obtain ⟨wO, rfl⟩ : ∃ wO : World, wO = wc := ⟨_, rfl⟩
  have lO0 : w.heap.size < wO.heap.size := by omega
  have lO1 : w.heap.size + 1 < wO.heap.size := by omega
  have lO2 : w.heap.size + 1 + 1 < wO.heap.size := by omega
  rcases bool_ways (isP p) with hd1 | hd1
  · skip
    have c_1 : tcC p (colB col) a1 a2 b1 b2 c1 c2 = 1 := by simp [tcC, hd1]
    go_wp2_with fail
    refine Calls.mono (specTri4_any _ _ _ _ _ _ _ _ _ ) ?_
    rintro e w1 ⟨rfl, hB1⟩
    (obtain ⟨hB1c, hB1f⟩ := bcell hB1; have hB1s := hB1.size; (try simp at hB1s); (try have hB1q1 := Nat.lt_of_succ_le hB1s); (try have hB1q2 := Nat.lt_of_succ_lt hB1q1); (try have hB1q3 := Nat.lt_of_succ_lt hB1q2); (try have hB1zw0 : w.heap.size < w1.heap.size := (by omega)); (try have hB1zw1 : w.heap.size + 1 < w1.heap.size := (by omega)); (try have hB1zw2 : w.heap.size + 1 + 1 < w1.heap.size := (by omega)); (try have hB1zw3 : w.heap.size + 1 + 1 + 1 < w1.heap.size := (by omega)); (try have hB1zw4 : w.heap.size + 1 + 1 + 1 + 1 < w1.heap.size := (by omega)); (try have hB1zwO0 : wO.heap.size < w1.heap.size := (by omega)); (try have hB1zwO1 : wO.heap.size + 1 < w1.heap.size := (by omega)); (try have hB1zwO2 : wO.heap.size + 1 + 1 < w1.heap.size := (by omega)); (try have hB1zwO3 : wO.heap.size + 1 + 1 + 1 < w1.heap.size := (by omega)); (try have hB1zwO4 : wO.heap.size + 1 + 1 + 1 + 1 < w1.heap.size := (by omega)))
    have HV := Lib.hid (og_no (col := col) (a1 := a1) (a2 := a2) (b1 := b1) (b2 := b2) (c1 := c1) (c2 := c2) hd1)
    go_wp2
    (refine bodyPost_ret (v := .tuple #[.slice none 0 0, .int .i64 (ogC p col a1 a2 b1 b2 c1 c2)]) (by simp [results, Try.results34, go_sem, HV.out.2]) rfl (slicePost_nil HV.out.1 ?_))
    (repeat (first | with_reducible exact Below.refl _ _ | with_reducible exact hxO | with_reducible refine balloc ?_ _ | with_reducible refine bdrewN ?_ _ | with_reducible refine Below.drew ?_ | with_reducible refine bthen ?_ (by with_reducible assumption) | with_reducible refine Below.setCell ?_ (by first | (simp; done) | (simp; omega)) _))
  · have hp := hd1
    have hr := isP_range hp
    rcases bool_ways (colB col) with hd2 | hd2
    · skip
      have c_1 : tcC p (colB col) a1 a2 b1 b2 c1 c2 = 2 := by simp [tcC, hd1, hd2]
      have c_1b : tcC p false a1 a2 b1 b2 c1 c2 = 2 := by simp [tcC, hd1, hd2]
      go_wp2_with fail
      refine Calls.mono (specTri4_any _ _ _ _ _ _ _ _ _ ) ?_
      rintro e w1 ⟨rfl, hB1⟩
      (obtain ⟨hB1c, hB1f⟩ := bcell hB1; have hB1s := hB1.size; (try simp at hB1s); (try have hB1q1 := Nat.lt_of_succ_le hB1s); (try have hB1q2 := Nat.lt_of_succ_lt hB1q1); (try have hB1q3 := Nat.lt_of_succ_lt hB1q2); (try have hB1zw0 : w.heap.size < w1.heap.size := (by omega)); (try have hB1zw1 : w.heap.size + 1 < w1.heap.size := (by omega)); (try have hB1zw2 : w.heap.size + 1 + 1 < w1.heap.size := (by omega)); (try have hB1zw3 : w.heap.size + 1 + 1 + 1 < w1.heap.size := (by omega)); (try have hB1zw4 : w.heap.size + 1 + 1 + 1 + 1 < w1.heap.size := (by omega)); (try have hB1zwO0 : wO.heap.size < w1.heap.size := (by omega)); (try have hB1zwO1 : wO.heap.size + 1 < w1.heap.size := (by omega)); (try have hB1zwO2 : wO.heap.size + 1 + 1 < w1.heap.size := (by omega)); (try have hB1zwO3 : wO.heap.size + 1 + 1 + 1 < w1.heap.size := (by omega)); (try have hB1zwO4 : wO.heap.size + 1 + 1 + 1 + 1 < w1.heap.size := (by omega)))
      have HV := Lib.hid (og_out (col := col) (a1 := a1) (a2 := a2) (b1 := b1) (b2 := b2) (c1 := c1) (c2 := c2) hp (by simp [ogB, hd1, hd2]))
      go_wp2
      (refine bodyPost_ret (v := .tuple #[.slice none 0 0, .int .i64 (ogC p col a1 a2 b1 b2 c1 c2)]) (by simp [results, Try.results34, go_sem, HV.out.2]) rfl (slicePost_nil HV.out.1 ?_))
      (repeat (first | with_reducible exact Below.refl _ _ | with_reducible exact hxO | with_reducible refine balloc ?_ _ | with_reducible refine bdrewN ?_ _ | with_reducible refine Below.drew ?_ | with_reducible refine bthen ?_ (by with_reducible assumption) | with_reducible refine Below.setCell ?_ (by first | (simp; done) | (simp; omega)) _))
    · have hc := hd2
      have hcr := colB_range hc
      rcases bool_ways (numsIn p [a1, a2, b1, b2, c1, c2]) with hd3 | hd3
      · skip
        have c_1 : tcC p (colB col) a1 a2 b1 b2 c1 c2 = 2 := by simp [tcC, hd1, hd2, hd3]
        have c_1b : tcC p true a1 a2 b1 b2 c1 c2 = 2 := by simp [tcC, hd1, hd2, hd3]
        go_wp2_with fail
        refine Calls.mono (specTri4_any _ _ _ _ _ _ _ _ _ ) ?_
        rintro e w1 ⟨rfl, hB1⟩
        (obtain ⟨hB1c, hB1f⟩ := bcell hB1; have hB1s := hB1.size; (try simp at hB1s); (try have hB1q1 := Nat.lt_of_succ_le hB1s); (try have hB1q2 := Nat.lt_of_succ_lt hB1q1); (try have hB1q3 := Nat.lt_of_succ_lt hB1q2); (try have hB1zw0 : w.heap.size < w1.heap.size := (by omega)); (try have hB1zw1 : w.heap.size + 1 < w1.heap.size := (by omega)); (try have hB1zw2 : w.heap.size + 1 + 1 < w1.heap.size := (by omega)); (try have hB1zw3 : w.heap.size + 1 + 1 + 1 < w1.heap.size := (by omega)); (try have hB1zw4 : w.heap.size + 1 + 1 + 1 + 1 < w1.heap.size := (by omega)); (try have hB1zwO0 : wO.heap.size < w1.heap.size := (by omega)); (try have hB1zwO1 : wO.heap.size + 1 < w1.heap.size := (by omega)); (try have hB1zwO2 : wO.heap.size + 1 + 1 < w1.heap.size := (by omega)); (try have hB1zwO3 : wO.heap.size + 1 + 1 + 1 < w1.heap.size := (by omega)); (try have hB1zwO4 : wO.heap.size + 1 + 1 + 1 + 1 < w1.heap.size := (by omega)))
        have HV := Lib.hid (og_out (col := col) (a1 := a1) (a2 := a2) (b1 := b1) (b2 := b2) (c1 := c1) (c2 := c2) hp (by simp [ogB, hd1, hd2, hd3]))
        go_wp2
        (refine bodyPost_ret (v := .tuple #[.slice none 0 0, .int .i64 (ogC p col a1 a2 b1 b2 c1 c2)]) (by simp [results, Try.results34, go_sem, HV.out.2]) rfl (slicePost_nil HV.out.1 ?_))
        (repeat (first | with_reducible exact Below.refl _ _ | with_reducible exact hxO | with_reducible refine balloc ?_ _ | with_reducible refine bdrewN ?_ _ | with_reducible refine Below.drew ?_ | with_reducible refine bthen ?_ (by with_reducible assumption) | with_reducible refine Below.setCell ?_ (by first | (simp; done) | (simp; omega)) _))
      · have hd3q := nums6 hd3
        rcases bool_ways (area p a1 a2 b1 b2 c1 c2 == 0) with hd4 | hd4
        · have hd4n : (area p a1 a2 b1 b2 c1 c2 != 0) = true := by rw [bne, hd4]; rfl
          have Hhd4p := Lib.hid (beq_eq_false_iff_ne.1 hd4)
          have c_1 : tcC p (colB col) a1 a2 b1 b2 c1 c2 = 0 := by simp [tcC, hd1, hd2, hd3, hd4]
          have c_1b : tcC p true a1 a2 b1 b2 c1 c2 = 0 := by simp [tcC, hd1, hd2, hd3, hd4]
          go_wp2_with fail
          refine Calls.mono (specTri4_any _ _ _ _ _ _ _ _ _ ) ?_
          rintro e w1 ⟨rfl, hB1⟩
          (obtain ⟨hB1c, hB1f⟩ := bcell hB1; have hB1s := hB1.size; (try simp at hB1s); (try have hB1q1 := Nat.lt_of_succ_le hB1s); (try have hB1q2 := Nat.lt_of_succ_lt hB1q1); (try have hB1q3 := Nat.lt_of_succ_lt hB1q2); (try have hB1zw0 : w.heap.size < w1.heap.size := (by omega)); (try have hB1zw1 : w.heap.size + 1 < w1.heap.size := (by omega)); (try have hB1zw2 : w.heap.size + 1 + 1 < w1.heap.size := (by omega)); (try have hB1zw3 : w.heap.size + 1 + 1 + 1 < w1.heap.size := (by omega)); (try have hB1zw4 : w.heap.size + 1 + 1 + 1 + 1 < w1.heap.size := (by omega)); (try have hB1zwO0 : wO.heap.size < w1.heap.size := (by omega)); (try have hB1zwO1 : wO.heap.size + 1 < w1.heap.size := (by omega)); (try have hB1zwO2 : wO.heap.size + 1 + 1 < w1.heap.size := (by omega)); (try have hB1zwO3 : wO.heap.size + 1 + 1 + 1 < w1.heap.size := (by omega)); (try have hB1zwO4 : wO.heap.size + 1 + 1 + 1 + 1 < w1.heap.size := (by omega)))
          have hA := hd4
          have HA := Lib.hid hA
          have HBB := Lib.hid (show ogB p col a1 a2 b1 b2 c1 c2 = true from by simp [ogB, hc, hd3])
          have hLB0 := th_line (a1 := b1) (a2 := b2) (b1 := c1) (b2 := c2) hp (by omega) (by omega) (by omega) (by omega) (tri_bc hA)
          have rL01 := th1_r b1 b2 c1 c2 hp
          have rL02 := th2_r b1 b2 c1 c2 hp
          have rL03 := th3_r b1 b2 c1 c2 hp
          obtain ⟨L01, hL01⟩ : ∃ v : Int, v = th1 p b1 b2 c1 c2 := ⟨_, rfl⟩
          rw [← hL01] at hLB0 rL01
          have HL01 := Lib.hid hL01
          clear hL01
          obtain ⟨L02, hL02⟩ : ∃ v : Int, v = th2 p b1 b2 c1 c2 := ⟨_, rfl⟩
          rw [← hL02] at hLB0 rL02
          have HL02 := Lib.hid hL02
          clear hL02
          obtain ⟨L03, hL03⟩ : ∃ v : Int, v = th3 p b1 b2 c1 c2 := ⟨_, rfl⟩
          rw [← hL03] at hLB0 rL03
          have HL03 := Lib.hid hL03
          clear hL03
          have HLB0 := Lib.hid hLB0
          clear hLB0
          have hLB1 := th_line (a1 := a1) (a2 := a2) (b1 := c1) (b2 := c2) hp (by omega) (by omega) (by omega) (by omega) (tri_ac hA)
          have rL11 := th1_r a1 a2 c1 c2 hp
          have rL12 := th2_r a1 a2 c1 c2 hp
          have rL13 := th3_r a1 a2 c1 c2 hp
          obtain ⟨L11, hL11⟩ : ∃ v : Int, v = th1 p a1 a2 c1 c2 := ⟨_, rfl⟩
          rw [← hL11] at hLB1 rL11
          have HL11 := Lib.hid hL11
          clear hL11
          obtain ⟨L12, hL12⟩ : ∃ v : Int, v = th2 p a1 a2 c1 c2 := ⟨_, rfl⟩
          rw [← hL12] at hLB1 rL12
          have HL12 := Lib.hid hL12
          clear hL12
          obtain ⟨L13, hL13⟩ : ∃ v : Int, v = th3 p a1 a2 c1 c2 := ⟨_, rfl⟩
          rw [← hL13] at hLB1 rL13
          have HL13 := Lib.hid hL13
          clear hL13
          have HLB1 := Lib.hid hLB1
          clear hLB1
          have hLB2 := th_line (a1 := a1) (a2 := a2) (b1 := b1) (b2 := b2) hp (by omega) (by omega) (by omega) (by omega) (tri_ab hA)
          have rL21 := th1_r a1 a2 b1 b2 hp
          have rL22 := th2_r a1 a2 b1 b2 hp
          have rL23 := th3_r a1 a2 b1 b2 hp
          obtain ⟨L21, hL21⟩ : ∃ v : Int, v = th1 p a1 a2 b1 b2 := ⟨_, rfl⟩
          rw [← hL21] at hLB2 rL21
          have HL21 := Lib.hid hL21
          clear hL21
          obtain ⟨L22, hL22⟩ : ∃ v : Int, v = th2 p a1 a2 b1 b2 := ⟨_, rfl⟩
          rw [← hL22] at hLB2 rL22
          have HL22 := Lib.hid hL22
          clear hL22
          obtain ⟨L23, hL23⟩ : ∃ v : Int, v = th3 p a1 a2 b1 b2 := ⟨_, rfl⟩
          rw [← hL23] at hLB2 rL23
          have HL23 := Lib.hid hL23
          clear hL23
          have HLB2 := Lib.hid hLB2
          clear hLB2
          obtain ⟨i0, hi, hz0, hz1, hz2⟩ := info_parts infoPt
          have ka0 : w1.cell? ⟨w.heap.size, 0, none⟩ = some (.int .i64 a1) := by (first | with_reducible assumption | (repeat (first | with_reducible assumption | ((with_reducible refine kfresh ?_ ?_) <;> (first | with_reducible rfl | (simp; done))) | ((with_reducible refine ksameS ?_); focus ((repeat (first | with_reducible exact kis_of (by with_reducible assumption) | with_reducible refine kis_set ?_ | ((with_reducible refine kis_new ?_ ?_) <;> (first | with_reducible rfl | rfl | (simp; done))) | with_reducible refine kis_alloc _ ?_ | with_reducible refine kis_drew ?_ | with_reducible refine kis_call (by with_reducible assumption) ?_ | with_reducible exact kis_of (kcall (by with_reducible assumption) (by with_reducible assumption)))); done)) | with_reducible refine kother (by decide) ?_ | with_reducible refine kset (by first | omega | (simp; done) | (simp; omega)) ?_ | with_reducible refine kalloc _ ?_ | with_reducible refine kdrew ?_ | with_reducible refine kcall (by with_reducible assumption) ?_)))
          have ka1 : w1.cell? ⟨w.heap.size, 1, none⟩ = some (.int .i64 a2) := by (first | with_reducible assumption | (repeat (first | with_reducible assumption | ((with_reducible refine kfresh ?_ ?_) <;> (first | with_reducible rfl | (simp; done))) | ((with_reducible refine ksameS ?_); focus ((repeat (first | with_reducible exact kis_of (by with_reducible assumption) | with_reducible refine kis_set ?_ | ((with_reducible refine kis_new ?_ ?_) <;> (first | with_reducible rfl | rfl | (simp; done))) | with_reducible refine kis_alloc _ ?_ | with_reducible refine kis_drew ?_ | with_reducible refine kis_call (by with_reducible assumption) ?_ | with_reducible exact kis_of (kcall (by with_reducible assumption) (by with_reducible assumption)))); done)) | with_reducible refine kother (by decide) ?_ | with_reducible refine kset (by first | omega | (simp; done) | (simp; omega)) ?_ | with_reducible refine kalloc _ ?_ | with_reducible refine kdrew ?_ | with_reducible refine kcall (by with_reducible assumption) ?_)))
          have ka2 : w1.cell? ⟨w.heap.size + 1, 0, none⟩ = some (.int .i64 b1) := by (first | with_reducible assumption | (repeat (first | with_reducible assumption | ((with_reducible refine kfresh ?_ ?_) <;> (first | with_reducible rfl | (simp; done))) | ((with_reducible refine ksameS ?_); focus ((repeat (first | with_reducible exact kis_of (by with_reducible assumption) | with_reducible refine kis_set ?_ | ((with_reducible refine kis_new ?_ ?_) <;> (first | with_reducible rfl | rfl | (simp; done))) | with_reducible refine kis_alloc _ ?_ | with_reducible refine kis_drew ?_ | with_reducible refine kis_call (by with_reducible assumption) ?_ | with_reducible exact kis_of (kcall (by with_reducible assumption) (by with_reducible assumption)))); done)) | with_reducible refine kother (by decide) ?_ | with_reducible refine kset (by first | omega | (simp; done) | (simp; omega)) ?_ | with_reducible refine kalloc _ ?_ | with_reducible refine kdrew ?_ | with_reducible refine kcall (by with_reducible assumption) ?_)))
          have ka3 : w1.cell? ⟨w.heap.size + 1, 1, none⟩ = some (.int .i64 b2) := by (first | with_reducible assumption | (repeat (first | with_reducible assumption | ((with_reducible refine kfresh ?_ ?_) <;> (first | with_reducible rfl | (simp; done))) | ((with_reducible refine ksameS ?_); focus ((repeat (first | with_reducible exact kis_of (by with_reducible assumption) | with_reducible refine kis_set ?_ | ((with_reducible refine kis_new ?_ ?_) <;> (first | with_reducible rfl | rfl | (simp; done))) | with_reducible refine kis_alloc _ ?_ | with_reducible refine kis_drew ?_ | with_reducible refine kis_call (by with_reducible assumption) ?_ | with_reducible exact kis_of (kcall (by with_reducible assumption) (by with_reducible assumption)))); done)) | with_reducible refine kother (by decide) ?_ | with_reducible refine kset (by first | omega | (simp; done) | (simp; omega)) ?_ | with_reducible refine kalloc _ ?_ | with_reducible refine kdrew ?_ | with_reducible refine kcall (by with_reducible assumption) ?_)))
          have ka4 : w1.cell? ⟨w.heap.size + 1 + 1, 0, none⟩ = some (.int .i64 c1) := by (first | with_reducible assumption | (repeat (first | with_reducible assumption | ((with_reducible refine kfresh ?_ ?_) <;> (first | with_reducible rfl | (simp; done))) | ((with_reducible refine ksameS ?_); focus ((repeat (first | with_reducible exact kis_of (by with_reducible assumption) | with_reducible refine kis_set ?_ | ((with_reducible refine kis_new ?_ ?_) <;> (first | with_reducible rfl | rfl | (simp; done))) | with_reducible refine kis_alloc _ ?_ | with_reducible refine kis_drew ?_ | with_reducible refine kis_call (by with_reducible assumption) ?_ | with_reducible exact kis_of (kcall (by with_reducible assumption) (by with_reducible assumption)))); done)) | with_reducible refine kother (by decide) ?_ | with_reducible refine kset (by first | omega | (simp; done) | (simp; omega)) ?_ | with_reducible refine kalloc _ ?_ | with_reducible refine kdrew ?_ | with_reducible refine kcall (by with_reducible assumption) ?_)))
          have ka5 : w1.cell? ⟨w.heap.size + 1 + 1, 1, none⟩ = some (.int .i64 c2) := by (first | with_reducible assumption | (repeat (first | with_reducible assumption | ((with_reducible refine kfresh ?_ ?_) <;> (first | with_reducible rfl | (simp; done))) | ((with_reducible refine ksameS ?_); focus ((repeat (first | with_reducible exact kis_of (by with_reducible assumption) | with_reducible refine kis_set ?_ | ((with_reducible refine kis_new ?_ ?_) <;> (first | with_reducible rfl | rfl | (simp; done))) | with_reducible refine kis_alloc _ ?_ | with_reducible refine kis_drew ?_ | with_reducible refine kis_call (by with_reducible assumption) ?_ | with_reducible exact kis_of (kcall (by with_reducible assumption) (by with_reducible assumption)))); done)) | with_reducible refine kother (by decide) ?_ | with_reducible refine kset (by first | omega | (simp; done) | (simp; omega)) ?_ | with_reducible refine kalloc _ ?_ | with_reducible refine kdrew ?_ | with_reducible refine kcall (by with_reducible assumption) ?_)))
          have hW0 : Below w.heap.size w w1 := by (repeat (first | with_reducible exact Below.refl _ _ | with_reducible exact hxO | with_reducible refine balloc ?_ _ | with_reducible refine bdrewN ?_ _ | with_reducible refine Below.drew ?_ | with_reducible refine bthen ?_ (by with_reducible assumption) | with_reducible refine Below.setCell ?_ (by first | (simp; done) | (simp; omega)) _))
          have q0 : ∀ W : World, Below w1.heap.size w1 W → W.cell? ⟨w.heap.size, 0, none⟩ = some (.int .i64 a1) := fun W h => bholds ka0 h
          have q1 : ∀ W : World, Below w1.heap.size w1 W → W.cell? ⟨w.heap.size, 1, none⟩ = some (.int .i64 a2) := fun W h => bholds ka1 h
          have q2 : ∀ W : World, Below w1.heap.size w1 W → W.cell? ⟨w.heap.size + 1, 0, none⟩ = some (.int .i64 b1) := fun W h => bholds ka2 h
          have q3 : ∀ W : World, Below w1.heap.size w1 W → W.cell? ⟨w.heap.size + 1, 1, none⟩ = some (.int .i64 b2) := fun W h => bholds ka3 h
          have q4 : ∀ W : World, Below w1.heap.size w1 W → W.cell? ⟨w.heap.size + 1 + 1, 0, none⟩ = some (.int .i64 c1) := fun W h => bholds ka4 h
          have q5 : ∀ W : World, Below w1.heap.size w1 W → W.cell? ⟨w.heap.size + 1 + 1, 1, none⟩ = some (.int .i64 c2) := fun W h => bholds ka5 h
          go_upto_region 4 with fail
          go_cut [13] (fun s13 wx => ∃ g : Nat, s13 = .slice (some ⟨g, 0, none⟩) 3 3 ∧ wx.cell? ⟨g, 0, none⟩ = some (.int .i64 L01) ∧ wx.cell? ⟨g, 1, none⟩ = some (.int .i64 L02) ∧ wx.cell? ⟨g, 2, none⟩ = some (.int .i64 L03) ∧ wx.cell? ⟨g, 3, none⟩ = some (.int .i64 L11) ∧ wx.cell? ⟨g, 4, none⟩ = some (.int .i64 L12) ∧ wx.cell? ⟨g, 5, none⟩ = some (.int .i64 L13) ∧ wx.cell? ⟨g, 6, none⟩ = some (.int .i64 L21) ∧ wx.cell? ⟨g, 7, none⟩ = some (.int .i64 L22) ∧ wx.cell? ⟨g, 8, none⟩ = some (.int .i64 L23) ∧ Below w1.heap.size w1 wx)
          case first =>
            go_region_held3 (fun W => Below w1.heap.size w1 W) (first | with_reducible assumption | with_reducible exact bthen (by with_reducible assumption) hB | with_reducible exact bfromdrew hB | with_reducible exact balloc (by with_reducible assumption) _ | with_reducible exact Below.drew (balloc (bundrew (by with_reducible assumption)) _) | with_reducible exact brealloc (by first | exact Nat.le_refl _ | omega | (simp; done) | (simp; omega)) (by with_reducible assumption) | with_reducible exact Below.drew (brealloc (by first | exact Nat.le_refl _ | omega | (simp; done) | (simp; omega)) (bundrew (by with_reducible assumption))) | ((repeat with_reducible refine Below.setCell ?_ (by first | exact Nat.le_refl _ | omega | (simp; done) | (simp; omega)) _); with_reducible assumption) | with_reducible exact Below.refl _ _ | with_reducible exact Below.drew (Below.refl _ _) | with_reducible exact Below.drew (by with_reducible assumption)) (first | (go_at_call 57; refine Calls.mono (specThrough_any _ _ _ _ _ _ hp (by omega) (by omega) (by omega) (by omega)) ?_; (first | rw [← HL01.out, ← HL02.out, ← HL03.out] | rw [← HL11.out, ← HL12.out, ← HL13.out] | rw [← HL21.out, ← HL22.out, ← HL23.out]); rintro e wq ⟨rfl, hB⟩; have hBs := hB.size; (try simp at hBs)))
            all_goals
              go_wp2_with fail
              go_meet
              refine ⟨_, rfl, ?_, ?_, ?_, ?_, ?_, ?_, ?_, ?_, ?_, ?_⟩
              · (repeat (first | with_reducible assumption | ((with_reducible refine kfresh ?_ ?_) <;> (first | with_reducible rfl | (simp; done))) | ((with_reducible refine ksameS ?_); focus ((repeat (first | with_reducible exact kis_of (by with_reducible assumption) | with_reducible refine kis_set ?_ | ((with_reducible refine kis_new ?_ ?_) <;> (first | with_reducible rfl | rfl | (simp; done))) | with_reducible refine kis_alloc _ ?_ | with_reducible refine kis_drew ?_ | with_reducible refine kis_call (by with_reducible assumption) ?_ | with_reducible exact kis_of (kcall (by with_reducible assumption) (by with_reducible assumption)))); done)) | with_reducible refine kother (by decide) ?_ | with_reducible refine kset (by first | omega | (simp; done) | (simp; omega)) ?_ | with_reducible refine kalloc _ ?_ | with_reducible refine kdrew ?_ | with_reducible refine kcall (by with_reducible assumption) ?_))
              · (repeat (first | with_reducible assumption | ((with_reducible refine kfresh ?_ ?_) <;> (first | with_reducible rfl | (simp; done))) | ((with_reducible refine ksameS ?_); focus ((repeat (first | with_reducible exact kis_of (by with_reducible assumption) | with_reducible refine kis_set ?_ | ((with_reducible refine kis_new ?_ ?_) <;> (first | with_reducible rfl | rfl | (simp; done))) | with_reducible refine kis_alloc _ ?_ | with_reducible refine kis_drew ?_ | with_reducible refine kis_call (by with_reducible assumption) ?_ | with_reducible exact kis_of (kcall (by with_reducible assumption) (by with_reducible assumption)))); done)) | with_reducible refine kother (by decide) ?_ | with_reducible refine kset (by first | omega | (simp; done) | (simp; omega)) ?_ | with_reducible refine kalloc _ ?_ | with_reducible refine kdrew ?_ | with_reducible refine kcall (by with_reducible assumption) ?_))
              · (repeat (first | with_reducible assumption | ((with_reducible refine kfresh ?_ ?_) <;> (first | with_reducible rfl | (simp; done))) | ((with_reducible refine ksameS ?_); focus ((repeat (first | with_reducible exact kis_of (by with_reducible assumption) | with_reducible refine kis_set ?_ | ((with_reducible refine kis_new ?_ ?_) <;> (first | with_reducible rfl | rfl | (simp; done))) | with_reducible refine kis_alloc _ ?_ | with_reducible refine kis_drew ?_ | with_reducible refine kis_call (by with_reducible assumption) ?_ | with_reducible exact kis_of (kcall (by with_reducible assumption) (by with_reducible assumption)))); done)) | with_reducible refine kother (by decide) ?_ | with_reducible refine kset (by first | omega | (simp; done) | (simp; omega)) ?_ | with_reducible refine kalloc _ ?_ | with_reducible refine kdrew ?_ | with_reducible refine kcall (by with_reducible assumption) ?_))
              · (repeat (first | with_reducible assumption | ((with_reducible refine kfresh ?_ ?_) <;> (first | with_reducible rfl | (simp; done))) | ((with_reducible refine ksameS ?_); focus ((repeat (first | with_reducible exact kis_of (by with_reducible assumption) | with_reducible refine kis_set ?_ | ((with_reducible refine kis_new ?_ ?_) <;> (first | with_reducible rfl | rfl | (simp; done))) | with_reducible refine kis_alloc _ ?_ | with_reducible refine kis_drew ?_ | with_reducible refine kis_call (by with_reducible assumption) ?_ | with_reducible exact kis_of (kcall (by with_reducible assumption) (by with_reducible assumption)))); done)) | with_reducible refine kother (by decide) ?_ | with_reducible refine kset (by first | omega | (simp; done) | (simp; omega)) ?_ | with_reducible refine kalloc _ ?_ | with_reducible refine kdrew ?_ | with_reducible refine kcall (by with_reducible assumption) ?_))
              · (repeat (first | with_reducible assumption | ((with_reducible refine kfresh ?_ ?_) <;> (first | with_reducible rfl | (simp; done))) | ((with_reducible refine ksameS ?_); focus ((repeat (first | with_reducible exact kis_of (by with_reducible assumption) | with_reducible refine kis_set ?_ | ((with_reducible refine kis_new ?_ ?_) <;> (first | with_reducible rfl | rfl | (simp; done))) | with_reducible refine kis_alloc _ ?_ | with_reducible refine kis_drew ?_ | with_reducible refine kis_call (by with_reducible assumption) ?_ | with_reducible exact kis_of (kcall (by with_reducible assumption) (by with_reducible assumption)))); done)) | with_reducible refine kother (by decide) ?_ | with_reducible refine kset (by first | omega | (simp; done) | (simp; omega)) ?_ | with_reducible refine kalloc _ ?_ | with_reducible refine kdrew ?_ | with_reducible refine kcall (by with_reducible assumption) ?_))
              · (repeat (first | with_reducible assumption | ((with_reducible refine kfresh ?_ ?_) <;> (first | with_reducible rfl | (simp; done))) | ((with_reducible refine ksameS ?_); focus ((repeat (first | with_reducible exact kis_of (by with_reducible assumption) | with_reducible refine kis_set ?_ | ((with_reducible refine kis_new ?_ ?_) <;> (first | with_reducible rfl | rfl | (simp; done))) | with_reducible refine kis_alloc _ ?_ | with_reducible refine kis_drew ?_ | with_reducible refine kis_call (by with_reducible assumption) ?_ | with_reducible exact kis_of (kcall (by with_reducible assumption) (by with_reducible assumption)))); done)) | with_reducible refine kother (by decide) ?_ | with_reducible refine kset (by first | omega | (simp; done) | (simp; omega)) ?_ | with_reducible refine kalloc _ ?_ | with_reducible refine kdrew ?_ | with_reducible refine kcall (by with_reducible assumption) ?_))
              · (repeat (first | with_reducible assumption | ((with_reducible refine kfresh ?_ ?_) <;> (first | with_reducible rfl | (simp; done))) | ((with_reducible refine ksameS ?_); focus ((repeat (first | with_reducible exact kis_of (by with_reducible assumption) | with_reducible refine kis_set ?_ | ((with_reducible refine kis_new ?_ ?_) <;> (first | with_reducible rfl | rfl | (simp; done))) | with_reducible refine kis_alloc _ ?_ | with_reducible refine kis_drew ?_ | with_reducible refine kis_call (by with_reducible assumption) ?_ | with_reducible exact kis_of (kcall (by with_reducible assumption) (by with_reducible assumption)))); done)) | with_reducible refine kother (by decide) ?_ | with_reducible refine kset (by first | omega | (simp; done) | (simp; omega)) ?_ | with_reducible refine kalloc _ ?_ | with_reducible refine kdrew ?_ | with_reducible refine kcall (by with_reducible assumption) ?_))
              · (repeat (first | with_reducible assumption | ((with_reducible refine kfresh ?_ ?_) <;> (first | with_reducible rfl | (simp; done))) | ((with_reducible refine ksameS ?_); focus ((repeat (first | with_reducible exact kis_of (by with_reducible assumption) | with_reducible refine kis_set ?_ | ((with_reducible refine kis_new ?_ ?_) <;> (first | with_reducible rfl | rfl | (simp; done))) | with_reducible refine kis_alloc _ ?_ | with_reducible refine kis_drew ?_ | with_reducible refine kis_call (by with_reducible assumption) ?_ | with_reducible exact kis_of (kcall (by with_reducible assumption) (by with_reducible assumption)))); done)) | with_reducible refine kother (by decide) ?_ | with_reducible refine kset (by first | omega | (simp; done) | (simp; omega)) ?_ | with_reducible refine kalloc _ ?_ | with_reducible refine kdrew ?_ | with_reducible refine kcall (by with_reducible assumption) ?_))
              · (repeat (first | with_reducible assumption | ((with_reducible refine kfresh ?_ ?_) <;> (first | with_reducible rfl | (simp; done))) | ((with_reducible refine ksameS ?_); focus ((repeat (first | with_reducible exact kis_of (by with_reducible assumption) | with_reducible refine kis_set ?_ | ((with_reducible refine kis_new ?_ ?_) <;> (first | with_reducible rfl | rfl | (simp; done))) | with_reducible refine kis_alloc _ ?_ | with_reducible refine kis_drew ?_ | with_reducible refine kis_call (by with_reducible assumption) ?_ | with_reducible exact kis_of (kcall (by with_reducible assumption) (by with_reducible assumption)))); done)) | with_reducible refine kother (by decide) ?_ | with_reducible refine kset (by first | omega | (simp; done) | (simp; omega)) ?_ | with_reducible refine kalloc _ ?_ | with_reducible refine kdrew ?_ | with_reducible refine kcall (by with_reducible assumption) ?_))
              · (first | with_reducible assumption | (repeat (first | with_reducible exact Below.refl _ _ | with_reducible refine balloc ?_ _ | with_reducible refine bdrewN ?_ _ | with_reducible refine Below.drew ?_ | with_reducible refine bthen ?_ (by with_reducible assumption) | with_reducible refine Below.setCell ?_ (by first | (simp; done) | (simp; omega)) _)))
          case' rest => obtain ⟨g, rfl, g0, g1, g2, g3, g4, g5, g6, g7, g8, hzL⟩ := hcut
          obtain ⟨wL, rfl⟩ : ∃ wL : World, wL = wc := ⟨_, rfl⟩
          have kb0 := q0 wL hzL
          have kb1 := q1 wL hzL
          have kb2 := q2 wL hzL
          have kb3 := q3 wL hzL
          have kb4 := q4 wL hzL
          have kb5 := q5 wL hzL
          clear q0 q1 q2 q3 q4 q5
          have hlg : g < wL.heap.size := World.block_lt_of_cell? wL ⟨g, 0, none⟩ g0
          have hWL : Below w.heap.size w wL := bthen hW0 hzL
          have hsL := hzL.size
          go_upto_region 5 with fail
          go_cut [14, 15] (fun s14 s15 wx => ∃ h h2 : Nat, wL.heap.size ≤ h ∧ s14 = .slice (some ⟨h, 0, none⟩) 3 3 ∧ s15 = .slice (some ⟨h2, 0, none⟩) 0 0 ∧ wx.cell? ⟨h, 0, none⟩ = some (.int .i64 a1) ∧ wx.cell? ⟨h, 1, none⟩ = some (.int .i64 a2) ∧ wx.cell? ⟨h, 2, none⟩ = some (.int .i64 b1) ∧ wx.cell? ⟨h, 3, none⟩ = some (.int .i64 b2) ∧ wx.cell? ⟨h, 4, none⟩ = some (.int .i64 c1) ∧ wx.cell? ⟨h, 5, none⟩ = some (.int .i64 c2) ∧ wx.ownsRow (h + 1) 25 2 (.slice (some ⟨h2, 0, none⟩) 0 0) 0 (ints []) ∧ Below wL.heap.size wL wx)
          case first =>
            go_wp2
            go_meet
            refine ⟨_, _, ?_, rfl, rfl, ?_, ?_, ?_, ?_, ?_, ?_, ?_, ?_⟩
            · (first | exact Nat.le_refl _ | omega | (simp; done) | (simp; omega))
            · (repeat (first | with_reducible assumption | ((with_reducible refine kfresh ?_ ?_) <;> (first | with_reducible rfl | (simp; done))) | ((with_reducible refine ksameS ?_); focus ((repeat (first | with_reducible exact kis_of (by with_reducible assumption) | with_reducible refine kis_set ?_ | ((with_reducible refine kis_new ?_ ?_) <;> (first | with_reducible rfl | rfl | (simp; done))) | with_reducible refine kis_alloc _ ?_ | with_reducible refine kis_drew ?_ | with_reducible refine kis_call (by with_reducible assumption) ?_ | with_reducible exact kis_of (kcall (by with_reducible assumption) (by with_reducible assumption)))); done)) | with_reducible refine kother (by decide) ?_ | with_reducible refine kset (by first | omega | (simp; done) | (simp; omega)) ?_ | with_reducible refine kalloc _ ?_ | with_reducible refine kdrew ?_ | with_reducible refine kcall (by with_reducible assumption) ?_))
            · (repeat (first | with_reducible assumption | ((with_reducible refine kfresh ?_ ?_) <;> (first | with_reducible rfl | (simp; done))) | ((with_reducible refine ksameS ?_); focus ((repeat (first | with_reducible exact kis_of (by with_reducible assumption) | with_reducible refine kis_set ?_ | ((with_reducible refine kis_new ?_ ?_) <;> (first | with_reducible rfl | rfl | (simp; done))) | with_reducible refine kis_alloc _ ?_ | with_reducible refine kis_drew ?_ | with_reducible refine kis_call (by with_reducible assumption) ?_ | with_reducible exact kis_of (kcall (by with_reducible assumption) (by with_reducible assumption)))); done)) | with_reducible refine kother (by decide) ?_ | with_reducible refine kset (by first | omega | (simp; done) | (simp; omega)) ?_ | with_reducible refine kalloc _ ?_ | with_reducible refine kdrew ?_ | with_reducible refine kcall (by with_reducible assumption) ?_))
            · (repeat (first | with_reducible assumption | ((with_reducible refine kfresh ?_ ?_) <;> (first | with_reducible rfl | (simp; done))) | ((with_reducible refine ksameS ?_); focus ((repeat (first | with_reducible exact kis_of (by with_reducible assumption) | with_reducible refine kis_set ?_ | ((with_reducible refine kis_new ?_ ?_) <;> (first | with_reducible rfl | rfl | (simp; done))) | with_reducible refine kis_alloc _ ?_ | with_reducible refine kis_drew ?_ | with_reducible refine kis_call (by with_reducible assumption) ?_ | with_reducible exact kis_of (kcall (by with_reducible assumption) (by with_reducible assumption)))); done)) | with_reducible refine kother (by decide) ?_ | with_reducible refine kset (by first | omega | (simp; done) | (simp; omega)) ?_ | with_reducible refine kalloc _ ?_ | with_reducible refine kdrew ?_ | with_reducible refine kcall (by with_reducible assumption) ?_))
            · (repeat (first | with_reducible assumption | ((with_reducible refine kfresh ?_ ?_) <;> (first | with_reducible rfl | (simp; done))) | ((with_reducible refine ksameS ?_); focus ((repeat (first | with_reducible exact kis_of (by with_reducible assumption) | with_reducible refine kis_set ?_ | ((with_reducible refine kis_new ?_ ?_) <;> (first | with_reducible rfl | rfl | (simp; done))) | with_reducible refine kis_alloc _ ?_ | with_reducible refine kis_drew ?_ | with_reducible refine kis_call (by with_reducible assumption) ?_ | with_reducible exact kis_of (kcall (by with_reducible assumption) (by with_reducible assumption)))); done)) | with_reducible refine kother (by decide) ?_ | with_reducible refine kset (by first | omega | (simp; done) | (simp; omega)) ?_ | with_reducible refine kalloc _ ?_ | with_reducible refine kdrew ?_ | with_reducible refine kcall (by with_reducible assumption) ?_))
            · (repeat (first | with_reducible assumption | ((with_reducible refine kfresh ?_ ?_) <;> (first | with_reducible rfl | (simp; done))) | ((with_reducible refine ksameS ?_); focus ((repeat (first | with_reducible exact kis_of (by with_reducible assumption) | with_reducible refine kis_set ?_ | ((with_reducible refine kis_new ?_ ?_) <;> (first | with_reducible rfl | rfl | (simp; done))) | with_reducible refine kis_alloc _ ?_ | with_reducible refine kis_drew ?_ | with_reducible refine kis_call (by with_reducible assumption) ?_ | with_reducible exact kis_of (kcall (by with_reducible assumption) (by with_reducible assumption)))); done)) | with_reducible refine kother (by decide) ?_ | with_reducible refine kset (by first | omega | (simp; done) | (simp; omega)) ?_ | with_reducible refine kalloc _ ?_ | with_reducible refine kdrew ?_ | with_reducible refine kcall (by with_reducible assumption) ?_))
            · (repeat (first | with_reducible assumption | ((with_reducible refine kfresh ?_ ?_) <;> (first | with_reducible rfl | (simp; done))) | ((with_reducible refine ksameS ?_); focus ((repeat (first | with_reducible exact kis_of (by with_reducible assumption) | with_reducible refine kis_set ?_ | ((with_reducible refine kis_new ?_ ?_) <;> (first | with_reducible rfl | rfl | (simp; done))) | with_reducible refine kis_alloc _ ?_ | with_reducible refine kis_drew ?_ | with_reducible refine kis_call (by with_reducible assumption) ?_ | with_reducible exact kis_of (kcall (by with_reducible assumption) (by with_reducible assumption)))); done)) | with_reducible refine kother (by decide) ?_ | with_reducible refine kset (by first | omega | (simp; done) | (simp; omega)) ?_ | with_reducible refine kalloc _ ?_ | with_reducible refine kdrew ?_ | with_reducible refine kcall (by with_reducible assumption) ?_))
            · exact own_lit0 _ _ _ (by first | omega | (simp; done) | (simp; omega)) (by first | rfl | (simp; done) | (simp; omega))
            · (repeat (first | with_reducible exact Below.refl _ _ | with_reducible refine balloc ?_ _ | with_reducible refine bdrewN ?_ _ | with_reducible refine Below.drew ?_ | with_reducible refine bthen ?_ (by with_reducible assumption) | with_reducible refine Below.setCell ?_ (by first | (simp; done) | (simp; omega)) _))
          case' rest => obtain ⟨h, h2, hhL, rfl, rfl, h0p, h1p, h2p, h3p, h4p, h5p, hown0, hzP⟩ := hcut
          obtain ⟨wP, rfl⟩ : ∃ wP : World, wP = wc := ⟨_, rfl⟩
          have hlh : h < wP.heap.size := World.block_lt_of_cell? wP ⟨h, 0, none⟩ h0p
          have hsP := hzP.size
          have hWP : Below w.heap.size w wP := bthen hWL hzP
          have g0P : wP.cell? ⟨g, 0, none⟩ = some (.int .i64 L01) := (cell_old hzP hlg 0).trans g0
          have g1P : wP.cell? ⟨g, 1, none⟩ = some (.int .i64 L02) := (cell_old hzP hlg 1).trans g1
          have g2P : wP.cell? ⟨g, 2, none⟩ = some (.int .i64 L03) := (cell_old hzP hlg 2).trans g2
          have g3P : wP.cell? ⟨g, 3, none⟩ = some (.int .i64 L11) := (cell_old hzP hlg 3).trans g3
          have g4P : wP.cell? ⟨g, 4, none⟩ = some (.int .i64 L12) := (cell_old hzP hlg 4).trans g4
          have g5P : wP.cell? ⟨g, 5, none⟩ = some (.int .i64 L13) := (cell_old hzP hlg 5).trans g5
          have g6P : wP.cell? ⟨g, 6, none⟩ = some (.int .i64 L21) := (cell_old hzP hlg 6).trans g6
          have g7P : wP.cell? ⟨g, 7, none⟩ = some (.int .i64 L22) := (cell_old hzP hlg 7).trans g7
          have g8P : wP.cell? ⟨g, 8, none⟩ = some (.int .i64 L23) := (cell_old hzP hlg 8).trans g8
          go_wp2_with fail
          refine wp_loop_rounds 4 ?_
          rw [rounds_succ]
          have p0_0 : wP.cell? ⟨h, 0, none⟩ = some (.int .i64 a1) := h0p
          have p0_1 : wP.cell? ⟨h, 1, none⟩ = some (.int .i64 a2) := h1p
          have l0_0 : wP.cell? ⟨g, 0, none⟩ = some (.int .i64 L01) := g0P
          have l0_1 : wP.cell? ⟨g, 1, none⟩ = some (.int .i64 L02) := g1P
          have l0_2 : wP.cell? ⟨g, 2, none⟩ = some (.int .i64 L03) := g2P
          rcases bool_ways (perpB p col L01 L02 L01 L02) with hq | hq
          · have HQ0 := Lib.hid hq
            obtain ⟨x0, hx⟩ : ∃ v : Int, v = fwX p col a1 a2 L01 L02 L03 := ⟨_, rfl⟩
            have HX0 := Lib.hid hx
            clear hx
            obtain ⟨y0, hy⟩ : ∃ v : Int, v = fwY p col a1 a2 L01 L02 L03 := ⟨_, rfl⟩
            have HY0 := Lib.hid hy
            clear hy
            clear hq
            have q0 : ∀ W : World, Below wP.heap.size wP W → W.cell? ⟨h, 0, none⟩ = some (.int .i64 a1) := fun W h => bholds p0_0 h
            have q1 : ∀ W : World, Below wP.heap.size wP W → W.cell? ⟨h, 1, none⟩ = some (.int .i64 a2) := fun W h => bholds p0_1 h
            have q2 : ∀ W : World, Below wP.heap.size wP W → W.cell? ⟨g, 0, none⟩ = some (.int .i64 L01) := fun W h => bholds l0_0 h
            have q3 : ∀ W : World, Below wP.heap.size wP W → W.cell? ⟨g, 1, none⟩ = some (.int .i64 L02) := fun W h => bholds l0_1 h
            have q4 : ∀ W : World, Below wP.heap.size wP W → W.cell? ⟨g, 2, none⟩ = some (.int .i64 L03) := fun W h => bholds l0_2 h
            go_upto_region 9 with fail
            go_cut [17, 18] (fun s17 s18 wx => ∃ k : Nat, s17 = .pointer (some ⟨k, 0, none⟩) ∧ s18 = .bool true ∧ wx.cell? ⟨k, 0, none⟩ = some (.int .i64 x0) ∧ wx.cell? ⟨k, 1, none⟩ = some (.int .i64 y0) ∧ Below wP.heap.size wP wx)
            case first =>
              go_region_held3 (fun W => Below wP.heap.size wP W) (first | with_reducible assumption | with_reducible exact bthen (by with_reducible assumption) hB | with_reducible exact bfromdrew hB | with_reducible exact balloc (by with_reducible assumption) _ | with_reducible exact Below.drew (balloc (bundrew (by with_reducible assumption)) _) | with_reducible exact brealloc (by first | exact Nat.le_refl _ | omega | (simp; done) | (simp; omega)) (by with_reducible assumption) | with_reducible exact Below.drew (brealloc (by first | exact Nat.le_refl _ | omega | (simp; done) | (simp; omega)) (bundrew (by with_reducible assumption))) | ((repeat with_reducible refine Below.setCell ?_ (by first | exact Nat.le_refl _ | omega | (simp; done) | (simp; omega)) _); with_reducible assumption) | with_reducible exact Below.refl _ _ | with_reducible exact Below.drew (Below.refl _ _) | with_reducible exact Below.drew (by with_reducible assumption)) (first | (go_at_call 74; refine Calls.mono (specFootIn _ _ _ _ _ _ _ _ hp hc (by omega) (by omega) HLB0.out) ?_; rw [← HX0.out, ← HY0.out]; rw [HQ0.out]; rintro e wq ⟨rfl, hB⟩; (obtain ⟨hBc, hBf⟩ := bcell hB; have hBs := hB.size; (try simp at hBs); (try have hBq1 := Nat.lt_of_succ_le hBs); (try have hBq2 := Nat.lt_of_succ_lt hBq1); (try have hBq3 := Nat.lt_of_succ_lt hBq2); (try have hBzw0 : w.heap.size < wq.heap.size := (by omega)); (try have hBzw1 : w.heap.size + 1 < wq.heap.size := (by omega)); (try have hBzw2 : w.heap.size + 1 + 1 < wq.heap.size := (by omega)); (try have hBzw3 : w.heap.size + 1 + 1 + 1 < wq.heap.size := (by omega)); (try have hBzw4 : w.heap.size + 1 + 1 + 1 + 1 < wq.heap.size := (by omega)); (try have hBzw__heap_size : wP.heap.size < wq.heap.size := (by omega)))))
              all_goals
                go_wp2_with fail
                go_meet
                refine ⟨_, rfl, rfl, ?_, ?_, ?_⟩
                · (first | (simp; done) | (refine (kset2 (u0 := .int .i64 0) (u1 := .int .i64 0) ?_ ?_).1 <;> repeat (first | (simp; done) | exact kfresh (by first | rfl | (simp; done)) (by rfl) | refine kcall (by with_reducible assumption) ?_ | refine kdrew ?_)))
                · (first | (simp; done) | (refine (kset2 (u0 := .int .i64 0) (u1 := .int .i64 0) ?_ ?_).2 <;> repeat (first | (simp; done) | exact kfresh (by first | rfl | (simp; done)) (by rfl) | refine kcall (by with_reducible assumption) ?_ | refine kdrew ?_)))
                · (first | with_reducible assumption | (repeat (first | with_reducible exact Below.refl _ _ | with_reducible refine balloc ?_ _ | with_reducible refine bdrewN ?_ _ | with_reducible refine Below.drew ?_ | with_reducible refine bthen ?_ (by with_reducible assumption) | with_reducible refine Below.setCell ?_ (by first | (simp; done) | (simp; omega)) _)))
            case' rest => obtain ⟨k0, rfl, rfl, c0x, c0y, hzY0⟩ := hcut
            obtain ⟨wY0, rfl⟩ : ∃ wY : World, wY = wc := ⟨_, rfl⟩
            clear q0 q1 q2 q3 q4
            have hsY0 := hzY0.size
            have hXY0 : Below wP.heap.size wP wY0 := hzY0
            have ho0 := own_call hown0 hXY0
            go_wp2_with (at_builtin; refine wpList_append_own _ rfl _ _ 39 rfl ((h + 1)) 25 i0 (.agg #[.int .i64 0, .int .i64 0]) 2 16 Try.underlying39 hi hz0 hz1 hz2 rfl (by decide) _ _ _ rfl (ho0.alloc _) ⟨wY0.heap.size, 0, none⟩ 1 1 [.int .i64 x0, .int .i64 y0] rfl rfl (pt_cells rfl) (pt_one _ _) (by decide) (by decide) (by first | exact Nat.le_refl _ | omega | (simp; done) | (simp; omega)) ?_)
            intro z1 X1 hown1 hgrow _
            have hbY : Below (h + 1) wP wY0 := (Below.refl (h + 1) wP).trans (hXY0.mono (by omega))
            have hP1 : Below (h + 1) wP X1 := Below.grown (hbY.alloc (by omega) _) hgrow (by first | exact Nat.le_refl _ | omega | (simp; done) | (simp; omega)) (fun g hg => (ho0.lt g hg).1)
            have hWx1 : Below w.heap.size w X1 := hWP.trans (hP1.mono (by have := hWP.size; have := hW0.size; omega))
            clear hgrow hbY
            have hsX1 := hP1.size
            go_wp2
            rw [rounds_succ]
            have p1_0 : X1.cell? ⟨h, 2, none⟩ = some (.int .i64 b1) := (cell_old hP1 (by omega) 2).trans h2p
            have p1_1 : X1.cell? ⟨h, 3, none⟩ = some (.int .i64 b2) := (cell_old hP1 (by omega) 3).trans h3p
            have l1_0 : X1.cell? ⟨g, 3, none⟩ = some (.int .i64 L11) := (cell_old hP1 (by omega) 3).trans g3P
            have l1_1 : X1.cell? ⟨g, 4, none⟩ = some (.int .i64 L12) := (cell_old hP1 (by omega) 4).trans g4P
            have l1_2 : X1.cell? ⟨g, 5, none⟩ = some (.int .i64 L13) := (cell_old hP1 (by omega) 5).trans g5P
            rcases bool_ways (perpB p col L11 L12 L11 L12) with hq | hq
            · have HQ1 := Lib.hid hq
              obtain ⟨x1, hx⟩ : ∃ v : Int, v = fwX p col b1 b2 L11 L12 L13 := ⟨_, rfl⟩
              have HX1 := Lib.hid hx
              clear hx
              obtain ⟨y1, hy⟩ : ∃ v : Int, v = fwY p col b1 b2 L11 L12 L13 := ⟨_, rfl⟩
              have HY1 := Lib.hid hy
              clear hy
              clear hq
              have q0 : ∀ W : World, Below X1.heap.size X1 W → W.cell? ⟨h, 2, none⟩ = some (.int .i64 b1) := fun W h => bholds p1_0 h
              have q1 : ∀ W : World, Below X1.heap.size X1 W → W.cell? ⟨h, 3, none⟩ = some (.int .i64 b2) := fun W h => bholds p1_1 h
              have q2 : ∀ W : World, Below X1.heap.size X1 W → W.cell? ⟨g, 3, none⟩ = some (.int .i64 L11) := fun W h => bholds l1_0 h
              have q3 : ∀ W : World, Below X1.heap.size X1 W → W.cell? ⟨g, 4, none⟩ = some (.int .i64 L12) := fun W h => bholds l1_1 h
              have q4 : ∀ W : World, Below X1.heap.size X1 W → W.cell? ⟨g, 5, none⟩ = some (.int .i64 L13) := fun W h => bholds l1_2 h
              go_upto_region 9 with fail
              go_cut [17, 18] (fun s17 s18 wx => ∃ k : Nat, s17 = .pointer (some ⟨k, 0, none⟩) ∧ s18 = .bool true ∧ wx.cell? ⟨k, 0, none⟩ = some (.int .i64 x1) ∧ wx.cell? ⟨k, 1, none⟩ = some (.int .i64 y1) ∧ Below X1.heap.size X1 wx)
              case first =>
                go_region_held3 (fun W => Below X1.heap.size X1 W) (first | with_reducible assumption | with_reducible exact bthen (by with_reducible assumption) hB | with_reducible exact bfromdrew hB | with_reducible exact balloc (by with_reducible assumption) _ | with_reducible exact Below.drew (balloc (bundrew (by with_reducible assumption)) _) | with_reducible exact brealloc (by first | exact Nat.le_refl _ | omega | (simp; done) | (simp; omega)) (by with_reducible assumption) | with_reducible exact Below.drew (brealloc (by first | exact Nat.le_refl _ | omega | (simp; done) | (simp; omega)) (bundrew (by with_reducible assumption))) | ((repeat with_reducible refine Below.setCell ?_ (by first | exact Nat.le_refl _ | omega | (simp; done) | (simp; omega)) _); with_reducible assumption) | with_reducible exact Below.refl _ _ | with_reducible exact Below.drew (Below.refl _ _) | with_reducible exact Below.drew (by with_reducible assumption)) (first | (go_at_call 74; refine Calls.mono (specFootIn _ _ _ _ _ _ _ _ hp hc (by omega) (by omega) HLB1.out) ?_; rw [← HX1.out, ← HY1.out]; rw [HQ1.out]; rintro e wq ⟨rfl, hB⟩; (obtain ⟨hBc, hBf⟩ := bcell hB; have hBs := hB.size; (try simp at hBs); (try have hBq1 := Nat.lt_of_succ_le hBs); (try have hBq2 := Nat.lt_of_succ_lt hBq1); (try have hBq3 := Nat.lt_of_succ_lt hBq2); (try have hBzw0 : w.heap.size < wq.heap.size := (by omega)); (try have hBzw1 : w.heap.size + 1 < wq.heap.size := (by omega)); (try have hBzw2 : w.heap.size + 1 + 1 < wq.heap.size := (by omega)); (try have hBzw3 : w.heap.size + 1 + 1 + 1 < wq.heap.size := (by omega)); (try have hBzw4 : w.heap.size + 1 + 1 + 1 + 1 < wq.heap.size := (by omega)); (try have hBz_1_heap_size : X1.heap.size < wq.heap.size := (by omega)))))
                all_goals
                  go_wp2_with fail
                  go_meet
                  refine ⟨_, rfl, rfl, ?_, ?_, ?_⟩
                  · (first | (simp; done) | (refine (kset2 (u0 := .int .i64 0) (u1 := .int .i64 0) ?_ ?_).1 <;> repeat (first | (simp; done) | exact kfresh (by first | rfl | (simp; done)) (by rfl) | refine kcall (by with_reducible assumption) ?_ | refine kdrew ?_)))
                  · (first | (simp; done) | (refine (kset2 (u0 := .int .i64 0) (u1 := .int .i64 0) ?_ ?_).2 <;> repeat (first | (simp; done) | exact kfresh (by first | rfl | (simp; done)) (by rfl) | refine kcall (by with_reducible assumption) ?_ | refine kdrew ?_)))
                  · (first | with_reducible assumption | (repeat (first | with_reducible exact Below.refl _ _ | with_reducible refine balloc ?_ _ | with_reducible refine bdrewN ?_ _ | with_reducible refine Below.drew ?_ | with_reducible refine bthen ?_ (by with_reducible assumption) | with_reducible refine Below.setCell ?_ (by first | (simp; done) | (simp; omega)) _)))
              case' rest => obtain ⟨k1, rfl, rfl, c1x, c1y, hzY1⟩ := hcut
              obtain ⟨wY1, rfl⟩ : ∃ wY : World, wY = wc := ⟨_, rfl⟩
              clear q0 q1 q2 q3 q4
              have hsY1 := hzY1.size
              have hXY1 : Below X1.heap.size X1 wY1 := hzY1
              have ho1 := own_call hown1 hXY1
              go_wp2_with (at_builtin; refine wpList_append_own _ rfl _ _ 39 rfl ((h + 1)) 25 i0 (.agg #[.int .i64 0, .int .i64 0]) 2 16 Try.underlying39 hi hz0 hz1 hz2 rfl (by decide) _ _ _ rfl (ho1.alloc _) ⟨wY1.heap.size, 0, none⟩ 1 1 [.int .i64 x1, .int .i64 y1] rfl rfl (pt_cells rfl) (pt_one _ _) (by decide) (by decide) (by first | exact Nat.le_refl _ | omega | (simp; done) | (simp; omega)) ?_)
              intro z2 X2 hown2 hgrow _
              have hbY : Below (h + 1) wP wY1 := hP1.trans (hXY1.mono (by omega))
              have hP2 : Below (h + 1) wP X2 := Below.grown (hbY.alloc (by omega) _) hgrow (by first | exact Nat.le_refl _ | omega | (simp; done) | (simp; omega)) (fun g hg => (ho1.lt g hg).1)
              have hWx2 : Below w.heap.size w X2 := hWP.trans (hP2.mono (by have := hWP.size; have := hW0.size; omega))
              clear hgrow hbY
              have hsX2 := hP2.size
              go_wp2
              rw [rounds_succ]
              have p2_0 : X2.cell? ⟨h, 4, none⟩ = some (.int .i64 c1) := (cell_old hP2 (by omega) 4).trans h4p
              have p2_1 : X2.cell? ⟨h, 5, none⟩ = some (.int .i64 c2) := (cell_old hP2 (by omega) 5).trans h5p
              have l2_0 : X2.cell? ⟨g, 6, none⟩ = some (.int .i64 L21) := (cell_old hP2 (by omega) 6).trans g6P
              have l2_1 : X2.cell? ⟨g, 7, none⟩ = some (.int .i64 L22) := (cell_old hP2 (by omega) 7).trans g7P
              have l2_2 : X2.cell? ⟨g, 8, none⟩ = some (.int .i64 L23) := (cell_old hP2 (by omega) 8).trans g8P
              rcases bool_ways (perpB p col L21 L22 L21 L22) with hq | hq
              · have HQ2 := Lib.hid hq
                obtain ⟨x2, hx⟩ : ∃ v : Int, v = fwX p col c1 c2 L21 L22 L23 := ⟨_, rfl⟩
                have HX2 := Lib.hid hx
                clear hx
                obtain ⟨y2, hy⟩ : ∃ v : Int, v = fwY p col c1 c2 L21 L22 L23 := ⟨_, rfl⟩
                have HY2 := Lib.hid hy
                clear hy
                clear hq
                have q0 : ∀ W : World, Below X2.heap.size X2 W → W.cell? ⟨h, 4, none⟩ = some (.int .i64 c1) := fun W h => bholds p2_0 h
                have q1 : ∀ W : World, Below X2.heap.size X2 W → W.cell? ⟨h, 5, none⟩ = some (.int .i64 c2) := fun W h => bholds p2_1 h
                have q2 : ∀ W : World, Below X2.heap.size X2 W → W.cell? ⟨g, 6, none⟩ = some (.int .i64 L21) := fun W h => bholds l2_0 h
                have q3 : ∀ W : World, Below X2.heap.size X2 W → W.cell? ⟨g, 7, none⟩ = some (.int .i64 L22) := fun W h => bholds l2_1 h
                have q4 : ∀ W : World, Below X2.heap.size X2 W → W.cell? ⟨g, 8, none⟩ = some (.int .i64 L23) := fun W h => bholds l2_2 h
                go_upto_region 9 with fail
                go_cut [17, 18] (fun s17 s18 wx => ∃ k : Nat, s17 = .pointer (some ⟨k, 0, none⟩) ∧ s18 = .bool true ∧ wx.cell? ⟨k, 0, none⟩ = some (.int .i64 x2) ∧ wx.cell? ⟨k, 1, none⟩ = some (.int .i64 y2) ∧ Below X2.heap.size X2 wx)
                case first =>
                  go_region_held3 (fun W => Below X2.heap.size X2 W) (first | with_reducible assumption | with_reducible exact bthen (by with_reducible assumption) hB | with_reducible exact bfromdrew hB | with_reducible exact balloc (by with_reducible assumption) _ | with_reducible exact Below.drew (balloc (bundrew (by with_reducible assumption)) _) | with_reducible exact brealloc (by first | exact Nat.le_refl _ | omega | (simp; done) | (simp; omega)) (by with_reducible assumption) | with_reducible exact Below.drew (brealloc (by first | exact Nat.le_refl _ | omega | (simp; done) | (simp; omega)) (bundrew (by with_reducible assumption))) | ((repeat with_reducible refine Below.setCell ?_ (by first | exact Nat.le_refl _ | omega | (simp; done) | (simp; omega)) _); with_reducible assumption) | with_reducible exact Below.refl _ _ | with_reducible exact Below.drew (Below.refl _ _) | with_reducible exact Below.drew (by with_reducible assumption)) (first | (go_at_call 74; refine Calls.mono (specFootIn _ _ _ _ _ _ _ _ hp hc (by omega) (by omega) HLB2.out) ?_; rw [← HX2.out, ← HY2.out]; rw [HQ2.out]; rintro e wq ⟨rfl, hB⟩; (obtain ⟨hBc, hBf⟩ := bcell hB; have hBs := hB.size; (try simp at hBs); (try have hBq1 := Nat.lt_of_succ_le hBs); (try have hBq2 := Nat.lt_of_succ_lt hBq1); (try have hBq3 := Nat.lt_of_succ_lt hBq2); (try have hBzw0 : w.heap.size < wq.heap.size := (by omega)); (try have hBzw1 : w.heap.size + 1 < wq.heap.size := (by omega)); (try have hBzw2 : w.heap.size + 1 + 1 < wq.heap.size := (by omega)); (try have hBzw3 : w.heap.size + 1 + 1 + 1 < wq.heap.size := (by omega)); (try have hBzw4 : w.heap.size + 1 + 1 + 1 + 1 < wq.heap.size := (by omega)); (try have hBz_2_heap_size : X2.heap.size < wq.heap.size := (by omega)))))
                  all_goals
                    go_wp2_with fail
                    go_meet
                    refine ⟨_, rfl, rfl, ?_, ?_, ?_⟩
                    · (first | (simp; done) | (refine (kset2 (u0 := .int .i64 0) (u1 := .int .i64 0) ?_ ?_).1 <;> repeat (first | (simp; done) | exact kfresh (by first | rfl | (simp; done)) (by rfl) | refine kcall (by with_reducible assumption) ?_ | refine kdrew ?_)))
                    · (first | (simp; done) | (refine (kset2 (u0 := .int .i64 0) (u1 := .int .i64 0) ?_ ?_).2 <;> repeat (first | (simp; done) | exact kfresh (by first | rfl | (simp; done)) (by rfl) | refine kcall (by with_reducible assumption) ?_ | refine kdrew ?_)))
                    · (first | with_reducible assumption | (repeat (first | with_reducible exact Below.refl _ _ | with_reducible refine balloc ?_ _ | with_reducible refine bdrewN ?_ _ | with_reducible refine Below.drew ?_ | with_reducible refine bthen ?_ (by with_reducible assumption) | with_reducible refine Below.setCell ?_ (by first | (simp; done) | (simp; omega)) _)))
                case' rest => obtain ⟨k2, rfl, rfl, c2x, c2y, hzY2⟩ := hcut
                obtain ⟨wY2, rfl⟩ : ∃ wY : World, wY = wc := ⟨_, rfl⟩
                clear q0 q1 q2 q3 q4
                have hsY2 := hzY2.size
                have hXY2 : Below X2.heap.size X2 wY2 := hzY2
                have ho2 := own_call hown2 hXY2
                go_wp2_with (at_builtin; refine wpList_append_own _ rfl _ _ 39 rfl ((h + 1)) 25 i0 (.agg #[.int .i64 0, .int .i64 0]) 2 16 Try.underlying39 hi hz0 hz1 hz2 rfl (by decide) _ _ _ rfl (ho2.alloc _) ⟨wY2.heap.size, 0, none⟩ 1 1 [.int .i64 x2, .int .i64 y2] rfl rfl (pt_cells rfl) (pt_one _ _) (by decide) (by decide) (by first | exact Nat.le_refl _ | omega | (simp; done) | (simp; omega)) ?_)
                intro z3 X3 hown3 hgrow _
                have hbY : Below (h + 1) wP wY2 := hP2.trans (hXY2.mono (by omega))
                have hP3 : Below (h + 1) wP X3 := Below.grown (hbY.alloc (by omega) _) hgrow (by first | exact Nat.le_refl _ | omega | (simp; done) | (simp; omega)) (fun g hg => (ho2.lt g hg).1)
                have hWx3 : Below w.heap.size w X3 := hWP.trans (hP3.mono (by have := hWP.size; have := hW0.size; omega))
                clear hgrow hbY
                have hsX3 := hP3.size
                go_wp2
                rw [rounds_succ]
                have hqT0 : perpB p col (th1 p b1 b2 c1 c2) (th2 p b1 b2 c1 c2) (th1 p b1 b2 c1 c2) (th2 p b1 b2 c1 c2) = false := by rw [← HL01.out, ← HL02.out]; exact HQ0.out
                have hqT1 : perpB p col (th1 p a1 a2 c1 c2) (th2 p a1 a2 c1 c2) (th1 p a1 a2 c1 c2) (th2 p a1 a2 c1 c2) = false := by rw [← HL11.out, ← HL12.out]; exact HQ1.out
                have hqT2 : perpB p col (th1 p a1 a2 b1 b2) (th2 p a1 a2 b1 b2) (th1 p a1 a2 b1 b2) (th2 p a1 a2 b1 b2) = false := by rw [← HL21.out, ← HL22.out]; exact HQ2.out
                have HS : ogS p col a1 a2 b1 b2 c1 c2 = 0 := by simp [ogS, HA.out, hqT0, hqT1, hqT2]
                clear hqT0 hqT1 hqT2
                have HV := Lib.hid (show ogL p col a1 a2 b1 b2 c1 c2 = [x0, y0, x1, y1, x2, y2] ∧ ogC p col a1 a2 b1 b2 c1 c2 = 0 from by
                  have hg := og_good (col := col) (a1 := a1) (a2 := a2) (b1 := b1) (b2 := b2) (c1 := c1) (c2 := c2) hp HBB.out HS
                  refine ⟨hg.1.trans ?_, hg.2⟩
                  rw [show x0 = ftX p col a1 a2 L01 L02 L03 from by rw [HX0.out, fwX, if_neg (by rw [HQ0.out]; decide)], show y0 = ftY p col a1 a2 L01 L02 L03 from by rw [HY0.out, fwY, if_neg (by rw [HQ0.out]; decide)], HL01.out, HL02.out, HL03.out]
                  rw [show x1 = ftX p col b1 b2 L11 L12 L13 from by rw [HX1.out, fwX, if_neg (by rw [HQ1.out]; decide)], show y1 = ftY p col b1 b2 L11 L12 L13 from by rw [HY1.out, fwY, if_neg (by rw [HQ1.out]; decide)], HL11.out, HL12.out, HL13.out]
                  rw [show x2 = ftX p col c1 c2 L21 L22 L23 from by rw [HX2.out, fwX, if_neg (by rw [HQ2.out]; decide)], show y2 = ftY p col c1 c2 L21 L22 L23 from by rw [HY2.out, fwY, if_neg (by rw [HQ2.out]; decide)], HL21.out, HL22.out, HL23.out])
                go_wp2
                (refine bodyPost_ret (v := .tuple #[z3, .int .i64 (ogC p col a1 a2 b1 b2 c1 c2)]) (by simp [results, Try.results34, go_sem, HV.out.2]) rfl (slicePost_mk (by rw [HV.out.1]; exact own_base hown3 (by have := hWP.size; have := hW0.size; omega)) hWx3))
              · have HQ2 := Lib.hid hq
                clear hq
                have q0 : ∀ W : World, Below X2.heap.size X2 W → W.cell? ⟨h, 4, none⟩ = some (.int .i64 c1) := fun W h => bholds p2_0 h
                have q1 : ∀ W : World, Below X2.heap.size X2 W → W.cell? ⟨h, 5, none⟩ = some (.int .i64 c2) := fun W h => bholds p2_1 h
                have q2 : ∀ W : World, Below X2.heap.size X2 W → W.cell? ⟨g, 6, none⟩ = some (.int .i64 L21) := fun W h => bholds l2_0 h
                have q3 : ∀ W : World, Below X2.heap.size X2 W → W.cell? ⟨g, 7, none⟩ = some (.int .i64 L22) := fun W h => bholds l2_1 h
                have q4 : ∀ W : World, Below X2.heap.size X2 W → W.cell? ⟨g, 8, none⟩ = some (.int .i64 L23) := fun W h => bholds l2_2 h
                go_upto_region 9 with fail
                go_cut [18] (fun s18 wx => s18 = .bool false ∧ Below X2.heap.size X2 wx)
                case first =>
                  go_region_held3 (fun W => Below X2.heap.size X2 W) (first | with_reducible assumption | with_reducible exact bthen (by with_reducible assumption) hB | with_reducible exact bfromdrew hB | with_reducible exact balloc (by with_reducible assumption) _ | with_reducible exact Below.drew (balloc (bundrew (by with_reducible assumption)) _) | with_reducible exact brealloc (by first | exact Nat.le_refl _ | omega | (simp; done) | (simp; omega)) (by with_reducible assumption) | with_reducible exact Below.drew (brealloc (by first | exact Nat.le_refl _ | omega | (simp; done) | (simp; omega)) (bundrew (by with_reducible assumption))) | ((repeat with_reducible refine Below.setCell ?_ (by first | exact Nat.le_refl _ | omega | (simp; done) | (simp; omega)) _); with_reducible assumption) | with_reducible exact Below.refl _ _ | with_reducible exact Below.drew (Below.refl _ _) | with_reducible exact Below.drew (by with_reducible assumption)) (first | (go_at_call 74; refine Calls.mono (specFootIn _ _ _ _ _ _ _ _ hp hc (by omega) (by omega) HLB2.out) ?_; rw [HQ2.out]; rintro e wq ⟨rfl, hB⟩; (obtain ⟨hBc, hBf⟩ := bcell hB; have hBs := hB.size; (try simp at hBs); (try have hBq1 := Nat.lt_of_succ_le hBs); (try have hBq2 := Nat.lt_of_succ_lt hBq1); (try have hBq3 := Nat.lt_of_succ_lt hBq2); (try have hBzw0 : w.heap.size < wq.heap.size := (by omega)); (try have hBzw1 : w.heap.size + 1 < wq.heap.size := (by omega)); (try have hBzw2 : w.heap.size + 1 + 1 < wq.heap.size := (by omega)); (try have hBzw3 : w.heap.size + 1 + 1 + 1 < wq.heap.size := (by omega)); (try have hBzw4 : w.heap.size + 1 + 1 + 1 + 1 < wq.heap.size := (by omega)); (try have hBz_2_heap_size : X2.heap.size < wq.heap.size := (by omega)))))
                  all_goals
                    go_wp2_with fail
                    go_meet
                    refine ⟨rfl, ?_⟩
                    · (first | with_reducible assumption | (repeat (first | with_reducible exact Below.refl _ _ | with_reducible refine balloc ?_ _ | with_reducible refine bdrewN ?_ _ | with_reducible refine Below.drew ?_ | with_reducible refine bthen ?_ (by with_reducible assumption) | with_reducible refine Below.setCell ?_ (by first | (simp; done) | (simp; omega)) _)))
                case' rest => obtain ⟨rfl, hzY2⟩ := hcut
                obtain ⟨wY2, rfl⟩ : ∃ wY : World, wY = wc := ⟨_, rfl⟩
                clear q0 q1 q2 q3 q4
                have hsY2 := hzY2.size
                have hXY2 : Below X2.heap.size X2 wY2 := hzY2
                have hqT0 : perpB p col (th1 p b1 b2 c1 c2) (th2 p b1 b2 c1 c2) (th1 p b1 b2 c1 c2) (th2 p b1 b2 c1 c2) = false := by rw [← HL01.out, ← HL02.out]; exact HQ0.out
                have hqT1 : perpB p col (th1 p a1 a2 c1 c2) (th2 p a1 a2 c1 c2) (th1 p a1 a2 c1 c2) (th2 p a1 a2 c1 c2) = false := by rw [← HL11.out, ← HL12.out]; exact HQ1.out
                have hqT2 : perpB p col (th1 p a1 a2 b1 b2) (th2 p a1 a2 b1 b2) (th1 p a1 a2 b1 b2) (th2 p a1 a2 b1 b2) = true := by rw [← HL21.out, ← HL22.out]; exact HQ2.out
                have HV := Lib.hid (og_st (k := 5) (col := col) (a1 := a1) (a2 := a2) (b1 := b1) (b2 := b2) (c1 := c1) (c2 := c2) hp HBB.out (by simp [ogS, HA.out, hqT0, hqT1, hqT2]) (by decide))
                clear hqT0 hqT1 hqT2
                go_wp2
                (refine bodyPost_ret (v := .tuple #[.slice none 0 0, .int .i64 (ogC p col a1 a2 b1 b2 c1 c2)]) (by simp [results, Try.results34, go_sem, HV.out.2]) rfl (slicePost_nil HV.out.1 ?_))
                exact (bthen hWx2 hXY2)
            · have HQ1 := Lib.hid hq
              clear hq
              have q0 : ∀ W : World, Below X1.heap.size X1 W → W.cell? ⟨h, 2, none⟩ = some (.int .i64 b1) := fun W h => bholds p1_0 h
              have q1 : ∀ W : World, Below X1.heap.size X1 W → W.cell? ⟨h, 3, none⟩ = some (.int .i64 b2) := fun W h => bholds p1_1 h
              have q2 : ∀ W : World, Below X1.heap.size X1 W → W.cell? ⟨g, 3, none⟩ = some (.int .i64 L11) := fun W h => bholds l1_0 h
              have q3 : ∀ W : World, Below X1.heap.size X1 W → W.cell? ⟨g, 4, none⟩ = some (.int .i64 L12) := fun W h => bholds l1_1 h
              have q4 : ∀ W : World, Below X1.heap.size X1 W → W.cell? ⟨g, 5, none⟩ = some (.int .i64 L13) := fun W h => bholds l1_2 h
              go_upto_region 9 with fail
              go_cut [18] (fun s18 wx => s18 = .bool false ∧ Below X1.heap.size X1 wx)
              case first =>
                go_region_held3 (fun W => Below X1.heap.size X1 W) (first | with_reducible assumption | with_reducible exact bthen (by with_reducible assumption) hB | with_reducible exact bfromdrew hB | with_reducible exact balloc (by with_reducible assumption) _ | with_reducible exact Below.drew (balloc (bundrew (by with_reducible assumption)) _) | with_reducible exact brealloc (by first | exact Nat.le_refl _ | omega | (simp; done) | (simp; omega)) (by with_reducible assumption) | with_reducible exact Below.drew (brealloc (by first | exact Nat.le_refl _ | omega | (simp; done) | (simp; omega)) (bundrew (by with_reducible assumption))) | ((repeat with_reducible refine Below.setCell ?_ (by first | exact Nat.le_refl _ | omega | (simp; done) | (simp; omega)) _); with_reducible assumption) | with_reducible exact Below.refl _ _ | with_reducible exact Below.drew (Below.refl _ _) | with_reducible exact Below.drew (by with_reducible assumption)) (first | (go_at_call 74; refine Calls.mono (specFootIn _ _ _ _ _ _ _ _ hp hc (by omega) (by omega) HLB1.out) ?_; rw [HQ1.out]; rintro e wq ⟨rfl, hB⟩; (obtain ⟨hBc, hBf⟩ := bcell hB; have hBs := hB.size; (try simp at hBs); (try have hBq1 := Nat.lt_of_succ_le hBs); (try have hBq2 := Nat.lt_of_succ_lt hBq1); (try have hBq3 := Nat.lt_of_succ_lt hBq2); (try have hBzw0 : w.heap.size < wq.heap.size := (by omega)); (try have hBzw1 : w.heap.size + 1 < wq.heap.size := (by omega)); (try have hBzw2 : w.heap.size + 1 + 1 < wq.heap.size := (by omega)); (try have hBzw3 : w.heap.size + 1 + 1 + 1 < wq.heap.size := (by omega)); (try have hBzw4 : w.heap.size + 1 + 1 + 1 + 1 < wq.heap.size := (by omega)); (try have hBz_1_heap_size : X1.heap.size < wq.heap.size := (by omega)))))
                all_goals
                  go_wp2_with fail
                  go_meet
                  refine ⟨rfl, ?_⟩
                  · (first | with_reducible assumption | (repeat (first | with_reducible exact Below.refl _ _ | with_reducible refine balloc ?_ _ | with_reducible refine bdrewN ?_ _ | with_reducible refine Below.drew ?_ | with_reducible refine bthen ?_ (by with_reducible assumption) | with_reducible refine Below.setCell ?_ (by first | (simp; done) | (simp; omega)) _)))
              case' rest => obtain ⟨rfl, hzY1⟩ := hcut
              obtain ⟨wY1, rfl⟩ : ∃ wY : World, wY = wc := ⟨_, rfl⟩
              clear q0 q1 q2 q3 q4
              have hsY1 := hzY1.size
              have hXY1 : Below X1.heap.size X1 wY1 := hzY1
              have hqT0 : perpB p col (th1 p b1 b2 c1 c2) (th2 p b1 b2 c1 c2) (th1 p b1 b2 c1 c2) (th2 p b1 b2 c1 c2) = false := by rw [← HL01.out, ← HL02.out]; exact HQ0.out
              have hqT1 : perpB p col (th1 p a1 a2 c1 c2) (th2 p a1 a2 c1 c2) (th1 p a1 a2 c1 c2) (th2 p a1 a2 c1 c2) = true := by rw [← HL11.out, ← HL12.out]; exact HQ1.out
              have HV := Lib.hid (og_st (k := 5) (col := col) (a1 := a1) (a2 := a2) (b1 := b1) (b2 := b2) (c1 := c1) (c2 := c2) hp HBB.out (by simp [ogS, HA.out, hqT0, hqT1]) (by decide))
              clear hqT0 hqT1
              go_wp2
              (refine bodyPost_ret (v := .tuple #[.slice none 0 0, .int .i64 (ogC p col a1 a2 b1 b2 c1 c2)]) (by simp [results, Try.results34, go_sem, HV.out.2]) rfl (slicePost_nil HV.out.1 ?_))
              exact (bthen hWx1 hXY1)
          · have HQ0 := Lib.hid hq
            clear hq
            have q0 : ∀ W : World, Below wP.heap.size wP W → W.cell? ⟨h, 0, none⟩ = some (.int .i64 a1) := fun W h => bholds p0_0 h
            have q1 : ∀ W : World, Below wP.heap.size wP W → W.cell? ⟨h, 1, none⟩ = some (.int .i64 a2) := fun W h => bholds p0_1 h
            have q2 : ∀ W : World, Below wP.heap.size wP W → W.cell? ⟨g, 0, none⟩ = some (.int .i64 L01) := fun W h => bholds l0_0 h
            have q3 : ∀ W : World, Below wP.heap.size wP W → W.cell? ⟨g, 1, none⟩ = some (.int .i64 L02) := fun W h => bholds l0_1 h
            have q4 : ∀ W : World, Below wP.heap.size wP W → W.cell? ⟨g, 2, none⟩ = some (.int .i64 L03) := fun W h => bholds l0_2 h
            go_upto_region 9 with fail
            go_cut [18] (fun s18 wx => s18 = .bool false ∧ Below wP.heap.size wP wx)
            case first =>
              go_region_held3 (fun W => Below wP.heap.size wP W) (first | with_reducible assumption | with_reducible exact bthen (by with_reducible assumption) hB | with_reducible exact bfromdrew hB | with_reducible exact balloc (by with_reducible assumption) _ | with_reducible exact Below.drew (balloc (bundrew (by with_reducible assumption)) _) | with_reducible exact brealloc (by first | exact Nat.le_refl _ | omega | (simp; done) | (simp; omega)) (by with_reducible assumption) | with_reducible exact Below.drew (brealloc (by first | exact Nat.le_refl _ | omega | (simp; done) | (simp; omega)) (bundrew (by with_reducible assumption))) | ((repeat with_reducible refine Below.setCell ?_ (by first | exact Nat.le_refl _ | omega | (simp; done) | (simp; omega)) _); with_reducible assumption) | with_reducible exact Below.refl _ _ | with_reducible exact Below.drew (Below.refl _ _) | with_reducible exact Below.drew (by with_reducible assumption)) (first | (go_at_call 74; refine Calls.mono (specFootIn _ _ _ _ _ _ _ _ hp hc (by omega) (by omega) HLB0.out) ?_; rw [HQ0.out]; rintro e wq ⟨rfl, hB⟩; (obtain ⟨hBc, hBf⟩ := bcell hB; have hBs := hB.size; (try simp at hBs); (try have hBq1 := Nat.lt_of_succ_le hBs); (try have hBq2 := Nat.lt_of_succ_lt hBq1); (try have hBq3 := Nat.lt_of_succ_lt hBq2); (try have hBzw0 : w.heap.size < wq.heap.size := (by omega)); (try have hBzw1 : w.heap.size + 1 < wq.heap.size := (by omega)); (try have hBzw2 : w.heap.size + 1 + 1 < wq.heap.size := (by omega)); (try have hBzw3 : w.heap.size + 1 + 1 + 1 < wq.heap.size := (by omega)); (try have hBzw4 : w.heap.size + 1 + 1 + 1 + 1 < wq.heap.size := (by omega)); (try have hBzw__heap_size : wP.heap.size < wq.heap.size := (by omega)))))
              all_goals
                go_wp2_with fail
                go_meet
                refine ⟨rfl, ?_⟩
                · (first | with_reducible assumption | (repeat (first | with_reducible exact Below.refl _ _ | with_reducible refine balloc ?_ _ | with_reducible refine bdrewN ?_ _ | with_reducible refine Below.drew ?_ | with_reducible refine bthen ?_ (by with_reducible assumption) | with_reducible refine Below.setCell ?_ (by first | (simp; done) | (simp; omega)) _)))
            case' rest => obtain ⟨rfl, hzY0⟩ := hcut
            obtain ⟨wY0, rfl⟩ : ∃ wY : World, wY = wc := ⟨_, rfl⟩
            clear q0 q1 q2 q3 q4
            have hsY0 := hzY0.size
            have hXY0 : Below wP.heap.size wP wY0 := hzY0
            have hqT0 : perpB p col (th1 p b1 b2 c1 c2) (th2 p b1 b2 c1 c2) (th1 p b1 b2 c1 c2) (th2 p b1 b2 c1 c2) = true := by rw [← HL01.out, ← HL02.out]; exact HQ0.out
            have HV := Lib.hid (og_st (k := 5) (col := col) (a1 := a1) (a2 := a2) (b1 := b1) (b2 := b2) (c1 := c1) (c2 := c2) hp HBB.out (by simp [ogS, HA.out, hqT0]) (by decide))
            clear hqT0
            go_wp2
            (refine bodyPost_ret (v := .tuple #[.slice none 0 0, .int .i64 (ogC p col a1 a2 b1 b2 c1 c2)]) (by simp [results, Try.results34, go_sem, HV.out.2]) rfl (slicePost_nil HV.out.1 ?_))
            exact (bthen hWP hXY0)
        · have hd4n : (area p a1 a2 b1 b2 c1 c2 != 0) = false := by rw [bne, hd4]; rfl
          have Hhd4p := Lib.hid (beq_iff_eq.1 hd4)
          have c_1 : tcC p (colB col) a1 a2 b1 b2 c1 c2 = 5 := by simp [tcC, hd1, hd2, hd3, hd4]
          have c_1b : tcC p true a1 a2 b1 b2 c1 c2 = 5 := by simp [tcC, hd1, hd2, hd3, hd4]
          go_wp2_with fail
          refine Calls.mono (specTri4_any _ _ _ _ _ _ _ _ _ ) ?_
          rintro e w1 ⟨rfl, hB1⟩
          (obtain ⟨hB1c, hB1f⟩ := bcell hB1; have hB1s := hB1.size; (try simp at hB1s); (try have hB1q1 := Nat.lt_of_succ_le hB1s); (try have hB1q2 := Nat.lt_of_succ_lt hB1q1); (try have hB1q3 := Nat.lt_of_succ_lt hB1q2); (try have hB1zw0 : w.heap.size < w1.heap.size := (by omega)); (try have hB1zw1 : w.heap.size + 1 < w1.heap.size := (by omega)); (try have hB1zw2 : w.heap.size + 1 + 1 < w1.heap.size := (by omega)); (try have hB1zw3 : w.heap.size + 1 + 1 + 1 < w1.heap.size := (by omega)); (try have hB1zw4 : w.heap.size + 1 + 1 + 1 + 1 < w1.heap.size := (by omega)); (try have hB1zwO0 : wO.heap.size < w1.heap.size := (by omega)); (try have hB1zwO1 : wO.heap.size + 1 < w1.heap.size := (by omega)); (try have hB1zwO2 : wO.heap.size + 1 + 1 < w1.heap.size := (by omega)); (try have hB1zwO3 : wO.heap.size + 1 + 1 + 1 < w1.heap.size := (by omega)); (try have hB1zwO4 : wO.heap.size + 1 + 1 + 1 + 1 < w1.heap.size := (by omega)))
          have HB : ogB p col a1 a2 b1 b2 c1 c2 = true := by simp [ogB, hd1, hd2, hd3, hd4]
          have HS : ogS p col a1 a2 b1 b2 c1 c2 = 5 := by simp [ogS, hd1, hd2, hd3, hd4]
          have HV := Lib.hid (og_st (col := col) (a1 := a1) (a2 := a2) (b1 := b1) (b2 := b2) (c1 := c1) (c2 := c2) hp HB HS (by decide))
          clear HB HS
          go_wp2
          (refine bodyPost_ret (v := .tuple #[.slice none 0 0, .int .i64 (ogC p col a1 a2 b1 b2 c1 c2)]) (by simp [results, Try.results34, go_sem, HV.out.2]) rfl (slicePost_nil HV.out.1 ?_))
          (repeat (first | with_reducible exact Below.refl _ _ | with_reducible exact hxO | with_reducible refine balloc ?_ _ | with_reducible refine bdrewN ?_ _ | with_reducible refine Below.drew ?_ | with_reducible refine bthen ?_ (by with_reducible assumption) | with_reducible refine Below.setCell ?_ (by first | (simp; done) | (simp; omega)) _))

set_option linter.unusedSimpArgs false in
set_option maxRecDepth 20000 in
set_option maxHeartbeats 4000000 in
theorem implOrthicPoints_any (p col a1 a2 b1 b2 c1 c2 : Int) (w : World) :
    Calls Try.prog 35 #[.int .i64 p, .int .i64 col, .agg #[.int .i64 a1, .int .i64 a2], .agg #[.int .i64 b1, .int .i64 b2], .agg #[.int .i64 c1, .int .i64 c2]] w fun e w' =>
      SlicePost 25 2 (ogL p col a1 a2 b1 b2 c1 c2) (ogC p col a1 a2 b1 b2 c1 c2) w e w' := by
  go_enter Try.func35, Try.ntmps35
  go_upto_region 0 with fail
  go_cut [7, 8, 9, 10, 11] (fun s7 s8 s9 s10 s11 wx => s7 = .pointer (some ⟨w.heap.size, 0, none⟩) ∧ s8 = .pointer (some ⟨w.heap.size + 1, 0, none⟩) ∧ s9 = .pointer (some ⟨w.heap.size + 1 + 1, 0, none⟩) ∧ s10 = .slice none 0 0 ∧ s11 = .int .i64 0 ∧ wx.cell? ⟨w.heap.size, 0, none⟩ = some (.int .i64 a1) ∧ wx.cell? ⟨w.heap.size, 1, none⟩ = some (.int .i64 a2) ∧ wx.cell? ⟨w.heap.size + 1, 0, none⟩ = some (.int .i64 b1) ∧ wx.cell? ⟨w.heap.size + 1, 1, none⟩ = some (.int .i64 b2) ∧ wx.cell? ⟨w.heap.size + 1 + 1, 0, none⟩ = some (.int .i64 c1) ∧ wx.cell? ⟨w.heap.size + 1 + 1, 1, none⟩ = some (.int .i64 c2) ∧ wx.frozen? ⟨w.heap.size, 0, none⟩ = false ∧ wx.frozen? ⟨w.heap.size, 1, none⟩ = false ∧ wx.frozen? ⟨w.heap.size + 1, 0, none⟩ = false ∧ wx.frozen? ⟨w.heap.size + 1, 1, none⟩ = false ∧ wx.frozen? ⟨w.heap.size + 1 + 1, 0, none⟩ = false ∧ wx.frozen? ⟨w.heap.size + 1 + 1, 1, none⟩ = false ∧ Below w.heap.size w wx ∧ w.heap.size + 1 + 1 + 1 ≤ wx.heap.size)
  case first =>
    go_wp2
    go_meet
    refine ⟨rfl, rfl, rfl, rfl, rfl, ?_, ?_, ?_, ?_, ?_, ?_, ?_, ?_, ?_, ?_, ?_, ?_, ?_, ?_⟩
    · (repeat (first | with_reducible assumption | ((with_reducible refine kfresh ?_ ?_) <;> (first | with_reducible rfl | (simp; done))) | ((with_reducible refine ksameS ?_); focus ((repeat (first | with_reducible exact kis_of (by with_reducible assumption) | with_reducible refine kis_set ?_ | ((with_reducible refine kis_new ?_ ?_) <;> (first | with_reducible rfl | rfl | (simp; done))) | with_reducible refine kis_alloc _ ?_ | with_reducible refine kis_drew ?_ | with_reducible refine kis_call (by with_reducible assumption) ?_ | with_reducible exact kis_of (kcall (by with_reducible assumption) (by with_reducible assumption)))); done)) | with_reducible refine kother (by decide) ?_ | with_reducible refine kset (by first | omega | (simp; done) | (simp; omega)) ?_ | with_reducible refine kalloc _ ?_ | with_reducible refine kdrew ?_ | with_reducible refine kcall (by with_reducible assumption) ?_))
    · (repeat (first | with_reducible assumption | ((with_reducible refine kfresh ?_ ?_) <;> (first | with_reducible rfl | (simp; done))) | ((with_reducible refine ksameS ?_); focus ((repeat (first | with_reducible exact kis_of (by with_reducible assumption) | with_reducible refine kis_set ?_ | ((with_reducible refine kis_new ?_ ?_) <;> (first | with_reducible rfl | rfl | (simp; done))) | with_reducible refine kis_alloc _ ?_ | with_reducible refine kis_drew ?_ | with_reducible refine kis_call (by with_reducible assumption) ?_ | with_reducible exact kis_of (kcall (by with_reducible assumption) (by with_reducible assumption)))); done)) | with_reducible refine kother (by decide) ?_ | with_reducible refine kset (by first | omega | (simp; done) | (simp; omega)) ?_ | with_reducible refine kalloc _ ?_ | with_reducible refine kdrew ?_ | with_reducible refine kcall (by with_reducible assumption) ?_))
    · (repeat (first | with_reducible assumption | ((with_reducible refine kfresh ?_ ?_) <;> (first | with_reducible rfl | (simp; done))) | ((with_reducible refine ksameS ?_); focus ((repeat (first | with_reducible exact kis_of (by with_reducible assumption) | with_reducible refine kis_set ?_ | ((with_reducible refine kis_new ?_ ?_) <;> (first | with_reducible rfl | rfl | (simp; done))) | with_reducible refine kis_alloc _ ?_ | with_reducible refine kis_drew ?_ | with_reducible refine kis_call (by with_reducible assumption) ?_ | with_reducible exact kis_of (kcall (by with_reducible assumption) (by with_reducible assumption)))); done)) | with_reducible refine kother (by decide) ?_ | with_reducible refine kset (by first | omega | (simp; done) | (simp; omega)) ?_ | with_reducible refine kalloc _ ?_ | with_reducible refine kdrew ?_ | with_reducible refine kcall (by with_reducible assumption) ?_))
    · (repeat (first | with_reducible assumption | ((with_reducible refine kfresh ?_ ?_) <;> (first | with_reducible rfl | (simp; done))) | ((with_reducible refine ksameS ?_); focus ((repeat (first | with_reducible exact kis_of (by with_reducible assumption) | with_reducible refine kis_set ?_ | ((with_reducible refine kis_new ?_ ?_) <;> (first | with_reducible rfl | rfl | (simp; done))) | with_reducible refine kis_alloc _ ?_ | with_reducible refine kis_drew ?_ | with_reducible refine kis_call (by with_reducible assumption) ?_ | with_reducible exact kis_of (kcall (by with_reducible assumption) (by with_reducible assumption)))); done)) | with_reducible refine kother (by decide) ?_ | with_reducible refine kset (by first | omega | (simp; done) | (simp; omega)) ?_ | with_reducible refine kalloc _ ?_ | with_reducible refine kdrew ?_ | with_reducible refine kcall (by with_reducible assumption) ?_))
    · (repeat (first | with_reducible assumption | ((with_reducible refine kfresh ?_ ?_) <;> (first | with_reducible rfl | (simp; done))) | ((with_reducible refine ksameS ?_); focus ((repeat (first | with_reducible exact kis_of (by with_reducible assumption) | with_reducible refine kis_set ?_ | ((with_reducible refine kis_new ?_ ?_) <;> (first | with_reducible rfl | rfl | (simp; done))) | with_reducible refine kis_alloc _ ?_ | with_reducible refine kis_drew ?_ | with_reducible refine kis_call (by with_reducible assumption) ?_ | with_reducible exact kis_of (kcall (by with_reducible assumption) (by with_reducible assumption)))); done)) | with_reducible refine kother (by decide) ?_ | with_reducible refine kset (by first | omega | (simp; done) | (simp; omega)) ?_ | with_reducible refine kalloc _ ?_ | with_reducible refine kdrew ?_ | with_reducible refine kcall (by with_reducible assumption) ?_))
    · (repeat (first | with_reducible assumption | ((with_reducible refine kfresh ?_ ?_) <;> (first | with_reducible rfl | (simp; done))) | ((with_reducible refine ksameS ?_); focus ((repeat (first | with_reducible exact kis_of (by with_reducible assumption) | with_reducible refine kis_set ?_ | ((with_reducible refine kis_new ?_ ?_) <;> (first | with_reducible rfl | rfl | (simp; done))) | with_reducible refine kis_alloc _ ?_ | with_reducible refine kis_drew ?_ | with_reducible refine kis_call (by with_reducible assumption) ?_ | with_reducible exact kis_of (kcall (by with_reducible assumption) (by with_reducible assumption)))); done)) | with_reducible refine kother (by decide) ?_ | with_reducible refine kset (by first | omega | (simp; done) | (simp; omega)) ?_ | with_reducible refine kalloc _ ?_ | with_reducible refine kdrew ?_ | with_reducible refine kcall (by with_reducible assumption) ?_))
    · (repeat (first | with_reducible assumption | with_reducible refine fdrew ?_ | with_reducible refine fset ?_ | ((with_reducible refine fallocNew ?_) <;> (first | with_reducible rfl | (simp; done))) | ((with_reducible refine kfro (by with_reducible assumption) ?_ ?_); focus (first | with_reducible assumption | (simp; done) | (simp; omega))) | ((with_reducible refine falloc ?_ ?_); focus (first | with_reducible assumption | (simp; done) | (simp; omega)))))
    · (repeat (first | with_reducible assumption | with_reducible refine fdrew ?_ | with_reducible refine fset ?_ | ((with_reducible refine fallocNew ?_) <;> (first | with_reducible rfl | (simp; done))) | ((with_reducible refine kfro (by with_reducible assumption) ?_ ?_); focus (first | with_reducible assumption | (simp; done) | (simp; omega))) | ((with_reducible refine falloc ?_ ?_); focus (first | with_reducible assumption | (simp; done) | (simp; omega)))))
    · (repeat (first | with_reducible assumption | with_reducible refine fdrew ?_ | with_reducible refine fset ?_ | ((with_reducible refine fallocNew ?_) <;> (first | with_reducible rfl | (simp; done))) | ((with_reducible refine kfro (by with_reducible assumption) ?_ ?_); focus (first | with_reducible assumption | (simp; done) | (simp; omega))) | ((with_reducible refine falloc ?_ ?_); focus (first | with_reducible assumption | (simp; done) | (simp; omega)))))
    · (repeat (first | with_reducible assumption | with_reducible refine fdrew ?_ | with_reducible refine fset ?_ | ((with_reducible refine fallocNew ?_) <;> (first | with_reducible rfl | (simp; done))) | ((with_reducible refine kfro (by with_reducible assumption) ?_ ?_); focus (first | with_reducible assumption | (simp; done) | (simp; omega))) | ((with_reducible refine falloc ?_ ?_); focus (first | with_reducible assumption | (simp; done) | (simp; omega)))))
    · (repeat (first | with_reducible assumption | with_reducible refine fdrew ?_ | with_reducible refine fset ?_ | ((with_reducible refine fallocNew ?_) <;> (first | with_reducible rfl | (simp; done))) | ((with_reducible refine kfro (by with_reducible assumption) ?_ ?_); focus (first | with_reducible assumption | (simp; done) | (simp; omega))) | ((with_reducible refine falloc ?_ ?_); focus (first | with_reducible assumption | (simp; done) | (simp; omega)))))
    · (repeat (first | with_reducible assumption | with_reducible refine fdrew ?_ | with_reducible refine fset ?_ | ((with_reducible refine fallocNew ?_) <;> (first | with_reducible rfl | (simp; done))) | ((with_reducible refine kfro (by with_reducible assumption) ?_ ?_); focus (first | with_reducible assumption | (simp; done) | (simp; omega))) | ((with_reducible refine falloc ?_ ?_); focus (first | with_reducible assumption | (simp; done) | (simp; omega)))))
    · (repeat (first | with_reducible exact Below.refl _ _ | with_reducible refine balloc ?_ _ | with_reducible refine bdrewN ?_ _ | with_reducible refine Below.drew ?_ | with_reducible refine bthen ?_ (by with_reducible assumption) | with_reducible refine Below.setCell ?_ (by first | (simp; done) | (simp; omega)) _))
    · (first | omega | (simp; done) | (simp; omega))
  case' rest => obtain ⟨rfl, rfl, rfl, rfl, rfl, cO0, cO1, cO2, cO3, cO4, cO5, fO0, fO1, fO2, fO3, fO4, fO5, hxO, hsO⟩ := hcut
  obtain ⟨wO, rfl⟩ : ∃ wO : World, wO = wc := ⟨_, rfl⟩
  have lO0 : w.heap.size < wO.heap.size := by omega
  have lO1 : w.heap.size + 1 < wO.heap.size := by omega
  have lO2 : w.heap.size + 1 + 1 < wO.heap.size := by omega
  rcases bool_ways (isP p) with hd1 | hd1
  · skip
    have c_1 : tcC p (colB col) a1 a2 b1 b2 c1 c2 = 1 := by simp [tcC, hd1]
    have hWA : Below w.heap.size w wO := by (repeat (first | with_reducible exact Below.refl _ _ | with_reducible exact hxO | with_reducible refine balloc ?_ _ | with_reducible refine bdrewN ?_ _ | with_reducible refine Below.drew ?_ | with_reducible refine bthen ?_ (by with_reducible assumption) | with_reducible refine Below.setCell ?_ (by first | (simp; done) | (simp; omega)) _))
    have kA0 : wO.cell? ⟨w.heap.size, 0, none⟩ = some (.int .i64 a1) := by (first | with_reducible assumption | (repeat (first | with_reducible assumption | ((with_reducible refine kfresh ?_ ?_) <;> (first | with_reducible rfl | (simp; done))) | ((with_reducible refine ksameS ?_); focus ((repeat (first | with_reducible exact kis_of (by with_reducible assumption) | with_reducible refine kis_set ?_ | ((with_reducible refine kis_new ?_ ?_) <;> (first | with_reducible rfl | rfl | (simp; done))) | with_reducible refine kis_alloc _ ?_ | with_reducible refine kis_drew ?_ | with_reducible refine kis_call (by with_reducible assumption) ?_ | with_reducible exact kis_of (kcall (by with_reducible assumption) (by with_reducible assumption)))); done)) | with_reducible refine kother (by decide) ?_ | with_reducible refine kset (by first | omega | (simp; done) | (simp; omega)) ?_ | with_reducible refine kalloc _ ?_ | with_reducible refine kdrew ?_ | with_reducible refine kcall (by with_reducible assumption) ?_)))
    have qA0 : ∀ W : World, Below wO.heap.size wO W → W.cell? ⟨w.heap.size, 0, none⟩ = some (.int .i64 a1) := fun W h => bholds kA0 h
    have kA1 : wO.cell? ⟨w.heap.size, 1, none⟩ = some (.int .i64 a2) := by (first | with_reducible assumption | (repeat (first | with_reducible assumption | ((with_reducible refine kfresh ?_ ?_) <;> (first | with_reducible rfl | (simp; done))) | ((with_reducible refine ksameS ?_); focus ((repeat (first | with_reducible exact kis_of (by with_reducible assumption) | with_reducible refine kis_set ?_ | ((with_reducible refine kis_new ?_ ?_) <;> (first | with_reducible rfl | rfl | (simp; done))) | with_reducible refine kis_alloc _ ?_ | with_reducible refine kis_drew ?_ | with_reducible refine kis_call (by with_reducible assumption) ?_ | with_reducible exact kis_of (kcall (by with_reducible assumption) (by with_reducible assumption)))); done)) | with_reducible refine kother (by decide) ?_ | with_reducible refine kset (by first | omega | (simp; done) | (simp; omega)) ?_ | with_reducible refine kalloc _ ?_ | with_reducible refine kdrew ?_ | with_reducible refine kcall (by with_reducible assumption) ?_)))
    have qA1 : ∀ W : World, Below wO.heap.size wO W → W.cell? ⟨w.heap.size, 1, none⟩ = some (.int .i64 a2) := fun W h => bholds kA1 h
    have kA2 : wO.cell? ⟨w.heap.size + 1, 0, none⟩ = some (.int .i64 b1) := by (first | with_reducible assumption | (repeat (first | with_reducible assumption | ((with_reducible refine kfresh ?_ ?_) <;> (first | with_reducible rfl | (simp; done))) | ((with_reducible refine ksameS ?_); focus ((repeat (first | with_reducible exact kis_of (by with_reducible assumption) | with_reducible refine kis_set ?_ | ((with_reducible refine kis_new ?_ ?_) <;> (first | with_reducible rfl | rfl | (simp; done))) | with_reducible refine kis_alloc _ ?_ | with_reducible refine kis_drew ?_ | with_reducible refine kis_call (by with_reducible assumption) ?_ | with_reducible exact kis_of (kcall (by with_reducible assumption) (by with_reducible assumption)))); done)) | with_reducible refine kother (by decide) ?_ | with_reducible refine kset (by first | omega | (simp; done) | (simp; omega)) ?_ | with_reducible refine kalloc _ ?_ | with_reducible refine kdrew ?_ | with_reducible refine kcall (by with_reducible assumption) ?_)))
    have qA2 : ∀ W : World, Below wO.heap.size wO W → W.cell? ⟨w.heap.size + 1, 0, none⟩ = some (.int .i64 b1) := fun W h => bholds kA2 h
    have kA3 : wO.cell? ⟨w.heap.size + 1, 1, none⟩ = some (.int .i64 b2) := by (first | with_reducible assumption | (repeat (first | with_reducible assumption | ((with_reducible refine kfresh ?_ ?_) <;> (first | with_reducible rfl | (simp; done))) | ((with_reducible refine ksameS ?_); focus ((repeat (first | with_reducible exact kis_of (by with_reducible assumption) | with_reducible refine kis_set ?_ | ((with_reducible refine kis_new ?_ ?_) <;> (first | with_reducible rfl | rfl | (simp; done))) | with_reducible refine kis_alloc _ ?_ | with_reducible refine kis_drew ?_ | with_reducible refine kis_call (by with_reducible assumption) ?_ | with_reducible exact kis_of (kcall (by with_reducible assumption) (by with_reducible assumption)))); done)) | with_reducible refine kother (by decide) ?_ | with_reducible refine kset (by first | omega | (simp; done) | (simp; omega)) ?_ | with_reducible refine kalloc _ ?_ | with_reducible refine kdrew ?_ | with_reducible refine kcall (by with_reducible assumption) ?_)))
    have qA3 : ∀ W : World, Below wO.heap.size wO W → W.cell? ⟨w.heap.size + 1, 1, none⟩ = some (.int .i64 b2) := fun W h => bholds kA3 h
    have kA4 : wO.cell? ⟨w.heap.size + 1 + 1, 0, none⟩ = some (.int .i64 c1) := by (first | with_reducible assumption | (repeat (first | with_reducible assumption | ((with_reducible refine kfresh ?_ ?_) <;> (first | with_reducible rfl | (simp; done))) | ((with_reducible refine ksameS ?_); focus ((repeat (first | with_reducible exact kis_of (by with_reducible assumption) | with_reducible refine kis_set ?_ | ((with_reducible refine kis_new ?_ ?_) <;> (first | with_reducible rfl | rfl | (simp; done))) | with_reducible refine kis_alloc _ ?_ | with_reducible refine kis_drew ?_ | with_reducible refine kis_call (by with_reducible assumption) ?_ | with_reducible exact kis_of (kcall (by with_reducible assumption) (by with_reducible assumption)))); done)) | with_reducible refine kother (by decide) ?_ | with_reducible refine kset (by first | omega | (simp; done) | (simp; omega)) ?_ | with_reducible refine kalloc _ ?_ | with_reducible refine kdrew ?_ | with_reducible refine kcall (by with_reducible assumption) ?_)))
    have qA4 : ∀ W : World, Below wO.heap.size wO W → W.cell? ⟨w.heap.size + 1 + 1, 0, none⟩ = some (.int .i64 c1) := fun W h => bholds kA4 h
    have kA5 : wO.cell? ⟨w.heap.size + 1 + 1, 1, none⟩ = some (.int .i64 c2) := by (first | with_reducible assumption | (repeat (first | with_reducible assumption | ((with_reducible refine kfresh ?_ ?_) <;> (first | with_reducible rfl | (simp; done))) | ((with_reducible refine ksameS ?_); focus ((repeat (first | with_reducible exact kis_of (by with_reducible assumption) | with_reducible refine kis_set ?_ | ((with_reducible refine kis_new ?_ ?_) <;> (first | with_reducible rfl | rfl | (simp; done))) | with_reducible refine kis_alloc _ ?_ | with_reducible refine kis_drew ?_ | with_reducible refine kis_call (by with_reducible assumption) ?_ | with_reducible exact kis_of (kcall (by with_reducible assumption) (by with_reducible assumption)))); done)) | with_reducible refine kother (by decide) ?_ | with_reducible refine kset (by first | omega | (simp; done) | (simp; omega)) ?_ | with_reducible refine kalloc _ ?_ | with_reducible refine kdrew ?_ | with_reducible refine kcall (by with_reducible assumption) ?_)))
    have qA5 : ∀ W : World, Below wO.heap.size wO W → W.cell? ⟨w.heap.size + 1 + 1, 1, none⟩ = some (.int .i64 c2) := fun W h => bholds kA5 h
    go_upto_region 1 with fail
    go_cut [12] (fun s12 wx => s12 = .int .i64 1 ∧ Below wO.heap.size wO wx)
    case first =>
      go_region_held3 (fun W => Below wO.heap.size wO W) (first | with_reducible assumption | with_reducible exact bthen (by with_reducible assumption) hB | with_reducible exact bfromdrew hB | with_reducible exact balloc (by with_reducible assumption) _ | with_reducible exact Below.drew (balloc (bundrew (by with_reducible assumption)) _) | with_reducible exact brealloc (by first | exact Nat.le_refl _ | omega | (simp; done) | (simp; omega)) (by with_reducible assumption) | with_reducible exact Below.drew (brealloc (by first | exact Nat.le_refl _ | omega | (simp; done) | (simp; omega)) (bundrew (by with_reducible assumption))) | ((repeat with_reducible refine Below.setCell ?_ (by first | exact Nat.le_refl _ | omega | (simp; done) | (simp; omega)) _); with_reducible assumption) | with_reducible exact Below.refl _ _ | with_reducible exact Below.drew (Below.refl _ _) | with_reducible exact Below.drew (by with_reducible assumption)) (first | (go_at_call 54; refine Calls.mono (isColour_any _ _) ?_; rintro e wq ⟨rfl, rfl⟩) | (go_at_call 53; refine Calls.mono (implTri_any _ _ _ _ _ _ _ _ _ ) ?_; rintro e wq ⟨rfl, hB⟩; have hBs := hB.size; (try simp at hBs)))
      all_goals
        go_wp2_with fail
        go_meet
        refine ⟨rfl, ?_⟩
        · (first | with_reducible assumption | exact Below.drew (by with_reducible assumption) | exact bundrew (by with_reducible assumption) | (repeat (first | with_reducible exact Below.refl _ _ | with_reducible refine balloc ?_ _ | with_reducible refine bdrewN ?_ _ | with_reducible refine Below.drew ?_ | with_reducible refine bthen ?_ (by with_reducible assumption) | with_reducible refine Below.setCell ?_ (by first | (simp; done) | (simp; omega)) _)))
    case' rest => obtain ⟨rfl, hzA⟩ := hcut
    obtain ⟨wA, rfl⟩ : ∃ wA : World, wA = wc := ⟨_, rfl⟩
    have hsA := hzA.size
    have hxA : Below w.heap.size w wA := bthen hWA hzA
    have bA0 := qA0 wA hzA
    have bA1 := qA1 wA hzA
    have bA2 := qA2 wA hzA
    have bA3 := qA3 wA hzA
    have bA4 := qA4 wA hzA
    have bA5 := qA5 wA hzA
    clear qA0 qA1 qA2 qA3 qA4 qA5
    have lA_1 : w.heap.size < wA.heap.size := by omega
    have lA_2 : w.heap.size + 1 < wA.heap.size := by omega
    have lA_3 : w.heap.size + 1 + 1 < wA.heap.size := by omega
    have HV := Lib.hid (og_no (col := col) (a1 := a1) (a2 := a2) (b1 := b1) (b2 := b2) (c1 := c1) (c2 := c2) hd1)
    go_wp2
    (refine bodyPost_ret (v := .tuple #[.slice none 0 0, .int .i64 (ogC p col a1 a2 b1 b2 c1 c2)]) (by simp [results, Try.results35, go_sem, HV.out.2]) rfl (slicePost_nil HV.out.1 ?_))
    (repeat (first | with_reducible exact Below.refl _ _ | with_reducible exact hxA | with_reducible refine balloc ?_ _ | with_reducible refine bdrewN ?_ _ | with_reducible refine Below.drew ?_ | with_reducible refine bthen ?_ (by with_reducible assumption) | with_reducible refine Below.setCell ?_ (by first | (simp; done) | (simp; omega)) _))
  · have hp := hd1
    have hr := isP_range hp
    rcases bool_ways (colB col) with hd2 | hd2
    · skip
      have c_1 : tcC p (colB col) a1 a2 b1 b2 c1 c2 = 2 := by simp [tcC, hd1, hd2]
      have c_1b : tcC p false a1 a2 b1 b2 c1 c2 = 2 := by simp [tcC, hd1, hd2]
      have hWA : Below w.heap.size w wO := by (repeat (first | with_reducible exact Below.refl _ _ | with_reducible exact hxO | with_reducible refine balloc ?_ _ | with_reducible refine bdrewN ?_ _ | with_reducible refine Below.drew ?_ | with_reducible refine bthen ?_ (by with_reducible assumption) | with_reducible refine Below.setCell ?_ (by first | (simp; done) | (simp; omega)) _))
      have kA0 : wO.cell? ⟨w.heap.size, 0, none⟩ = some (.int .i64 a1) := by (first | with_reducible assumption | (repeat (first | with_reducible assumption | ((with_reducible refine kfresh ?_ ?_) <;> (first | with_reducible rfl | (simp; done))) | ((with_reducible refine ksameS ?_); focus ((repeat (first | with_reducible exact kis_of (by with_reducible assumption) | with_reducible refine kis_set ?_ | ((with_reducible refine kis_new ?_ ?_) <;> (first | with_reducible rfl | rfl | (simp; done))) | with_reducible refine kis_alloc _ ?_ | with_reducible refine kis_drew ?_ | with_reducible refine kis_call (by with_reducible assumption) ?_ | with_reducible exact kis_of (kcall (by with_reducible assumption) (by with_reducible assumption)))); done)) | with_reducible refine kother (by decide) ?_ | with_reducible refine kset (by first | omega | (simp; done) | (simp; omega)) ?_ | with_reducible refine kalloc _ ?_ | with_reducible refine kdrew ?_ | with_reducible refine kcall (by with_reducible assumption) ?_)))
      have qA0 : ∀ W : World, Below wO.heap.size wO W → W.cell? ⟨w.heap.size, 0, none⟩ = some (.int .i64 a1) := fun W h => bholds kA0 h
      have kA1 : wO.cell? ⟨w.heap.size, 1, none⟩ = some (.int .i64 a2) := by (first | with_reducible assumption | (repeat (first | with_reducible assumption | ((with_reducible refine kfresh ?_ ?_) <;> (first | with_reducible rfl | (simp; done))) | ((with_reducible refine ksameS ?_); focus ((repeat (first | with_reducible exact kis_of (by with_reducible assumption) | with_reducible refine kis_set ?_ | ((with_reducible refine kis_new ?_ ?_) <;> (first | with_reducible rfl | rfl | (simp; done))) | with_reducible refine kis_alloc _ ?_ | with_reducible refine kis_drew ?_ | with_reducible refine kis_call (by with_reducible assumption) ?_ | with_reducible exact kis_of (kcall (by with_reducible assumption) (by with_reducible assumption)))); done)) | with_reducible refine kother (by decide) ?_ | with_reducible refine kset (by first | omega | (simp; done) | (simp; omega)) ?_ | with_reducible refine kalloc _ ?_ | with_reducible refine kdrew ?_ | with_reducible refine kcall (by with_reducible assumption) ?_)))
      have qA1 : ∀ W : World, Below wO.heap.size wO W → W.cell? ⟨w.heap.size, 1, none⟩ = some (.int .i64 a2) := fun W h => bholds kA1 h
      have kA2 : wO.cell? ⟨w.heap.size + 1, 0, none⟩ = some (.int .i64 b1) := by (first | with_reducible assumption | (repeat (first | with_reducible assumption | ((with_reducible refine kfresh ?_ ?_) <;> (first | with_reducible rfl | (simp; done))) | ((with_reducible refine ksameS ?_); focus ((repeat (first | with_reducible exact kis_of (by with_reducible assumption) | with_reducible refine kis_set ?_ | ((with_reducible refine kis_new ?_ ?_) <;> (first | with_reducible rfl | rfl | (simp; done))) | with_reducible refine kis_alloc _ ?_ | with_reducible refine kis_drew ?_ | with_reducible refine kis_call (by with_reducible assumption) ?_ | with_reducible exact kis_of (kcall (by with_reducible assumption) (by with_reducible assumption)))); done)) | with_reducible refine kother (by decide) ?_ | with_reducible refine kset (by first | omega | (simp; done) | (simp; omega)) ?_ | with_reducible refine kalloc _ ?_ | with_reducible refine kdrew ?_ | with_reducible refine kcall (by with_reducible assumption) ?_)))
      have qA2 : ∀ W : World, Below wO.heap.size wO W → W.cell? ⟨w.heap.size + 1, 0, none⟩ = some (.int .i64 b1) := fun W h => bholds kA2 h
      have kA3 : wO.cell? ⟨w.heap.size + 1, 1, none⟩ = some (.int .i64 b2) := by (first | with_reducible assumption | (repeat (first | with_reducible assumption | ((with_reducible refine kfresh ?_ ?_) <;> (first | with_reducible rfl | (simp; done))) | ((with_reducible refine ksameS ?_); focus ((repeat (first | with_reducible exact kis_of (by with_reducible assumption) | with_reducible refine kis_set ?_ | ((with_reducible refine kis_new ?_ ?_) <;> (first | with_reducible rfl | rfl | (simp; done))) | with_reducible refine kis_alloc _ ?_ | with_reducible refine kis_drew ?_ | with_reducible refine kis_call (by with_reducible assumption) ?_ | with_reducible exact kis_of (kcall (by with_reducible assumption) (by with_reducible assumption)))); done)) | with_reducible refine kother (by decide) ?_ | with_reducible refine kset (by first | omega | (simp; done) | (simp; omega)) ?_ | with_reducible refine kalloc _ ?_ | with_reducible refine kdrew ?_ | with_reducible refine kcall (by with_reducible assumption) ?_)))
      have qA3 : ∀ W : World, Below wO.heap.size wO W → W.cell? ⟨w.heap.size + 1, 1, none⟩ = some (.int .i64 b2) := fun W h => bholds kA3 h
      have kA4 : wO.cell? ⟨w.heap.size + 1 + 1, 0, none⟩ = some (.int .i64 c1) := by (first | with_reducible assumption | (repeat (first | with_reducible assumption | ((with_reducible refine kfresh ?_ ?_) <;> (first | with_reducible rfl | (simp; done))) | ((with_reducible refine ksameS ?_); focus ((repeat (first | with_reducible exact kis_of (by with_reducible assumption) | with_reducible refine kis_set ?_ | ((with_reducible refine kis_new ?_ ?_) <;> (first | with_reducible rfl | rfl | (simp; done))) | with_reducible refine kis_alloc _ ?_ | with_reducible refine kis_drew ?_ | with_reducible refine kis_call (by with_reducible assumption) ?_ | with_reducible exact kis_of (kcall (by with_reducible assumption) (by with_reducible assumption)))); done)) | with_reducible refine kother (by decide) ?_ | with_reducible refine kset (by first | omega | (simp; done) | (simp; omega)) ?_ | with_reducible refine kalloc _ ?_ | with_reducible refine kdrew ?_ | with_reducible refine kcall (by with_reducible assumption) ?_)))
      have qA4 : ∀ W : World, Below wO.heap.size wO W → W.cell? ⟨w.heap.size + 1 + 1, 0, none⟩ = some (.int .i64 c1) := fun W h => bholds kA4 h
      have kA5 : wO.cell? ⟨w.heap.size + 1 + 1, 1, none⟩ = some (.int .i64 c2) := by (first | with_reducible assumption | (repeat (first | with_reducible assumption | ((with_reducible refine kfresh ?_ ?_) <;> (first | with_reducible rfl | (simp; done))) | ((with_reducible refine ksameS ?_); focus ((repeat (first | with_reducible exact kis_of (by with_reducible assumption) | with_reducible refine kis_set ?_ | ((with_reducible refine kis_new ?_ ?_) <;> (first | with_reducible rfl | rfl | (simp; done))) | with_reducible refine kis_alloc _ ?_ | with_reducible refine kis_drew ?_ | with_reducible refine kis_call (by with_reducible assumption) ?_ | with_reducible exact kis_of (kcall (by with_reducible assumption) (by with_reducible assumption)))); done)) | with_reducible refine kother (by decide) ?_ | with_reducible refine kset (by first | omega | (simp; done) | (simp; omega)) ?_ | with_reducible refine kalloc _ ?_ | with_reducible refine kdrew ?_ | with_reducible refine kcall (by with_reducible assumption) ?_)))
      have qA5 : ∀ W : World, Below wO.heap.size wO W → W.cell? ⟨w.heap.size + 1 + 1, 1, none⟩ = some (.int .i64 c2) := fun W h => bholds kA5 h
      go_upto_region 1 with fail
      go_cut [12] (fun s12 wx => s12 = .int .i64 2 ∧ Below wO.heap.size wO wx)
      case first =>
        go_region_held3 (fun W => Below wO.heap.size wO W) (first | with_reducible assumption | with_reducible exact bthen (by with_reducible assumption) hB | with_reducible exact bfromdrew hB | with_reducible exact balloc (by with_reducible assumption) _ | with_reducible exact Below.drew (balloc (bundrew (by with_reducible assumption)) _) | with_reducible exact brealloc (by first | exact Nat.le_refl _ | omega | (simp; done) | (simp; omega)) (by with_reducible assumption) | with_reducible exact Below.drew (brealloc (by first | exact Nat.le_refl _ | omega | (simp; done) | (simp; omega)) (bundrew (by with_reducible assumption))) | ((repeat with_reducible refine Below.setCell ?_ (by first | exact Nat.le_refl _ | omega | (simp; done) | (simp; omega)) _); with_reducible assumption) | with_reducible exact Below.refl _ _ | with_reducible exact Below.drew (Below.refl _ _) | with_reducible exact Below.drew (by with_reducible assumption)) (first | (go_at_call 54; refine Calls.mono (isColour_any _ _) ?_; rintro e wq ⟨rfl, rfl⟩) | (go_at_call 53; refine Calls.mono (implTri_any _ _ _ _ _ _ _ _ _ ) ?_; rintro e wq ⟨rfl, hB⟩; have hBs := hB.size; (try simp at hBs)))
        all_goals
          go_wp2_with fail
          go_meet
          refine ⟨rfl, ?_⟩
          · (first | with_reducible assumption | exact Below.drew (by with_reducible assumption) | exact bundrew (by with_reducible assumption) | (repeat (first | with_reducible exact Below.refl _ _ | with_reducible refine balloc ?_ _ | with_reducible refine bdrewN ?_ _ | with_reducible refine Below.drew ?_ | with_reducible refine bthen ?_ (by with_reducible assumption) | with_reducible refine Below.setCell ?_ (by first | (simp; done) | (simp; omega)) _)))
      case' rest => obtain ⟨rfl, hzA⟩ := hcut
      obtain ⟨wA, rfl⟩ : ∃ wA : World, wA = wc := ⟨_, rfl⟩
      have hsA := hzA.size
      have hxA : Below w.heap.size w wA := bthen hWA hzA
      have bA0 := qA0 wA hzA
      have bA1 := qA1 wA hzA
      have bA2 := qA2 wA hzA
      have bA3 := qA3 wA hzA
      have bA4 := qA4 wA hzA
      have bA5 := qA5 wA hzA
      clear qA0 qA1 qA2 qA3 qA4 qA5
      have lA_1 : w.heap.size < wA.heap.size := by omega
      have lA_2 : w.heap.size + 1 < wA.heap.size := by omega
      have lA_3 : w.heap.size + 1 + 1 < wA.heap.size := by omega
      have HV := Lib.hid (og_out (col := col) (a1 := a1) (a2 := a2) (b1 := b1) (b2 := b2) (c1 := c1) (c2 := c2) hp (by simp [ogB, hd1, hd2]))
      go_wp2
      (refine bodyPost_ret (v := .tuple #[.slice none 0 0, .int .i64 (ogC p col a1 a2 b1 b2 c1 c2)]) (by simp [results, Try.results35, go_sem, HV.out.2]) rfl (slicePost_nil HV.out.1 ?_))
      (repeat (first | with_reducible exact Below.refl _ _ | with_reducible exact hxA | with_reducible refine balloc ?_ _ | with_reducible refine bdrewN ?_ _ | with_reducible refine Below.drew ?_ | with_reducible refine bthen ?_ (by with_reducible assumption) | with_reducible refine Below.setCell ?_ (by first | (simp; done) | (simp; omega)) _))
    · have hc := hd2
      have hcr := colB_range hc
      rcases bool_ways (numsIn p [a1, a2, b1, b2, c1, c2]) with hd3 | hd3
      · skip
        have c_1 : tcC p (colB col) a1 a2 b1 b2 c1 c2 = 2 := by simp [tcC, hd1, hd2, hd3]
        have c_1b : tcC p true a1 a2 b1 b2 c1 c2 = 2 := by simp [tcC, hd1, hd2, hd3]
        have hWA : Below w.heap.size w wO := by (repeat (first | with_reducible exact Below.refl _ _ | with_reducible exact hxO | with_reducible refine balloc ?_ _ | with_reducible refine bdrewN ?_ _ | with_reducible refine Below.drew ?_ | with_reducible refine bthen ?_ (by with_reducible assumption) | with_reducible refine Below.setCell ?_ (by first | (simp; done) | (simp; omega)) _))
        have kA0 : wO.cell? ⟨w.heap.size, 0, none⟩ = some (.int .i64 a1) := by (first | with_reducible assumption | (repeat (first | with_reducible assumption | ((with_reducible refine kfresh ?_ ?_) <;> (first | with_reducible rfl | (simp; done))) | ((with_reducible refine ksameS ?_); focus ((repeat (first | with_reducible exact kis_of (by with_reducible assumption) | with_reducible refine kis_set ?_ | ((with_reducible refine kis_new ?_ ?_) <;> (first | with_reducible rfl | rfl | (simp; done))) | with_reducible refine kis_alloc _ ?_ | with_reducible refine kis_drew ?_ | with_reducible refine kis_call (by with_reducible assumption) ?_ | with_reducible exact kis_of (kcall (by with_reducible assumption) (by with_reducible assumption)))); done)) | with_reducible refine kother (by decide) ?_ | with_reducible refine kset (by first | omega | (simp; done) | (simp; omega)) ?_ | with_reducible refine kalloc _ ?_ | with_reducible refine kdrew ?_ | with_reducible refine kcall (by with_reducible assumption) ?_)))
        have qA0 : ∀ W : World, Below wO.heap.size wO W → W.cell? ⟨w.heap.size, 0, none⟩ = some (.int .i64 a1) := fun W h => bholds kA0 h
        have kA1 : wO.cell? ⟨w.heap.size, 1, none⟩ = some (.int .i64 a2) := by (first | with_reducible assumption | (repeat (first | with_reducible assumption | ((with_reducible refine kfresh ?_ ?_) <;> (first | with_reducible rfl | (simp; done))) | ((with_reducible refine ksameS ?_); focus ((repeat (first | with_reducible exact kis_of (by with_reducible assumption) | with_reducible refine kis_set ?_ | ((with_reducible refine kis_new ?_ ?_) <;> (first | with_reducible rfl | rfl | (simp; done))) | with_reducible refine kis_alloc _ ?_ | with_reducible refine kis_drew ?_ | with_reducible refine kis_call (by with_reducible assumption) ?_ | with_reducible exact kis_of (kcall (by with_reducible assumption) (by with_reducible assumption)))); done)) | with_reducible refine kother (by decide) ?_ | with_reducible refine kset (by first | omega | (simp; done) | (simp; omega)) ?_ | with_reducible refine kalloc _ ?_ | with_reducible refine kdrew ?_ | with_reducible refine kcall (by with_reducible assumption) ?_)))
        have qA1 : ∀ W : World, Below wO.heap.size wO W → W.cell? ⟨w.heap.size, 1, none⟩ = some (.int .i64 a2) := fun W h => bholds kA1 h
        have kA2 : wO.cell? ⟨w.heap.size + 1, 0, none⟩ = some (.int .i64 b1) := by (first | with_reducible assumption | (repeat (first | with_reducible assumption | ((with_reducible refine kfresh ?_ ?_) <;> (first | with_reducible rfl | (simp; done))) | ((with_reducible refine ksameS ?_); focus ((repeat (first | with_reducible exact kis_of (by with_reducible assumption) | with_reducible refine kis_set ?_ | ((with_reducible refine kis_new ?_ ?_) <;> (first | with_reducible rfl | rfl | (simp; done))) | with_reducible refine kis_alloc _ ?_ | with_reducible refine kis_drew ?_ | with_reducible refine kis_call (by with_reducible assumption) ?_ | with_reducible exact kis_of (kcall (by with_reducible assumption) (by with_reducible assumption)))); done)) | with_reducible refine kother (by decide) ?_ | with_reducible refine kset (by first | omega | (simp; done) | (simp; omega)) ?_ | with_reducible refine kalloc _ ?_ | with_reducible refine kdrew ?_ | with_reducible refine kcall (by with_reducible assumption) ?_)))
        have qA2 : ∀ W : World, Below wO.heap.size wO W → W.cell? ⟨w.heap.size + 1, 0, none⟩ = some (.int .i64 b1) := fun W h => bholds kA2 h
        have kA3 : wO.cell? ⟨w.heap.size + 1, 1, none⟩ = some (.int .i64 b2) := by (first | with_reducible assumption | (repeat (first | with_reducible assumption | ((with_reducible refine kfresh ?_ ?_) <;> (first | with_reducible rfl | (simp; done))) | ((with_reducible refine ksameS ?_); focus ((repeat (first | with_reducible exact kis_of (by with_reducible assumption) | with_reducible refine kis_set ?_ | ((with_reducible refine kis_new ?_ ?_) <;> (first | with_reducible rfl | rfl | (simp; done))) | with_reducible refine kis_alloc _ ?_ | with_reducible refine kis_drew ?_ | with_reducible refine kis_call (by with_reducible assumption) ?_ | with_reducible exact kis_of (kcall (by with_reducible assumption) (by with_reducible assumption)))); done)) | with_reducible refine kother (by decide) ?_ | with_reducible refine kset (by first | omega | (simp; done) | (simp; omega)) ?_ | with_reducible refine kalloc _ ?_ | with_reducible refine kdrew ?_ | with_reducible refine kcall (by with_reducible assumption) ?_)))
        have qA3 : ∀ W : World, Below wO.heap.size wO W → W.cell? ⟨w.heap.size + 1, 1, none⟩ = some (.int .i64 b2) := fun W h => bholds kA3 h
        have kA4 : wO.cell? ⟨w.heap.size + 1 + 1, 0, none⟩ = some (.int .i64 c1) := by (first | with_reducible assumption | (repeat (first | with_reducible assumption | ((with_reducible refine kfresh ?_ ?_) <;> (first | with_reducible rfl | (simp; done))) | ((with_reducible refine ksameS ?_); focus ((repeat (first | with_reducible exact kis_of (by with_reducible assumption) | with_reducible refine kis_set ?_ | ((with_reducible refine kis_new ?_ ?_) <;> (first | with_reducible rfl | rfl | (simp; done))) | with_reducible refine kis_alloc _ ?_ | with_reducible refine kis_drew ?_ | with_reducible refine kis_call (by with_reducible assumption) ?_ | with_reducible exact kis_of (kcall (by with_reducible assumption) (by with_reducible assumption)))); done)) | with_reducible refine kother (by decide) ?_ | with_reducible refine kset (by first | omega | (simp; done) | (simp; omega)) ?_ | with_reducible refine kalloc _ ?_ | with_reducible refine kdrew ?_ | with_reducible refine kcall (by with_reducible assumption) ?_)))
        have qA4 : ∀ W : World, Below wO.heap.size wO W → W.cell? ⟨w.heap.size + 1 + 1, 0, none⟩ = some (.int .i64 c1) := fun W h => bholds kA4 h
        have kA5 : wO.cell? ⟨w.heap.size + 1 + 1, 1, none⟩ = some (.int .i64 c2) := by (first | with_reducible assumption | (repeat (first | with_reducible assumption | ((with_reducible refine kfresh ?_ ?_) <;> (first | with_reducible rfl | (simp; done))) | ((with_reducible refine ksameS ?_); focus ((repeat (first | with_reducible exact kis_of (by with_reducible assumption) | with_reducible refine kis_set ?_ | ((with_reducible refine kis_new ?_ ?_) <;> (first | with_reducible rfl | rfl | (simp; done))) | with_reducible refine kis_alloc _ ?_ | with_reducible refine kis_drew ?_ | with_reducible refine kis_call (by with_reducible assumption) ?_ | with_reducible exact kis_of (kcall (by with_reducible assumption) (by with_reducible assumption)))); done)) | with_reducible refine kother (by decide) ?_ | with_reducible refine kset (by first | omega | (simp; done) | (simp; omega)) ?_ | with_reducible refine kalloc _ ?_ | with_reducible refine kdrew ?_ | with_reducible refine kcall (by with_reducible assumption) ?_)))
        have qA5 : ∀ W : World, Below wO.heap.size wO W → W.cell? ⟨w.heap.size + 1 + 1, 1, none⟩ = some (.int .i64 c2) := fun W h => bholds kA5 h
        go_upto_region 1 with fail
        go_cut [12] (fun s12 wx => s12 = .int .i64 2 ∧ Below wO.heap.size wO wx)
        case first =>
          go_region_held3 (fun W => Below wO.heap.size wO W) (first | with_reducible assumption | with_reducible exact bthen (by with_reducible assumption) hB | with_reducible exact bfromdrew hB | with_reducible exact balloc (by with_reducible assumption) _ | with_reducible exact Below.drew (balloc (bundrew (by with_reducible assumption)) _) | with_reducible exact brealloc (by first | exact Nat.le_refl _ | omega | (simp; done) | (simp; omega)) (by with_reducible assumption) | with_reducible exact Below.drew (brealloc (by first | exact Nat.le_refl _ | omega | (simp; done) | (simp; omega)) (bundrew (by with_reducible assumption))) | ((repeat with_reducible refine Below.setCell ?_ (by first | exact Nat.le_refl _ | omega | (simp; done) | (simp; omega)) _); with_reducible assumption) | with_reducible exact Below.refl _ _ | with_reducible exact Below.drew (Below.refl _ _) | with_reducible exact Below.drew (by with_reducible assumption)) (first | (go_at_call 54; refine Calls.mono (isColour_any _ _) ?_; rintro e wq ⟨rfl, rfl⟩) | (go_at_call 53; refine Calls.mono (implTri_any _ _ _ _ _ _ _ _ _ ) ?_; rintro e wq ⟨rfl, hB⟩; have hBs := hB.size; (try simp at hBs)))
          all_goals
            go_wp2_with fail
            go_meet
            refine ⟨rfl, ?_⟩
            · (first | with_reducible assumption | exact Below.drew (by with_reducible assumption) | exact bundrew (by with_reducible assumption) | (repeat (first | with_reducible exact Below.refl _ _ | with_reducible refine balloc ?_ _ | with_reducible refine bdrewN ?_ _ | with_reducible refine Below.drew ?_ | with_reducible refine bthen ?_ (by with_reducible assumption) | with_reducible refine Below.setCell ?_ (by first | (simp; done) | (simp; omega)) _)))
        case' rest => obtain ⟨rfl, hzA⟩ := hcut
        obtain ⟨wA, rfl⟩ : ∃ wA : World, wA = wc := ⟨_, rfl⟩
        have hsA := hzA.size
        have hxA : Below w.heap.size w wA := bthen hWA hzA
        have bA0 := qA0 wA hzA
        have bA1 := qA1 wA hzA
        have bA2 := qA2 wA hzA
        have bA3 := qA3 wA hzA
        have bA4 := qA4 wA hzA
        have bA5 := qA5 wA hzA
        clear qA0 qA1 qA2 qA3 qA4 qA5
        have lA_1 : w.heap.size < wA.heap.size := by omega
        have lA_2 : w.heap.size + 1 < wA.heap.size := by omega
        have lA_3 : w.heap.size + 1 + 1 < wA.heap.size := by omega
        have HV := Lib.hid (og_out (col := col) (a1 := a1) (a2 := a2) (b1 := b1) (b2 := b2) (c1 := c1) (c2 := c2) hp (by simp [ogB, hd1, hd2, hd3]))
        go_wp2
        (refine bodyPost_ret (v := .tuple #[.slice none 0 0, .int .i64 (ogC p col a1 a2 b1 b2 c1 c2)]) (by simp [results, Try.results35, go_sem, HV.out.2]) rfl (slicePost_nil HV.out.1 ?_))
        (repeat (first | with_reducible exact Below.refl _ _ | with_reducible exact hxA | with_reducible refine balloc ?_ _ | with_reducible refine bdrewN ?_ _ | with_reducible refine Below.drew ?_ | with_reducible refine bthen ?_ (by with_reducible assumption) | with_reducible refine Below.setCell ?_ (by first | (simp; done) | (simp; omega)) _))
      · have hd3q := nums6 hd3
        rcases bool_ways (area p a1 a2 b1 b2 c1 c2 == 0) with hd4 | hd4
        · have hd4n : (area p a1 a2 b1 b2 c1 c2 != 0) = true := by rw [bne, hd4]; rfl
          have Hhd4p := Lib.hid (beq_eq_false_iff_ne.1 hd4)
          have c_1 : tcC p (colB col) a1 a2 b1 b2 c1 c2 = 0 := by simp [tcC, hd1, hd2, hd3, hd4]
          have c_1b : tcC p true a1 a2 b1 b2 c1 c2 = 0 := by simp [tcC, hd1, hd2, hd3, hd4]
          have hWA : Below w.heap.size w wO := by (repeat (first | with_reducible exact Below.refl _ _ | with_reducible exact hxO | with_reducible refine balloc ?_ _ | with_reducible refine bdrewN ?_ _ | with_reducible refine Below.drew ?_ | with_reducible refine bthen ?_ (by with_reducible assumption) | with_reducible refine Below.setCell ?_ (by first | (simp; done) | (simp; omega)) _))
          have kA0 : wO.cell? ⟨w.heap.size, 0, none⟩ = some (.int .i64 a1) := by (first | with_reducible assumption | (repeat (first | with_reducible assumption | ((with_reducible refine kfresh ?_ ?_) <;> (first | with_reducible rfl | (simp; done))) | ((with_reducible refine ksameS ?_); focus ((repeat (first | with_reducible exact kis_of (by with_reducible assumption) | with_reducible refine kis_set ?_ | ((with_reducible refine kis_new ?_ ?_) <;> (first | with_reducible rfl | rfl | (simp; done))) | with_reducible refine kis_alloc _ ?_ | with_reducible refine kis_drew ?_ | with_reducible refine kis_call (by with_reducible assumption) ?_ | with_reducible exact kis_of (kcall (by with_reducible assumption) (by with_reducible assumption)))); done)) | with_reducible refine kother (by decide) ?_ | with_reducible refine kset (by first | omega | (simp; done) | (simp; omega)) ?_ | with_reducible refine kalloc _ ?_ | with_reducible refine kdrew ?_ | with_reducible refine kcall (by with_reducible assumption) ?_)))
          have qA0 : ∀ W : World, Below wO.heap.size wO W → W.cell? ⟨w.heap.size, 0, none⟩ = some (.int .i64 a1) := fun W h => bholds kA0 h
          have kA1 : wO.cell? ⟨w.heap.size, 1, none⟩ = some (.int .i64 a2) := by (first | with_reducible assumption | (repeat (first | with_reducible assumption | ((with_reducible refine kfresh ?_ ?_) <;> (first | with_reducible rfl | (simp; done))) | ((with_reducible refine ksameS ?_); focus ((repeat (first | with_reducible exact kis_of (by with_reducible assumption) | with_reducible refine kis_set ?_ | ((with_reducible refine kis_new ?_ ?_) <;> (first | with_reducible rfl | rfl | (simp; done))) | with_reducible refine kis_alloc _ ?_ | with_reducible refine kis_drew ?_ | with_reducible refine kis_call (by with_reducible assumption) ?_ | with_reducible exact kis_of (kcall (by with_reducible assumption) (by with_reducible assumption)))); done)) | with_reducible refine kother (by decide) ?_ | with_reducible refine kset (by first | omega | (simp; done) | (simp; omega)) ?_ | with_reducible refine kalloc _ ?_ | with_reducible refine kdrew ?_ | with_reducible refine kcall (by with_reducible assumption) ?_)))
          have qA1 : ∀ W : World, Below wO.heap.size wO W → W.cell? ⟨w.heap.size, 1, none⟩ = some (.int .i64 a2) := fun W h => bholds kA1 h
          have kA2 : wO.cell? ⟨w.heap.size + 1, 0, none⟩ = some (.int .i64 b1) := by (first | with_reducible assumption | (repeat (first | with_reducible assumption | ((with_reducible refine kfresh ?_ ?_) <;> (first | with_reducible rfl | (simp; done))) | ((with_reducible refine ksameS ?_); focus ((repeat (first | with_reducible exact kis_of (by with_reducible assumption) | with_reducible refine kis_set ?_ | ((with_reducible refine kis_new ?_ ?_) <;> (first | with_reducible rfl | rfl | (simp; done))) | with_reducible refine kis_alloc _ ?_ | with_reducible refine kis_drew ?_ | with_reducible refine kis_call (by with_reducible assumption) ?_ | with_reducible exact kis_of (kcall (by with_reducible assumption) (by with_reducible assumption)))); done)) | with_reducible refine kother (by decide) ?_ | with_reducible refine kset (by first | omega | (simp; done) | (simp; omega)) ?_ | with_reducible refine kalloc _ ?_ | with_reducible refine kdrew ?_ | with_reducible refine kcall (by with_reducible assumption) ?_)))
          have qA2 : ∀ W : World, Below wO.heap.size wO W → W.cell? ⟨w.heap.size + 1, 0, none⟩ = some (.int .i64 b1) := fun W h => bholds kA2 h
          have kA3 : wO.cell? ⟨w.heap.size + 1, 1, none⟩ = some (.int .i64 b2) := by (first | with_reducible assumption | (repeat (first | with_reducible assumption | ((with_reducible refine kfresh ?_ ?_) <;> (first | with_reducible rfl | (simp; done))) | ((with_reducible refine ksameS ?_); focus ((repeat (first | with_reducible exact kis_of (by with_reducible assumption) | with_reducible refine kis_set ?_ | ((with_reducible refine kis_new ?_ ?_) <;> (first | with_reducible rfl | rfl | (simp; done))) | with_reducible refine kis_alloc _ ?_ | with_reducible refine kis_drew ?_ | with_reducible refine kis_call (by with_reducible assumption) ?_ | with_reducible exact kis_of (kcall (by with_reducible assumption) (by with_reducible assumption)))); done)) | with_reducible refine kother (by decide) ?_ | with_reducible refine kset (by first | omega | (simp; done) | (simp; omega)) ?_ | with_reducible refine kalloc _ ?_ | with_reducible refine kdrew ?_ | with_reducible refine kcall (by with_reducible assumption) ?_)))
          have qA3 : ∀ W : World, Below wO.heap.size wO W → W.cell? ⟨w.heap.size + 1, 1, none⟩ = some (.int .i64 b2) := fun W h => bholds kA3 h
          have kA4 : wO.cell? ⟨w.heap.size + 1 + 1, 0, none⟩ = some (.int .i64 c1) := by (first | with_reducible assumption | (repeat (first | with_reducible assumption | ((with_reducible refine kfresh ?_ ?_) <;> (first | with_reducible rfl | (simp; done))) | ((with_reducible refine ksameS ?_); focus ((repeat (first | with_reducible exact kis_of (by with_reducible assumption) | with_reducible refine kis_set ?_ | ((with_reducible refine kis_new ?_ ?_) <;> (first | with_reducible rfl | rfl | (simp; done))) | with_reducible refine kis_alloc _ ?_ | with_reducible refine kis_drew ?_ | with_reducible refine kis_call (by with_reducible assumption) ?_ | with_reducible exact kis_of (kcall (by with_reducible assumption) (by with_reducible assumption)))); done)) | with_reducible refine kother (by decide) ?_ | with_reducible refine kset (by first | omega | (simp; done) | (simp; omega)) ?_ | with_reducible refine kalloc _ ?_ | with_reducible refine kdrew ?_ | with_reducible refine kcall (by with_reducible assumption) ?_)))
          have qA4 : ∀ W : World, Below wO.heap.size wO W → W.cell? ⟨w.heap.size + 1 + 1, 0, none⟩ = some (.int .i64 c1) := fun W h => bholds kA4 h
          have kA5 : wO.cell? ⟨w.heap.size + 1 + 1, 1, none⟩ = some (.int .i64 c2) := by (first | with_reducible assumption | (repeat (first | with_reducible assumption | ((with_reducible refine kfresh ?_ ?_) <;> (first | with_reducible rfl | (simp; done))) | ((with_reducible refine ksameS ?_); focus ((repeat (first | with_reducible exact kis_of (by with_reducible assumption) | with_reducible refine kis_set ?_ | ((with_reducible refine kis_new ?_ ?_) <;> (first | with_reducible rfl | rfl | (simp; done))) | with_reducible refine kis_alloc _ ?_ | with_reducible refine kis_drew ?_ | with_reducible refine kis_call (by with_reducible assumption) ?_ | with_reducible exact kis_of (kcall (by with_reducible assumption) (by with_reducible assumption)))); done)) | with_reducible refine kother (by decide) ?_ | with_reducible refine kset (by first | omega | (simp; done) | (simp; omega)) ?_ | with_reducible refine kalloc _ ?_ | with_reducible refine kdrew ?_ | with_reducible refine kcall (by with_reducible assumption) ?_)))
          have qA5 : ∀ W : World, Below wO.heap.size wO W → W.cell? ⟨w.heap.size + 1 + 1, 1, none⟩ = some (.int .i64 c2) := fun W h => bholds kA5 h
          go_upto_region 1 with fail
          go_cut [12] (fun s12 wx => s12 = .int .i64 0 ∧ Below wO.heap.size wO wx)
          case first =>
            go_region_held3 (fun W => Below wO.heap.size wO W) (first | with_reducible assumption | with_reducible exact bthen (by with_reducible assumption) hB | with_reducible exact bfromdrew hB | with_reducible exact balloc (by with_reducible assumption) _ | with_reducible exact Below.drew (balloc (bundrew (by with_reducible assumption)) _) | with_reducible exact brealloc (by first | exact Nat.le_refl _ | omega | (simp; done) | (simp; omega)) (by with_reducible assumption) | with_reducible exact Below.drew (brealloc (by first | exact Nat.le_refl _ | omega | (simp; done) | (simp; omega)) (bundrew (by with_reducible assumption))) | ((repeat with_reducible refine Below.setCell ?_ (by first | exact Nat.le_refl _ | omega | (simp; done) | (simp; omega)) _); with_reducible assumption) | with_reducible exact Below.refl _ _ | with_reducible exact Below.drew (Below.refl _ _) | with_reducible exact Below.drew (by with_reducible assumption)) (first | (go_at_call 54; refine Calls.mono (isColour_any _ _) ?_; rintro e wq ⟨rfl, rfl⟩) | (go_at_call 53; refine Calls.mono (implTri_any _ _ _ _ _ _ _ _ _ ) ?_; rintro e wq ⟨rfl, hB⟩; have hBs := hB.size; (try simp at hBs)))
            all_goals
              go_wp2_with fail
              go_meet
              refine ⟨rfl, ?_⟩
              · (first | with_reducible assumption | exact Below.drew (by with_reducible assumption) | exact bundrew (by with_reducible assumption) | (repeat (first | with_reducible exact Below.refl _ _ | with_reducible refine balloc ?_ _ | with_reducible refine bdrewN ?_ _ | with_reducible refine Below.drew ?_ | with_reducible refine bthen ?_ (by with_reducible assumption) | with_reducible refine Below.setCell ?_ (by first | (simp; done) | (simp; omega)) _)))
          case' rest => obtain ⟨rfl, hzA⟩ := hcut
          obtain ⟨wA, rfl⟩ : ∃ wA : World, wA = wc := ⟨_, rfl⟩
          have hsA := hzA.size
          have hxA : Below w.heap.size w wA := bthen hWA hzA
          have bA0 := qA0 wA hzA
          have bA1 := qA1 wA hzA
          have bA2 := qA2 wA hzA
          have bA3 := qA3 wA hzA
          have bA4 := qA4 wA hzA
          have bA5 := qA5 wA hzA
          clear qA0 qA1 qA2 qA3 qA4 qA5
          have lA_1 : w.heap.size < wA.heap.size := by omega
          have lA_2 : w.heap.size + 1 < wA.heap.size := by omega
          have lA_3 : w.heap.size + 1 + 1 < wA.heap.size := by omega
          have hA := hd4
          have HA := Lib.hid hA
          have HBB := Lib.hid (show ogB p col a1 a2 b1 b2 c1 c2 = true from by simp [ogB, hc, hd3])
          have hLB0 := th_line (a1 := b1) (a2 := b2) (b1 := c1) (b2 := c2) hp (by omega) (by omega) (by omega) (by omega) (tri_bc hA)
          have rL01 := th1_r b1 b2 c1 c2 hp
          have rL02 := th2_r b1 b2 c1 c2 hp
          have rL03 := th3_r b1 b2 c1 c2 hp
          obtain ⟨L01, hL01⟩ : ∃ v : Int, v = th1 p b1 b2 c1 c2 := ⟨_, rfl⟩
          rw [← hL01] at hLB0 rL01
          have HL01 := Lib.hid hL01
          clear hL01
          obtain ⟨L02, hL02⟩ : ∃ v : Int, v = th2 p b1 b2 c1 c2 := ⟨_, rfl⟩
          rw [← hL02] at hLB0 rL02
          have HL02 := Lib.hid hL02
          clear hL02
          obtain ⟨L03, hL03⟩ : ∃ v : Int, v = th3 p b1 b2 c1 c2 := ⟨_, rfl⟩
          rw [← hL03] at hLB0 rL03
          have HL03 := Lib.hid hL03
          clear hL03
          have HLB0 := Lib.hid hLB0
          clear hLB0
          have hLB1 := th_line (a1 := a1) (a2 := a2) (b1 := c1) (b2 := c2) hp (by omega) (by omega) (by omega) (by omega) (tri_ac hA)
          have rL11 := th1_r a1 a2 c1 c2 hp
          have rL12 := th2_r a1 a2 c1 c2 hp
          have rL13 := th3_r a1 a2 c1 c2 hp
          have hcm := th_comm (a1 := a1) (a2 := a2) (b1 := c1) (b2 := c2) hp (by omega) (by omega) (by omega) (by omega) (tri_ac hA)
          obtain ⟨L11, hL11⟩ : ∃ v : Int, v = th1 p a1 a2 c1 c2 := ⟨_, rfl⟩
          rw [← hL11] at hLB1 rL11 hcm
          have HL11 := Lib.hid hL11
          clear hL11
          obtain ⟨L12, hL12⟩ : ∃ v : Int, v = th2 p a1 a2 c1 c2 := ⟨_, rfl⟩
          rw [← hL12] at hLB1 rL12 hcm
          have HL12 := Lib.hid hL12
          clear hL12
          obtain ⟨L13, hL13⟩ : ∃ v : Int, v = th3 p a1 a2 c1 c2 := ⟨_, rfl⟩
          rw [← hL13] at hLB1 rL13 hcm
          have HL13 := Lib.hid hL13
          clear hL13
          have HLB1 := Lib.hid hLB1
          clear hLB1
          have HCM := Lib.hid hcm
          clear hcm
          have hLB2 := th_line (a1 := a1) (a2 := a2) (b1 := b1) (b2 := b2) hp (by omega) (by omega) (by omega) (by omega) (tri_ab hA)
          have rL21 := th1_r a1 a2 b1 b2 hp
          have rL22 := th2_r a1 a2 b1 b2 hp
          have rL23 := th3_r a1 a2 b1 b2 hp
          obtain ⟨L21, hL21⟩ : ∃ v : Int, v = th1 p a1 a2 b1 b2 := ⟨_, rfl⟩
          rw [← hL21] at hLB2 rL21
          have HL21 := Lib.hid hL21
          clear hL21
          obtain ⟨L22, hL22⟩ : ∃ v : Int, v = th2 p a1 a2 b1 b2 := ⟨_, rfl⟩
          rw [← hL22] at hLB2 rL22
          have HL22 := Lib.hid hL22
          clear hL22
          obtain ⟨L23, hL23⟩ : ∃ v : Int, v = th3 p a1 a2 b1 b2 := ⟨_, rfl⟩
          rw [← hL23] at hLB2 rL23
          have HL23 := Lib.hid hL23
          clear hL23
          have HLB2 := Lib.hid hLB2
          clear hLB2
          obtain ⟨i0, hi, hz0, hz1, hz2⟩ := info_parts infoPt
          have ka0 : wA.cell? ⟨w.heap.size, 0, none⟩ = some (.int .i64 a1) := by (first | with_reducible assumption | (repeat (first | with_reducible assumption | ((with_reducible refine kfresh ?_ ?_) <;> (first | with_reducible rfl | (simp; done))) | ((with_reducible refine ksameS ?_); focus ((repeat (first | with_reducible exact kis_of (by with_reducible assumption) | with_reducible refine kis_set ?_ | ((with_reducible refine kis_new ?_ ?_) <;> (first | with_reducible rfl | rfl | (simp; done))) | with_reducible refine kis_alloc _ ?_ | with_reducible refine kis_drew ?_ | with_reducible refine kis_call (by with_reducible assumption) ?_ | with_reducible exact kis_of (kcall (by with_reducible assumption) (by with_reducible assumption)))); done)) | with_reducible refine kother (by decide) ?_ | with_reducible refine kset (by first | omega | (simp; done) | (simp; omega)) ?_ | with_reducible refine kalloc _ ?_ | with_reducible refine kdrew ?_ | with_reducible refine kcall (by with_reducible assumption) ?_)))
          have ka1 : wA.cell? ⟨w.heap.size, 1, none⟩ = some (.int .i64 a2) := by (first | with_reducible assumption | (repeat (first | with_reducible assumption | ((with_reducible refine kfresh ?_ ?_) <;> (first | with_reducible rfl | (simp; done))) | ((with_reducible refine ksameS ?_); focus ((repeat (first | with_reducible exact kis_of (by with_reducible assumption) | with_reducible refine kis_set ?_ | ((with_reducible refine kis_new ?_ ?_) <;> (first | with_reducible rfl | rfl | (simp; done))) | with_reducible refine kis_alloc _ ?_ | with_reducible refine kis_drew ?_ | with_reducible refine kis_call (by with_reducible assumption) ?_ | with_reducible exact kis_of (kcall (by with_reducible assumption) (by with_reducible assumption)))); done)) | with_reducible refine kother (by decide) ?_ | with_reducible refine kset (by first | omega | (simp; done) | (simp; omega)) ?_ | with_reducible refine kalloc _ ?_ | with_reducible refine kdrew ?_ | with_reducible refine kcall (by with_reducible assumption) ?_)))
          have ka2 : wA.cell? ⟨w.heap.size + 1, 0, none⟩ = some (.int .i64 b1) := by (first | with_reducible assumption | (repeat (first | with_reducible assumption | ((with_reducible refine kfresh ?_ ?_) <;> (first | with_reducible rfl | (simp; done))) | ((with_reducible refine ksameS ?_); focus ((repeat (first | with_reducible exact kis_of (by with_reducible assumption) | with_reducible refine kis_set ?_ | ((with_reducible refine kis_new ?_ ?_) <;> (first | with_reducible rfl | rfl | (simp; done))) | with_reducible refine kis_alloc _ ?_ | with_reducible refine kis_drew ?_ | with_reducible refine kis_call (by with_reducible assumption) ?_ | with_reducible exact kis_of (kcall (by with_reducible assumption) (by with_reducible assumption)))); done)) | with_reducible refine kother (by decide) ?_ | with_reducible refine kset (by first | omega | (simp; done) | (simp; omega)) ?_ | with_reducible refine kalloc _ ?_ | with_reducible refine kdrew ?_ | with_reducible refine kcall (by with_reducible assumption) ?_)))
          have ka3 : wA.cell? ⟨w.heap.size + 1, 1, none⟩ = some (.int .i64 b2) := by (first | with_reducible assumption | (repeat (first | with_reducible assumption | ((with_reducible refine kfresh ?_ ?_) <;> (first | with_reducible rfl | (simp; done))) | ((with_reducible refine ksameS ?_); focus ((repeat (first | with_reducible exact kis_of (by with_reducible assumption) | with_reducible refine kis_set ?_ | ((with_reducible refine kis_new ?_ ?_) <;> (first | with_reducible rfl | rfl | (simp; done))) | with_reducible refine kis_alloc _ ?_ | with_reducible refine kis_drew ?_ | with_reducible refine kis_call (by with_reducible assumption) ?_ | with_reducible exact kis_of (kcall (by with_reducible assumption) (by with_reducible assumption)))); done)) | with_reducible refine kother (by decide) ?_ | with_reducible refine kset (by first | omega | (simp; done) | (simp; omega)) ?_ | with_reducible refine kalloc _ ?_ | with_reducible refine kdrew ?_ | with_reducible refine kcall (by with_reducible assumption) ?_)))
          have ka4 : wA.cell? ⟨w.heap.size + 1 + 1, 0, none⟩ = some (.int .i64 c1) := by (first | with_reducible assumption | (repeat (first | with_reducible assumption | ((with_reducible refine kfresh ?_ ?_) <;> (first | with_reducible rfl | (simp; done))) | ((with_reducible refine ksameS ?_); focus ((repeat (first | with_reducible exact kis_of (by with_reducible assumption) | with_reducible refine kis_set ?_ | ((with_reducible refine kis_new ?_ ?_) <;> (first | with_reducible rfl | rfl | (simp; done))) | with_reducible refine kis_alloc _ ?_ | with_reducible refine kis_drew ?_ | with_reducible refine kis_call (by with_reducible assumption) ?_ | with_reducible exact kis_of (kcall (by with_reducible assumption) (by with_reducible assumption)))); done)) | with_reducible refine kother (by decide) ?_ | with_reducible refine kset (by first | omega | (simp; done) | (simp; omega)) ?_ | with_reducible refine kalloc _ ?_ | with_reducible refine kdrew ?_ | with_reducible refine kcall (by with_reducible assumption) ?_)))
          have ka5 : wA.cell? ⟨w.heap.size + 1 + 1, 1, none⟩ = some (.int .i64 c2) := by (first | with_reducible assumption | (repeat (first | with_reducible assumption | ((with_reducible refine kfresh ?_ ?_) <;> (first | with_reducible rfl | (simp; done))) | ((with_reducible refine ksameS ?_); focus ((repeat (first | with_reducible exact kis_of (by with_reducible assumption) | with_reducible refine kis_set ?_ | ((with_reducible refine kis_new ?_ ?_) <;> (first | with_reducible rfl | rfl | (simp; done))) | with_reducible refine kis_alloc _ ?_ | with_reducible refine kis_drew ?_ | with_reducible refine kis_call (by with_reducible assumption) ?_ | with_reducible exact kis_of (kcall (by with_reducible assumption) (by with_reducible assumption)))); done)) | with_reducible refine kother (by decide) ?_ | with_reducible refine kset (by first | omega | (simp; done) | (simp; omega)) ?_ | with_reducible refine kalloc _ ?_ | with_reducible refine kdrew ?_ | with_reducible refine kcall (by with_reducible assumption) ?_)))
          have hW0 : Below w.heap.size w wA := by (repeat (first | with_reducible exact Below.refl _ _ | with_reducible exact hxA | with_reducible refine balloc ?_ _ | with_reducible refine bdrewN ?_ _ | with_reducible refine Below.drew ?_ | with_reducible refine bthen ?_ (by with_reducible assumption) | with_reducible refine Below.setCell ?_ (by first | (simp; done) | (simp; omega)) _))
          go_upto_region 4 with fail
          go_cut [13] (fun s13 wx => ∃ g : Nat, s13 = .slice (some ⟨g, 0, none⟩) 5 5 ∧ wx.cell? ⟨g, 0, none⟩ = some (.int .i64 a1) ∧ wx.cell? ⟨g, 1, none⟩ = some (.int .i64 a2) ∧ wx.cell? ⟨g, 2, none⟩ = some (.int .i64 b1) ∧ wx.cell? ⟨g, 3, none⟩ = some (.int .i64 b2) ∧ wx.cell? ⟨g, 4, none⟩ = some (.int .i64 c1) ∧ wx.cell? ⟨g, 5, none⟩ = some (.int .i64 c2) ∧ wx.cell? ⟨g, 6, none⟩ = some (.int .i64 a1) ∧ wx.cell? ⟨g, 7, none⟩ = some (.int .i64 a2) ∧ wx.cell? ⟨g, 8, none⟩ = some (.int .i64 b1) ∧ wx.cell? ⟨g, 9, none⟩ = some (.int .i64 b2) ∧ Below wA.heap.size wA wx)
          case first =>
            go_wp2
            go_meet
            refine ⟨_, rfl, ?_, ?_, ?_, ?_, ?_, ?_, ?_, ?_, ?_, ?_, ?_⟩
            · (repeat (first | with_reducible assumption | ((with_reducible refine kfresh ?_ ?_) <;> (first | with_reducible rfl | (simp; done))) | ((with_reducible refine ksameS ?_); focus ((repeat (first | with_reducible exact kis_of (by with_reducible assumption) | with_reducible refine kis_set ?_ | ((with_reducible refine kis_new ?_ ?_) <;> (first | with_reducible rfl | rfl | (simp; done))) | with_reducible refine kis_alloc _ ?_ | with_reducible refine kis_drew ?_ | with_reducible refine kis_call (by with_reducible assumption) ?_ | with_reducible exact kis_of (kcall (by with_reducible assumption) (by with_reducible assumption)))); done)) | with_reducible refine kother (by decide) ?_ | with_reducible refine kset (by first | omega | (simp; done) | (simp; omega)) ?_ | with_reducible refine kalloc _ ?_ | with_reducible refine kdrew ?_ | with_reducible refine kcall (by with_reducible assumption) ?_))
            · (repeat (first | with_reducible assumption | ((with_reducible refine kfresh ?_ ?_) <;> (first | with_reducible rfl | (simp; done))) | ((with_reducible refine ksameS ?_); focus ((repeat (first | with_reducible exact kis_of (by with_reducible assumption) | with_reducible refine kis_set ?_ | ((with_reducible refine kis_new ?_ ?_) <;> (first | with_reducible rfl | rfl | (simp; done))) | with_reducible refine kis_alloc _ ?_ | with_reducible refine kis_drew ?_ | with_reducible refine kis_call (by with_reducible assumption) ?_ | with_reducible exact kis_of (kcall (by with_reducible assumption) (by with_reducible assumption)))); done)) | with_reducible refine kother (by decide) ?_ | with_reducible refine kset (by first | omega | (simp; done) | (simp; omega)) ?_ | with_reducible refine kalloc _ ?_ | with_reducible refine kdrew ?_ | with_reducible refine kcall (by with_reducible assumption) ?_))
            · (repeat (first | with_reducible assumption | ((with_reducible refine kfresh ?_ ?_) <;> (first | with_reducible rfl | (simp; done))) | ((with_reducible refine ksameS ?_); focus ((repeat (first | with_reducible exact kis_of (by with_reducible assumption) | with_reducible refine kis_set ?_ | ((with_reducible refine kis_new ?_ ?_) <;> (first | with_reducible rfl | rfl | (simp; done))) | with_reducible refine kis_alloc _ ?_ | with_reducible refine kis_drew ?_ | with_reducible refine kis_call (by with_reducible assumption) ?_ | with_reducible exact kis_of (kcall (by with_reducible assumption) (by with_reducible assumption)))); done)) | with_reducible refine kother (by decide) ?_ | with_reducible refine kset (by first | omega | (simp; done) | (simp; omega)) ?_ | with_reducible refine kalloc _ ?_ | with_reducible refine kdrew ?_ | with_reducible refine kcall (by with_reducible assumption) ?_))
            · (repeat (first | with_reducible assumption | ((with_reducible refine kfresh ?_ ?_) <;> (first | with_reducible rfl | (simp; done))) | ((with_reducible refine ksameS ?_); focus ((repeat (first | with_reducible exact kis_of (by with_reducible assumption) | with_reducible refine kis_set ?_ | ((with_reducible refine kis_new ?_ ?_) <;> (first | with_reducible rfl | rfl | (simp; done))) | with_reducible refine kis_alloc _ ?_ | with_reducible refine kis_drew ?_ | with_reducible refine kis_call (by with_reducible assumption) ?_ | with_reducible exact kis_of (kcall (by with_reducible assumption) (by with_reducible assumption)))); done)) | with_reducible refine kother (by decide) ?_ | with_reducible refine kset (by first | omega | (simp; done) | (simp; omega)) ?_ | with_reducible refine kalloc _ ?_ | with_reducible refine kdrew ?_ | with_reducible refine kcall (by with_reducible assumption) ?_))
            · (repeat (first | with_reducible assumption | ((with_reducible refine kfresh ?_ ?_) <;> (first | with_reducible rfl | (simp; done))) | ((with_reducible refine ksameS ?_); focus ((repeat (first | with_reducible exact kis_of (by with_reducible assumption) | with_reducible refine kis_set ?_ | ((with_reducible refine kis_new ?_ ?_) <;> (first | with_reducible rfl | rfl | (simp; done))) | with_reducible refine kis_alloc _ ?_ | with_reducible refine kis_drew ?_ | with_reducible refine kis_call (by with_reducible assumption) ?_ | with_reducible exact kis_of (kcall (by with_reducible assumption) (by with_reducible assumption)))); done)) | with_reducible refine kother (by decide) ?_ | with_reducible refine kset (by first | omega | (simp; done) | (simp; omega)) ?_ | with_reducible refine kalloc _ ?_ | with_reducible refine kdrew ?_ | with_reducible refine kcall (by with_reducible assumption) ?_))
            · (repeat (first | with_reducible assumption | ((with_reducible refine kfresh ?_ ?_) <;> (first | with_reducible rfl | (simp; done))) | ((with_reducible refine ksameS ?_); focus ((repeat (first | with_reducible exact kis_of (by with_reducible assumption) | with_reducible refine kis_set ?_ | ((with_reducible refine kis_new ?_ ?_) <;> (first | with_reducible rfl | rfl | (simp; done))) | with_reducible refine kis_alloc _ ?_ | with_reducible refine kis_drew ?_ | with_reducible refine kis_call (by with_reducible assumption) ?_ | with_reducible exact kis_of (kcall (by with_reducible assumption) (by with_reducible assumption)))); done)) | with_reducible refine kother (by decide) ?_ | with_reducible refine kset (by first | omega | (simp; done) | (simp; omega)) ?_ | with_reducible refine kalloc _ ?_ | with_reducible refine kdrew ?_ | with_reducible refine kcall (by with_reducible assumption) ?_))
            · (repeat (first | with_reducible assumption | ((with_reducible refine kfresh ?_ ?_) <;> (first | with_reducible rfl | (simp; done))) | ((with_reducible refine ksameS ?_); focus ((repeat (first | with_reducible exact kis_of (by with_reducible assumption) | with_reducible refine kis_set ?_ | ((with_reducible refine kis_new ?_ ?_) <;> (first | with_reducible rfl | rfl | (simp; done))) | with_reducible refine kis_alloc _ ?_ | with_reducible refine kis_drew ?_ | with_reducible refine kis_call (by with_reducible assumption) ?_ | with_reducible exact kis_of (kcall (by with_reducible assumption) (by with_reducible assumption)))); done)) | with_reducible refine kother (by decide) ?_ | with_reducible refine kset (by first | omega | (simp; done) | (simp; omega)) ?_ | with_reducible refine kalloc _ ?_ | with_reducible refine kdrew ?_ | with_reducible refine kcall (by with_reducible assumption) ?_))
            · (repeat (first | with_reducible assumption | ((with_reducible refine kfresh ?_ ?_) <;> (first | with_reducible rfl | (simp; done))) | ((with_reducible refine ksameS ?_); focus ((repeat (first | with_reducible exact kis_of (by with_reducible assumption) | with_reducible refine kis_set ?_ | ((with_reducible refine kis_new ?_ ?_) <;> (first | with_reducible rfl | rfl | (simp; done))) | with_reducible refine kis_alloc _ ?_ | with_reducible refine kis_drew ?_ | with_reducible refine kis_call (by with_reducible assumption) ?_ | with_reducible exact kis_of (kcall (by with_reducible assumption) (by with_reducible assumption)))); done)) | with_reducible refine kother (by decide) ?_ | with_reducible refine kset (by first | omega | (simp; done) | (simp; omega)) ?_ | with_reducible refine kalloc _ ?_ | with_reducible refine kdrew ?_ | with_reducible refine kcall (by with_reducible assumption) ?_))
            · (repeat (first | with_reducible assumption | ((with_reducible refine kfresh ?_ ?_) <;> (first | with_reducible rfl | (simp; done))) | ((with_reducible refine ksameS ?_); focus ((repeat (first | with_reducible exact kis_of (by with_reducible assumption) | with_reducible refine kis_set ?_ | ((with_reducible refine kis_new ?_ ?_) <;> (first | with_reducible rfl | rfl | (simp; done))) | with_reducible refine kis_alloc _ ?_ | with_reducible refine kis_drew ?_ | with_reducible refine kis_call (by with_reducible assumption) ?_ | with_reducible exact kis_of (kcall (by with_reducible assumption) (by with_reducible assumption)))); done)) | with_reducible refine kother (by decide) ?_ | with_reducible refine kset (by first | omega | (simp; done) | (simp; omega)) ?_ | with_reducible refine kalloc _ ?_ | with_reducible refine kdrew ?_ | with_reducible refine kcall (by with_reducible assumption) ?_))
            · (repeat (first | with_reducible assumption | ((with_reducible refine kfresh ?_ ?_) <;> (first | with_reducible rfl | (simp; done))) | ((with_reducible refine ksameS ?_); focus ((repeat (first | with_reducible exact kis_of (by with_reducible assumption) | with_reducible refine kis_set ?_ | ((with_reducible refine kis_new ?_ ?_) <;> (first | with_reducible rfl | rfl | (simp; done))) | with_reducible refine kis_alloc _ ?_ | with_reducible refine kis_drew ?_ | with_reducible refine kis_call (by with_reducible assumption) ?_ | with_reducible exact kis_of (kcall (by with_reducible assumption) (by with_reducible assumption)))); done)) | with_reducible refine kother (by decide) ?_ | with_reducible refine kset (by first | omega | (simp; done) | (simp; omega)) ?_ | with_reducible refine kalloc _ ?_ | with_reducible refine kdrew ?_ | with_reducible refine kcall (by with_reducible assumption) ?_))
            · (repeat (first | with_reducible exact Below.refl _ _ | with_reducible refine balloc ?_ _ | with_reducible refine bdrewN ?_ _ | with_reducible refine Below.drew ?_ | with_reducible refine bthen ?_ (by with_reducible assumption) | with_reducible refine Below.setCell ?_ (by first | (simp; done) | (simp; omega)) _))
          case' rest => obtain ⟨g, rfl, g0P, g1P, g2P, g3P, g4P, g5P, g6P, g7P, g8P, g9P, hzP⟩ := hcut
          obtain ⟨wP, rfl⟩ : ∃ wP : World, wP = wc := ⟨_, rfl⟩
          have hlg : g < wP.heap.size := World.block_lt_of_cell? wP ⟨g, 0, none⟩ g0P
          have hsP := hzP.size
          have hWP : Below w.heap.size w wP := bthen hW0 hzP
          have hown0 : wP.ownsRow wP.heap.size 25 2 (.slice none 0 0) 0 (ints []) := World.ownsRow_nil _ _ _ _
          have hat := @arrayAt3 Try.prog 75 25 (by kernel_rfl)
          go_wp2_with fail
          refine wp_loop_rounds 4 ?_
          rw [rounds_succ]
          have p0_0 : wP.cell? ⟨g, 0, none⟩ = some (.int .i64 a1) := g0P
          have p0_1 : wP.cell? ⟨g, 1, none⟩ = some (.int .i64 a2) := g1P
          have p0_2 : wP.cell? ⟨g, 2, none⟩ = some (.int .i64 b1) := g2P
          have p0_3 : wP.cell? ⟨g, 3, none⟩ = some (.int .i64 b2) := g3P
          have p0_4 : wP.cell? ⟨g, 4, none⟩ = some (.int .i64 c1) := g4P
          have p0_5 : wP.cell? ⟨g, 5, none⟩ = some (.int .i64 c2) := g5P
          go_upto_region 9 with fail
          go_cut [16] (fun s16 wx => ∃ t : Nat, s16 = .pointer (some ⟨t, 0, none⟩) ∧ wx.cell? ⟨t, 0, none⟩ = some (.int .i64 a1) ∧ wx.cell? ⟨t, 1, none⟩ = some (.int .i64 a2) ∧ wx.cell? ⟨t, 2, none⟩ = some (.int .i64 b1) ∧ wx.cell? ⟨t, 3, none⟩ = some (.int .i64 b2) ∧ wx.cell? ⟨t, 4, none⟩ = some (.int .i64 c1) ∧ wx.cell? ⟨t, 5, none⟩ = some (.int .i64 c2) ∧ Below wP.heap.size wP wx)
          case first =>
            go_wp2
            go_meet
            refine ⟨_, rfl, ?_, ?_, ?_, ?_, ?_, ?_, ?_⟩
            · (repeat (first | with_reducible assumption | ((with_reducible refine kfresh ?_ ?_) <;> (first | with_reducible rfl | (simp; done))) | ((with_reducible refine ksameS ?_); focus ((repeat (first | with_reducible exact kis_of (by with_reducible assumption) | with_reducible refine kis_set ?_ | ((with_reducible refine kis_new ?_ ?_) <;> (first | with_reducible rfl | rfl | (simp; done))) | with_reducible refine kis_alloc _ ?_ | with_reducible refine kis_drew ?_ | with_reducible refine kis_call (by with_reducible assumption) ?_ | with_reducible exact kis_of (kcall (by with_reducible assumption) (by with_reducible assumption)))); done)) | with_reducible refine kother (by decide) ?_ | with_reducible refine kset (by first | omega | (simp; done) | (simp; omega)) ?_ | with_reducible refine kalloc _ ?_ | with_reducible refine kdrew ?_ | with_reducible refine kcall (by with_reducible assumption) ?_))
            · (repeat (first | with_reducible assumption | ((with_reducible refine kfresh ?_ ?_) <;> (first | with_reducible rfl | (simp; done))) | ((with_reducible refine ksameS ?_); focus ((repeat (first | with_reducible exact kis_of (by with_reducible assumption) | with_reducible refine kis_set ?_ | ((with_reducible refine kis_new ?_ ?_) <;> (first | with_reducible rfl | rfl | (simp; done))) | with_reducible refine kis_alloc _ ?_ | with_reducible refine kis_drew ?_ | with_reducible refine kis_call (by with_reducible assumption) ?_ | with_reducible exact kis_of (kcall (by with_reducible assumption) (by with_reducible assumption)))); done)) | with_reducible refine kother (by decide) ?_ | with_reducible refine kset (by first | omega | (simp; done) | (simp; omega)) ?_ | with_reducible refine kalloc _ ?_ | with_reducible refine kdrew ?_ | with_reducible refine kcall (by with_reducible assumption) ?_))
            · (repeat (first | with_reducible assumption | ((with_reducible refine kfresh ?_ ?_) <;> (first | with_reducible rfl | (simp; done))) | ((with_reducible refine ksameS ?_); focus ((repeat (first | with_reducible exact kis_of (by with_reducible assumption) | with_reducible refine kis_set ?_ | ((with_reducible refine kis_new ?_ ?_) <;> (first | with_reducible rfl | rfl | (simp; done))) | with_reducible refine kis_alloc _ ?_ | with_reducible refine kis_drew ?_ | with_reducible refine kis_call (by with_reducible assumption) ?_ | with_reducible exact kis_of (kcall (by with_reducible assumption) (by with_reducible assumption)))); done)) | with_reducible refine kother (by decide) ?_ | with_reducible refine kset (by first | omega | (simp; done) | (simp; omega)) ?_ | with_reducible refine kalloc _ ?_ | with_reducible refine kdrew ?_ | with_reducible refine kcall (by with_reducible assumption) ?_))
            · (repeat (first | with_reducible assumption | ((with_reducible refine kfresh ?_ ?_) <;> (first | with_reducible rfl | (simp; done))) | ((with_reducible refine ksameS ?_); focus ((repeat (first | with_reducible exact kis_of (by with_reducible assumption) | with_reducible refine kis_set ?_ | ((with_reducible refine kis_new ?_ ?_) <;> (first | with_reducible rfl | rfl | (simp; done))) | with_reducible refine kis_alloc _ ?_ | with_reducible refine kis_drew ?_ | with_reducible refine kis_call (by with_reducible assumption) ?_ | with_reducible exact kis_of (kcall (by with_reducible assumption) (by with_reducible assumption)))); done)) | with_reducible refine kother (by decide) ?_ | with_reducible refine kset (by first | omega | (simp; done) | (simp; omega)) ?_ | with_reducible refine kalloc _ ?_ | with_reducible refine kdrew ?_ | with_reducible refine kcall (by with_reducible assumption) ?_))
            · (repeat (first | with_reducible assumption | ((with_reducible refine kfresh ?_ ?_) <;> (first | with_reducible rfl | (simp; done))) | ((with_reducible refine ksameS ?_); focus ((repeat (first | with_reducible exact kis_of (by with_reducible assumption) | with_reducible refine kis_set ?_ | ((with_reducible refine kis_new ?_ ?_) <;> (first | with_reducible rfl | rfl | (simp; done))) | with_reducible refine kis_alloc _ ?_ | with_reducible refine kis_drew ?_ | with_reducible refine kis_call (by with_reducible assumption) ?_ | with_reducible exact kis_of (kcall (by with_reducible assumption) (by with_reducible assumption)))); done)) | with_reducible refine kother (by decide) ?_ | with_reducible refine kset (by first | omega | (simp; done) | (simp; omega)) ?_ | with_reducible refine kalloc _ ?_ | with_reducible refine kdrew ?_ | with_reducible refine kcall (by with_reducible assumption) ?_))
            · (repeat (first | with_reducible assumption | ((with_reducible refine kfresh ?_ ?_) <;> (first | with_reducible rfl | (simp; done))) | ((with_reducible refine ksameS ?_); focus ((repeat (first | with_reducible exact kis_of (by with_reducible assumption) | with_reducible refine kis_set ?_ | ((with_reducible refine kis_new ?_ ?_) <;> (first | with_reducible rfl | rfl | (simp; done))) | with_reducible refine kis_alloc _ ?_ | with_reducible refine kis_drew ?_ | with_reducible refine kis_call (by with_reducible assumption) ?_ | with_reducible exact kis_of (kcall (by with_reducible assumption) (by with_reducible assumption)))); done)) | with_reducible refine kother (by decide) ?_ | with_reducible refine kset (by first | omega | (simp; done) | (simp; omega)) ?_ | with_reducible refine kalloc _ ?_ | with_reducible refine kdrew ?_ | with_reducible refine kcall (by with_reducible assumption) ?_))
            · (repeat (first | with_reducible exact Below.refl _ _ | with_reducible refine balloc ?_ _ | with_reducible refine bdrewN ?_ _ | with_reducible refine Below.drew ?_ | with_reducible refine bthen ?_ (by with_reducible assumption) | with_reducible refine Below.setCell ?_ (by first | (simp; done) | (simp; omega)) _))
          case' rest => obtain ⟨t0, rfl, t0_0, t0_1, t0_2, t0_3, t0_4, t0_5, hzT0⟩ := hcut
          obtain ⟨wT0, rfl⟩ : ∃ wT : World, wT = wc := ⟨_, rfl⟩
          have hsT0 := hzT0.size
          rcases bool_ways (perpB p col L01 L02 L01 L02) with hq | hq
          · have HQ0 := Lib.hid hq
            obtain ⟨x0, hx⟩ : ∃ v : Int, v = fwX p col a1 a2 L01 L02 L03 := ⟨_, rfl⟩
            have HX0 := Lib.hid hx
            clear hx
            obtain ⟨y0, hy⟩ : ∃ v : Int, v = fwY p col a1 a2 L01 L02 L03 := ⟨_, rfl⟩
            have HY0 := Lib.hid hy
            clear hy
            have HF0 := Lib.hid (show fwC p col L01 L02 = 0 from by rw [fwC, hq]; rfl)
            clear hq
            have q0 : ∀ W : World, Below wT0.heap.size wT0 W → W.cell? ⟨t0, 0, none⟩ = some (.int .i64 a1) := fun W h => bholds t0_0 h
            have q1 : ∀ W : World, Below wT0.heap.size wT0 W → W.cell? ⟨t0, 1, none⟩ = some (.int .i64 a2) := fun W h => bholds t0_1 h
            have q2 : ∀ W : World, Below wT0.heap.size wT0 W → W.cell? ⟨t0, 2, none⟩ = some (.int .i64 b1) := fun W h => bholds t0_2 h
            have q3 : ∀ W : World, Below wT0.heap.size wT0 W → W.cell? ⟨t0, 3, none⟩ = some (.int .i64 b2) := fun W h => bholds t0_3 h
            have q4 : ∀ W : World, Below wT0.heap.size wT0 W → W.cell? ⟨t0, 4, none⟩ = some (.int .i64 c1) := fun W h => bholds t0_4 h
            have q5 : ∀ W : World, Below wT0.heap.size wT0 W → W.cell? ⟨t0, 5, none⟩ = some (.int .i64 c2) := fun W h => bholds t0_5 h
            go_upto_region 10 with fail
            go_cut [17, 18] (fun s17 s18 wx => ∃ k : Nat, s17 = .pointer (some ⟨k, 0, none⟩) ∧ s18 = .int .i64 0 ∧ wx.cell? ⟨k, 0, none⟩ = some (.int .i64 x0) ∧ wx.cell? ⟨k, 1, none⟩ = some (.int .i64 y0) ∧ Below wT0.heap.size wT0 wx)
            case first =>
              go_region_held3 (fun W => Below wT0.heap.size wT0 W) (first | with_reducible assumption | with_reducible exact bthen (by with_reducible assumption) hB | with_reducible exact bfromdrew hB | with_reducible exact balloc (by with_reducible assumption) _ | with_reducible exact Below.drew (balloc (bundrew (by with_reducible assumption)) _) | with_reducible exact brealloc (by first | exact Nat.le_refl _ | omega | (simp; done) | (simp; omega)) (by with_reducible assumption) | with_reducible exact Below.drew (brealloc (by first | exact Nat.le_refl _ | omega | (simp; done) | (simp; omega)) (bundrew (by with_reducible assumption))) | ((repeat with_reducible refine Below.setCell ?_ (by first | exact Nat.le_refl _ | omega | (simp; done) | (simp; omega)) _); with_reducible assumption) | with_reducible exact Below.refl _ _ | with_reducible exact Below.drew (Below.refl _ _) | with_reducible exact Below.drew (by with_reducible assumption)) (first | (go_at_call 59; refine Calls.mono (implThrough_any _ _ _ _ _ _ hp (by omega) (by omega) (by omega) (by omega) (tri_bc HA.out)) ?_; rw [← HL01.out, ← HL02.out, ← HL03.out]; rintro e wq ⟨rfl, hB⟩; (obtain ⟨hBc, hBf⟩ := bcell hB; have hBs := hB.size; (try simp at hBs); (try have hBq1 := Nat.lt_of_succ_le hBs); (try have hBq2 := Nat.lt_of_succ_lt hBq1); (try have hBq3 := Nat.lt_of_succ_lt hBq2); (try have hBzw0 : w.heap.size < wq.heap.size := (by omega)); (try have hBzw1 : w.heap.size + 1 < wq.heap.size := (by omega)); (try have hBzw2 : w.heap.size + 1 + 1 < wq.heap.size := (by omega)); (try have hBzw3 : w.heap.size + 1 + 1 + 1 < wq.heap.size := (by omega)); (try have hBzw4 : w.heap.size + 1 + 1 + 1 + 1 < wq.heap.size := (by omega)); (try have hBzw_0_heap_size : wT0.heap.size < wq.heap.size := (by omega)))) | (go_at_call 75; refine Calls.mono (implFootIn _ _ _ _ _ _ _ _ hp hc (by omega) (by omega) HLB0.out) ?_; rw [← HX0.out, ← HY0.out]; rw [HF0.out]; rintro e wq ⟨rfl, hB⟩; (obtain ⟨hBc, hBf⟩ := bcell hB; have hBs := hB.size; (try simp at hBs); (try have hBq1 := Nat.lt_of_succ_le hBs); (try have hBq2 := Nat.lt_of_succ_lt hBq1); (try have hBq3 := Nat.lt_of_succ_lt hBq2); (try have hBzw0 : w.heap.size < wq.heap.size := (by omega)); (try have hBzw1 : w.heap.size + 1 < wq.heap.size := (by omega)); (try have hBzw2 : w.heap.size + 1 + 1 < wq.heap.size := (by omega)); (try have hBzw3 : w.heap.size + 1 + 1 + 1 < wq.heap.size := (by omega)); (try have hBzw4 : w.heap.size + 1 + 1 + 1 + 1 < wq.heap.size := (by omega)); (try have hBzw_0_heap_size : wT0.heap.size < wq.heap.size := (by omega)))))
              all_goals
                go_wp2_with fail
                go_meet
                refine ⟨_, rfl, rfl, ?_, ?_, ?_⟩
                · (first | (simp; done) | (refine (kset2 (u0 := .int .i64 0) (u1 := .int .i64 0) ?_ ?_).1 <;> repeat (first | (simp; done) | exact kfresh (by first | rfl | (simp; done)) (by rfl) | refine kcall (by with_reducible assumption) ?_ | refine kdrew ?_)))
                · (first | (simp; done) | (refine (kset2 (u0 := .int .i64 0) (u1 := .int .i64 0) ?_ ?_).2 <;> repeat (first | (simp; done) | exact kfresh (by first | rfl | (simp; done)) (by rfl) | refine kcall (by with_reducible assumption) ?_ | refine kdrew ?_)))
                · (first | with_reducible assumption | (repeat (first | with_reducible exact Below.refl _ _ | with_reducible refine balloc ?_ _ | with_reducible refine bdrewN ?_ _ | with_reducible refine Below.drew ?_ | with_reducible refine bthen ?_ (by with_reducible assumption) | with_reducible refine Below.setCell ?_ (by first | (simp; done) | (simp; omega)) _)))
            case' rest => obtain ⟨k0, rfl, rfl, c0x, c0y, hzY0⟩ := hcut
            obtain ⟨wY0, rfl⟩ : ∃ wY : World, wY = wc := ⟨_, rfl⟩
            clear q0 q1 q2 q3 q4 q5
            have hsY0 := hzY0.size
            have hXY0 : Below wP.heap.size wP wY0 := (bthen hzT0 hzY0)
            have ho0 := own_call hown0 hXY0
            go_wp2_with (at_builtin; refine wpList_append_own _ rfl _ _ 39 rfl (wP.heap.size) 25 i0 (.agg #[.int .i64 0, .int .i64 0]) 2 16 Try.underlying39 hi hz0 hz1 hz2 rfl (by decide) _ _ _ rfl (ho0.alloc _) ⟨wY0.heap.size, 0, none⟩ 1 1 [.int .i64 x0, .int .i64 y0] rfl rfl (pt_cells rfl) (pt_one _ _) (by decide) (by decide) (by first | exact Nat.le_refl _ | omega | (simp; done) | (simp; omega)) ?_)
            intro z1 X1 hown1 hgrow _
            have hbY : Below wP.heap.size wP wY0 := (Below.refl wP.heap.size wP).trans (hXY0.mono (by omega))
            have hP1 : Below wP.heap.size wP X1 := Below.grown (hbY.alloc (by omega) _) hgrow (by first | exact Nat.le_refl _ | omega | (simp; done) | (simp; omega)) (fun g hg => (ho0.lt g hg).1)
            have hWx1 : Below w.heap.size w X1 := hWP.trans (hP1.mono (by have := hWP.size; have := hW0.size; omega))
            clear hgrow hbY
            have hsX1 := hP1.size
            go_wp2
            rw [rounds_succ]
            have p1_0 : X1.cell? ⟨g, 2, none⟩ = some (.int .i64 b1) := (cell_old hP1 (by omega) 2).trans g2P
            have p1_1 : X1.cell? ⟨g, 3, none⟩ = some (.int .i64 b2) := (cell_old hP1 (by omega) 3).trans g3P
            have p1_2 : X1.cell? ⟨g, 4, none⟩ = some (.int .i64 c1) := (cell_old hP1 (by omega) 4).trans g4P
            have p1_3 : X1.cell? ⟨g, 5, none⟩ = some (.int .i64 c2) := (cell_old hP1 (by omega) 5).trans g5P
            have p1_4 : X1.cell? ⟨g, 6, none⟩ = some (.int .i64 a1) := (cell_old hP1 (by omega) 6).trans g6P
            have p1_5 : X1.cell? ⟨g, 7, none⟩ = some (.int .i64 a2) := (cell_old hP1 (by omega) 7).trans g7P
            go_upto_region 9 with fail
            go_cut [16] (fun s16 wx => ∃ t : Nat, s16 = .pointer (some ⟨t, 0, none⟩) ∧ wx.cell? ⟨t, 0, none⟩ = some (.int .i64 b1) ∧ wx.cell? ⟨t, 1, none⟩ = some (.int .i64 b2) ∧ wx.cell? ⟨t, 2, none⟩ = some (.int .i64 c1) ∧ wx.cell? ⟨t, 3, none⟩ = some (.int .i64 c2) ∧ wx.cell? ⟨t, 4, none⟩ = some (.int .i64 a1) ∧ wx.cell? ⟨t, 5, none⟩ = some (.int .i64 a2) ∧ Below X1.heap.size X1 wx)
            case first =>
              go_wp2
              go_meet
              refine ⟨_, rfl, ?_, ?_, ?_, ?_, ?_, ?_, ?_⟩
              · (repeat (first | with_reducible assumption | ((with_reducible refine kfresh ?_ ?_) <;> (first | with_reducible rfl | (simp; done))) | ((with_reducible refine ksameS ?_); focus ((repeat (first | with_reducible exact kis_of (by with_reducible assumption) | with_reducible refine kis_set ?_ | ((with_reducible refine kis_new ?_ ?_) <;> (first | with_reducible rfl | rfl | (simp; done))) | with_reducible refine kis_alloc _ ?_ | with_reducible refine kis_drew ?_ | with_reducible refine kis_call (by with_reducible assumption) ?_ | with_reducible exact kis_of (kcall (by with_reducible assumption) (by with_reducible assumption)))); done)) | with_reducible refine kother (by decide) ?_ | with_reducible refine kset (by first | omega | (simp; done) | (simp; omega)) ?_ | with_reducible refine kalloc _ ?_ | with_reducible refine kdrew ?_ | with_reducible refine kcall (by with_reducible assumption) ?_))
              · (repeat (first | with_reducible assumption | ((with_reducible refine kfresh ?_ ?_) <;> (first | with_reducible rfl | (simp; done))) | ((with_reducible refine ksameS ?_); focus ((repeat (first | with_reducible exact kis_of (by with_reducible assumption) | with_reducible refine kis_set ?_ | ((with_reducible refine kis_new ?_ ?_) <;> (first | with_reducible rfl | rfl | (simp; done))) | with_reducible refine kis_alloc _ ?_ | with_reducible refine kis_drew ?_ | with_reducible refine kis_call (by with_reducible assumption) ?_ | with_reducible exact kis_of (kcall (by with_reducible assumption) (by with_reducible assumption)))); done)) | with_reducible refine kother (by decide) ?_ | with_reducible refine kset (by first | omega | (simp; done) | (simp; omega)) ?_ | with_reducible refine kalloc _ ?_ | with_reducible refine kdrew ?_ | with_reducible refine kcall (by with_reducible assumption) ?_))
              · (repeat (first | with_reducible assumption | ((with_reducible refine kfresh ?_ ?_) <;> (first | with_reducible rfl | (simp; done))) | ((with_reducible refine ksameS ?_); focus ((repeat (first | with_reducible exact kis_of (by with_reducible assumption) | with_reducible refine kis_set ?_ | ((with_reducible refine kis_new ?_ ?_) <;> (first | with_reducible rfl | rfl | (simp; done))) | with_reducible refine kis_alloc _ ?_ | with_reducible refine kis_drew ?_ | with_reducible refine kis_call (by with_reducible assumption) ?_ | with_reducible exact kis_of (kcall (by with_reducible assumption) (by with_reducible assumption)))); done)) | with_reducible refine kother (by decide) ?_ | with_reducible refine kset (by first | omega | (simp; done) | (simp; omega)) ?_ | with_reducible refine kalloc _ ?_ | with_reducible refine kdrew ?_ | with_reducible refine kcall (by with_reducible assumption) ?_))
              · (repeat (first | with_reducible assumption | ((with_reducible refine kfresh ?_ ?_) <;> (first | with_reducible rfl | (simp; done))) | ((with_reducible refine ksameS ?_); focus ((repeat (first | with_reducible exact kis_of (by with_reducible assumption) | with_reducible refine kis_set ?_ | ((with_reducible refine kis_new ?_ ?_) <;> (first | with_reducible rfl | rfl | (simp; done))) | with_reducible refine kis_alloc _ ?_ | with_reducible refine kis_drew ?_ | with_reducible refine kis_call (by with_reducible assumption) ?_ | with_reducible exact kis_of (kcall (by with_reducible assumption) (by with_reducible assumption)))); done)) | with_reducible refine kother (by decide) ?_ | with_reducible refine kset (by first | omega | (simp; done) | (simp; omega)) ?_ | with_reducible refine kalloc _ ?_ | with_reducible refine kdrew ?_ | with_reducible refine kcall (by with_reducible assumption) ?_))
              · (repeat (first | with_reducible assumption | ((with_reducible refine kfresh ?_ ?_) <;> (first | with_reducible rfl | (simp; done))) | ((with_reducible refine ksameS ?_); focus ((repeat (first | with_reducible exact kis_of (by with_reducible assumption) | with_reducible refine kis_set ?_ | ((with_reducible refine kis_new ?_ ?_) <;> (first | with_reducible rfl | rfl | (simp; done))) | with_reducible refine kis_alloc _ ?_ | with_reducible refine kis_drew ?_ | with_reducible refine kis_call (by with_reducible assumption) ?_ | with_reducible exact kis_of (kcall (by with_reducible assumption) (by with_reducible assumption)))); done)) | with_reducible refine kother (by decide) ?_ | with_reducible refine kset (by first | omega | (simp; done) | (simp; omega)) ?_ | with_reducible refine kalloc _ ?_ | with_reducible refine kdrew ?_ | with_reducible refine kcall (by with_reducible assumption) ?_))
              · (repeat (first | with_reducible assumption | ((with_reducible refine kfresh ?_ ?_) <;> (first | with_reducible rfl | (simp; done))) | ((with_reducible refine ksameS ?_); focus ((repeat (first | with_reducible exact kis_of (by with_reducible assumption) | with_reducible refine kis_set ?_ | ((with_reducible refine kis_new ?_ ?_) <;> (first | with_reducible rfl | rfl | (simp; done))) | with_reducible refine kis_alloc _ ?_ | with_reducible refine kis_drew ?_ | with_reducible refine kis_call (by with_reducible assumption) ?_ | with_reducible exact kis_of (kcall (by with_reducible assumption) (by with_reducible assumption)))); done)) | with_reducible refine kother (by decide) ?_ | with_reducible refine kset (by first | omega | (simp; done) | (simp; omega)) ?_ | with_reducible refine kalloc _ ?_ | with_reducible refine kdrew ?_ | with_reducible refine kcall (by with_reducible assumption) ?_))
              · (repeat (first | with_reducible exact Below.refl _ _ | with_reducible refine balloc ?_ _ | with_reducible refine bdrewN ?_ _ | with_reducible refine Below.drew ?_ | with_reducible refine bthen ?_ (by with_reducible assumption) | with_reducible refine Below.setCell ?_ (by first | (simp; done) | (simp; omega)) _))
            case' rest => obtain ⟨t1, rfl, t1_0, t1_1, t1_2, t1_3, t1_4, t1_5, hzT1⟩ := hcut
            obtain ⟨wT1, rfl⟩ : ∃ wT : World, wT = wc := ⟨_, rfl⟩
            have hsT1 := hzT1.size
            rcases bool_ways (perpB p col L11 L12 L11 L12) with hq | hq
            · have HQ1 := Lib.hid hq
              obtain ⟨x1, hx⟩ : ∃ v : Int, v = fwX p col b1 b2 L11 L12 L13 := ⟨_, rfl⟩
              have HX1 := Lib.hid hx
              clear hx
              obtain ⟨y1, hy⟩ : ∃ v : Int, v = fwY p col b1 b2 L11 L12 L13 := ⟨_, rfl⟩
              have HY1 := Lib.hid hy
              clear hy
              have HF1 := Lib.hid (show fwC p col L11 L12 = 0 from by rw [fwC, hq]; rfl)
              clear hq
              have q0 : ∀ W : World, Below wT1.heap.size wT1 W → W.cell? ⟨t1, 0, none⟩ = some (.int .i64 b1) := fun W h => bholds t1_0 h
              have q1 : ∀ W : World, Below wT1.heap.size wT1 W → W.cell? ⟨t1, 1, none⟩ = some (.int .i64 b2) := fun W h => bholds t1_1 h
              have q2 : ∀ W : World, Below wT1.heap.size wT1 W → W.cell? ⟨t1, 2, none⟩ = some (.int .i64 c1) := fun W h => bholds t1_2 h
              have q3 : ∀ W : World, Below wT1.heap.size wT1 W → W.cell? ⟨t1, 3, none⟩ = some (.int .i64 c2) := fun W h => bholds t1_3 h
              have q4 : ∀ W : World, Below wT1.heap.size wT1 W → W.cell? ⟨t1, 4, none⟩ = some (.int .i64 a1) := fun W h => bholds t1_4 h
              have q5 : ∀ W : World, Below wT1.heap.size wT1 W → W.cell? ⟨t1, 5, none⟩ = some (.int .i64 a2) := fun W h => bholds t1_5 h
              go_upto_region 10 with fail
              go_cut [17, 18] (fun s17 s18 wx => ∃ k : Nat, s17 = .pointer (some ⟨k, 0, none⟩) ∧ s18 = .int .i64 0 ∧ wx.cell? ⟨k, 0, none⟩ = some (.int .i64 x1) ∧ wx.cell? ⟨k, 1, none⟩ = some (.int .i64 y1) ∧ Below wT1.heap.size wT1 wx)
              case first =>
                go_region_held3 (fun W => Below wT1.heap.size wT1 W) (first | with_reducible assumption | with_reducible exact bthen (by with_reducible assumption) hB | with_reducible exact bfromdrew hB | with_reducible exact balloc (by with_reducible assumption) _ | with_reducible exact Below.drew (balloc (bundrew (by with_reducible assumption)) _) | with_reducible exact brealloc (by first | exact Nat.le_refl _ | omega | (simp; done) | (simp; omega)) (by with_reducible assumption) | with_reducible exact Below.drew (brealloc (by first | exact Nat.le_refl _ | omega | (simp; done) | (simp; omega)) (bundrew (by with_reducible assumption))) | ((repeat with_reducible refine Below.setCell ?_ (by first | exact Nat.le_refl _ | omega | (simp; done) | (simp; omega)) _); with_reducible assumption) | with_reducible exact Below.refl _ _ | with_reducible exact Below.drew (Below.refl _ _) | with_reducible exact Below.drew (by with_reducible assumption)) (first | (go_at_call 59; refine Calls.mono (implThrough_any _ _ _ _ _ _ hp (by omega) (by omega) (by omega) (by omega) (tri_ca HA.out)) ?_; rw [HCM.out.1, HCM.out.2.1, HCM.out.2.2]; rintro e wq ⟨rfl, hB⟩; (obtain ⟨hBc, hBf⟩ := bcell hB; have hBs := hB.size; (try simp at hBs); (try have hBq1 := Nat.lt_of_succ_le hBs); (try have hBq2 := Nat.lt_of_succ_lt hBq1); (try have hBq3 := Nat.lt_of_succ_lt hBq2); (try have hBzw0 : w.heap.size < wq.heap.size := (by omega)); (try have hBzw1 : w.heap.size + 1 < wq.heap.size := (by omega)); (try have hBzw2 : w.heap.size + 1 + 1 < wq.heap.size := (by omega)); (try have hBzw3 : w.heap.size + 1 + 1 + 1 < wq.heap.size := (by omega)); (try have hBzw4 : w.heap.size + 1 + 1 + 1 + 1 < wq.heap.size := (by omega)); (try have hBzw_1_heap_size : wT1.heap.size < wq.heap.size := (by omega)))) | (go_at_call 75; refine Calls.mono (implFootIn _ _ _ _ _ _ _ _ hp hc (by omega) (by omega) HLB1.out) ?_; rw [← HX1.out, ← HY1.out]; rw [HF1.out]; rintro e wq ⟨rfl, hB⟩; (obtain ⟨hBc, hBf⟩ := bcell hB; have hBs := hB.size; (try simp at hBs); (try have hBq1 := Nat.lt_of_succ_le hBs); (try have hBq2 := Nat.lt_of_succ_lt hBq1); (try have hBq3 := Nat.lt_of_succ_lt hBq2); (try have hBzw0 : w.heap.size < wq.heap.size := (by omega)); (try have hBzw1 : w.heap.size + 1 < wq.heap.size := (by omega)); (try have hBzw2 : w.heap.size + 1 + 1 < wq.heap.size := (by omega)); (try have hBzw3 : w.heap.size + 1 + 1 + 1 < wq.heap.size := (by omega)); (try have hBzw4 : w.heap.size + 1 + 1 + 1 + 1 < wq.heap.size := (by omega)); (try have hBzw_1_heap_size : wT1.heap.size < wq.heap.size := (by omega)))))
                all_goals
                  go_wp2_with fail
                  go_meet
                  refine ⟨_, rfl, rfl, ?_, ?_, ?_⟩
                  · (first | (simp; done) | (refine (kset2 (u0 := .int .i64 0) (u1 := .int .i64 0) ?_ ?_).1 <;> repeat (first | (simp; done) | exact kfresh (by first | rfl | (simp; done)) (by rfl) | refine kcall (by with_reducible assumption) ?_ | refine kdrew ?_)))
                  · (first | (simp; done) | (refine (kset2 (u0 := .int .i64 0) (u1 := .int .i64 0) ?_ ?_).2 <;> repeat (first | (simp; done) | exact kfresh (by first | rfl | (simp; done)) (by rfl) | refine kcall (by with_reducible assumption) ?_ | refine kdrew ?_)))
                  · (first | with_reducible assumption | (repeat (first | with_reducible exact Below.refl _ _ | with_reducible refine balloc ?_ _ | with_reducible refine bdrewN ?_ _ | with_reducible refine Below.drew ?_ | with_reducible refine bthen ?_ (by with_reducible assumption) | with_reducible refine Below.setCell ?_ (by first | (simp; done) | (simp; omega)) _)))
              case' rest => obtain ⟨k1, rfl, rfl, c1x, c1y, hzY1⟩ := hcut
              obtain ⟨wY1, rfl⟩ : ∃ wY : World, wY = wc := ⟨_, rfl⟩
              clear q0 q1 q2 q3 q4 q5
              have hsY1 := hzY1.size
              have hXY1 : Below X1.heap.size X1 wY1 := (bthen hzT1 hzY1)
              have ho1 := own_call hown1 hXY1
              go_wp2_with (at_builtin; refine wpList_append_own _ rfl _ _ 39 rfl (wP.heap.size) 25 i0 (.agg #[.int .i64 0, .int .i64 0]) 2 16 Try.underlying39 hi hz0 hz1 hz2 rfl (by decide) _ _ _ rfl (ho1.alloc _) ⟨wY1.heap.size, 0, none⟩ 1 1 [.int .i64 x1, .int .i64 y1] rfl rfl (pt_cells rfl) (pt_one _ _) (by decide) (by decide) (by first | exact Nat.le_refl _ | omega | (simp; done) | (simp; omega)) ?_)
              intro z2 X2 hown2 hgrow _
              have hbY : Below wP.heap.size wP wY1 := hP1.trans (hXY1.mono (by omega))
              have hP2 : Below wP.heap.size wP X2 := Below.grown (hbY.alloc (by omega) _) hgrow (by first | exact Nat.le_refl _ | omega | (simp; done) | (simp; omega)) (fun g hg => (ho1.lt g hg).1)
              have hWx2 : Below w.heap.size w X2 := hWP.trans (hP2.mono (by have := hWP.size; have := hW0.size; omega))
              clear hgrow hbY
              have hsX2 := hP2.size
              go_wp2
              rw [rounds_succ]
              have p2_0 : X2.cell? ⟨g, 4, none⟩ = some (.int .i64 c1) := (cell_old hP2 (by omega) 4).trans g4P
              have p2_1 : X2.cell? ⟨g, 5, none⟩ = some (.int .i64 c2) := (cell_old hP2 (by omega) 5).trans g5P
              have p2_2 : X2.cell? ⟨g, 6, none⟩ = some (.int .i64 a1) := (cell_old hP2 (by omega) 6).trans g6P
              have p2_3 : X2.cell? ⟨g, 7, none⟩ = some (.int .i64 a2) := (cell_old hP2 (by omega) 7).trans g7P
              have p2_4 : X2.cell? ⟨g, 8, none⟩ = some (.int .i64 b1) := (cell_old hP2 (by omega) 8).trans g8P
              have p2_5 : X2.cell? ⟨g, 9, none⟩ = some (.int .i64 b2) := (cell_old hP2 (by omega) 9).trans g9P
              go_upto_region 9 with fail
              go_cut [16] (fun s16 wx => ∃ t : Nat, s16 = .pointer (some ⟨t, 0, none⟩) ∧ wx.cell? ⟨t, 0, none⟩ = some (.int .i64 c1) ∧ wx.cell? ⟨t, 1, none⟩ = some (.int .i64 c2) ∧ wx.cell? ⟨t, 2, none⟩ = some (.int .i64 a1) ∧ wx.cell? ⟨t, 3, none⟩ = some (.int .i64 a2) ∧ wx.cell? ⟨t, 4, none⟩ = some (.int .i64 b1) ∧ wx.cell? ⟨t, 5, none⟩ = some (.int .i64 b2) ∧ Below X2.heap.size X2 wx)
              case first =>
                go_wp2
                go_meet
                refine ⟨_, rfl, ?_, ?_, ?_, ?_, ?_, ?_, ?_⟩
                · (repeat (first | with_reducible assumption | ((with_reducible refine kfresh ?_ ?_) <;> (first | with_reducible rfl | (simp; done))) | ((with_reducible refine ksameS ?_); focus ((repeat (first | with_reducible exact kis_of (by with_reducible assumption) | with_reducible refine kis_set ?_ | ((with_reducible refine kis_new ?_ ?_) <;> (first | with_reducible rfl | rfl | (simp; done))) | with_reducible refine kis_alloc _ ?_ | with_reducible refine kis_drew ?_ | with_reducible refine kis_call (by with_reducible assumption) ?_ | with_reducible exact kis_of (kcall (by with_reducible assumption) (by with_reducible assumption)))); done)) | with_reducible refine kother (by decide) ?_ | with_reducible refine kset (by first | omega | (simp; done) | (simp; omega)) ?_ | with_reducible refine kalloc _ ?_ | with_reducible refine kdrew ?_ | with_reducible refine kcall (by with_reducible assumption) ?_))
                · (repeat (first | with_reducible assumption | ((with_reducible refine kfresh ?_ ?_) <;> (first | with_reducible rfl | (simp; done))) | ((with_reducible refine ksameS ?_); focus ((repeat (first | with_reducible exact kis_of (by with_reducible assumption) | with_reducible refine kis_set ?_ | ((with_reducible refine kis_new ?_ ?_) <;> (first | with_reducible rfl | rfl | (simp; done))) | with_reducible refine kis_alloc _ ?_ | with_reducible refine kis_drew ?_ | with_reducible refine kis_call (by with_reducible assumption) ?_ | with_reducible exact kis_of (kcall (by with_reducible assumption) (by with_reducible assumption)))); done)) | with_reducible refine kother (by decide) ?_ | with_reducible refine kset (by first | omega | (simp; done) | (simp; omega)) ?_ | with_reducible refine kalloc _ ?_ | with_reducible refine kdrew ?_ | with_reducible refine kcall (by with_reducible assumption) ?_))
                · (repeat (first | with_reducible assumption | ((with_reducible refine kfresh ?_ ?_) <;> (first | with_reducible rfl | (simp; done))) | ((with_reducible refine ksameS ?_); focus ((repeat (first | with_reducible exact kis_of (by with_reducible assumption) | with_reducible refine kis_set ?_ | ((with_reducible refine kis_new ?_ ?_) <;> (first | with_reducible rfl | rfl | (simp; done))) | with_reducible refine kis_alloc _ ?_ | with_reducible refine kis_drew ?_ | with_reducible refine kis_call (by with_reducible assumption) ?_ | with_reducible exact kis_of (kcall (by with_reducible assumption) (by with_reducible assumption)))); done)) | with_reducible refine kother (by decide) ?_ | with_reducible refine kset (by first | omega | (simp; done) | (simp; omega)) ?_ | with_reducible refine kalloc _ ?_ | with_reducible refine kdrew ?_ | with_reducible refine kcall (by with_reducible assumption) ?_))
                · (repeat (first | with_reducible assumption | ((with_reducible refine kfresh ?_ ?_) <;> (first | with_reducible rfl | (simp; done))) | ((with_reducible refine ksameS ?_); focus ((repeat (first | with_reducible exact kis_of (by with_reducible assumption) | with_reducible refine kis_set ?_ | ((with_reducible refine kis_new ?_ ?_) <;> (first | with_reducible rfl | rfl | (simp; done))) | with_reducible refine kis_alloc _ ?_ | with_reducible refine kis_drew ?_ | with_reducible refine kis_call (by with_reducible assumption) ?_ | with_reducible exact kis_of (kcall (by with_reducible assumption) (by with_reducible assumption)))); done)) | with_reducible refine kother (by decide) ?_ | with_reducible refine kset (by first | omega | (simp; done) | (simp; omega)) ?_ | with_reducible refine kalloc _ ?_ | with_reducible refine kdrew ?_ | with_reducible refine kcall (by with_reducible assumption) ?_))
                · (repeat (first | with_reducible assumption | ((with_reducible refine kfresh ?_ ?_) <;> (first | with_reducible rfl | (simp; done))) | ((with_reducible refine ksameS ?_); focus ((repeat (first | with_reducible exact kis_of (by with_reducible assumption) | with_reducible refine kis_set ?_ | ((with_reducible refine kis_new ?_ ?_) <;> (first | with_reducible rfl | rfl | (simp; done))) | with_reducible refine kis_alloc _ ?_ | with_reducible refine kis_drew ?_ | with_reducible refine kis_call (by with_reducible assumption) ?_ | with_reducible exact kis_of (kcall (by with_reducible assumption) (by with_reducible assumption)))); done)) | with_reducible refine kother (by decide) ?_ | with_reducible refine kset (by first | omega | (simp; done) | (simp; omega)) ?_ | with_reducible refine kalloc _ ?_ | with_reducible refine kdrew ?_ | with_reducible refine kcall (by with_reducible assumption) ?_))
                · (repeat (first | with_reducible assumption | ((with_reducible refine kfresh ?_ ?_) <;> (first | with_reducible rfl | (simp; done))) | ((with_reducible refine ksameS ?_); focus ((repeat (first | with_reducible exact kis_of (by with_reducible assumption) | with_reducible refine kis_set ?_ | ((with_reducible refine kis_new ?_ ?_) <;> (first | with_reducible rfl | rfl | (simp; done))) | with_reducible refine kis_alloc _ ?_ | with_reducible refine kis_drew ?_ | with_reducible refine kis_call (by with_reducible assumption) ?_ | with_reducible exact kis_of (kcall (by with_reducible assumption) (by with_reducible assumption)))); done)) | with_reducible refine kother (by decide) ?_ | with_reducible refine kset (by first | omega | (simp; done) | (simp; omega)) ?_ | with_reducible refine kalloc _ ?_ | with_reducible refine kdrew ?_ | with_reducible refine kcall (by with_reducible assumption) ?_))
                · (repeat (first | with_reducible exact Below.refl _ _ | with_reducible refine balloc ?_ _ | with_reducible refine bdrewN ?_ _ | with_reducible refine Below.drew ?_ | with_reducible refine bthen ?_ (by with_reducible assumption) | with_reducible refine Below.setCell ?_ (by first | (simp; done) | (simp; omega)) _))
              case' rest => obtain ⟨t2, rfl, t2_0, t2_1, t2_2, t2_3, t2_4, t2_5, hzT2⟩ := hcut
              obtain ⟨wT2, rfl⟩ : ∃ wT : World, wT = wc := ⟨_, rfl⟩
              have hsT2 := hzT2.size
              rcases bool_ways (perpB p col L21 L22 L21 L22) with hq | hq
              · have HQ2 := Lib.hid hq
                obtain ⟨x2, hx⟩ : ∃ v : Int, v = fwX p col c1 c2 L21 L22 L23 := ⟨_, rfl⟩
                have HX2 := Lib.hid hx
                clear hx
                obtain ⟨y2, hy⟩ : ∃ v : Int, v = fwY p col c1 c2 L21 L22 L23 := ⟨_, rfl⟩
                have HY2 := Lib.hid hy
                clear hy
                have HF2 := Lib.hid (show fwC p col L21 L22 = 0 from by rw [fwC, hq]; rfl)
                clear hq
                have q0 : ∀ W : World, Below wT2.heap.size wT2 W → W.cell? ⟨t2, 0, none⟩ = some (.int .i64 c1) := fun W h => bholds t2_0 h
                have q1 : ∀ W : World, Below wT2.heap.size wT2 W → W.cell? ⟨t2, 1, none⟩ = some (.int .i64 c2) := fun W h => bholds t2_1 h
                have q2 : ∀ W : World, Below wT2.heap.size wT2 W → W.cell? ⟨t2, 2, none⟩ = some (.int .i64 a1) := fun W h => bholds t2_2 h
                have q3 : ∀ W : World, Below wT2.heap.size wT2 W → W.cell? ⟨t2, 3, none⟩ = some (.int .i64 a2) := fun W h => bholds t2_3 h
                have q4 : ∀ W : World, Below wT2.heap.size wT2 W → W.cell? ⟨t2, 4, none⟩ = some (.int .i64 b1) := fun W h => bholds t2_4 h
                have q5 : ∀ W : World, Below wT2.heap.size wT2 W → W.cell? ⟨t2, 5, none⟩ = some (.int .i64 b2) := fun W h => bholds t2_5 h
                go_upto_region 10 with fail
                go_cut [17, 18] (fun s17 s18 wx => ∃ k : Nat, s17 = .pointer (some ⟨k, 0, none⟩) ∧ s18 = .int .i64 0 ∧ wx.cell? ⟨k, 0, none⟩ = some (.int .i64 x2) ∧ wx.cell? ⟨k, 1, none⟩ = some (.int .i64 y2) ∧ Below wT2.heap.size wT2 wx)
                case first =>
                  go_region_held3 (fun W => Below wT2.heap.size wT2 W) (first | with_reducible assumption | with_reducible exact bthen (by with_reducible assumption) hB | with_reducible exact bfromdrew hB | with_reducible exact balloc (by with_reducible assumption) _ | with_reducible exact Below.drew (balloc (bundrew (by with_reducible assumption)) _) | with_reducible exact brealloc (by first | exact Nat.le_refl _ | omega | (simp; done) | (simp; omega)) (by with_reducible assumption) | with_reducible exact Below.drew (brealloc (by first | exact Nat.le_refl _ | omega | (simp; done) | (simp; omega)) (bundrew (by with_reducible assumption))) | ((repeat with_reducible refine Below.setCell ?_ (by first | exact Nat.le_refl _ | omega | (simp; done) | (simp; omega)) _); with_reducible assumption) | with_reducible exact Below.refl _ _ | with_reducible exact Below.drew (Below.refl _ _) | with_reducible exact Below.drew (by with_reducible assumption)) (first | (go_at_call 59; refine Calls.mono (implThrough_any _ _ _ _ _ _ hp (by omega) (by omega) (by omega) (by omega) (tri_ab HA.out)) ?_; rw [← HL21.out, ← HL22.out, ← HL23.out]; rintro e wq ⟨rfl, hB⟩; (obtain ⟨hBc, hBf⟩ := bcell hB; have hBs := hB.size; (try simp at hBs); (try have hBq1 := Nat.lt_of_succ_le hBs); (try have hBq2 := Nat.lt_of_succ_lt hBq1); (try have hBq3 := Nat.lt_of_succ_lt hBq2); (try have hBzw0 : w.heap.size < wq.heap.size := (by omega)); (try have hBzw1 : w.heap.size + 1 < wq.heap.size := (by omega)); (try have hBzw2 : w.heap.size + 1 + 1 < wq.heap.size := (by omega)); (try have hBzw3 : w.heap.size + 1 + 1 + 1 < wq.heap.size := (by omega)); (try have hBzw4 : w.heap.size + 1 + 1 + 1 + 1 < wq.heap.size := (by omega)); (try have hBzw_2_heap_size : wT2.heap.size < wq.heap.size := (by omega)))) | (go_at_call 75; refine Calls.mono (implFootIn _ _ _ _ _ _ _ _ hp hc (by omega) (by omega) HLB2.out) ?_; rw [← HX2.out, ← HY2.out]; rw [HF2.out]; rintro e wq ⟨rfl, hB⟩; (obtain ⟨hBc, hBf⟩ := bcell hB; have hBs := hB.size; (try simp at hBs); (try have hBq1 := Nat.lt_of_succ_le hBs); (try have hBq2 := Nat.lt_of_succ_lt hBq1); (try have hBq3 := Nat.lt_of_succ_lt hBq2); (try have hBzw0 : w.heap.size < wq.heap.size := (by omega)); (try have hBzw1 : w.heap.size + 1 < wq.heap.size := (by omega)); (try have hBzw2 : w.heap.size + 1 + 1 < wq.heap.size := (by omega)); (try have hBzw3 : w.heap.size + 1 + 1 + 1 < wq.heap.size := (by omega)); (try have hBzw4 : w.heap.size + 1 + 1 + 1 + 1 < wq.heap.size := (by omega)); (try have hBzw_2_heap_size : wT2.heap.size < wq.heap.size := (by omega)))))
                  all_goals
                    go_wp2_with fail
                    go_meet
                    refine ⟨_, rfl, rfl, ?_, ?_, ?_⟩
                    · (first | (simp; done) | (refine (kset2 (u0 := .int .i64 0) (u1 := .int .i64 0) ?_ ?_).1 <;> repeat (first | (simp; done) | exact kfresh (by first | rfl | (simp; done)) (by rfl) | refine kcall (by with_reducible assumption) ?_ | refine kdrew ?_)))
                    · (first | (simp; done) | (refine (kset2 (u0 := .int .i64 0) (u1 := .int .i64 0) ?_ ?_).2 <;> repeat (first | (simp; done) | exact kfresh (by first | rfl | (simp; done)) (by rfl) | refine kcall (by with_reducible assumption) ?_ | refine kdrew ?_)))
                    · (first | with_reducible assumption | (repeat (first | with_reducible exact Below.refl _ _ | with_reducible refine balloc ?_ _ | with_reducible refine bdrewN ?_ _ | with_reducible refine Below.drew ?_ | with_reducible refine bthen ?_ (by with_reducible assumption) | with_reducible refine Below.setCell ?_ (by first | (simp; done) | (simp; omega)) _)))
                case' rest => obtain ⟨k2, rfl, rfl, c2x, c2y, hzY2⟩ := hcut
                obtain ⟨wY2, rfl⟩ : ∃ wY : World, wY = wc := ⟨_, rfl⟩
                clear q0 q1 q2 q3 q4 q5
                have hsY2 := hzY2.size
                have hXY2 : Below X2.heap.size X2 wY2 := (bthen hzT2 hzY2)
                have ho2 := own_call hown2 hXY2
                go_wp2_with (at_builtin; refine wpList_append_own _ rfl _ _ 39 rfl (wP.heap.size) 25 i0 (.agg #[.int .i64 0, .int .i64 0]) 2 16 Try.underlying39 hi hz0 hz1 hz2 rfl (by decide) _ _ _ rfl (ho2.alloc _) ⟨wY2.heap.size, 0, none⟩ 1 1 [.int .i64 x2, .int .i64 y2] rfl rfl (pt_cells rfl) (pt_one _ _) (by decide) (by decide) (by first | exact Nat.le_refl _ | omega | (simp; done) | (simp; omega)) ?_)
                intro z3 X3 hown3 hgrow _
                have hbY : Below wP.heap.size wP wY2 := hP2.trans (hXY2.mono (by omega))
                have hP3 : Below wP.heap.size wP X3 := Below.grown (hbY.alloc (by omega) _) hgrow (by first | exact Nat.le_refl _ | omega | (simp; done) | (simp; omega)) (fun g hg => (ho2.lt g hg).1)
                have hWx3 : Below w.heap.size w X3 := hWP.trans (hP3.mono (by have := hWP.size; have := hW0.size; omega))
                clear hgrow hbY
                have hsX3 := hP3.size
                go_wp2
                rw [rounds_succ]
                have hqT0 : perpB p col (th1 p b1 b2 c1 c2) (th2 p b1 b2 c1 c2) (th1 p b1 b2 c1 c2) (th2 p b1 b2 c1 c2) = false := by rw [← HL01.out, ← HL02.out]; exact HQ0.out
                have hqT1 : perpB p col (th1 p a1 a2 c1 c2) (th2 p a1 a2 c1 c2) (th1 p a1 a2 c1 c2) (th2 p a1 a2 c1 c2) = false := by rw [← HL11.out, ← HL12.out]; exact HQ1.out
                have hqT2 : perpB p col (th1 p a1 a2 b1 b2) (th2 p a1 a2 b1 b2) (th1 p a1 a2 b1 b2) (th2 p a1 a2 b1 b2) = false := by rw [← HL21.out, ← HL22.out]; exact HQ2.out
                have HS : ogS p col a1 a2 b1 b2 c1 c2 = 0 := by simp [ogS, HA.out, hqT0, hqT1, hqT2]
                clear hqT0 hqT1 hqT2
                have HV := Lib.hid (show ogL p col a1 a2 b1 b2 c1 c2 = [x0, y0, x1, y1, x2, y2] ∧ ogC p col a1 a2 b1 b2 c1 c2 = 0 from by
                  have hg := og_good (col := col) (a1 := a1) (a2 := a2) (b1 := b1) (b2 := b2) (c1 := c1) (c2 := c2) hp HBB.out HS
                  refine ⟨hg.1.trans ?_, hg.2⟩
                  rw [show x0 = ftX p col a1 a2 L01 L02 L03 from by rw [HX0.out, fwX, if_neg (by rw [HQ0.out]; decide)], show y0 = ftY p col a1 a2 L01 L02 L03 from by rw [HY0.out, fwY, if_neg (by rw [HQ0.out]; decide)], HL01.out, HL02.out, HL03.out]
                  rw [show x1 = ftX p col b1 b2 L11 L12 L13 from by rw [HX1.out, fwX, if_neg (by rw [HQ1.out]; decide)], show y1 = ftY p col b1 b2 L11 L12 L13 from by rw [HY1.out, fwY, if_neg (by rw [HQ1.out]; decide)], HL11.out, HL12.out, HL13.out]
                  rw [show x2 = ftX p col c1 c2 L21 L22 L23 from by rw [HX2.out, fwX, if_neg (by rw [HQ2.out]; decide)], show y2 = ftY p col c1 c2 L21 L22 L23 from by rw [HY2.out, fwY, if_neg (by rw [HQ2.out]; decide)], HL21.out, HL22.out, HL23.out])
                go_wp2
                (refine bodyPost_ret (v := .tuple #[z3, .int .i64 (ogC p col a1 a2 b1 b2 c1 c2)]) (by simp [results, Try.results35, go_sem, HV.out.2]) rfl (slicePost_mk (by rw [HV.out.1]; exact own_base hown3 (by have := hWP.size; have := hW0.size; omega)) hWx3))
              · have HQ2 := Lib.hid hq
                have HF2 := Lib.hid (show fwC p col L21 L22 = 5 from by rw [fwC, hq]; rfl)
                clear hq
                have q0 : ∀ W : World, Below wT2.heap.size wT2 W → W.cell? ⟨t2, 0, none⟩ = some (.int .i64 c1) := fun W h => bholds t2_0 h
                have q1 : ∀ W : World, Below wT2.heap.size wT2 W → W.cell? ⟨t2, 1, none⟩ = some (.int .i64 c2) := fun W h => bholds t2_1 h
                have q2 : ∀ W : World, Below wT2.heap.size wT2 W → W.cell? ⟨t2, 2, none⟩ = some (.int .i64 a1) := fun W h => bholds t2_2 h
                have q3 : ∀ W : World, Below wT2.heap.size wT2 W → W.cell? ⟨t2, 3, none⟩ = some (.int .i64 a2) := fun W h => bholds t2_3 h
                have q4 : ∀ W : World, Below wT2.heap.size wT2 W → W.cell? ⟨t2, 4, none⟩ = some (.int .i64 b1) := fun W h => bholds t2_4 h
                have q5 : ∀ W : World, Below wT2.heap.size wT2 W → W.cell? ⟨t2, 5, none⟩ = some (.int .i64 b2) := fun W h => bholds t2_5 h
                go_upto_region 10 with fail
                go_cut [18] (fun s18 wx => s18 = .int .i64 5 ∧ Below wT2.heap.size wT2 wx)
                case first =>
                  go_region_held3 (fun W => Below wT2.heap.size wT2 W) (first | with_reducible assumption | with_reducible exact bthen (by with_reducible assumption) hB | with_reducible exact bfromdrew hB | with_reducible exact balloc (by with_reducible assumption) _ | with_reducible exact Below.drew (balloc (bundrew (by with_reducible assumption)) _) | with_reducible exact brealloc (by first | exact Nat.le_refl _ | omega | (simp; done) | (simp; omega)) (by with_reducible assumption) | with_reducible exact Below.drew (brealloc (by first | exact Nat.le_refl _ | omega | (simp; done) | (simp; omega)) (bundrew (by with_reducible assumption))) | ((repeat with_reducible refine Below.setCell ?_ (by first | exact Nat.le_refl _ | omega | (simp; done) | (simp; omega)) _); with_reducible assumption) | with_reducible exact Below.refl _ _ | with_reducible exact Below.drew (Below.refl _ _) | with_reducible exact Below.drew (by with_reducible assumption)) (first | (go_at_call 59; refine Calls.mono (implThrough_any _ _ _ _ _ _ hp (by omega) (by omega) (by omega) (by omega) (tri_ab HA.out)) ?_; rw [← HL21.out, ← HL22.out, ← HL23.out]; rintro e wq ⟨rfl, hB⟩; (obtain ⟨hBc, hBf⟩ := bcell hB; have hBs := hB.size; (try simp at hBs); (try have hBq1 := Nat.lt_of_succ_le hBs); (try have hBq2 := Nat.lt_of_succ_lt hBq1); (try have hBq3 := Nat.lt_of_succ_lt hBq2); (try have hBzw0 : w.heap.size < wq.heap.size := (by omega)); (try have hBzw1 : w.heap.size + 1 < wq.heap.size := (by omega)); (try have hBzw2 : w.heap.size + 1 + 1 < wq.heap.size := (by omega)); (try have hBzw3 : w.heap.size + 1 + 1 + 1 < wq.heap.size := (by omega)); (try have hBzw4 : w.heap.size + 1 + 1 + 1 + 1 < wq.heap.size := (by omega)); (try have hBzw_2_heap_size : wT2.heap.size < wq.heap.size := (by omega)))) | (go_at_call 75; refine Calls.mono (implFootIn _ _ _ _ _ _ _ _ hp hc (by omega) (by omega) HLB2.out) ?_; rw [HF2.out]; rintro e wq ⟨rfl, hB⟩; (obtain ⟨hBc, hBf⟩ := bcell hB; have hBs := hB.size; (try simp at hBs); (try have hBq1 := Nat.lt_of_succ_le hBs); (try have hBq2 := Nat.lt_of_succ_lt hBq1); (try have hBq3 := Nat.lt_of_succ_lt hBq2); (try have hBzw0 : w.heap.size < wq.heap.size := (by omega)); (try have hBzw1 : w.heap.size + 1 < wq.heap.size := (by omega)); (try have hBzw2 : w.heap.size + 1 + 1 < wq.heap.size := (by omega)); (try have hBzw3 : w.heap.size + 1 + 1 + 1 < wq.heap.size := (by omega)); (try have hBzw4 : w.heap.size + 1 + 1 + 1 + 1 < wq.heap.size := (by omega)); (try have hBzw_2_heap_size : wT2.heap.size < wq.heap.size := (by omega)))))
                  all_goals
                    go_wp2_with fail
                    go_meet
                    refine ⟨rfl, ?_⟩
                    · (first | with_reducible assumption | (repeat (first | with_reducible exact Below.refl _ _ | with_reducible refine balloc ?_ _ | with_reducible refine bdrewN ?_ _ | with_reducible refine Below.drew ?_ | with_reducible refine bthen ?_ (by with_reducible assumption) | with_reducible refine Below.setCell ?_ (by first | (simp; done) | (simp; omega)) _)))
                case' rest => obtain ⟨rfl, hzY2⟩ := hcut
                obtain ⟨wY2, rfl⟩ : ∃ wY : World, wY = wc := ⟨_, rfl⟩
                clear q0 q1 q2 q3 q4 q5
                have hsY2 := hzY2.size
                have hXY2 : Below X2.heap.size X2 wY2 := (bthen hzT2 hzY2)
                have hqT0 : perpB p col (th1 p b1 b2 c1 c2) (th2 p b1 b2 c1 c2) (th1 p b1 b2 c1 c2) (th2 p b1 b2 c1 c2) = false := by rw [← HL01.out, ← HL02.out]; exact HQ0.out
                have hqT1 : perpB p col (th1 p a1 a2 c1 c2) (th2 p a1 a2 c1 c2) (th1 p a1 a2 c1 c2) (th2 p a1 a2 c1 c2) = false := by rw [← HL11.out, ← HL12.out]; exact HQ1.out
                have hqT2 : perpB p col (th1 p a1 a2 b1 b2) (th2 p a1 a2 b1 b2) (th1 p a1 a2 b1 b2) (th2 p a1 a2 b1 b2) = true := by rw [← HL21.out, ← HL22.out]; exact HQ2.out
                have HV := Lib.hid (og_st (k := 5) (col := col) (a1 := a1) (a2 := a2) (b1 := b1) (b2 := b2) (c1 := c1) (c2 := c2) hp HBB.out (by simp [ogS, HA.out, hqT0, hqT1, hqT2]) (by decide))
                clear hqT0 hqT1 hqT2
                go_wp2
                (refine bodyPost_ret (v := .tuple #[.slice none 0 0, .int .i64 (ogC p col a1 a2 b1 b2 c1 c2)]) (by simp [results, Try.results35, go_sem, HV.out.2]) rfl (slicePost_nil HV.out.1 ?_))
                exact (bthen hWx2 hXY2)
            · have HQ1 := Lib.hid hq
              have HF1 := Lib.hid (show fwC p col L11 L12 = 5 from by rw [fwC, hq]; rfl)
              clear hq
              have q0 : ∀ W : World, Below wT1.heap.size wT1 W → W.cell? ⟨t1, 0, none⟩ = some (.int .i64 b1) := fun W h => bholds t1_0 h
              have q1 : ∀ W : World, Below wT1.heap.size wT1 W → W.cell? ⟨t1, 1, none⟩ = some (.int .i64 b2) := fun W h => bholds t1_1 h
              have q2 : ∀ W : World, Below wT1.heap.size wT1 W → W.cell? ⟨t1, 2, none⟩ = some (.int .i64 c1) := fun W h => bholds t1_2 h
              have q3 : ∀ W : World, Below wT1.heap.size wT1 W → W.cell? ⟨t1, 3, none⟩ = some (.int .i64 c2) := fun W h => bholds t1_3 h
              have q4 : ∀ W : World, Below wT1.heap.size wT1 W → W.cell? ⟨t1, 4, none⟩ = some (.int .i64 a1) := fun W h => bholds t1_4 h
              have q5 : ∀ W : World, Below wT1.heap.size wT1 W → W.cell? ⟨t1, 5, none⟩ = some (.int .i64 a2) := fun W h => bholds t1_5 h
              go_upto_region 10 with fail
              go_cut [18] (fun s18 wx => s18 = .int .i64 5 ∧ Below wT1.heap.size wT1 wx)
              case first =>
                go_region_held3 (fun W => Below wT1.heap.size wT1 W) (first | with_reducible assumption | with_reducible exact bthen (by with_reducible assumption) hB | with_reducible exact bfromdrew hB | with_reducible exact balloc (by with_reducible assumption) _ | with_reducible exact Below.drew (balloc (bundrew (by with_reducible assumption)) _) | with_reducible exact brealloc (by first | exact Nat.le_refl _ | omega | (simp; done) | (simp; omega)) (by with_reducible assumption) | with_reducible exact Below.drew (brealloc (by first | exact Nat.le_refl _ | omega | (simp; done) | (simp; omega)) (bundrew (by with_reducible assumption))) | ((repeat with_reducible refine Below.setCell ?_ (by first | exact Nat.le_refl _ | omega | (simp; done) | (simp; omega)) _); with_reducible assumption) | with_reducible exact Below.refl _ _ | with_reducible exact Below.drew (Below.refl _ _) | with_reducible exact Below.drew (by with_reducible assumption)) (first | (go_at_call 59; refine Calls.mono (implThrough_any _ _ _ _ _ _ hp (by omega) (by omega) (by omega) (by omega) (tri_ca HA.out)) ?_; rw [HCM.out.1, HCM.out.2.1, HCM.out.2.2]; rintro e wq ⟨rfl, hB⟩; (obtain ⟨hBc, hBf⟩ := bcell hB; have hBs := hB.size; (try simp at hBs); (try have hBq1 := Nat.lt_of_succ_le hBs); (try have hBq2 := Nat.lt_of_succ_lt hBq1); (try have hBq3 := Nat.lt_of_succ_lt hBq2); (try have hBzw0 : w.heap.size < wq.heap.size := (by omega)); (try have hBzw1 : w.heap.size + 1 < wq.heap.size := (by omega)); (try have hBzw2 : w.heap.size + 1 + 1 < wq.heap.size := (by omega)); (try have hBzw3 : w.heap.size + 1 + 1 + 1 < wq.heap.size := (by omega)); (try have hBzw4 : w.heap.size + 1 + 1 + 1 + 1 < wq.heap.size := (by omega)); (try have hBzw_1_heap_size : wT1.heap.size < wq.heap.size := (by omega)))) | (go_at_call 75; refine Calls.mono (implFootIn _ _ _ _ _ _ _ _ hp hc (by omega) (by omega) HLB1.out) ?_; rw [HF1.out]; rintro e wq ⟨rfl, hB⟩; (obtain ⟨hBc, hBf⟩ := bcell hB; have hBs := hB.size; (try simp at hBs); (try have hBq1 := Nat.lt_of_succ_le hBs); (try have hBq2 := Nat.lt_of_succ_lt hBq1); (try have hBq3 := Nat.lt_of_succ_lt hBq2); (try have hBzw0 : w.heap.size < wq.heap.size := (by omega)); (try have hBzw1 : w.heap.size + 1 < wq.heap.size := (by omega)); (try have hBzw2 : w.heap.size + 1 + 1 < wq.heap.size := (by omega)); (try have hBzw3 : w.heap.size + 1 + 1 + 1 < wq.heap.size := (by omega)); (try have hBzw4 : w.heap.size + 1 + 1 + 1 + 1 < wq.heap.size := (by omega)); (try have hBzw_1_heap_size : wT1.heap.size < wq.heap.size := (by omega)))))
                all_goals
                  go_wp2_with fail
                  go_meet
                  refine ⟨rfl, ?_⟩
                  · (first | with_reducible assumption | (repeat (first | with_reducible exact Below.refl _ _ | with_reducible refine balloc ?_ _ | with_reducible refine bdrewN ?_ _ | with_reducible refine Below.drew ?_ | with_reducible refine bthen ?_ (by with_reducible assumption) | with_reducible refine Below.setCell ?_ (by first | (simp; done) | (simp; omega)) _)))
              case' rest => obtain ⟨rfl, hzY1⟩ := hcut
              obtain ⟨wY1, rfl⟩ : ∃ wY : World, wY = wc := ⟨_, rfl⟩
              clear q0 q1 q2 q3 q4 q5
              have hsY1 := hzY1.size
              have hXY1 : Below X1.heap.size X1 wY1 := (bthen hzT1 hzY1)
              have hqT0 : perpB p col (th1 p b1 b2 c1 c2) (th2 p b1 b2 c1 c2) (th1 p b1 b2 c1 c2) (th2 p b1 b2 c1 c2) = false := by rw [← HL01.out, ← HL02.out]; exact HQ0.out
              have hqT1 : perpB p col (th1 p a1 a2 c1 c2) (th2 p a1 a2 c1 c2) (th1 p a1 a2 c1 c2) (th2 p a1 a2 c1 c2) = true := by rw [← HL11.out, ← HL12.out]; exact HQ1.out
              have HV := Lib.hid (og_st (k := 5) (col := col) (a1 := a1) (a2 := a2) (b1 := b1) (b2 := b2) (c1 := c1) (c2 := c2) hp HBB.out (by simp [ogS, HA.out, hqT0, hqT1]) (by decide))
              clear hqT0 hqT1
              go_wp2
              (refine bodyPost_ret (v := .tuple #[.slice none 0 0, .int .i64 (ogC p col a1 a2 b1 b2 c1 c2)]) (by simp [results, Try.results35, go_sem, HV.out.2]) rfl (slicePost_nil HV.out.1 ?_))
              exact (bthen hWx1 hXY1)
          · have HQ0 := Lib.hid hq
            have HF0 := Lib.hid (show fwC p col L01 L02 = 5 from by rw [fwC, hq]; rfl)
            clear hq
            have q0 : ∀ W : World, Below wT0.heap.size wT0 W → W.cell? ⟨t0, 0, none⟩ = some (.int .i64 a1) := fun W h => bholds t0_0 h
            have q1 : ∀ W : World, Below wT0.heap.size wT0 W → W.cell? ⟨t0, 1, none⟩ = some (.int .i64 a2) := fun W h => bholds t0_1 h
            have q2 : ∀ W : World, Below wT0.heap.size wT0 W → W.cell? ⟨t0, 2, none⟩ = some (.int .i64 b1) := fun W h => bholds t0_2 h
            have q3 : ∀ W : World, Below wT0.heap.size wT0 W → W.cell? ⟨t0, 3, none⟩ = some (.int .i64 b2) := fun W h => bholds t0_3 h
            have q4 : ∀ W : World, Below wT0.heap.size wT0 W → W.cell? ⟨t0, 4, none⟩ = some (.int .i64 c1) := fun W h => bholds t0_4 h
            have q5 : ∀ W : World, Below wT0.heap.size wT0 W → W.cell? ⟨t0, 5, none⟩ = some (.int .i64 c2) := fun W h => bholds t0_5 h
            go_upto_region 10 with fail
            go_cut [18] (fun s18 wx => s18 = .int .i64 5 ∧ Below wT0.heap.size wT0 wx)
            case first =>
              go_region_held3 (fun W => Below wT0.heap.size wT0 W) (first | with_reducible assumption | with_reducible exact bthen (by with_reducible assumption) hB | with_reducible exact bfromdrew hB | with_reducible exact balloc (by with_reducible assumption) _ | with_reducible exact Below.drew (balloc (bundrew (by with_reducible assumption)) _) | with_reducible exact brealloc (by first | exact Nat.le_refl _ | omega | (simp; done) | (simp; omega)) (by with_reducible assumption) | with_reducible exact Below.drew (brealloc (by first | exact Nat.le_refl _ | omega | (simp; done) | (simp; omega)) (bundrew (by with_reducible assumption))) | ((repeat with_reducible refine Below.setCell ?_ (by first | exact Nat.le_refl _ | omega | (simp; done) | (simp; omega)) _); with_reducible assumption) | with_reducible exact Below.refl _ _ | with_reducible exact Below.drew (Below.refl _ _) | with_reducible exact Below.drew (by with_reducible assumption)) (first | (go_at_call 59; refine Calls.mono (implThrough_any _ _ _ _ _ _ hp (by omega) (by omega) (by omega) (by omega) (tri_bc HA.out)) ?_; rw [← HL01.out, ← HL02.out, ← HL03.out]; rintro e wq ⟨rfl, hB⟩; (obtain ⟨hBc, hBf⟩ := bcell hB; have hBs := hB.size; (try simp at hBs); (try have hBq1 := Nat.lt_of_succ_le hBs); (try have hBq2 := Nat.lt_of_succ_lt hBq1); (try have hBq3 := Nat.lt_of_succ_lt hBq2); (try have hBzw0 : w.heap.size < wq.heap.size := (by omega)); (try have hBzw1 : w.heap.size + 1 < wq.heap.size := (by omega)); (try have hBzw2 : w.heap.size + 1 + 1 < wq.heap.size := (by omega)); (try have hBzw3 : w.heap.size + 1 + 1 + 1 < wq.heap.size := (by omega)); (try have hBzw4 : w.heap.size + 1 + 1 + 1 + 1 < wq.heap.size := (by omega)); (try have hBzw_0_heap_size : wT0.heap.size < wq.heap.size := (by omega)))) | (go_at_call 75; refine Calls.mono (implFootIn _ _ _ _ _ _ _ _ hp hc (by omega) (by omega) HLB0.out) ?_; rw [HF0.out]; rintro e wq ⟨rfl, hB⟩; (obtain ⟨hBc, hBf⟩ := bcell hB; have hBs := hB.size; (try simp at hBs); (try have hBq1 := Nat.lt_of_succ_le hBs); (try have hBq2 := Nat.lt_of_succ_lt hBq1); (try have hBq3 := Nat.lt_of_succ_lt hBq2); (try have hBzw0 : w.heap.size < wq.heap.size := (by omega)); (try have hBzw1 : w.heap.size + 1 < wq.heap.size := (by omega)); (try have hBzw2 : w.heap.size + 1 + 1 < wq.heap.size := (by omega)); (try have hBzw3 : w.heap.size + 1 + 1 + 1 < wq.heap.size := (by omega)); (try have hBzw4 : w.heap.size + 1 + 1 + 1 + 1 < wq.heap.size := (by omega)); (try have hBzw_0_heap_size : wT0.heap.size < wq.heap.size := (by omega)))))
              all_goals
                go_wp2_with fail
                go_meet
                refine ⟨rfl, ?_⟩
                · (first | with_reducible assumption | (repeat (first | with_reducible exact Below.refl _ _ | with_reducible refine balloc ?_ _ | with_reducible refine bdrewN ?_ _ | with_reducible refine Below.drew ?_ | with_reducible refine bthen ?_ (by with_reducible assumption) | with_reducible refine Below.setCell ?_ (by first | (simp; done) | (simp; omega)) _)))
            case' rest => obtain ⟨rfl, hzY0⟩ := hcut
            obtain ⟨wY0, rfl⟩ : ∃ wY : World, wY = wc := ⟨_, rfl⟩
            clear q0 q1 q2 q3 q4 q5
            have hsY0 := hzY0.size
            have hXY0 : Below wP.heap.size wP wY0 := (bthen hzT0 hzY0)
            have hqT0 : perpB p col (th1 p b1 b2 c1 c2) (th2 p b1 b2 c1 c2) (th1 p b1 b2 c1 c2) (th2 p b1 b2 c1 c2) = true := by rw [← HL01.out, ← HL02.out]; exact HQ0.out
            have HV := Lib.hid (og_st (k := 5) (col := col) (a1 := a1) (a2 := a2) (b1 := b1) (b2 := b2) (c1 := c1) (c2 := c2) hp HBB.out (by simp [ogS, HA.out, hqT0]) (by decide))
            clear hqT0
            go_wp2
            (refine bodyPost_ret (v := .tuple #[.slice none 0 0, .int .i64 (ogC p col a1 a2 b1 b2 c1 c2)]) (by simp [results, Try.results35, go_sem, HV.out.2]) rfl (slicePost_nil HV.out.1 ?_))
            exact (bthen hWP hXY0)
        · have hd4n : (area p a1 a2 b1 b2 c1 c2 != 0) = false := by rw [bne, hd4]; rfl
          have Hhd4p := Lib.hid (beq_iff_eq.1 hd4)
          have c_1 : tcC p (colB col) a1 a2 b1 b2 c1 c2 = 5 := by simp [tcC, hd1, hd2, hd3, hd4]
          have c_1b : tcC p true a1 a2 b1 b2 c1 c2 = 5 := by simp [tcC, hd1, hd2, hd3, hd4]
          have hWA : Below w.heap.size w wO := by (repeat (first | with_reducible exact Below.refl _ _ | with_reducible exact hxO | with_reducible refine balloc ?_ _ | with_reducible refine bdrewN ?_ _ | with_reducible refine Below.drew ?_ | with_reducible refine bthen ?_ (by with_reducible assumption) | with_reducible refine Below.setCell ?_ (by first | (simp; done) | (simp; omega)) _))
          have kA0 : wO.cell? ⟨w.heap.size, 0, none⟩ = some (.int .i64 a1) := by (first | with_reducible assumption | (repeat (first | with_reducible assumption | ((with_reducible refine kfresh ?_ ?_) <;> (first | with_reducible rfl | (simp; done))) | ((with_reducible refine ksameS ?_); focus ((repeat (first | with_reducible exact kis_of (by with_reducible assumption) | with_reducible refine kis_set ?_ | ((with_reducible refine kis_new ?_ ?_) <;> (first | with_reducible rfl | rfl | (simp; done))) | with_reducible refine kis_alloc _ ?_ | with_reducible refine kis_drew ?_ | with_reducible refine kis_call (by with_reducible assumption) ?_ | with_reducible exact kis_of (kcall (by with_reducible assumption) (by with_reducible assumption)))); done)) | with_reducible refine kother (by decide) ?_ | with_reducible refine kset (by first | omega | (simp; done) | (simp; omega)) ?_ | with_reducible refine kalloc _ ?_ | with_reducible refine kdrew ?_ | with_reducible refine kcall (by with_reducible assumption) ?_)))
          have qA0 : ∀ W : World, Below wO.heap.size wO W → W.cell? ⟨w.heap.size, 0, none⟩ = some (.int .i64 a1) := fun W h => bholds kA0 h
          have kA1 : wO.cell? ⟨w.heap.size, 1, none⟩ = some (.int .i64 a2) := by (first | with_reducible assumption | (repeat (first | with_reducible assumption | ((with_reducible refine kfresh ?_ ?_) <;> (first | with_reducible rfl | (simp; done))) | ((with_reducible refine ksameS ?_); focus ((repeat (first | with_reducible exact kis_of (by with_reducible assumption) | with_reducible refine kis_set ?_ | ((with_reducible refine kis_new ?_ ?_) <;> (first | with_reducible rfl | rfl | (simp; done))) | with_reducible refine kis_alloc _ ?_ | with_reducible refine kis_drew ?_ | with_reducible refine kis_call (by with_reducible assumption) ?_ | with_reducible exact kis_of (kcall (by with_reducible assumption) (by with_reducible assumption)))); done)) | with_reducible refine kother (by decide) ?_ | with_reducible refine kset (by first | omega | (simp; done) | (simp; omega)) ?_ | with_reducible refine kalloc _ ?_ | with_reducible refine kdrew ?_ | with_reducible refine kcall (by with_reducible assumption) ?_)))
          have qA1 : ∀ W : World, Below wO.heap.size wO W → W.cell? ⟨w.heap.size, 1, none⟩ = some (.int .i64 a2) := fun W h => bholds kA1 h
          have kA2 : wO.cell? ⟨w.heap.size + 1, 0, none⟩ = some (.int .i64 b1) := by (first | with_reducible assumption | (repeat (first | with_reducible assumption | ((with_reducible refine kfresh ?_ ?_) <;> (first | with_reducible rfl | (simp; done))) | ((with_reducible refine ksameS ?_); focus ((repeat (first | with_reducible exact kis_of (by with_reducible assumption) | with_reducible refine kis_set ?_ | ((with_reducible refine kis_new ?_ ?_) <;> (first | with_reducible rfl | rfl | (simp; done))) | with_reducible refine kis_alloc _ ?_ | with_reducible refine kis_drew ?_ | with_reducible refine kis_call (by with_reducible assumption) ?_ | with_reducible exact kis_of (kcall (by with_reducible assumption) (by with_reducible assumption)))); done)) | with_reducible refine kother (by decide) ?_ | with_reducible refine kset (by first | omega | (simp; done) | (simp; omega)) ?_ | with_reducible refine kalloc _ ?_ | with_reducible refine kdrew ?_ | with_reducible refine kcall (by with_reducible assumption) ?_)))
          have qA2 : ∀ W : World, Below wO.heap.size wO W → W.cell? ⟨w.heap.size + 1, 0, none⟩ = some (.int .i64 b1) := fun W h => bholds kA2 h
          have kA3 : wO.cell? ⟨w.heap.size + 1, 1, none⟩ = some (.int .i64 b2) := by (first | with_reducible assumption | (repeat (first | with_reducible assumption | ((with_reducible refine kfresh ?_ ?_) <;> (first | with_reducible rfl | (simp; done))) | ((with_reducible refine ksameS ?_); focus ((repeat (first | with_reducible exact kis_of (by with_reducible assumption) | with_reducible refine kis_set ?_ | ((with_reducible refine kis_new ?_ ?_) <;> (first | with_reducible rfl | rfl | (simp; done))) | with_reducible refine kis_alloc _ ?_ | with_reducible refine kis_drew ?_ | with_reducible refine kis_call (by with_reducible assumption) ?_ | with_reducible exact kis_of (kcall (by with_reducible assumption) (by with_reducible assumption)))); done)) | with_reducible refine kother (by decide) ?_ | with_reducible refine kset (by first | omega | (simp; done) | (simp; omega)) ?_ | with_reducible refine kalloc _ ?_ | with_reducible refine kdrew ?_ | with_reducible refine kcall (by with_reducible assumption) ?_)))
          have qA3 : ∀ W : World, Below wO.heap.size wO W → W.cell? ⟨w.heap.size + 1, 1, none⟩ = some (.int .i64 b2) := fun W h => bholds kA3 h
          have kA4 : wO.cell? ⟨w.heap.size + 1 + 1, 0, none⟩ = some (.int .i64 c1) := by (first | with_reducible assumption | (repeat (first | with_reducible assumption | ((with_reducible refine kfresh ?_ ?_) <;> (first | with_reducible rfl | (simp; done))) | ((with_reducible refine ksameS ?_); focus ((repeat (first | with_reducible exact kis_of (by with_reducible assumption) | with_reducible refine kis_set ?_ | ((with_reducible refine kis_new ?_ ?_) <;> (first | with_reducible rfl | rfl | (simp; done))) | with_reducible refine kis_alloc _ ?_ | with_reducible refine kis_drew ?_ | with_reducible refine kis_call (by with_reducible assumption) ?_ | with_reducible exact kis_of (kcall (by with_reducible assumption) (by with_reducible assumption)))); done)) | with_reducible refine kother (by decide) ?_ | with_reducible refine kset (by first | omega | (simp; done) | (simp; omega)) ?_ | with_reducible refine kalloc _ ?_ | with_reducible refine kdrew ?_ | with_reducible refine kcall (by with_reducible assumption) ?_)))
          have qA4 : ∀ W : World, Below wO.heap.size wO W → W.cell? ⟨w.heap.size + 1 + 1, 0, none⟩ = some (.int .i64 c1) := fun W h => bholds kA4 h
          have kA5 : wO.cell? ⟨w.heap.size + 1 + 1, 1, none⟩ = some (.int .i64 c2) := by (first | with_reducible assumption | (repeat (first | with_reducible assumption | ((with_reducible refine kfresh ?_ ?_) <;> (first | with_reducible rfl | (simp; done))) | ((with_reducible refine ksameS ?_); focus ((repeat (first | with_reducible exact kis_of (by with_reducible assumption) | with_reducible refine kis_set ?_ | ((with_reducible refine kis_new ?_ ?_) <;> (first | with_reducible rfl | rfl | (simp; done))) | with_reducible refine kis_alloc _ ?_ | with_reducible refine kis_drew ?_ | with_reducible refine kis_call (by with_reducible assumption) ?_ | with_reducible exact kis_of (kcall (by with_reducible assumption) (by with_reducible assumption)))); done)) | with_reducible refine kother (by decide) ?_ | with_reducible refine kset (by first | omega | (simp; done) | (simp; omega)) ?_ | with_reducible refine kalloc _ ?_ | with_reducible refine kdrew ?_ | with_reducible refine kcall (by with_reducible assumption) ?_)))
          have qA5 : ∀ W : World, Below wO.heap.size wO W → W.cell? ⟨w.heap.size + 1 + 1, 1, none⟩ = some (.int .i64 c2) := fun W h => bholds kA5 h
          go_upto_region 1 with fail
          go_cut [12] (fun s12 wx => s12 = .int .i64 5 ∧ Below wO.heap.size wO wx)
          case first =>
            go_region_held3 (fun W => Below wO.heap.size wO W) (first | with_reducible assumption | with_reducible exact bthen (by with_reducible assumption) hB | with_reducible exact bfromdrew hB | with_reducible exact balloc (by with_reducible assumption) _ | with_reducible exact Below.drew (balloc (bundrew (by with_reducible assumption)) _) | with_reducible exact brealloc (by first | exact Nat.le_refl _ | omega | (simp; done) | (simp; omega)) (by with_reducible assumption) | with_reducible exact Below.drew (brealloc (by first | exact Nat.le_refl _ | omega | (simp; done) | (simp; omega)) (bundrew (by with_reducible assumption))) | ((repeat with_reducible refine Below.setCell ?_ (by first | exact Nat.le_refl _ | omega | (simp; done) | (simp; omega)) _); with_reducible assumption) | with_reducible exact Below.refl _ _ | with_reducible exact Below.drew (Below.refl _ _) | with_reducible exact Below.drew (by with_reducible assumption)) (first | (go_at_call 54; refine Calls.mono (isColour_any _ _) ?_; rintro e wq ⟨rfl, rfl⟩) | (go_at_call 53; refine Calls.mono (implTri_any _ _ _ _ _ _ _ _ _ ) ?_; rintro e wq ⟨rfl, hB⟩; have hBs := hB.size; (try simp at hBs)))
            all_goals
              go_wp2_with fail
              go_meet
              refine ⟨rfl, ?_⟩
              · (first | with_reducible assumption | exact Below.drew (by with_reducible assumption) | exact bundrew (by with_reducible assumption) | (repeat (first | with_reducible exact Below.refl _ _ | with_reducible refine balloc ?_ _ | with_reducible refine bdrewN ?_ _ | with_reducible refine Below.drew ?_ | with_reducible refine bthen ?_ (by with_reducible assumption) | with_reducible refine Below.setCell ?_ (by first | (simp; done) | (simp; omega)) _)))
          case' rest => obtain ⟨rfl, hzA⟩ := hcut
          obtain ⟨wA, rfl⟩ : ∃ wA : World, wA = wc := ⟨_, rfl⟩
          have hsA := hzA.size
          have hxA : Below w.heap.size w wA := bthen hWA hzA
          have bA0 := qA0 wA hzA
          have bA1 := qA1 wA hzA
          have bA2 := qA2 wA hzA
          have bA3 := qA3 wA hzA
          have bA4 := qA4 wA hzA
          have bA5 := qA5 wA hzA
          clear qA0 qA1 qA2 qA3 qA4 qA5
          have lA_1 : w.heap.size < wA.heap.size := by omega
          have lA_2 : w.heap.size + 1 < wA.heap.size := by omega
          have lA_3 : w.heap.size + 1 + 1 < wA.heap.size := by omega
          have HB : ogB p col a1 a2 b1 b2 c1 c2 = true := by simp [ogB, hd1, hd2, hd3, hd4]
          have HS : ogS p col a1 a2 b1 b2 c1 c2 = 5 := by simp [ogS, hd1, hd2, hd3, hd4]
          have HV := Lib.hid (og_st (col := col) (a1 := a1) (a2 := a2) (b1 := b1) (b2 := b2) (c1 := c1) (c2 := c2) hp HB HS (by decide))
          clear HB HS
          go_wp2
          (refine bodyPost_ret (v := .tuple #[.slice none 0 0, .int .i64 (ogC p col a1 a2 b1 b2 c1 c2)]) (by simp [results, Try.results35, go_sem, HV.out.2]) rfl (slicePost_nil HV.out.1 ?_))
          (repeat (first | with_reducible exact Below.refl _ _ | with_reducible exact hxA | with_reducible refine balloc ?_ _ | with_reducible refine bdrewN ?_ _ | with_reducible refine Below.drew ?_ | with_reducible refine bthen ?_ (by with_reducible assumption) | with_reducible refine Below.setCell ?_ (by first | (simp; done) | (simp; omega)) _))

theorem og_len (p col a1 a2 b1 b2 c1 c2 : Int) : (ogL p col a1 a2 b1 b2 c1 c2).length ≤ 4096 := by
  unfold ogL
  split
  · exact (by decide : 6 ≤ 4096)
  · simp

end Go.Proofs.Ytjjeekmhpcllaaa
