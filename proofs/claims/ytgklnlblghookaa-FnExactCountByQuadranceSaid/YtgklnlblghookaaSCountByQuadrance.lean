/-
  CountByQuadrance: the model's.
-/
import Derived.Test.YtgklnlblghookaaCountQMath
import Derived.Test.YtgklnlblghookaaStepMake
import Derived.Test.YtgklnlblghookaaSpecPlq
import Derived.Test.YtgklnlblghookaaSpecNull
import Derived.Test.YtgklnlblghookaaSpecAllQ
import Derived.Test.YtgklnlblghookaaApart
import Derived.Test.YtgklnlblghookaaSlice
import Derived.Test.YtgklnlblghookaaGrow
import Derived.Test.YtgklnlblghookaaSpecPlCode
import Derived.Test.YtgklnlblghookaaCode
import Derived.Test.YtgklnlblghookaaLast
import Derived.Deep.RegionHeld3
import Derived.Deep.DeepCutAuto
import Derived.Test.YtgklnlblghookaaBaseMath
import Derived.Test.YtgklnlblghookaaApart
namespace Go.Proofs.Ytgklnlblghookaa
open Go.RowKit

set_option linter.unusedVariables false in
def cqB (p a1 a2 a3 : Int) : Bool := plB p a1 a2 a3
set_option linter.unusedVariables false in
def cqS (p a1 a2 a3 : Int) : Int := if (ppd p a1 a2 a3 a1 a2 a3 == 0) = true then 5 else 0
set_option linter.unusedVariables false in
def cqC (p a1 a2 a3 : Int) : Int := if isP p = true then (if cqB p a1 a2 a3 = true then cqS p a1 a2 a3 else 2) else 1
set_option linter.unusedVariables false in
def cqL (p a1 a2 a3 : Int) : List Int := if cqC p a1 a2 a3 = 0 then cqT p a1 a2 a3 else []
theorem cq_zero {p a1 a2 a3 k : Int} (h : cqC p a1 a2 a3 = k) (hk : k ≠ 0) : cqL p a1 a2 a3 = [] ∧ cqC p a1 a2 a3 = k := ⟨if_neg fun e => hk (h.symm.trans e), h⟩
theorem cq_no {p a1 a2 a3 : Int} (h : isP p = false) : cqL p a1 a2 a3 = [] ∧ cqC p a1 a2 a3 = 1 := cq_zero (by simp [cqC, h]) (by decide)
theorem cq_out {p a1 a2 a3 : Int} (hp : isP p = true) (h : cqB p a1 a2 a3 = false) : cqL p a1 a2 a3 = [] ∧ cqC p a1 a2 a3 = 2 := cq_zero (by simp [cqC, hp, h]) (by decide)
theorem cq_st {p a1 a2 a3 k : Int} (hp : isP p = true) (h : cqB p a1 a2 a3 = true) (hs : cqS p a1 a2 a3 = k) (hk : k ≠ 0) : cqL p a1 a2 a3 = [] ∧ cqC p a1 a2 a3 = k := cq_zero (by simp [cqC, hp, h, hs]) hk
theorem cq_good {p a1 a2 a3 : Int} (hp : isP p = true) (h : cqB p a1 a2 a3 = true) (hs : cqS p a1 a2 a3 = 0) : cqL p a1 a2 a3 = cqT p a1 a2 a3 ∧ cqC p a1 a2 a3 = 0 := by
  have h' : cqC p a1 a2 a3 = 0 := by simp [cqC, hp, h, hs]
  exact ⟨if_pos h', h'⟩

set_option linter.unusedVariables false in
set_option linter.unusedSimpArgs false in
set_option maxRecDepth 20000 in
set_option maxHeartbeats 4000000 in
theorem specCountByQuadrance_any (p a1 a2 a3 : Int)  (w : World) :
    Calls Try.prog 34 #[.int .i64 p, .agg #[.int .i64 a1, .int .i64 a2, .int .i64 a3]] w fun e w' =>
      SlicePost 2 1 (cqL p a1 a2 a3) (cqC p a1 a2 a3) w e w' := by
  go_enter Try.func34, Try.ntmps34
  go_upto_region 0 with fail
  go_cut [3, 4, 5] (fun s3 s4 s5 wx => s3 = .pointer (some ⟨w.heap.size, 0, none⟩) ∧ s4 = .slice none 0 0 ∧ s5 = .int .i64 0 ∧ wx.cell? ⟨w.heap.size, 0, none⟩ = some (.int .i64 a1) ∧ wx.cell? ⟨w.heap.size, 1, none⟩ = some (.int .i64 a2) ∧ wx.cell? ⟨w.heap.size, 2, none⟩ = some (.int .i64 a3) ∧ wx.frozen? ⟨w.heap.size, 0, none⟩ = false ∧ wx.frozen? ⟨w.heap.size, 1, none⟩ = false ∧ wx.frozen? ⟨w.heap.size, 2, none⟩ = false ∧ Below w.heap.size w wx ∧ w.heap.size + 1 ≤ wx.heap.size)
  case first =>
    go_wp2
    go_meet
    refine ⟨rfl, rfl, rfl, ?_, ?_, ?_, ?_, ?_, ?_, ?_, ?_⟩
    · (repeat (first | with_reducible assumption | ((with_reducible refine kfresh ?_ ?_) <;> (first | with_reducible rfl | (simp; done))) | ((with_reducible refine ksameS ?_); focus ((repeat (first | with_reducible exact kis_of (by with_reducible assumption) | with_reducible refine kis_set ?_ | ((with_reducible refine kis_new ?_ ?_) <;> (first | with_reducible rfl | rfl | (simp; done))) | with_reducible refine kis_alloc _ ?_ | with_reducible refine kis_drew ?_ | with_reducible refine kis_call (by with_reducible assumption) ?_ | with_reducible exact kis_of (kcall (by with_reducible assumption) (by with_reducible assumption)))); done)) | with_reducible refine kother (by decide) ?_ | with_reducible refine kset (by first | omega | (simp; done) | (simp; omega)) ?_ | with_reducible refine kalloc _ ?_ | with_reducible refine kdrew ?_ | with_reducible refine kdrewN ?_ | with_reducible refine kcall (by with_reducible assumption) ?_))
    · (repeat (first | with_reducible assumption | ((with_reducible refine kfresh ?_ ?_) <;> (first | with_reducible rfl | (simp; done))) | ((with_reducible refine ksameS ?_); focus ((repeat (first | with_reducible exact kis_of (by with_reducible assumption) | with_reducible refine kis_set ?_ | ((with_reducible refine kis_new ?_ ?_) <;> (first | with_reducible rfl | rfl | (simp; done))) | with_reducible refine kis_alloc _ ?_ | with_reducible refine kis_drew ?_ | with_reducible refine kis_call (by with_reducible assumption) ?_ | with_reducible exact kis_of (kcall (by with_reducible assumption) (by with_reducible assumption)))); done)) | with_reducible refine kother (by decide) ?_ | with_reducible refine kset (by first | omega | (simp; done) | (simp; omega)) ?_ | with_reducible refine kalloc _ ?_ | with_reducible refine kdrew ?_ | with_reducible refine kdrewN ?_ | with_reducible refine kcall (by with_reducible assumption) ?_))
    · (repeat (first | with_reducible assumption | ((with_reducible refine kfresh ?_ ?_) <;> (first | with_reducible rfl | (simp; done))) | ((with_reducible refine ksameS ?_); focus ((repeat (first | with_reducible exact kis_of (by with_reducible assumption) | with_reducible refine kis_set ?_ | ((with_reducible refine kis_new ?_ ?_) <;> (first | with_reducible rfl | rfl | (simp; done))) | with_reducible refine kis_alloc _ ?_ | with_reducible refine kis_drew ?_ | with_reducible refine kis_call (by with_reducible assumption) ?_ | with_reducible exact kis_of (kcall (by with_reducible assumption) (by with_reducible assumption)))); done)) | with_reducible refine kother (by decide) ?_ | with_reducible refine kset (by first | omega | (simp; done) | (simp; omega)) ?_ | with_reducible refine kalloc _ ?_ | with_reducible refine kdrew ?_ | with_reducible refine kdrewN ?_ | with_reducible refine kcall (by with_reducible assumption) ?_))
    · (repeat (first | with_reducible assumption | with_reducible refine fdrew ?_ | with_reducible refine fdrewN ?_ | with_reducible refine fset ?_ | ((with_reducible refine fallocNew ?_) <;> (first | with_reducible rfl | (simp; done))) | ((with_reducible refine kfro (by with_reducible assumption) ?_ ?_); focus (first | with_reducible assumption | omega | (simp; done) | (simp; omega))) | ((with_reducible refine falloc ?_ ?_); focus (first | with_reducible assumption | omega | (simp; done) | (simp; omega)))))
    · (repeat (first | with_reducible assumption | with_reducible refine fdrew ?_ | with_reducible refine fdrewN ?_ | with_reducible refine fset ?_ | ((with_reducible refine fallocNew ?_) <;> (first | with_reducible rfl | (simp; done))) | ((with_reducible refine kfro (by with_reducible assumption) ?_ ?_); focus (first | with_reducible assumption | omega | (simp; done) | (simp; omega))) | ((with_reducible refine falloc ?_ ?_); focus (first | with_reducible assumption | omega | (simp; done) | (simp; omega)))))
    · (repeat (first | with_reducible assumption | with_reducible refine fdrew ?_ | with_reducible refine fdrewN ?_ | with_reducible refine fset ?_ | ((with_reducible refine fallocNew ?_) <;> (first | with_reducible rfl | (simp; done))) | ((with_reducible refine kfro (by with_reducible assumption) ?_ ?_); focus (first | with_reducible assumption | omega | (simp; done) | (simp; omega))) | ((with_reducible refine falloc ?_ ?_); focus (first | with_reducible assumption | omega | (simp; done) | (simp; omega)))))
    · (repeat (first | with_reducible exact Below.refl _ _ | with_reducible refine balloc ?_ _ | with_reducible refine bdrewN ?_ _ | with_reducible refine Below.drew ?_ | with_reducible refine bthen ?_ (by with_reducible assumption) | with_reducible refine Below.setCell ?_ (by first | (simp; done) | (simp; omega)) _))
    · (first | omega | (simp; done) | (simp; omega))
  case' rest => obtain ⟨rfl, rfl, rfl, cO0, cO1, cO2, fO0, fO1, fO2, hxO, hsO⟩ := hcut
  obtain ⟨wO, rfl⟩ : ∃ wO : World, wO = wc := ⟨_, rfl⟩
  have lO0 : w.heap.size < wO.heap.size := by omega
  rcases bool_ways (isP p) with hd1 | hd1
  · skip
    have c_1 : codeOf p (plB p a1 a2 a3) = 1 := codeOf_no hd1
    have cN : ∀ b, codeOf p b = 1 := fun b => codeOf_no hd1
    go_wp2_with fail
    refine Calls.mono (specPlCode1 _ _ _ _ _ _ (by first | rfl | (simp; done))) ?_
    rintro e w1 ⟨rfl, hB1⟩
    (obtain ⟨hB1c, hB1f⟩ := bcell hB1; have hB1s := hB1.size; (try simp at hB1s); (try have hB1q1 := Nat.lt_of_succ_le hB1s); (try have hB1q2 := Nat.lt_of_succ_lt hB1q1); (try have hB1q3 := Nat.lt_of_succ_lt hB1q2); (try have hB1zw0 : w.heap.size < w1.heap.size := (by omega)); (try have hB1zw1 : w.heap.size + 1 < w1.heap.size := (by omega)); (try have hB1zw2 : w.heap.size + 1 + 1 < w1.heap.size := (by omega)); (try have hB1zw3 : w.heap.size + 1 + 1 + 1 < w1.heap.size := (by omega)); (try have hB1zw4 : w.heap.size + 1 + 1 + 1 + 1 < w1.heap.size := (by omega)); (try have hB1zwO0 : wO.heap.size < w1.heap.size := (by omega)); (try have hB1zwO1 : wO.heap.size + 1 < w1.heap.size := (by omega)); (try have hB1zwO2 : wO.heap.size + 1 + 1 < w1.heap.size := (by omega)); (try have hB1zwO3 : wO.heap.size + 1 + 1 + 1 < w1.heap.size := (by omega)); (try have hB1zwO4 : wO.heap.size + 1 + 1 + 1 + 1 < w1.heap.size := (by omega)))
    have HV := Lib.hid (cq_no (a1 := a1) (a2 := a2) (a3 := a3) hd1)
    go_wp2
    (refine bodyPost_ret (v := .tuple #[.slice none 0 0, .int .i64 (cqC p a1 a2 a3)]) (by simp [results, Try.results34, go_sem, HV.out.2]) rfl (slicePost_nil HV.out.1 ?_))
    (repeat (first | with_reducible exact Below.refl _ _ | with_reducible exact hxO | with_reducible refine balloc ?_ _ | with_reducible refine bdrewN ?_ _ | with_reducible refine Below.drew ?_ | with_reducible refine bthen ?_ (by with_reducible assumption) | with_reducible refine Below.setCell ?_ (by first | (simp; done) | (simp; omega)) _))
  · have hp := hd1
    have hr := isP_range hp
    rcases bool_ways (plB p a1 a2 a3) with hd2 | hd2
    · skip
      have c_1 : codeOf p (plB p a1 a2 a3) = 2 := codeOf_out hp (by simp [hd2])
      have cT : codeOf p true = 0 := codeOf_in hp rfl
      have cF : codeOf p false = 2 := codeOf_out hp rfl
      go_wp2_with fail
      refine Calls.mono (specPlCode1 _ _ _ _ _ _ (by first | rfl | (simp; done))) ?_
      rintro e w1 ⟨rfl, hB1⟩
      (obtain ⟨hB1c, hB1f⟩ := bcell hB1; have hB1s := hB1.size; (try simp at hB1s); (try have hB1q1 := Nat.lt_of_succ_le hB1s); (try have hB1q2 := Nat.lt_of_succ_lt hB1q1); (try have hB1q3 := Nat.lt_of_succ_lt hB1q2); (try have hB1zw0 : w.heap.size < w1.heap.size := (by omega)); (try have hB1zw1 : w.heap.size + 1 < w1.heap.size := (by omega)); (try have hB1zw2 : w.heap.size + 1 + 1 < w1.heap.size := (by omega)); (try have hB1zw3 : w.heap.size + 1 + 1 + 1 < w1.heap.size := (by omega)); (try have hB1zw4 : w.heap.size + 1 + 1 + 1 + 1 < w1.heap.size := (by omega)); (try have hB1zwO0 : wO.heap.size < w1.heap.size := (by omega)); (try have hB1zwO1 : wO.heap.size + 1 < w1.heap.size := (by omega)); (try have hB1zwO2 : wO.heap.size + 1 + 1 < w1.heap.size := (by omega)); (try have hB1zwO3 : wO.heap.size + 1 + 1 + 1 < w1.heap.size := (by omega)); (try have hB1zwO4 : wO.heap.size + 1 + 1 + 1 + 1 < w1.heap.size := (by omega)))
      have HV := Lib.hid (cq_out (a1 := a1) (a2 := a2) (a3 := a3) hp (by simp [cqB, hd1, hd2]))
      go_wp2
      (refine bodyPost_ret (v := .tuple #[.slice none 0 0, .int .i64 (cqC p a1 a2 a3)]) (by simp [results, Try.results34, go_sem, HV.out.2]) rfl (slicePost_nil HV.out.1 ?_))
      (repeat (first | with_reducible exact Below.refl _ _ | with_reducible exact hxO | with_reducible refine balloc ?_ _ | with_reducible refine bdrewN ?_ _ | with_reducible refine Below.drew ?_ | with_reducible refine bthen ?_ (by with_reducible assumption) | with_reducible refine Below.setCell ?_ (by first | (simp; done) | (simp; omega)) _))
    · have hd2q := nums3 (plB_nums hd2)
      have c_1 : codeOf p (plB p a1 a2 a3) = 0 := codeOf_in hp (by simp [hd2])
      have cT : codeOf p true = 0 := codeOf_in hp rfl
      go_wp2_with fail
      refine Calls.mono (specPlCode1 _ _ _ _ _ _ (by first | rfl | (simp; done))) ?_
      rintro e w1 ⟨rfl, hB1⟩
      (obtain ⟨hB1c, hB1f⟩ := bcell hB1; have hB1s := hB1.size; (try simp at hB1s); (try have hB1q1 := Nat.lt_of_succ_le hB1s); (try have hB1q2 := Nat.lt_of_succ_lt hB1q1); (try have hB1q3 := Nat.lt_of_succ_lt hB1q2); (try have hB1zw0 : w.heap.size < w1.heap.size := (by omega)); (try have hB1zw1 : w.heap.size + 1 < w1.heap.size := (by omega)); (try have hB1zw2 : w.heap.size + 1 + 1 < w1.heap.size := (by omega)); (try have hB1zw3 : w.heap.size + 1 + 1 + 1 < w1.heap.size := (by omega)); (try have hB1zw4 : w.heap.size + 1 + 1 + 1 + 1 < w1.heap.size := (by omega)); (try have hB1zwO0 : wO.heap.size < w1.heap.size := (by omega)); (try have hB1zwO1 : wO.heap.size + 1 < w1.heap.size := (by omega)); (try have hB1zwO2 : wO.heap.size + 1 + 1 < w1.heap.size := (by omega)); (try have hB1zwO3 : wO.heap.size + 1 + 1 + 1 < w1.heap.size := (by omega)); (try have hB1zwO4 : wO.heap.size + 1 + 1 + 1 + 1 < w1.heap.size := (by omega)))
      go_wp2_with fail
      refine Calls.mono (specNull_any _ _ _ _ _ hp (by omega) (by omega) (by omega)) ?_
      rintro e w2 ⟨rfl, hB2⟩
      (obtain ⟨hB2c, hB2f⟩ := bcell hB2; have hB2s := hB2.size; (try simp at hB2s); (try have hB2q1 := Nat.lt_of_succ_le hB2s); (try have hB2q2 := Nat.lt_of_succ_lt hB2q1); (try have hB2q3 := Nat.lt_of_succ_lt hB2q2); (try have hB2zw0 : w.heap.size < w2.heap.size := (by omega)); (try have hB2zw1 : w.heap.size + 1 < w2.heap.size := (by omega)); (try have hB2zw2 : w.heap.size + 1 + 1 < w2.heap.size := (by omega)); (try have hB2zw3 : w.heap.size + 1 + 1 + 1 < w2.heap.size := (by omega)); (try have hB2zw4 : w.heap.size + 1 + 1 + 1 + 1 < w2.heap.size := (by omega)); (try have hB2zw10 : w1.heap.size < w2.heap.size := (by omega)); (try have hB2zw11 : w1.heap.size + 1 < w2.heap.size := (by omega)); (try have hB2zw12 : w1.heap.size + 1 + 1 < w2.heap.size := (by omega)); (try have hB2zw13 : w1.heap.size + 1 + 1 + 1 < w2.heap.size := (by omega)); (try have hB2zw14 : w1.heap.size + 1 + 1 + 1 + 1 < w2.heap.size := (by omega)); (try have hB2zwO0 : wO.heap.size < w2.heap.size := (by omega)); (try have hB2zwO1 : wO.heap.size + 1 < w2.heap.size := (by omega)); (try have hB2zwO2 : wO.heap.size + 1 + 1 < w2.heap.size := (by omega)); (try have hB2zwO3 : wO.heap.size + 1 + 1 + 1 < w2.heap.size := (by omega)); (try have hB2zwO4 : wO.heap.size + 1 + 1 + 1 + 1 < w2.heap.size := (by omega)))
      rcases bool_ways (ppd p a1 a2 a3 a1 a2 a3 == 0) with hd3 | hd3
      · have hd3n : (ppd p a1 a2 a3 a1 a2 a3 != 0) = true := by rw [bne, hd3]; rfl
        have Hhd3p := Lib.hid (beq_eq_false_iff_ne.1 hd3)
        have HB : cqB p a1 a2 a3 = true := by simp [cqB, hd1, hd2, hd3]
        have HS : cqS p a1 a2 a3 = 0 := by simp [cqS, hd1, hd2, hd3]
        have HV := Lib.hid (cq_good (a1 := a1) (a2 := a2) (a3 := a3) hp HB HS)
        clear HB HS
        have rq := plB_rng hd2
        have ka0 : w2.cell? ⟨w.heap.size, 0, none⟩ = some (.int .i64 a1) := by (first | with_reducible assumption | (repeat (first | with_reducible assumption | ((with_reducible refine kfresh ?_ ?_) <;> (first | with_reducible rfl | (simp; done))) | ((with_reducible refine ksameS ?_); focus ((repeat (first | with_reducible exact kis_of (by with_reducible assumption) | with_reducible refine kis_set ?_ | ((with_reducible refine kis_new ?_ ?_) <;> (first | with_reducible rfl | rfl | (simp; done))) | with_reducible refine kis_alloc _ ?_ | with_reducible refine kis_drew ?_ | with_reducible refine kis_call (by with_reducible assumption) ?_ | with_reducible exact kis_of (kcall (by with_reducible assumption) (by with_reducible assumption)))); done)) | with_reducible refine kother (by decide) ?_ | with_reducible refine kset (by first | omega | (simp; done) | (simp; omega)) ?_ | with_reducible refine kalloc _ ?_ | with_reducible refine kdrew ?_ | with_reducible refine kdrewN ?_ | with_reducible refine kcall (by with_reducible assumption) ?_)))
        have ka1 : w2.cell? ⟨w.heap.size, 1, none⟩ = some (.int .i64 a2) := by (first | with_reducible assumption | (repeat (first | with_reducible assumption | ((with_reducible refine kfresh ?_ ?_) <;> (first | with_reducible rfl | (simp; done))) | ((with_reducible refine ksameS ?_); focus ((repeat (first | with_reducible exact kis_of (by with_reducible assumption) | with_reducible refine kis_set ?_ | ((with_reducible refine kis_new ?_ ?_) <;> (first | with_reducible rfl | rfl | (simp; done))) | with_reducible refine kis_alloc _ ?_ | with_reducible refine kis_drew ?_ | with_reducible refine kis_call (by with_reducible assumption) ?_ | with_reducible exact kis_of (kcall (by with_reducible assumption) (by with_reducible assumption)))); done)) | with_reducible refine kother (by decide) ?_ | with_reducible refine kset (by first | omega | (simp; done) | (simp; omega)) ?_ | with_reducible refine kalloc _ ?_ | with_reducible refine kdrew ?_ | with_reducible refine kdrewN ?_ | with_reducible refine kcall (by with_reducible assumption) ?_)))
        have ka2 : w2.cell? ⟨w.heap.size, 2, none⟩ = some (.int .i64 a3) := by (first | with_reducible assumption | (repeat (first | with_reducible assumption | ((with_reducible refine kfresh ?_ ?_) <;> (first | with_reducible rfl | (simp; done))) | ((with_reducible refine ksameS ?_); focus ((repeat (first | with_reducible exact kis_of (by with_reducible assumption) | with_reducible refine kis_set ?_ | ((with_reducible refine kis_new ?_ ?_) <;> (first | with_reducible rfl | rfl | (simp; done))) | with_reducible refine kis_alloc _ ?_ | with_reducible refine kis_drew ?_ | with_reducible refine kis_call (by with_reducible assumption) ?_ | with_reducible exact kis_of (kcall (by with_reducible assumption) (by with_reducible assumption)))); done)) | with_reducible refine kother (by decide) ?_ | with_reducible refine kset (by first | omega | (simp; done) | (simp; omega)) ?_ | with_reducible refine kalloc _ ?_ | with_reducible refine kdrew ?_ | with_reducible refine kdrewN ?_ | with_reducible refine kcall (by with_reducible assumption) ?_)))
        have hW0 : Below w.heap.size w w2 := by (repeat (first | with_reducible exact Below.refl _ _ | with_reducible exact hxO | with_reducible refine balloc ?_ _ | with_reducible refine bdrewN ?_ _ | with_reducible refine Below.drew ?_ | with_reducible refine bthen ?_ (by with_reducible assumption) | with_reducible refine Below.setCell ?_ (by first | (simp; done) | (simp; omega)) _))
        have hl0 : w.heap.size < w2.heap.size := World.block_lt_of_cell? w2 ⟨w.heap.size, 0, none⟩ ka0
        obtain ⟨i0, hi, hz0, hz1, hz2⟩ := info_parts infoInt1
        have HV2 := Lib.hid (show cqL p a1 a2 a3 = tab p.toNat (cqF p a1 a2 a3 (allQ p.toNat)) ∧ cqC p a1 a2 a3 = 0 from HV.out)
        clear HV
        have hgl := allQ_le (m := p.toNat) (by omega)
        have hg0 := allQ_len p.toNat
        have hall := fun w' => specAllQ_any p w' hp
        obtain ⟨m, hm⟩ : ∃ m, m = p.toNat := ⟨_, rfl⟩
        have hc0 : (m : Int) = p := by omega
        have hwM : IntKind.i64.wrap (m : Int) = (m : Int) := wrapI _ (by omega)
        have hwp : IntKind.i64.wrap p = p := wrapI _ (by omega)
        rw [← hm] at hgl hg0 hall HV2
        have hm31 : m ≤ 31 := by omega
        have HKQ := Lib.hid (fun x => by have h := plqQ_nat (a1 := a1) (a2 := a2) (a3 := a3) hp x; rw [← hm] at h; exact h : ∀ x, ∃ k : Nat, plqQ p a1 a2 a3 x = (k : Int) ∧ k < m)
        clear hm
        obtain ⟨ps, hps⟩ : ∃ ps : List Pl32, ps = allQ m := ⟨_, rfl⟩
        rw [← hps] at hgl hg0 hall HV2
        clear hps
        have HALL := Lib.hid hall
        have HG0 := Lib.hid hg0
        clear hall hg0
        have HM := Lib.hid hc0
        clear hc0
        go_upto_region 6 with fail
        go_cut [7, 8] (fun s7 s8 wx => ∃ gz cz gm, s7 = .slice (some ⟨gz, 0, none⟩) ps.length cz ∧ s8 = .slice (some ⟨gm, 0, none⟩) m m ∧ gz ≠ gm ∧ wx.ownsRow w2.heap.size 23 3 (.slice (some ⟨gz, 0, none⟩) ps.length cz) ps.length (ints (flatQ ps)) ∧ wx.ownsRow w2.heap.size 2 1 (.slice (some ⟨gm, 0, none⟩) m m) m (ints (tab m fun _ => 0)) ∧ Below w2.heap.size w2 wx)
        case first =>
          (refine wp_region_held_drew (S := (fun _ => True)) (by kernel_rfl) (by trivial) (fun hHeld => ?_))
          (refine wpAnyH_take (i := 0) (v := ?_) rfl (by kernel_rfl) (by kernel_rfl) (by kernel_rfl) (fun _ _ _ h => h) (Or.inl ⟨by rfl, ?_⟩) (by with_reducible assumption) ?_; rotate_left; (focus (intro wz hSw; (try dsimp only at hSw); go_simp; try with_reducible rfl)); try simp only [Act.put, List.getElem_toArray, List.getElem_cons_zero, List.getElem_cons_succ, List.setIfInBounds_toArray, List.set_cons_zero, List.set_cons_succ])
          (refine wpAnyH_take (i := 2) (v := ?_) rfl (by kernel_rfl) (by kernel_rfl) (by kernel_rfl) (fun _ _ _ h => h) (Or.inl ⟨by rfl, ?_⟩) (by with_reducible assumption) ?_; rotate_left; (focus (intro wz hSw; (try dsimp only at hSw); go_simp; try with_reducible rfl)); try simp only [Act.put, List.getElem_toArray, List.getElem_cons_zero, List.getElem_cons_succ, List.setIfInBounds_toArray, List.set_cons_zero, List.set_cons_succ])
          refine wpAnyH_ready (rs := [1, 3]) (by kernel_rfl) (by simp) ?_
          refine AllReadyH.cons rfl (fun K hK => ?_) (AllReadyH.cons rfl (fun K hK => ?_) AllReadyH.nil)
          · go_simp
            refine Calls.mono (HALL.out _) ?_
            rintro e wm1 ⟨v, rfl, ho, hB⟩
            rcases own_ways ho with ⟨h0, _⟩ | ⟨_, gz, cz, rfl, hg1, hg2, _⟩
            · have := HG0.out; omega
            refine hK.out _ _ trivial (fun hHeld => ?_)
            clear hK K
            try simp only [Act.put, List.getElem_toArray, List.getElem_cons_zero, List.getElem_cons_succ, List.setIfInBounds_toArray, List.set_cons_zero, List.set_cons_succ]
            have hs1 := hB.size
            have hs1' : w2.heap.size ≤ wm1.heap.size := hs1
            (refine wpAnyH_take (i := 4) (v := ?_) rfl (by kernel_rfl) (by kernel_rfl) (by kernel_rfl) (fun _ _ _ h => h) (Or.inl ⟨by rfl, ?_⟩) (by with_reducible assumption) ?_; rotate_left; (focus (intro wz hSw; (try dsimp only at hSw); go_simp; try with_reducible rfl)); try simp only [Act.put, List.getElem_toArray, List.getElem_cons_zero, List.getElem_cons_succ, List.setIfInBounds_toArray, List.set_cons_zero, List.set_cons_succ])
            refine wpAnyH_ready (rs := [3]) (by kernel_rfl) (by simp) ?_
            refine AllReadyH.cons rfl (fun K hK => ?_) AllReadyH.nil
            refine step_makeQ rfl _ _ 42 rfl w2.heap.size 2 i0 (.int .i64 0) 1 Try.underlying42 hi hz0 hz1 .i64 .i64 m ?e1 ?e2 (by rw [hz2]; omega) (by unfold maxLen; omega) hs1' ?_
            case e1 => have := HM.out; simp [Act.eval, this]
            case e2 => have := HM.out; simp [Act.eval, this]
            intro wm2 ho2 hgr2
            refine hK.out _ _ trivial (fun hHeld => ?_)
            clear hK K
            try simp only [Act.put, List.getElem_toArray, List.getElem_cons_zero, List.getElem_cons_succ, List.setIfInBounds_toArray, List.set_cons_zero, List.set_cons_succ]
            have hb1 : Below w2.heap.size w2 wm1 := by first | exact bthen (Below.drew (Below.refl _ _)) hB | (repeat (first | with_reducible exact Below.refl _ _ | with_reducible exact hB | with_reducible refine balloc ?_ _ | with_reducible refine bdrewN ?_ _ | with_reducible refine Below.drew ?_ | with_reducible refine bthen ?_ (by with_reducible assumption) | with_reducible refine Below.setCell ?_ (by first | (simp; done) | (simp; omega)) _))
            have hb2 : Below w2.heap.size w2 wm2 := hb1.grown hgr2 hs1' (fun g hg => by cases hg)
            have ho3 := own_base (ho.kept hgr2 (.inr (by simp [Value.ownBlock]))) (show w2.heap.size ≤ _ from Nat.le_refl _)
            (refine wpAnyH_take (i := 5) (v := ?_) rfl (by kernel_rfl) (by kernel_rfl) (by kernel_rfl) (fun _ _ _ h => h) (Or.inl ⟨by rfl, ?_⟩) (by with_reducible assumption) ?_; rotate_left; (focus (intro wz hSw; (try dsimp only at hSw); go_simp; try with_reducible rfl)); try simp only [Act.put, List.getElem_toArray, List.getElem_cons_zero, List.getElem_cons_succ, List.setIfInBounds_toArray, List.set_cons_zero, List.set_cons_succ])
            refine wpAnyH_done (by kernel_rfl) ?_ _
            rw [show (madeCells (Value.int .i64 0).cells (m * 1)).toList = ints (tab m fun _ => 0) from by rw [Nat.mul_one]; exact made_tabQ m] at ho2
            go_wp2_with fail
            go_meet
            exact ⟨_, _, _, rfl, rfl, by omega, ho3, ho2, hb2⟩
          · refine step_makeQ rfl _ _ 42 rfl w2.heap.size 2 i0 (.int .i64 0) 1 Try.underlying42 hi hz0 hz1 .i64 .i64 m ?e1 ?e2 (by rw [hz2]; omega) (by unfold maxLen; omega) (Nat.le_refl _) ?_
            case e1 => have := HM.out; simp [Act.eval, this]
            case e2 => have := HM.out; simp [Act.eval, this]
            intro wm1 ho2 hgr2
            refine hK.out _ _ trivial (fun hHeld => ?_)
            clear hK K
            try simp only [Act.put, List.getElem_toArray, List.getElem_cons_zero, List.getElem_cons_succ, List.setIfInBounds_toArray, List.set_cons_zero, List.set_cons_succ]
            have hb1 : Below w2.heap.size w2 wm1 := Below.grown (w := w2.drew) (Below.drew (Below.refl _ _)) hgr2 (Nat.le_refl _) (fun g hg => by cases hg)
            have hl1 : w2.heap.size < wm1.heap.size := (ho2.lt _ rfl).2
            have hs1 := hb1.size
            refine wpAnyH_ready (rs := [1]) (by kernel_rfl) (by simp) ?_
            refine AllReadyH.cons rfl (fun K hK => ?_) AllReadyH.nil
            go_simp
            refine Calls.mono (HALL.out _) ?_
            rintro e wm2 ⟨v, rfl, ho, hB⟩
            rcases own_ways ho with ⟨h0, _⟩ | ⟨_, gz, cz, rfl, hg1, hg2, _⟩
            · have := HG0.out; omega
            refine hK.out _ _ trivial (fun hHeld => ?_)
            clear hK K
            try simp only [Act.put, List.getElem_toArray, List.getElem_cons_zero, List.getElem_cons_succ, List.setIfInBounds_toArray, List.set_cons_zero, List.set_cons_succ]
            have hb2 : Below w2.heap.size w2 wm2 := hb1.trans (hB.mono hs1)
            have ho4 := own_call ho2 hB
            have ho3 := own_base ho (show w2.heap.size ≤ _ from hs1)
            (refine wpAnyH_take (i := 4) (v := ?_) rfl (by kernel_rfl) (by kernel_rfl) (by kernel_rfl) (fun _ _ _ h => h) (Or.inl ⟨by rfl, ?_⟩) (by with_reducible assumption) ?_; rotate_left; (focus (intro wz hSw; (try dsimp only at hSw); go_simp; try with_reducible rfl)); try simp only [Act.put, List.getElem_toArray, List.getElem_cons_zero, List.getElem_cons_succ, List.setIfInBounds_toArray, List.set_cons_zero, List.set_cons_succ])
            (refine wpAnyH_take (i := 5) (v := ?_) rfl (by kernel_rfl) (by kernel_rfl) (by kernel_rfl) (fun _ _ _ h => h) (Or.inl ⟨by rfl, ?_⟩) (by with_reducible assumption) ?_; rotate_left; (focus (intro wz hSw; (try dsimp only at hSw); go_simp; try with_reducible rfl)); try simp only [Act.put, List.getElem_toArray, List.getElem_cons_zero, List.getElem_cons_succ, List.setIfInBounds_toArray, List.set_cons_zero, List.set_cons_succ])
            refine wpAnyH_done (by kernel_rfl) ?_ _
            rw [show (madeCells (Value.int .i64 0).cells (m * 1)).toList = ints (tab m fun _ => 0) from by rw [Nat.mul_one]; exact made_tabQ m] at ho4
            go_wp2_with fail
            go_meet
            exact ⟨_, _, _, rfl, rfl, Nat.ne_of_gt (Nat.lt_of_lt_of_le hl1 hg1), ho3, ho4, hb2⟩
        case' rest => obtain ⟨gz, cz, gm, rfl, rfl, hne, hoz, hom, hbz⟩ := hcut
        obtain ⟨wz, rfl⟩ : ∃ wz : World, wz = wc := ⟨_, rfl⟩
        have hgz := (hoz.lt gz rfl).2
        have hgm := hom.lt gm rfl
        have hsz := hbz.size
        have hne1 : w.heap.size ≠ gm := by omega
        have kz0 := (cell_back hbz hl0 0).trans ka0
        have kz1 := (cell_back hbz hl0 1).trans ka1
        have kz2 := (cell_back hbz hl0 2).trans ka2
        rw [show (tab m fun _ => (0 : Int)) = tab m (cqF p a1 a2 a3 (ps.take 0)) from tab_congr fun i _ => (cq_nil _ _ _ _ _).symm] at hom
        have HOZ := Lib.hid hoz
        clear hoz
        go_wp2_with fail
        go_loopw [9] (fun i wr => ∃ j : Nat, j ≤ ps.length ∧ i = .int .i64 j ∧ wr.ownsRow w2.heap.size 2 1 (.slice (some ⟨gm, 0, none⟩) m m) m (ints (tab m (cqF p a1 a2 a3 (ps.take j)))) ∧ Apart gm wz wr) (fun i _ => ps.length - (intOf i).toNat)
        case atStart => exact ⟨0, by omega, rfl, hom, Apart.refl _ _⟩
        case round =>
          obtain ⟨j, hj, rfl, hown, hap⟩ := hrel
          clear hom
          by_cases hlt : j < ps.length
          · have hget := flatQ_getD ps j hlt
            have hmem := toQ_r ps[j]
            have hlz : (ints (flatQ ps)).length = ps.length * 3 := by rw [ints_length, flatQ_length]
            have c0 := hap.cell hne ((own_cell HOZ.out (j := j * 3) (by omega)).trans (by rw [hget.1]))
            have c1 := hap.cell hne ((own_cell HOZ.out (j := j * 3 + 1) (by omega)).trans (by rw [hget.2.1]))
            have c2 := hap.cell hne ((own_cell HOZ.out (j := j * 3 + 2) (by omega)).trans (by rw [hget.2.2]))
            clear hget hlz
            have kk0 := hap.cell hne1 kz0
            have kk1 := hap.cell hne1 kz1
            have kk2 := hap.cell hne1 kz2
            have hT := List.take_succ_eq_append_getElem hlt
            obtain ⟨k, hk, hkm⟩ := HKQ.out ps[j]
            have hsk := cq_skip (p := p) (a1 := a1) (a2 := a2) (a3 := a3) (x := ps[j]) (ps.take j)
            have hct := cq_count (p := p) (a1 := a1) (a2 := a2) (a3 := a3) (x := ps[j]) (ps.take j) (k := k)
            have hft : nulQ p ps[j] = (ppd p (toQ ps[j]).1 (toQ ps[j]).2.1 (toQ ps[j]).2.2 (toQ ps[j]).1 (toQ ps[j]).2.1 (toQ ps[j]).2.2 == 0) := rfl
            have hkq : plq p a1 a2 a3 (toQ ps[j]).1 (toQ ps[j]).2.1 (toQ ps[j]).2.2 = (k : Int) := hk
            obtain ⟨x, hx⟩ : ∃ x, x = ps[j] := ⟨_, rfl⟩
            rw [← hx] at c0 c1 c2 hmem hT hsk hct hft hkq hk
            clear hx
            obtain ⟨bo, hbo⟩ : ∃ b, b = nulQ p x := ⟨_, rfl⟩
            rw [← hbo] at hft hsk hct
            clear hbo
            obtain ⟨tx, htx⟩ : ∃ t, t = toQ x := ⟨_, rfl⟩
            rw [← htx] at c0 c1 c2 hmem hft hkq
            clear htx
            obtain ⟨x1, x2, x3⟩ := tx
            simp only at c0 c1 c2 hmem hft hkq
            have hcall := fun w' => (show Calls Try.prog 47 #[.int .i64 p, .agg #[.int .i64 x1, .int .i64 x2, .int .i64 x3]] w' fun e w'' => e = .returned (.bool (ppd p x1 x2 x3 x1 x2 x3 == 0)) ∧ Below w'.heap.size w' w'' from specNull_any p x1 x2 x3 w' hp (by omega) (by omega) (by omega))
            rw [← hft] at hcall
            clear hft
            have HC := Lib.hid hcall
            clear hcall
            have hcall := fun w' => (show Calls Try.prog 56 #[.int .i64 p, .agg #[.int .i64 a1, .int .i64 a2, .int .i64 a3], .agg #[.int .i64 x1, .int .i64 x2, .int .i64 x3]] w' fun e w'' => e = .returned (.int .i64 (plq p a1 a2 a3 x1 x2 x3)) ∧ Below w'.heap.size w' w'' from specPlq_any p a1 a2 a3 x1 x2 x3 w' hp (by omega) (by omega) (by omega) (by omega) (by omega) (by omega))
            rw [hkq] at hcall
            clear hkq
            have HC2 := Lib.hid hcall
            clear hcall
            have hfr := cq_r p a1 a2 a3 (ps.take j) k
            have hlt2 : (ps.take j).length ≤ ps.length := by rw [List.length_take]; omega
            have hsr := hap.size
            have hjn : (j : Int) < (ps.length : Int) := by omega
            have hgmr : gm < wr.heap.size := by omega
            have HK := Lib.hid hk
            clear hk
            go_wp2_with fail
            refine Calls.mono (HC.out _) ?_
            rintro e wq ⟨rfl, hb1⟩
            have ho1 := own_call hown hb1
            have hap1 : Apart gm wz wq := hap.call hb1
            have hs1 := hb1.size
            have d0 := (cell_back hb1 (by omega) (j * 3)).trans c0
            have d1 := (cell_back hb1 (by omega) (j * 3 + 1)).trans c1
            have d2 := (cell_back hb1 (by omega) (j * 3 + 2)).trans c2
            have e0 := (cell_back hb1 (by omega) 0).trans kk0
            have e1 := (cell_back hb1 (by omega) 1).trans kk1
            have e2 := (cell_back hb1 (by omega) 2).trans kk2
            cases bo
            · have HT := Lib.hid hT
              have HCT := Lib.hid (hct rfl HK.out)
              clear hT hct hsk
              have q0 : ∀ W : World, Apart gm wq W → W.cell? ⟨w.heap.size, 0, none⟩ = some (.int .i64 a1) := fun W h => h.cell hne1 e0
              have q1 : ∀ W : World, Apart gm wq W → W.cell? ⟨w.heap.size, 1, none⟩ = some (.int .i64 a2) := fun W h => h.cell hne1 e1
              have q2 : ∀ W : World, Apart gm wq W → W.cell? ⟨w.heap.size, 2, none⟩ = some (.int .i64 a3) := fun W h => h.cell hne1 e2
              have qd0 : ∀ W : World, Apart gm wq W → W.cell? ⟨gz, j * 3, none⟩ = some (.int .i64 x1) := fun W h => h.cell hne d0
              have qd1 : ∀ W : World, Apart gm wq W → W.cell? ⟨gz, j * 3 + 1, none⟩ = some (.int .i64 x2) := fun W h => h.cell hne d1
              have qd2 : ∀ W : World, Apart gm wq W → W.cell? ⟨gz, j * 3 + 2, none⟩ = some (.int .i64 x3) := fun W h => h.cell hne d2
              obtain ⟨z, hz⟩ : ∃ z, z = cqF p a1 a2 a3 (ps.take j) k := ⟨_, rfl⟩
              rw [← hz] at hfr
              have HZ := Lib.hid hz
              clear hz
              have hwz : IntKind.i64.wrap (z + 1) = z + 1 := wrapI _ (by omega)
              have hia : (0 : Int) ≤ (k : Int) ∧ (k : Int) < (m : Int) := by omega
              go_upto_region 11 with fail
              (refine wp_region_held_drew (S := (fun W => Apart gm wq W)) (by kernel_rfl) (by exact Apart.drew (Apart.refl _ _)) (fun hHeld => ?_))
              (refine wpAnyH_take (i := 0) (v := ?_) rfl (by kernel_rfl) (by kernel_rfl) (by kernel_rfl) (fun _ _ _ h => h) (Or.inl ⟨by rfl, ?_⟩) (by with_reducible assumption) ?_; rotate_left; (focus (intro wz hSw; (try dsimp only at hSw); go_simp; try with_reducible rfl)); try simp only [Act.put, List.getElem_toArray, List.getElem_cons_zero, List.getElem_cons_succ, List.setIfInBounds_toArray, List.set_cons_zero, List.set_cons_succ])
              (refine wpAnyH_take (i := 1) (v := ?_) rfl (by kernel_rfl) (by kernel_rfl) (by kernel_rfl) (fun _ _ _ h => h) (Or.inl ⟨by rfl, ?_⟩) (by with_reducible assumption) ?_; rotate_left; (focus (intro wz hSw; (try dsimp only at hSw); go_simp; try with_reducible rfl)); try simp only [Act.put, List.getElem_toArray, List.getElem_cons_zero, List.getElem_cons_succ, List.setIfInBounds_toArray, List.set_cons_zero, List.set_cons_succ])
              (refine wpAnyH_take (i := 2) (v := ?_) rfl (by kernel_rfl) (by kernel_rfl) (by kernel_rfl) (fun _ _ _ h => h) (Or.inl ⟨by rfl, ?_⟩) (by with_reducible assumption) ?_; rotate_left; (focus (intro wz hSw; (try dsimp only at hSw); go_simp; try with_reducible rfl)); try simp only [Act.put, List.getElem_toArray, List.getElem_cons_zero, List.getElem_cons_succ, List.setIfInBounds_toArray, List.set_cons_zero, List.set_cons_succ])
              (refine wpAnyH_take (i := 3) (v := ?_) rfl (by kernel_rfl) (by kernel_rfl) (by kernel_rfl) (fun _ _ _ h => h) (Or.inl ⟨by rfl, ?_⟩) (by with_reducible assumption) ?_; rotate_left; (focus (intro wz hSw; (try dsimp only at hSw); go_simp; try with_reducible rfl)); try simp only [Act.put, List.getElem_toArray, List.getElem_cons_zero, List.getElem_cons_succ, List.setIfInBounds_toArray, List.set_cons_zero, List.set_cons_succ])
              (refine wpAnyH_take (i := 4) (v := ?_) rfl (by kernel_rfl) (by kernel_rfl) (by kernel_rfl) (fun _ _ _ h => h) (Or.inl ⟨by rfl, ?_⟩) (by with_reducible assumption) ?_; rotate_left; (focus (intro wz hSw; (try dsimp only at hSw); go_simp; try with_reducible rfl)); try simp only [Act.put, List.getElem_toArray, List.getElem_cons_zero, List.getElem_cons_succ, List.setIfInBounds_toArray, List.set_cons_zero, List.set_cons_succ])
              (refine wpAnyH_take (i := 5) (v := ?_) rfl (by kernel_rfl) (by kernel_rfl) (by kernel_rfl) (fun _ _ _ h => h) (Or.inl ⟨by rfl, ?_⟩) (by with_reducible assumption) ?_; rotate_left; (focus (intro wz hSw; (try dsimp only at hSw); go_simp; try with_reducible rfl)); try simp only [Act.put, List.getElem_toArray, List.getElem_cons_zero, List.getElem_cons_succ, List.setIfInBounds_toArray, List.set_cons_zero, List.set_cons_succ])
              (refine wpAnyH_take (i := 6) (v := ?_) rfl (by kernel_rfl) (by kernel_rfl) (by kernel_rfl) (fun _ _ _ h => h) (Or.inl ⟨by rfl, ?_⟩) (by with_reducible assumption) ?_; rotate_left; (focus (intro wz hSw; (try dsimp only at hSw); go_simp; try with_reducible rfl)); try simp only [Act.put, List.getElem_toArray, List.getElem_cons_zero, List.getElem_cons_succ, List.setIfInBounds_toArray, List.set_cons_zero, List.set_cons_succ])
              (refine wpAnyH_ready (rs := [7]) (by kernel_rfl) (by simp) ?_; refine AllReadyH.cons rfl (fun K hK => ?_) AllReadyH.nil; (go_simp; refine Calls.mono (HC2.out _) ?_; rintro e wy ⟨rfl, hB⟩); refine hK.out _ _ (by first | exact Apart.call hHeld hB | exact Apart.call (Apart.undrew hHeld) hB) (fun hHeld => ?_); clear hK K; try simp only [Act.put, List.setIfInBounds_toArray, List.set_cons_zero, List.set_cons_succ])
              have hoy := own_call (show wq.drew.ownsRow _ 2 1 _ _ _ from ho1) hB
              have rb : wy.cell? ⟨gm, k, none⟩ = some (.int .i64 z) := by rw [own_cell hoy (j := k) (by omega), tab_getD _ hkm, ← HZ.out]
              have rf := hoy.frozenAt k
              (refine wpAnyH_take (i := 8) (v := ?_) rfl (by kernel_rfl) (by kernel_rfl) (by kernel_rfl) (fun _ _ _ h => h) (Or.inl ⟨by rfl, ?_⟩) (by with_reducible assumption) ?_; rotate_left; (focus (intro wz hSw; (try dsimp only at hSw); go_simp; try with_reducible rfl)); try simp only [Act.put, List.getElem_toArray, List.getElem_cons_zero, List.getElem_cons_succ, List.setIfInBounds_toArray, List.set_cons_zero, List.set_cons_succ])
              (refine wpAnyH_ready (rs := [9]) (by kernel_rfl) (by simp) ?_; refine AllReadyH.cons rfl (fun K hK => ?_) AllReadyH.nil; (go_simp); refine hK.out _ _ (by first | with_reducible assumption | exact hHeld) (fun hHeld => ?_); clear hK K; try simp only [Act.put, List.setIfInBounds_toArray, List.set_cons_zero, List.set_cons_succ])
              (refine wpAnyH_take (i := 10) (v := ?_) rfl (by kernel_rfl) (by kernel_rfl) (by kernel_rfl) (fun _ _ _ h => h) (Or.inl ⟨by rfl, ?_⟩) (by with_reducible assumption) ?_; rotate_left; (focus (intro wz hSw; (try dsimp only at hSw); go_simp; try with_reducible rfl)); try simp only [Act.put, List.getElem_toArray, List.getElem_cons_zero, List.getElem_cons_succ, List.setIfInBounds_toArray, List.set_cons_zero, List.set_cons_succ])
              (refine wpAnyH_take (i := 11) (v := ?_) rfl (by kernel_rfl) (by kernel_rfl) (by kernel_rfl) (fun _ _ _ h => h) (Or.inl ⟨by rfl, ?_⟩) (by with_reducible assumption) ?_; rotate_left; (focus (intro wz hSw; (try dsimp only at hSw); go_simp; try with_reducible rfl)); try simp only [Act.put, List.getElem_toArray, List.getElem_cons_zero, List.getElem_cons_succ, List.setIfInBounds_toArray, List.set_cons_zero, List.set_cons_succ])
              (refine wpAnyH_ready (rs := [12]) (by kernel_rfl) (by simp) ?_; refine AllReadyH.cons rfl (fun K hK => ?_) AllReadyH.nil; (go_simp); refine hK.out _ _ (by exact Apart.set hHeld _ _) (fun hHeld => ?_); clear hK K; try simp only [Act.put, List.setIfInBounds_toArray, List.set_cons_zero, List.set_cons_succ])
              have hap2 := hHeld
              refine wpAnyH_done (by kernel_rfl) ?_ _
              have hst := (hoy.stored k (.int .i64 (z + 1))).1
              rw [tab_step (g := cqF p a1 a2 a3 (ps.take (j + 1))) (fun i _ => by rw [HT.out, HCT.out i, HZ.out])] at hst
              have HO := Lib.hid hst
              have hap3 : Apart gm wz _ := ⟨hap2.os.trans hap1.os, hap2.tape.trans hap1.tape, hap2.output.trans hap1.output, Nat.le_trans hap1.size hap2.size, fun i h1 h2 => (hap2.block i (Nat.lt_of_lt_of_le h1 hap1.size) h2).trans (hap1.block i h1 h2)⟩
              have HAP := Lib.hid hap3
              clear hst hap2 hap3 hHeld hoy ho1 hown hap hap1
              go_wp2
              go_roundw
              case rel => exact ⟨j + 1, by omega, by go_num, HO.out, HAP.out⟩
              case measure => simp [intOf]; omega
            · have HT := Lib.hid hT
              have HSK := Lib.hid (hsk rfl)
              clear hT hct hsk
              go_wp2
              go_roundw
              case rel => exact ⟨j + 1, by omega, by go_num, by rw [show tab m (cqF p a1 a2 a3 (ps.take (j + 1))) = tab m (cqF p a1 a2 a3 (ps.take j)) from tab_congr fun i _ => by rw [HT.out, HSK.out]]; exact ho1, hap1⟩
              case measure => simp [intOf]; omega
          · have ej : j = ps.length := by omega
            subst ej
            rw [List.take_length] at hown
            have HO := Lib.hid hown
            have hBw : Below w.heap.size w wr := Apart.below (hW0.trans (hbz.mono hW0.size)) (by have := hW0.size; omega) hap
            clear hown
            go_wp2
            (refine bodyPost_ret (v := .tuple #[.slice (some ⟨gm, 0, none⟩) m m, .int .i64 (cqC p a1 a2 a3)]) (by simp [results, Try.results34, go_sem, HV2.out.2]) rfl (slicePost_mk (by rw [HV2.out.1]; exact own_base HO.out hW0.size) hBw))
      · have hd3n : (ppd p a1 a2 a3 a1 a2 a3 != 0) = false := by rw [bne, hd3]; rfl
        have Hhd3p := Lib.hid (beq_iff_eq.1 hd3)
        have HB : cqB p a1 a2 a3 = true := by simp [cqB, hd1, hd2, hd3]
        have HS : cqS p a1 a2 a3 = 5 := by simp [cqS, hd1, hd2, hd3]
        have HV := Lib.hid (cq_st (a1 := a1) (a2 := a2) (a3 := a3) hp HB HS (by decide))
        clear HB HS
        go_wp2
        (refine bodyPost_ret (v := .tuple #[.slice none 0 0, .int .i64 (cqC p a1 a2 a3)]) (by simp [results, Try.results34, go_sem, HV.out.2]) rfl (slicePost_nil HV.out.1 ?_))
        (repeat (first | with_reducible exact Below.refl _ _ | with_reducible exact hxO | with_reducible refine balloc ?_ _ | with_reducible refine bdrewN ?_ _ | with_reducible refine Below.drew ?_ | with_reducible refine bthen ?_ (by with_reducible assumption) | with_reducible refine Below.setCell ?_ (by first | (simp; done) | (simp; omega)) _))

end Go.Proofs.Ytgklnlblghookaa
