/-
  TangentsFrom: the model's.
-/
import Derived.Test.YtmpgpmcmhbpjeabMgq0
import Derived.Test.YtmpgpmcmhbpjeabSpecPutq
import Derived.Test.YtmpgpmcmhbpjeabSpecGiven6q
import Derived.Test.YtmpgpmcmhbpjeabCodeq
import Derived.Test.YtmpgpmcmhbpjeabLastq
import Derived.Deep.RegionHeld3
import Derived.Deep.DeepCutAuto
import Derived.Test.YtmpgpmcmhbpjeabKeepDrewq

namespace Go.Proofs.Ytmpgpmcmhbpjeab
open Go.RowKit

set_option linter.unusedVariables false in
def tfB (p col k1 k2 k3 a1 a2 : Int) : Bool := colB col && (numsIn p [k1, k2, k3] && numsIn p [a1, a2])
set_option linter.unusedVariables false in
def tfS (p col k1 k2 k3 a1 a2 : Int) : Int := 0
set_option linter.unusedVariables false in
def tfC (p col k1 k2 k3 a1 a2 : Int) : Int := if isP p = true then (if tfB p col k1 k2 k3 a1 a2 = true then tfS p col k1 k2 k3 a1 a2 else 2) else 1
set_option linter.unusedVariables false in
def tfL (p col k1 k2 k3 a1 a2 : Int) : List Int := if tfC p col k1 k2 k3 a1 a2 = 0 then flat3 (tfT p col k1 k2 k3 a1 a2) else []
theorem tf_zero {p col k1 k2 k3 a1 a2 k : Int} (h : tfC p col k1 k2 k3 a1 a2 = k) (hk : k ≠ 0) : tfL p col k1 k2 k3 a1 a2 = [] ∧ tfC p col k1 k2 k3 a1 a2 = k := ⟨if_neg fun e => hk (h.symm.trans e), h⟩
theorem tf_no {p col k1 k2 k3 a1 a2 : Int} (h : isP p = false) : tfL p col k1 k2 k3 a1 a2 = [] ∧ tfC p col k1 k2 k3 a1 a2 = 1 := tf_zero (by simp [tfC, h]) (by decide)
theorem tf_out {p col k1 k2 k3 a1 a2 : Int} (hp : isP p = true) (h : tfB p col k1 k2 k3 a1 a2 = false) : tfL p col k1 k2 k3 a1 a2 = [] ∧ tfC p col k1 k2 k3 a1 a2 = 2 := tf_zero (by simp [tfC, hp, h]) (by decide)
theorem tf_st {p col k1 k2 k3 a1 a2 k : Int} (hp : isP p = true) (h : tfB p col k1 k2 k3 a1 a2 = true) (hs : tfS p col k1 k2 k3 a1 a2 = k) (hk : k ≠ 0) : tfL p col k1 k2 k3 a1 a2 = [] ∧ tfC p col k1 k2 k3 a1 a2 = k := tf_zero (by simp [tfC, hp, h, hs]) hk
theorem tf_good {p col k1 k2 k3 a1 a2 : Int} (hp : isP p = true) (h : tfB p col k1 k2 k3 a1 a2 = true) (hs : tfS p col k1 k2 k3 a1 a2 = 0) : tfL p col k1 k2 k3 a1 a2 = flat3 (tfT p col k1 k2 k3 a1 a2) ∧ tfC p col k1 k2 k3 a1 a2 = 0 := by
  have h' : tfC p col k1 k2 k3 a1 a2 = 0 := by simp [tfC, hp, h, hs]
  exact ⟨if_pos h', h'⟩

set_option linter.unusedVariables false in
set_option linter.unusedSimpArgs false in
set_option maxRecDepth 20000 in
set_option maxHeartbeats 4000000 in
theorem specTangentsFrom_any (p col k1 k2 k3 a1 a2 : Int)  (w : World) :
    Calls Try.prog 6 #[.int .i64 p, .int .i64 col, .agg #[.int .i64 k1, .int .i64 k2, .int .i64 k3], .agg #[.int .i64 a1, .int .i64 a2]] w fun e w' =>
      SlicePost 49 3 (tfL p col k1 k2 k3 a1 a2) (tfC p col k1 k2 k3 a1 a2) w e w' := by
  go_enter Try.func6, Try.ntmps6
  go_upto_region 0 with fail
  go_cut [6, 7, 8, 9] (fun s6 s7 s8 s9 wx => s6 = .pointer (some ⟨w.heap.size, 0, none⟩) ∧ s7 = .pointer (some ⟨w.heap.size + 1, 0, none⟩) ∧ s8 = .slice none 0 0 ∧ s9 = .int .i64 0 ∧ wx.cell? ⟨w.heap.size, 0, none⟩ = some (.int .i64 k1) ∧ wx.cell? ⟨w.heap.size, 1, none⟩ = some (.int .i64 k2) ∧ wx.cell? ⟨w.heap.size, 2, none⟩ = some (.int .i64 k3) ∧ wx.cell? ⟨w.heap.size + 1, 0, none⟩ = some (.int .i64 a1) ∧ wx.cell? ⟨w.heap.size + 1, 1, none⟩ = some (.int .i64 a2) ∧ wx.frozen? ⟨w.heap.size, 0, none⟩ = false ∧ wx.frozen? ⟨w.heap.size, 1, none⟩ = false ∧ wx.frozen? ⟨w.heap.size, 2, none⟩ = false ∧ wx.frozen? ⟨w.heap.size + 1, 0, none⟩ = false ∧ wx.frozen? ⟨w.heap.size + 1, 1, none⟩ = false ∧ Below w.heap.size w wx ∧ w.heap.size + 1 + 1 ≤ wx.heap.size)
  case first =>
    go_wp2
    go_meet
    refine ⟨rfl, rfl, rfl, rfl, ?_, ?_, ?_, ?_, ?_, ?_, ?_, ?_, ?_, ?_, ?_, ?_⟩
    · (repeat (first | with_reducible assumption | ((with_reducible refine kfresh ?_ ?_) <;> (first | with_reducible rfl | (simp; done))) | ((with_reducible refine ksameS ?_); focus ((repeat (first | with_reducible exact kis_of (by with_reducible assumption) | with_reducible refine kis_set ?_ | ((with_reducible refine kis_new ?_ ?_) <;> (first | with_reducible rfl | rfl | (simp; done))) | with_reducible refine kis_alloc _ ?_ | with_reducible refine kis_drew ?_ | with_reducible refine kis_call (by with_reducible assumption) ?_ | with_reducible exact kis_of (kcall (by with_reducible assumption) (by with_reducible assumption)))); done)) | with_reducible refine kother (by decide) ?_ | with_reducible refine kset (by first | omega | (simp; done) | (simp; omega)) ?_ | with_reducible refine kalloc _ ?_ | with_reducible refine kdrew ?_ | with_reducible refine kdrewN ?_ | with_reducible refine kcall (by with_reducible assumption) ?_))
    · (repeat (first | with_reducible assumption | ((with_reducible refine kfresh ?_ ?_) <;> (first | with_reducible rfl | (simp; done))) | ((with_reducible refine ksameS ?_); focus ((repeat (first | with_reducible exact kis_of (by with_reducible assumption) | with_reducible refine kis_set ?_ | ((with_reducible refine kis_new ?_ ?_) <;> (first | with_reducible rfl | rfl | (simp; done))) | with_reducible refine kis_alloc _ ?_ | with_reducible refine kis_drew ?_ | with_reducible refine kis_call (by with_reducible assumption) ?_ | with_reducible exact kis_of (kcall (by with_reducible assumption) (by with_reducible assumption)))); done)) | with_reducible refine kother (by decide) ?_ | with_reducible refine kset (by first | omega | (simp; done) | (simp; omega)) ?_ | with_reducible refine kalloc _ ?_ | with_reducible refine kdrew ?_ | with_reducible refine kdrewN ?_ | with_reducible refine kcall (by with_reducible assumption) ?_))
    · (repeat (first | with_reducible assumption | ((with_reducible refine kfresh ?_ ?_) <;> (first | with_reducible rfl | (simp; done))) | ((with_reducible refine ksameS ?_); focus ((repeat (first | with_reducible exact kis_of (by with_reducible assumption) | with_reducible refine kis_set ?_ | ((with_reducible refine kis_new ?_ ?_) <;> (first | with_reducible rfl | rfl | (simp; done))) | with_reducible refine kis_alloc _ ?_ | with_reducible refine kis_drew ?_ | with_reducible refine kis_call (by with_reducible assumption) ?_ | with_reducible exact kis_of (kcall (by with_reducible assumption) (by with_reducible assumption)))); done)) | with_reducible refine kother (by decide) ?_ | with_reducible refine kset (by first | omega | (simp; done) | (simp; omega)) ?_ | with_reducible refine kalloc _ ?_ | with_reducible refine kdrew ?_ | with_reducible refine kdrewN ?_ | with_reducible refine kcall (by with_reducible assumption) ?_))
    · (repeat (first | with_reducible assumption | ((with_reducible refine kfresh ?_ ?_) <;> (first | with_reducible rfl | (simp; done))) | ((with_reducible refine ksameS ?_); focus ((repeat (first | with_reducible exact kis_of (by with_reducible assumption) | with_reducible refine kis_set ?_ | ((with_reducible refine kis_new ?_ ?_) <;> (first | with_reducible rfl | rfl | (simp; done))) | with_reducible refine kis_alloc _ ?_ | with_reducible refine kis_drew ?_ | with_reducible refine kis_call (by with_reducible assumption) ?_ | with_reducible exact kis_of (kcall (by with_reducible assumption) (by with_reducible assumption)))); done)) | with_reducible refine kother (by decide) ?_ | with_reducible refine kset (by first | omega | (simp; done) | (simp; omega)) ?_ | with_reducible refine kalloc _ ?_ | with_reducible refine kdrew ?_ | with_reducible refine kdrewN ?_ | with_reducible refine kcall (by with_reducible assumption) ?_))
    · (repeat (first | with_reducible assumption | ((with_reducible refine kfresh ?_ ?_) <;> (first | with_reducible rfl | (simp; done))) | ((with_reducible refine ksameS ?_); focus ((repeat (first | with_reducible exact kis_of (by with_reducible assumption) | with_reducible refine kis_set ?_ | ((with_reducible refine kis_new ?_ ?_) <;> (first | with_reducible rfl | rfl | (simp; done))) | with_reducible refine kis_alloc _ ?_ | with_reducible refine kis_drew ?_ | with_reducible refine kis_call (by with_reducible assumption) ?_ | with_reducible exact kis_of (kcall (by with_reducible assumption) (by with_reducible assumption)))); done)) | with_reducible refine kother (by decide) ?_ | with_reducible refine kset (by first | omega | (simp; done) | (simp; omega)) ?_ | with_reducible refine kalloc _ ?_ | with_reducible refine kdrew ?_ | with_reducible refine kdrewN ?_ | with_reducible refine kcall (by with_reducible assumption) ?_))
    · (repeat (first | with_reducible assumption | with_reducible refine fdrew ?_ | with_reducible refine fdrewN ?_ | with_reducible refine fset ?_ | ((with_reducible refine fallocNew ?_) <;> (first | with_reducible rfl | (simp; done))) | ((with_reducible refine kfro (by with_reducible assumption) ?_ ?_); focus (first | with_reducible assumption | omega | (simp; done) | (simp; omega))) | ((with_reducible refine falloc ?_ ?_); focus (first | with_reducible assumption | omega | (simp; done) | (simp; omega)))))
    · (repeat (first | with_reducible assumption | with_reducible refine fdrew ?_ | with_reducible refine fdrewN ?_ | with_reducible refine fset ?_ | ((with_reducible refine fallocNew ?_) <;> (first | with_reducible rfl | (simp; done))) | ((with_reducible refine kfro (by with_reducible assumption) ?_ ?_); focus (first | with_reducible assumption | omega | (simp; done) | (simp; omega))) | ((with_reducible refine falloc ?_ ?_); focus (first | with_reducible assumption | omega | (simp; done) | (simp; omega)))))
    · (repeat (first | with_reducible assumption | with_reducible refine fdrew ?_ | with_reducible refine fdrewN ?_ | with_reducible refine fset ?_ | ((with_reducible refine fallocNew ?_) <;> (first | with_reducible rfl | (simp; done))) | ((with_reducible refine kfro (by with_reducible assumption) ?_ ?_); focus (first | with_reducible assumption | omega | (simp; done) | (simp; omega))) | ((with_reducible refine falloc ?_ ?_); focus (first | with_reducible assumption | omega | (simp; done) | (simp; omega)))))
    · (repeat (first | with_reducible assumption | with_reducible refine fdrew ?_ | with_reducible refine fdrewN ?_ | with_reducible refine fset ?_ | ((with_reducible refine fallocNew ?_) <;> (first | with_reducible rfl | (simp; done))) | ((with_reducible refine kfro (by with_reducible assumption) ?_ ?_); focus (first | with_reducible assumption | omega | (simp; done) | (simp; omega))) | ((with_reducible refine falloc ?_ ?_); focus (first | with_reducible assumption | omega | (simp; done) | (simp; omega)))))
    · (repeat (first | with_reducible assumption | with_reducible refine fdrew ?_ | with_reducible refine fdrewN ?_ | with_reducible refine fset ?_ | ((with_reducible refine fallocNew ?_) <;> (first | with_reducible rfl | (simp; done))) | ((with_reducible refine kfro (by with_reducible assumption) ?_ ?_); focus (first | with_reducible assumption | omega | (simp; done) | (simp; omega))) | ((with_reducible refine falloc ?_ ?_); focus (first | with_reducible assumption | omega | (simp; done) | (simp; omega)))))
    · (repeat (first | with_reducible exact Below.refl _ _ | with_reducible refine balloc ?_ _ | with_reducible refine bdrewN ?_ _ | with_reducible refine Below.drew ?_ | with_reducible refine bthen ?_ (by with_reducible assumption) | with_reducible refine Below.setCell ?_ (by first | (simp; done) | (simp; omega)) _))
    · (first | omega | (simp; done) | (simp; omega))
  case' rest => obtain ⟨rfl, rfl, rfl, rfl, cO0, cO1, cO2, cO3, cO4, fO0, fO1, fO2, fO3, fO4, hxO, hsO⟩ := hcut
  obtain ⟨wO, rfl⟩ : ∃ wO : World, wO = wc := ⟨_, rfl⟩
  have lO0 : w.heap.size < wO.heap.size := by omega
  have lO1 : w.heap.size + 1 < wO.heap.size := by omega
  rcases bool_ways (isP p) with hd1 | hd1
  · skip
    have c_1 : codeOf p (colB col && (numsIn p [k1, k2, k3] && numsIn p [a1, a2])) = 1 := codeOf_no hd1
    have cN : ∀ b, codeOf p b = 1 := fun b => codeOf_no hd1
    go_wp2_with fail
    refine Calls.mono (specGiven6_any _ _ _ _ _ _ _ _) ?_
    rintro e w1 ⟨rfl, hB1⟩
    (obtain ⟨hB1c, hB1f⟩ := bcell hB1; have hB1s := hB1.size; (try simp at hB1s); (try have hB1q1 := Nat.lt_of_succ_le hB1s); (try have hB1q2 := Nat.lt_of_succ_lt hB1q1); (try have hB1q3 := Nat.lt_of_succ_lt hB1q2); (try have hB1zw0 : w.heap.size < w1.heap.size := (by omega)); (try have hB1zw1 : w.heap.size + 1 < w1.heap.size := (by omega)); (try have hB1zw2 : w.heap.size + 1 + 1 < w1.heap.size := (by omega)); (try have hB1zw3 : w.heap.size + 1 + 1 + 1 < w1.heap.size := (by omega)); (try have hB1zw4 : w.heap.size + 1 + 1 + 1 + 1 < w1.heap.size := (by omega)); (try have hB1zwO0 : wO.heap.size < w1.heap.size := (by omega)); (try have hB1zwO1 : wO.heap.size + 1 < w1.heap.size := (by omega)); (try have hB1zwO2 : wO.heap.size + 1 + 1 < w1.heap.size := (by omega)); (try have hB1zwO3 : wO.heap.size + 1 + 1 + 1 < w1.heap.size := (by omega)); (try have hB1zwO4 : wO.heap.size + 1 + 1 + 1 + 1 < w1.heap.size := (by omega)))
    have HV := Lib.hid (tf_no (col := col) (k1 := k1) (k2 := k2) (k3 := k3) (a1 := a1) (a2 := a2) hd1)
    go_wp2
    (refine bodyPost_ret (v := .tuple #[.slice none 0 0, .int .i64 (tfC p col k1 k2 k3 a1 a2)]) (by simp [results, Try.results6, go_sem, HV.out.2]) rfl (slicePost_nil HV.out.1 ?_))
    (repeat (first | with_reducible exact Below.refl _ _ | with_reducible exact hxO | with_reducible refine balloc ?_ _ | with_reducible refine bdrewN ?_ _ | with_reducible refine Below.drew ?_ | with_reducible refine bthen ?_ (by with_reducible assumption) | with_reducible refine Below.setCell ?_ (by first | (simp; done) | (simp; omega)) _))
  · have hp := hd1
    have hr := isP_range hp
    rcases bool_ways (colB col) with hd2 | hd2
    · skip
      have c_1 : codeOf p (colB col && (numsIn p [k1, k2, k3] && numsIn p [a1, a2])) = 2 := codeOf_out hp (by simp [hd2])
      have cT : codeOf p true = 0 := codeOf_in hp rfl
      have cF : codeOf p false = 2 := codeOf_out hp rfl
      go_wp2_with fail
      refine Calls.mono (specGiven6_any _ _ _ _ _ _ _ _) ?_
      rintro e w1 ⟨rfl, hB1⟩
      (obtain ⟨hB1c, hB1f⟩ := bcell hB1; have hB1s := hB1.size; (try simp at hB1s); (try have hB1q1 := Nat.lt_of_succ_le hB1s); (try have hB1q2 := Nat.lt_of_succ_lt hB1q1); (try have hB1q3 := Nat.lt_of_succ_lt hB1q2); (try have hB1zw0 : w.heap.size < w1.heap.size := (by omega)); (try have hB1zw1 : w.heap.size + 1 < w1.heap.size := (by omega)); (try have hB1zw2 : w.heap.size + 1 + 1 < w1.heap.size := (by omega)); (try have hB1zw3 : w.heap.size + 1 + 1 + 1 < w1.heap.size := (by omega)); (try have hB1zw4 : w.heap.size + 1 + 1 + 1 + 1 < w1.heap.size := (by omega)); (try have hB1zwO0 : wO.heap.size < w1.heap.size := (by omega)); (try have hB1zwO1 : wO.heap.size + 1 < w1.heap.size := (by omega)); (try have hB1zwO2 : wO.heap.size + 1 + 1 < w1.heap.size := (by omega)); (try have hB1zwO3 : wO.heap.size + 1 + 1 + 1 < w1.heap.size := (by omega)); (try have hB1zwO4 : wO.heap.size + 1 + 1 + 1 + 1 < w1.heap.size := (by omega)))
      have HV := Lib.hid (tf_out (col := col) (k1 := k1) (k2 := k2) (k3 := k3) (a1 := a1) (a2 := a2) hp (by simp [tfB, hd1, hd2]))
      go_wp2
      (refine bodyPost_ret (v := .tuple #[.slice none 0 0, .int .i64 (tfC p col k1 k2 k3 a1 a2)]) (by simp [results, Try.results6, go_sem, HV.out.2]) rfl (slicePost_nil HV.out.1 ?_))
      (repeat (first | with_reducible exact Below.refl _ _ | with_reducible exact hxO | with_reducible refine balloc ?_ _ | with_reducible refine bdrewN ?_ _ | with_reducible refine Below.drew ?_ | with_reducible refine bthen ?_ (by with_reducible assumption) | with_reducible refine Below.setCell ?_ (by first | (simp; done) | (simp; omega)) _))
    · have hc := hd2
      have hcr := colB_range hc
      rcases bool_ways (numsIn p [k1, k2, k3]) with hd3 | hd3
      · skip
        have c_1 : codeOf p (colB col && (numsIn p [k1, k2, k3] && numsIn p [a1, a2])) = 2 := codeOf_out hp (by simp [hd2, hd3])
        have cT : codeOf p true = 0 := codeOf_in hp rfl
        have cF : codeOf p false = 2 := codeOf_out hp rfl
        go_wp2_with fail
        refine Calls.mono (specGiven6_any _ _ _ _ _ _ _ _) ?_
        rintro e w1 ⟨rfl, hB1⟩
        (obtain ⟨hB1c, hB1f⟩ := bcell hB1; have hB1s := hB1.size; (try simp at hB1s); (try have hB1q1 := Nat.lt_of_succ_le hB1s); (try have hB1q2 := Nat.lt_of_succ_lt hB1q1); (try have hB1q3 := Nat.lt_of_succ_lt hB1q2); (try have hB1zw0 : w.heap.size < w1.heap.size := (by omega)); (try have hB1zw1 : w.heap.size + 1 < w1.heap.size := (by omega)); (try have hB1zw2 : w.heap.size + 1 + 1 < w1.heap.size := (by omega)); (try have hB1zw3 : w.heap.size + 1 + 1 + 1 < w1.heap.size := (by omega)); (try have hB1zw4 : w.heap.size + 1 + 1 + 1 + 1 < w1.heap.size := (by omega)); (try have hB1zwO0 : wO.heap.size < w1.heap.size := (by omega)); (try have hB1zwO1 : wO.heap.size + 1 < w1.heap.size := (by omega)); (try have hB1zwO2 : wO.heap.size + 1 + 1 < w1.heap.size := (by omega)); (try have hB1zwO3 : wO.heap.size + 1 + 1 + 1 < w1.heap.size := (by omega)); (try have hB1zwO4 : wO.heap.size + 1 + 1 + 1 + 1 < w1.heap.size := (by omega)))
        have HV := Lib.hid (tf_out (col := col) (k1 := k1) (k2 := k2) (k3 := k3) (a1 := a1) (a2 := a2) hp (by simp [tfB, hd1, hd2, hd3]))
        go_wp2
        (refine bodyPost_ret (v := .tuple #[.slice none 0 0, .int .i64 (tfC p col k1 k2 k3 a1 a2)]) (by simp [results, Try.results6, go_sem, HV.out.2]) rfl (slicePost_nil HV.out.1 ?_))
        (repeat (first | with_reducible exact Below.refl _ _ | with_reducible exact hxO | with_reducible refine balloc ?_ _ | with_reducible refine bdrewN ?_ _ | with_reducible refine Below.drew ?_ | with_reducible refine bthen ?_ (by with_reducible assumption) | with_reducible refine Below.setCell ?_ (by first | (simp; done) | (simp; omega)) _))
      · have hd3q := nums3 hd3
        rcases bool_ways (numsIn p [a1, a2]) with hd4 | hd4
        · skip
          have c_1 : codeOf p (colB col && (numsIn p [k1, k2, k3] && numsIn p [a1, a2])) = 2 := codeOf_out hp (by simp [hd2, hd3, hd4])
          have cT : codeOf p true = 0 := codeOf_in hp rfl
          have cF : codeOf p false = 2 := codeOf_out hp rfl
          go_wp2_with fail
          refine Calls.mono (specGiven6_any _ _ _ _ _ _ _ _) ?_
          rintro e w1 ⟨rfl, hB1⟩
          (obtain ⟨hB1c, hB1f⟩ := bcell hB1; have hB1s := hB1.size; (try simp at hB1s); (try have hB1q1 := Nat.lt_of_succ_le hB1s); (try have hB1q2 := Nat.lt_of_succ_lt hB1q1); (try have hB1q3 := Nat.lt_of_succ_lt hB1q2); (try have hB1zw0 : w.heap.size < w1.heap.size := (by omega)); (try have hB1zw1 : w.heap.size + 1 < w1.heap.size := (by omega)); (try have hB1zw2 : w.heap.size + 1 + 1 < w1.heap.size := (by omega)); (try have hB1zw3 : w.heap.size + 1 + 1 + 1 < w1.heap.size := (by omega)); (try have hB1zw4 : w.heap.size + 1 + 1 + 1 + 1 < w1.heap.size := (by omega)); (try have hB1zwO0 : wO.heap.size < w1.heap.size := (by omega)); (try have hB1zwO1 : wO.heap.size + 1 < w1.heap.size := (by omega)); (try have hB1zwO2 : wO.heap.size + 1 + 1 < w1.heap.size := (by omega)); (try have hB1zwO3 : wO.heap.size + 1 + 1 + 1 < w1.heap.size := (by omega)); (try have hB1zwO4 : wO.heap.size + 1 + 1 + 1 + 1 < w1.heap.size := (by omega)))
          have HV := Lib.hid (tf_out (col := col) (k1 := k1) (k2 := k2) (k3 := k3) (a1 := a1) (a2 := a2) hp (by simp [tfB, hd1, hd2, hd3, hd4]))
          go_wp2
          (refine bodyPost_ret (v := .tuple #[.slice none 0 0, .int .i64 (tfC p col k1 k2 k3 a1 a2)]) (by simp [results, Try.results6, go_sem, HV.out.2]) rfl (slicePost_nil HV.out.1 ?_))
          (repeat (first | with_reducible exact Below.refl _ _ | with_reducible exact hxO | with_reducible refine balloc ?_ _ | with_reducible refine bdrewN ?_ _ | with_reducible refine Below.drew ?_ | with_reducible refine bthen ?_ (by with_reducible assumption) | with_reducible refine Below.setCell ?_ (by first | (simp; done) | (simp; omega)) _))
        · have hd4q := nums2 hd4
          have c_1 : codeOf p (colB col && (numsIn p [k1, k2, k3] && numsIn p [a1, a2])) = 0 := codeOf_in hp (by simp [hd2, hd3, hd4])
          have cT : codeOf p true = 0 := codeOf_in hp rfl
          go_wp2_with fail
          refine Calls.mono (specGiven6_any _ _ _ _ _ _ _ _) ?_
          rintro e w1 ⟨rfl, hB1⟩
          (obtain ⟨hB1c, hB1f⟩ := bcell hB1; have hB1s := hB1.size; (try simp at hB1s); (try have hB1q1 := Nat.lt_of_succ_le hB1s); (try have hB1q2 := Nat.lt_of_succ_lt hB1q1); (try have hB1q3 := Nat.lt_of_succ_lt hB1q2); (try have hB1zw0 : w.heap.size < w1.heap.size := (by omega)); (try have hB1zw1 : w.heap.size + 1 < w1.heap.size := (by omega)); (try have hB1zw2 : w.heap.size + 1 + 1 < w1.heap.size := (by omega)); (try have hB1zw3 : w.heap.size + 1 + 1 + 1 < w1.heap.size := (by omega)); (try have hB1zw4 : w.heap.size + 1 + 1 + 1 + 1 < w1.heap.size := (by omega)); (try have hB1zwO0 : wO.heap.size < w1.heap.size := (by omega)); (try have hB1zwO1 : wO.heap.size + 1 < w1.heap.size := (by omega)); (try have hB1zwO2 : wO.heap.size + 1 + 1 < w1.heap.size := (by omega)); (try have hB1zwO3 : wO.heap.size + 1 + 1 + 1 < w1.heap.size := (by omega)); (try have hB1zwO4 : wO.heap.size + 1 + 1 + 1 + 1 < w1.heap.size := (by omega)))
          have HB : tfB p col k1 k2 k3 a1 a2 = true := by simp [tfB, hd1, hd2, hd3, hd4]
          have HS : tfS p col k1 k2 k3 a1 a2 = 0 := by rfl
          have HV := Lib.hid (tf_good (col := col) (k1 := k1) (k2 := k2) (k3 := k3) (a1 := a1) (a2 := a2) hp HB HS)
          clear HB HS
          have rk := nums3 hd3
          have ra := nums2 hd4
          have heq := equalPoint
          go_upto_region 4 with fail
          refine wp_name (fun wN hwN => ?_)
          have ka0 : wN.cell? ⟨w.heap.size, 0, none⟩ = some (.int .i64 k1) := by rw [hwN]; (first | with_reducible assumption | (repeat (first | with_reducible assumption | ((with_reducible refine kfresh ?_ ?_) <;> (first | with_reducible rfl | (simp; done))) | ((with_reducible refine ksameS ?_); focus ((repeat (first | with_reducible exact kis_of (by with_reducible assumption) | with_reducible refine kis_set ?_ | ((with_reducible refine kis_new ?_ ?_) <;> (first | with_reducible rfl | rfl | (simp; done))) | with_reducible refine kis_alloc _ ?_ | with_reducible refine kis_drew ?_ | with_reducible refine kis_call (by with_reducible assumption) ?_ | with_reducible exact kis_of (kcall (by with_reducible assumption) (by with_reducible assumption)))); done)) | with_reducible refine kother (by decide) ?_ | with_reducible refine kset (by first | omega | (simp; done) | (simp; omega)) ?_ | with_reducible refine kalloc _ ?_ | with_reducible refine kdrew ?_ | with_reducible refine kdrewN ?_ | with_reducible refine kcall (by with_reducible assumption) ?_)))
          have ka1 : wN.cell? ⟨w.heap.size, 1, none⟩ = some (.int .i64 k2) := by rw [hwN]; (first | with_reducible assumption | (repeat (first | with_reducible assumption | ((with_reducible refine kfresh ?_ ?_) <;> (first | with_reducible rfl | (simp; done))) | ((with_reducible refine ksameS ?_); focus ((repeat (first | with_reducible exact kis_of (by with_reducible assumption) | with_reducible refine kis_set ?_ | ((with_reducible refine kis_new ?_ ?_) <;> (first | with_reducible rfl | rfl | (simp; done))) | with_reducible refine kis_alloc _ ?_ | with_reducible refine kis_drew ?_ | with_reducible refine kis_call (by with_reducible assumption) ?_ | with_reducible exact kis_of (kcall (by with_reducible assumption) (by with_reducible assumption)))); done)) | with_reducible refine kother (by decide) ?_ | with_reducible refine kset (by first | omega | (simp; done) | (simp; omega)) ?_ | with_reducible refine kalloc _ ?_ | with_reducible refine kdrew ?_ | with_reducible refine kdrewN ?_ | with_reducible refine kcall (by with_reducible assumption) ?_)))
          have ka2 : wN.cell? ⟨w.heap.size, 2, none⟩ = some (.int .i64 k3) := by rw [hwN]; (first | with_reducible assumption | (repeat (first | with_reducible assumption | ((with_reducible refine kfresh ?_ ?_) <;> (first | with_reducible rfl | (simp; done))) | ((with_reducible refine ksameS ?_); focus ((repeat (first | with_reducible exact kis_of (by with_reducible assumption) | with_reducible refine kis_set ?_ | ((with_reducible refine kis_new ?_ ?_) <;> (first | with_reducible rfl | rfl | (simp; done))) | with_reducible refine kis_alloc _ ?_ | with_reducible refine kis_drew ?_ | with_reducible refine kis_call (by with_reducible assumption) ?_ | with_reducible exact kis_of (kcall (by with_reducible assumption) (by with_reducible assumption)))); done)) | with_reducible refine kother (by decide) ?_ | with_reducible refine kset (by first | omega | (simp; done) | (simp; omega)) ?_ | with_reducible refine kalloc _ ?_ | with_reducible refine kdrew ?_ | with_reducible refine kdrewN ?_ | with_reducible refine kcall (by with_reducible assumption) ?_)))
          have ka3 : wN.cell? ⟨w.heap.size + 1, 0, none⟩ = some (.int .i64 a1) := by rw [hwN]; (first | with_reducible assumption | (repeat (first | with_reducible assumption | ((with_reducible refine kfresh ?_ ?_) <;> (first | with_reducible rfl | (simp; done))) | ((with_reducible refine ksameS ?_); focus ((repeat (first | with_reducible exact kis_of (by with_reducible assumption) | with_reducible refine kis_set ?_ | ((with_reducible refine kis_new ?_ ?_) <;> (first | with_reducible rfl | rfl | (simp; done))) | with_reducible refine kis_alloc _ ?_ | with_reducible refine kis_drew ?_ | with_reducible refine kis_call (by with_reducible assumption) ?_ | with_reducible exact kis_of (kcall (by with_reducible assumption) (by with_reducible assumption)))); done)) | with_reducible refine kother (by decide) ?_ | with_reducible refine kset (by first | omega | (simp; done) | (simp; omega)) ?_ | with_reducible refine kalloc _ ?_ | with_reducible refine kdrew ?_ | with_reducible refine kdrewN ?_ | with_reducible refine kcall (by with_reducible assumption) ?_)))
          have ka4 : wN.cell? ⟨w.heap.size + 1, 1, none⟩ = some (.int .i64 a2) := by rw [hwN]; (first | with_reducible assumption | (repeat (first | with_reducible assumption | ((with_reducible refine kfresh ?_ ?_) <;> (first | with_reducible rfl | (simp; done))) | ((with_reducible refine ksameS ?_); focus ((repeat (first | with_reducible exact kis_of (by with_reducible assumption) | with_reducible refine kis_set ?_ | ((with_reducible refine kis_new ?_ ?_) <;> (first | with_reducible rfl | rfl | (simp; done))) | with_reducible refine kis_alloc _ ?_ | with_reducible refine kis_drew ?_ | with_reducible refine kis_call (by with_reducible assumption) ?_ | with_reducible exact kis_of (kcall (by with_reducible assumption) (by with_reducible assumption)))); done)) | with_reducible refine kother (by decide) ?_ | with_reducible refine kset (by first | omega | (simp; done) | (simp; omega)) ?_ | with_reducible refine kalloc _ ?_ | with_reducible refine kdrew ?_ | with_reducible refine kdrewN ?_ | with_reducible refine kcall (by with_reducible assumption) ?_)))
          have hW0 : Below w.heap.size w wN := by rw [hwN]; (repeat (first | with_reducible exact Below.refl _ _ | with_reducible exact hxO | with_reducible refine balloc ?_ _ | with_reducible refine bdrewN ?_ _ | with_reducible refine Below.drew ?_ | with_reducible refine bthen ?_ (by with_reducible assumption) | with_reducible refine Below.setCell ?_ (by first | (simp; done) | (simp; omega)) _))
          clear hwN
          have hl0 : w.heap.size + 1 < wN.heap.size := World.block_lt_of_cell? wN ⟨w.heap.size + 1, 0, none⟩ ka3
          have hW0s := hW0.size
          have HVT := Lib.hid (show tfT p col k1 k2 k3 a1 a2 = srtL (tgL p col k1 k2 a1 a2 (tcP p col k1 k2 k3)) from rfl)
          (go_wp2_with fail; refine Calls.mono (specAt02_any p col k1 k2 k3 _ hp hc (by omega) (by omega)) ?_; rintro e wz ⟨vz, rfl, hoz, hBz⟩)
          have hgl := tcP_le col k1 k2 k3 hp
          have hgm := fun (z : Int × Int) (hz : z ∈ tcP p col k1 k2 k3) => tcP_mem hp hz
          obtain ⟨ps, hps⟩ : ∃ ps : List (Int × Int), ps = tcP p col k1 k2 k3 := ⟨_, rfl⟩
          rw [show gridL (fun x y => qdr p col k1 k2 x y == k3) p.toNat p.toNat = ps from hps.symm] at hoz
          rw [← hps] at hgl hgm HVT
          clear hps
          have HGM := Lib.hid hgm
          clear hgm
          obtain ⟨ao, cz, rfl, hnz, hsh⟩ := own_shape hoz
          have HSH := Lib.hid hsh
          clear hsh
          have hbz := hBz.size
          have kz0 := (cell_back hBz (by omega) 0).trans ka0
          have kz1 := (cell_back hBz (by omega) 1).trans ka1
          have kz2 := (cell_back hBz (by omega) 2).trans ka2
          have kz3 := (cell_back hBz (by omega) 0).trans ka3
          have kz4 := (cell_back hBz (by omega) 1).trans ka4
          have hB0 := hW0.trans (hBz.mono hW0.size)
          go_wp2_with fail
          go_loopw [12, 13] (fun v i wr => ∃ j g m cap : Nat, j ≤ ps.length ∧ i = .int .i64 j ∧ m = (srtL (tgL p col k1 k2 a1 a2 (ps.take j))).length ∧ v = .slice (some ⟨g, 0, none⟩) m cap ∧ wr.ownsRow wz.heap.size 49 3 (.slice (some ⟨g, 0, none⟩) m cap) m (ints (flat3 (srtL (tgL p col k1 k2 a1 a2 (ps.take j))))) ∧ Below wz.heap.size wz wr) (fun _ i _ => ps.length - (intOf i).toNat)
          case atStart => exact ⟨0, wz.heap.size, 0, 0, by omega, rfl, rfl, rfl, own_lit0 _ _ _ (Nat.le_refl _) rfl, (Below.refl _ _).alloc (Nat.le_refl _) _⟩
          case round =>
            obtain ⟨j, g, m, cap, hj, rfl, hm, rfl, hown, hbel⟩ := hrel
            have hsr := hbel.size
            by_cases hlt : j < ps.length
            · obtain ⟨gz, rfl, hg0, hg1⟩ := HSH.out (by omega)
              have hozr := own_below hoz hbel (fun g' e => by cases e; exact hg1)
              have hget := flat_getD ps j hlt
              have hmem := HGM.out ps[j] (List.getElem_mem hlt)
              have c0 := (own_cell hozr (j := j * 2) (by omega)).trans (by rw [hget.1])
              have c1 := (own_cell hozr (j := j * 2 + 1) (by omega)).trans (by rw [hget.2])
              have hTS := take_succ_at hlt
              have hlT := tgL_le p col k1 k2 a1 a2 (ps.take j)
              have hlt2 : (ps.take j).length ≤ ps.length := by rw [List.length_take]; omega
              have hlS := srtL_le (tgL p col k1 k2 a1 a2 (ps.take j))
              obtain ⟨x, hx⟩ : ∃ x, x = ps[j] := ⟨_, rfl⟩
              rw [← hx] at c0 c1 hmem hTS
              clear hx hget hozr
              have hY := tgL_yes (p := p) (c := col) (k1 := k1) (k2 := k2) (a1 := a1) (a2 := a2) (ps.take j) (x := x)
              have hN := tgL_no (p := p) (c := col) (k1 := k1) (k2 := k2) (a1 := a1) (a2 := a2) (ps.take j) (x := x)
              rw [← hTS] at hY hN
              clear hTS
              obtain ⟨x1, x2⟩ := x
              simp only at c0 c1 hmem
              have kk0 := (cell_old hbel (by omega) 0).trans kz0
              have kk1 := (cell_old hbel (by omega) 1).trans kz1
              have kk2 := (cell_old hbel (by omega) 2).trans kz2
              have kk3 := (cell_old hbel (by omega) 0).trans kz3
              have kk4 := (cell_old hbel (by omega) 1).trans kz4
              have hgr : gz < wr.heap.size := by omega
              have hjn : (j : Int) < (ps.length : Int) := by omega
              have HM := Lib.hid hm
              clear hm
              rcases bool_ways (x1 == k1 && x2 == k2) with hb | hb
              · have htB : tgB p col k1 k2 a1 a2 (x1, x2) = onB p a1 a2 (tn1 p col k1 k2 x1 x2) (tn2 p col k1 k2 x1 x2) (tn3 p col k1 k2 x1 x2) := by unfold tgB; simp only; rw [hb]; rfl
                have rt1 := tn1_r col k1 k2 x1 x2 hp
                have rt2 := tn2_r col k1 k2 x1 x2 hp
                have rt3 := tn3_r col k1 k2 x1 x2 hp
                have hcall1 := fun w' => specTangent_any p col k1 k2 k3 x1 x2 w' hp hc rk.1 rk.2.1 hmem.1 hmem.2
                have hcall2 := fun w' => specOn_any p a1 a2 (tn1 p col k1 k2 x1 x2) (tn2 p col k1 k2 x1 x2) (tn3 p col k1 k2 x1 x2) w' hp (by omega) (by omega) (by omega) (by omega) (by omega)
                have htT : tnT p col k1 k2 (x1, x2) = (tn1 p col k1 k2 x1 x2, tn2 p col k1 k2 x1 x2, tn3 p col k1 k2 x1 x2) := rfl
                rw [htT] at hY
                clear htT
                obtain ⟨t1, ht1⟩ : ∃ t, t = tn1 p col k1 k2 x1 x2 := ⟨_, rfl⟩
                obtain ⟨t2, ht2⟩ : ∃ t, t = tn2 p col k1 k2 x1 x2 := ⟨_, rfl⟩
                obtain ⟨t3, ht3⟩ : ∃ t, t = tn3 p col k1 k2 x1 x2 := ⟨_, rfl⟩
                rw [← ht1, ← ht2, ← ht3] at htB hcall1 hcall2 hY
                rw [← ht1] at rt1
                rw [← ht2] at rt2
                rw [← ht3] at rt3
                clear ht1 ht2 ht3
                obtain ⟨bo, hbo⟩ : ∃ b, b = onB p a1 a2 t1 t2 t3 := ⟨_, rfl⟩
                rw [← hbo] at htB hcall2
                clear hbo
                rw [htB] at hY hN
                have HC1 := Lib.hid hcall1
                have HC2 := Lib.hid hcall2
                clear hcall1 hcall2 htB
                have ht := hb
                go_wp2_with fail
                go_quiet (fail)
                go_upto_region 9 with fail
                refine wp_name (fun wA hwA => ?_)
                have hA : Below wr.heap.size wr wA := by rw [hwA]; (repeat (first | with_reducible exact Below.refl _ _ | with_reducible refine balloc ?_ _ | with_reducible refine bdrewN ?_ _ | with_reducible refine Below.drew ?_ | with_reducible refine bthen ?_ (by with_reducible assumption) | with_reducible refine Below.setCell ?_ (by first | (simp; done) | (simp; omega)) _))
                have sA := hA.size
                have e0 : wA.cell? ⟨w.heap.size, 0, none⟩ = some (.int .i64 k1) := (cell_back hA (by omega) 0).trans kk0
                have e1 : wA.cell? ⟨w.heap.size, 1, none⟩ = some (.int .i64 k2) := (cell_back hA (by omega) 1).trans kk1
                have e2 : wA.cell? ⟨w.heap.size, 2, none⟩ = some (.int .i64 k3) := (cell_back hA (by omega) 2).trans kk2
                have e3 : wA.cell? ⟨w.heap.size + 1, 0, none⟩ = some (.int .i64 a1) := (cell_back hA (by omega) 0).trans kk3
                have e4 : wA.cell? ⟨w.heap.size + 1, 1, none⟩ = some (.int .i64 a2) := (cell_back hA (by omega) 1).trans kk4
                have d0 : wA.cell? ⟨gz, j * 2, none⟩ = some (.int .i64 x1) := (cell_back hA hgr _).trans c0
                have d1 : wA.cell? ⟨gz, j * 2 + 1, none⟩ = some (.int .i64 x2) := (cell_back hA hgr _).trans c1
                have hoA := own_call hown hA
                have hbA : Below wz.heap.size wz wA := hbel.trans (hA.mono hsr)
                clear hwA kk0 kk1 kk2 kk3 kk4 c0 c1 hown hbel
                have q0 : ∀ W : World, Below wA.heap.size wA W → W.cell? ⟨w.heap.size, 0, none⟩ = some (.int .i64 k1) := fun W h => bholds e0 h
                have q1 : ∀ W : World, Below wA.heap.size wA W → W.cell? ⟨w.heap.size, 1, none⟩ = some (.int .i64 k2) := fun W h => bholds e1 h
                have q2 : ∀ W : World, Below wA.heap.size wA W → W.cell? ⟨w.heap.size, 2, none⟩ = some (.int .i64 k3) := fun W h => bholds e2 h
                have q3 : ∀ W : World, Below wA.heap.size wA W → W.cell? ⟨w.heap.size + 1, 0, none⟩ = some (.int .i64 a1) := fun W h => bholds e3 h
                have q4 : ∀ W : World, Below wA.heap.size wA W → W.cell? ⟨w.heap.size + 1, 1, none⟩ = some (.int .i64 a2) := fun W h => bholds e4 h
                have qd0 : ∀ W : World, Below wA.heap.size wA W → W.cell? ⟨gz, j * 2, none⟩ = some (.int .i64 x1) := fun W h => bholds d0 h
                have qd1 : ∀ W : World, Below wA.heap.size wA W → W.cell? ⟨gz, j * 2 + 1, none⟩ = some (.int .i64 x2) := fun W h => bholds d1 h
                (refine wp_region_held_drew (S := (fun W => W.cell? ⟨w.heap.size, 0, none⟩ = some (.int .i64 k1) ∧ W.cell? ⟨w.heap.size, 1, none⟩ = some (.int .i64 k2) ∧ W.cell? ⟨w.heap.size, 2, none⟩ = some (.int .i64 k3) ∧ W.cell? ⟨gz, j * 2, none⟩ = some (.int .i64 x1) ∧ W.cell? ⟨gz, j * 2 + 1, none⟩ = some (.int .i64 x2) ∧ Below wA.heap.size wA W)) (by kernel_rfl) (by exact ⟨e0, e1, e2, d0, d1, Below.drew (Below.refl _ _)⟩) (fun hHeld => ?_))
                (refine wpAnyH_take (i := 0) (v := ?_) rfl (by kernel_rfl) (by kernel_rfl) (by kernel_rfl) (fun _ _ _ h => h) (Or.inl ⟨by rfl, ?_⟩) (by with_reducible assumption) ?_; rotate_left; (focus (intro wz hSw; (try dsimp only at hSw); go_simp; try with_reducible rfl)); try simp only [Act.put, List.getElem_toArray, List.getElem_cons_zero, List.getElem_cons_succ, List.setIfInBounds_toArray, List.set_cons_zero, List.set_cons_succ])
                (refine wpAnyH_take (i := 1) (v := ?_) rfl (by kernel_rfl) (by kernel_rfl) (by kernel_rfl) (fun _ _ _ h => h) (Or.inl ⟨by rfl, ?_⟩) (by with_reducible assumption) ?_; rotate_left; (focus (intro wz hSw; (try dsimp only at hSw); go_simp; try with_reducible rfl)); try simp only [Act.put, List.getElem_toArray, List.getElem_cons_zero, List.getElem_cons_succ, List.setIfInBounds_toArray, List.set_cons_zero, List.set_cons_succ])
                (refine wpAnyH_take (i := 2) (v := ?_) rfl (by kernel_rfl) (by kernel_rfl) (by kernel_rfl) (fun _ _ _ h => h) (Or.inl ⟨by rfl, ?_⟩) (by with_reducible assumption) ?_; rotate_left; (focus (intro wz hSw; (try dsimp only at hSw); go_simp; try with_reducible rfl)); try simp only [Act.put, List.getElem_toArray, List.getElem_cons_zero, List.getElem_cons_succ, List.setIfInBounds_toArray, List.set_cons_zero, List.set_cons_succ])
                (refine wpAnyH_take (i := 3) (v := ?_) rfl (by kernel_rfl) (by kernel_rfl) (by kernel_rfl) (fun _ _ _ h => h) (Or.inl ⟨by rfl, ?_⟩) (by with_reducible assumption) ?_; rotate_left; (focus (intro wz hSw; (try dsimp only at hSw); go_simp; try with_reducible rfl)); try simp only [Act.put, List.getElem_toArray, List.getElem_cons_zero, List.getElem_cons_succ, List.setIfInBounds_toArray, List.set_cons_zero, List.set_cons_succ])
                (refine wpAnyH_take (i := 4) (v := ?_) rfl (by kernel_rfl) (by kernel_rfl) (by kernel_rfl) (fun _ _ _ h => h) (Or.inl ⟨by rfl, ?_⟩) (by with_reducible assumption) ?_; rotate_left; (focus (intro wz hSw; (try dsimp only at hSw); go_simp; try with_reducible rfl)); try simp only [Act.put, List.getElem_toArray, List.getElem_cons_zero, List.getElem_cons_succ, List.setIfInBounds_toArray, List.set_cons_zero, List.set_cons_succ])
                (refine wpAnyH_take (i := 5) (v := ?_) rfl (by kernel_rfl) (by kernel_rfl) (by kernel_rfl) (fun _ _ _ h => h) (Or.inl ⟨by rfl, ?_⟩) (by with_reducible assumption) ?_; rotate_left; (focus (intro wz hSw; (try dsimp only at hSw); go_simp; try with_reducible rfl)); try simp only [Act.put, List.getElem_toArray, List.getElem_cons_zero, List.getElem_cons_succ, List.setIfInBounds_toArray, List.set_cons_zero, List.set_cons_succ])
                (refine wpAnyH_take (i := 6) (v := ?_) rfl (by kernel_rfl) (by kernel_rfl) (by kernel_rfl) (fun _ _ _ h => h) (Or.inl ⟨by rfl, ?_⟩) (by with_reducible assumption) ?_; rotate_left; (focus (intro wz hSw; (try dsimp only at hSw); go_simp; try with_reducible rfl)); try simp only [Act.put, List.getElem_toArray, List.getElem_cons_zero, List.getElem_cons_succ, List.setIfInBounds_toArray, List.set_cons_zero, List.set_cons_succ])
                refine wpAnyH_ready (rs := [7, 8]) (by kernel_rfl) (by simp) ?_
                refine AllReadyH.cons rfl (fun K hK => ?_) (AllReadyH.cons rfl (fun K hK => ?_) AllReadyH.nil)
                · go_simp
                  refine Calls.mono (HC1.out _) ?_
                  rintro e wq ⟨rfl, hB⟩
                  have hBs := hB.size
                  have hBt : wA.heap.size ≤ wq.heap.size := by first | exact hBs | (simp at hBs; omega)
                  refine hK.out _ _ (by exact (fun W (h : Below wA.heap.size wA W) => (⟨q0 W h, q1 W h, q2 W h, qd0 W h, qd1 W h, h⟩ : _ ∧ _ ∧ _ ∧ _ ∧ _ ∧ _)) _ (by first | exact bfromdrew hB | exact hB | exact bthen hHeld.2.2.2.2.2 hB)) (fun hHeld => ?_)
                  clear hK K
                  try simp only [Act.put, List.getElem_toArray, List.getElem_cons_zero, List.getElem_cons_succ, List.setIfInBounds_toArray, List.set_cons_zero, List.set_cons_succ]
                  have hPre := hHeld.2.2.2.2.2
                  (refine wpAnyH_ready (rs := [8]) (by kernel_rfl) (by simp) ?_; refine AllReadyH.cons rfl (fun K hK => ?_) AllReadyH.nil; (go_simp); refine hK.out _ _ (by exact (fun W (h : Below wA.heap.size wA W) => (⟨q0 W h, q1 W h, q2 W h, qd0 W h, qd1 W h, h⟩ : _ ∧ _ ∧ _ ∧ _ ∧ _ ∧ _)) _ (by first | exact balloc hPre _ | exact Below.drew (balloc (bundrew hPre) _))) (fun hHeld => ?_); clear hK K; try simp only [Act.put, List.setIfInBounds_toArray, List.set_cons_zero, List.set_cons_succ])
                  have hPre := hHeld.2.2.2.2.2
                  (refine wpAnyH_ready (rs := [9]) (by kernel_rfl) (by simp) ?_; refine AllReadyH.cons rfl (fun K hK => ?_) AllReadyH.nil; (go_simp); refine hK.out _ _ (by exact (fun W (h : Below wA.heap.size wA W) => (⟨q0 W h, q1 W h, q2 W h, qd0 W h, qd1 W h, h⟩ : _ ∧ _ ∧ _ ∧ _ ∧ _ ∧ _)) _ (by (first | ((refine Below.setCell ?_ (by first | (simp; done) | (simp; omega) | omega) _); (repeat refine Below.setCell ?_ (by first | (simp; done) | (simp; omega) | omega) _)) | skip); first | with_reducible assumption | exact hPre | exact brealloc (by omega) hPre)) (fun hHeld => ?_); clear hK K; try simp only [Act.put, List.setIfInBounds_toArray, List.set_cons_zero, List.set_cons_succ])
                  refine wpAnyH_done (by kernel_rfl) ?_ _
                  go_upto_region 10 with fail
                  refine wp_name (fun wX hwX => ?_)
                  have hX : Below wA.heap.size wA wX := by rw [hwX]; exact hHeld.2.2.2.2.2
                  have sX := hX.size
                  have b0 : wX.cell? ⟨wq.heap.size, 0, none⟩ = some (.int .i64 t1) := by rw [hwX]; (first | with_reducible assumption | (repeat (first | with_reducible assumption | ((with_reducible refine kfresh ?_ ?_) <;> (first | with_reducible rfl | (simp; done))) | ((with_reducible refine ksameS ?_); focus ((repeat (first | with_reducible exact kis_of (by with_reducible assumption) | with_reducible refine kis_set ?_ | ((with_reducible refine kis_new ?_ ?_) <;> (first | with_reducible rfl | rfl | (simp; done))) | with_reducible refine kis_alloc _ ?_ | with_reducible refine kis_drew ?_ | with_reducible refine kis_call (by with_reducible assumption) ?_ | with_reducible exact kis_of (kcall (by with_reducible assumption) (by with_reducible assumption)))); done)) | with_reducible refine kother (by decide) ?_ | with_reducible refine kset (by first | omega | (simp; done) | (simp; omega)) ?_ | with_reducible refine kalloc _ ?_ | with_reducible refine kdrew ?_ | with_reducible refine kdrewN ?_ | with_reducible refine kcall (by with_reducible assumption) ?_)))
                  have b1 : wX.cell? ⟨wq.heap.size, 1, none⟩ = some (.int .i64 t2) := by rw [hwX]; (first | with_reducible assumption | (repeat (first | with_reducible assumption | ((with_reducible refine kfresh ?_ ?_) <;> (first | with_reducible rfl | (simp; done))) | ((with_reducible refine ksameS ?_); focus ((repeat (first | with_reducible exact kis_of (by with_reducible assumption) | with_reducible refine kis_set ?_ | ((with_reducible refine kis_new ?_ ?_) <;> (first | with_reducible rfl | rfl | (simp; done))) | with_reducible refine kis_alloc _ ?_ | with_reducible refine kis_drew ?_ | with_reducible refine kis_call (by with_reducible assumption) ?_ | with_reducible exact kis_of (kcall (by with_reducible assumption) (by with_reducible assumption)))); done)) | with_reducible refine kother (by decide) ?_ | with_reducible refine kset (by first | omega | (simp; done) | (simp; omega)) ?_ | with_reducible refine kalloc _ ?_ | with_reducible refine kdrew ?_ | with_reducible refine kdrewN ?_ | with_reducible refine kcall (by with_reducible assumption) ?_)))
                  have b2 : wX.cell? ⟨wq.heap.size, 2, none⟩ = some (.int .i64 t3) := by rw [hwX]; (first | with_reducible assumption | (repeat (first | with_reducible assumption | ((with_reducible refine kfresh ?_ ?_) <;> (first | with_reducible rfl | (simp; done))) | ((with_reducible refine ksameS ?_); focus ((repeat (first | with_reducible exact kis_of (by with_reducible assumption) | with_reducible refine kis_set ?_ | ((with_reducible refine kis_new ?_ ?_) <;> (first | with_reducible rfl | rfl | (simp; done))) | with_reducible refine kis_alloc _ ?_ | with_reducible refine kis_drew ?_ | with_reducible refine kis_call (by with_reducible assumption) ?_ | with_reducible exact kis_of (kcall (by with_reducible assumption) (by with_reducible assumption)))); done)) | with_reducible refine kother (by decide) ?_ | with_reducible refine kset (by first | omega | (simp; done) | (simp; omega)) ?_ | with_reducible refine kalloc _ ?_ | with_reducible refine kdrew ?_ | with_reducible refine kdrewN ?_ | with_reducible refine kcall (by with_reducible assumption) ?_)))
                  clear hwX
                  have a3 := q3 wX hX
                  have a4 := q4 wX hX
                  have hoX := own_call hoA hX
                  have hbX := hbA.trans (hX.mono hbA.size)
                  clear hoA hbA HC1
                  clear q0
                  clear q1
                  clear q2
                  clear q3
                  clear q4
                  clear qd0 qd1 hX
                  go_wp2_with fail
                  refine Calls.mono (HC2.out _) ?_
                  rintro e wv ⟨rfl, hBv⟩
                  have v0 := kcall hBv b0
                  have v1 := kcall hBv b1
                  have v2 := kcall hBv b2
                  have hov := own_call hoX hBv
                  have hbv := hbX.trans (hBv.mono hbX.size)
                  have sV := hbv.size
                  have sVX := hBv.size
                  clear hoX hbX b0 b1 b2 hBv a3 a4
                  rcases bool_ways bo with hbo | hbo
                  · subst hbo
                    have HN := Lib.hid (hN rfl)
                    clear hY hN v0 v1 v2
                    have HO := Lib.hid hov
                    clear hov
                    go_wp2_with fail
                    go_wp2
                    go_roundw
                    case rel => exact ⟨j + 1, g, m, cap, by omega, by go_num, by rw [HN.out]; exact HM.out, rfl, by rw [HN.out]; exact HO.out, hbv⟩
                    case measure => simp [intOf]; omega
                  · subst hbo
                    have HY := Lib.hid (hY rfl)
                    clear hY hN
                    go_wp2_with fail
                    refine Calls.mono (put_any (srtL (tgL p col k1 k2 a1 a2 (ps.take j))) t1 t2 t3 g m cap wz.heap.size _ HM.out (by omega) (srtL_sorted _) (by omega) hov) ?_
                    rintro e wu ⟨g', cap', rfl, hou, hBu⟩
                    rw [← srtL_snoc, ← HY.out] at hou ⊢
                    obtain ⟨M, hM⟩ : ∃ M, M = (srtL (tgL p col k1 k2 a1 a2 (ps.take (j + 1)))).length := ⟨_, rfl⟩
                    rw [← hM] at hou ⊢
                    have HMM := Lib.hid hM
                    clear hM hov v0 v1 v2
                    have HO := Lib.hid hou
                    clear hou
                    go_wp2
                    go_roundw
                    case rel => exact ⟨j + 1, g', M, cap', by omega, by go_num, HMM.out, rfl, HO.out, hbv.trans (hBu.mono hbv.size)⟩
                    case measure => simp [intOf]; omega
                · go_simp
                  refine hK.out _ _ (by exact (fun W (h : Below wA.heap.size wA W) => (⟨q0 W h, q1 W h, q2 W h, qd0 W h, qd1 W h, h⟩ : _ ∧ _ ∧ _ ∧ _ ∧ _ ∧ _)) _ (by first | exact balloc (Below.refl _ _) _ | exact Below.drew (balloc (bundrew (Below.drew (Below.refl _ _))) _) | exact balloc hHeld.2.2.2.2.2 _)) (fun hHeld => ?_)
                  clear hK K
                  try simp only [Act.put, List.getElem_toArray, List.getElem_cons_zero, List.getElem_cons_succ, List.setIfInBounds_toArray, List.set_cons_zero, List.set_cons_succ]
                  have hPre := hHeld.2.2.2.2.2
                  (refine wpAnyH_ready (rs := [7]) (by kernel_rfl) (by simp) ?_; refine AllReadyH.cons rfl (fun K hK => ?_) AllReadyH.nil; (go_simp; refine Calls.mono (HC1.out _) ?_; rintro e wq ⟨rfl, hB⟩); refine hK.out _ _ (by exact (fun W (h : Below wA.heap.size wA W) => (⟨q0 W h, q1 W h, q2 W h, qd0 W h, qd1 W h, h⟩ : _ ∧ _ ∧ _ ∧ _ ∧ _ ∧ _)) _ (by first | exact bthen hPre hB | exact bfromdrew hB)) (fun hHeld => ?_); clear hK K; try simp only [Act.put, List.setIfInBounds_toArray, List.set_cons_zero, List.set_cons_succ])
                  have hPre := hHeld.2.2.2.2.2
                  have bc0 : wq.cell? ⟨wA.heap.size, 0, none⟩ = some (.int .i64 0) := kcall hB (by (first | with_reducible assumption | (repeat (first | with_reducible assumption | ((with_reducible refine kfresh ?_ ?_) <;> (first | with_reducible rfl | (simp; done))) | ((with_reducible refine ksameS ?_); focus ((repeat (first | with_reducible exact kis_of (by with_reducible assumption) | with_reducible refine kis_set ?_ | ((with_reducible refine kis_new ?_ ?_) <;> (first | with_reducible rfl | rfl | (simp; done))) | with_reducible refine kis_alloc _ ?_ | with_reducible refine kis_drew ?_ | with_reducible refine kis_call (by with_reducible assumption) ?_ | with_reducible exact kis_of (kcall (by with_reducible assumption) (by with_reducible assumption)))); done)) | with_reducible refine kother (by decide) ?_ | with_reducible refine kset (by first | omega | (simp; done) | (simp; omega)) ?_ | with_reducible refine kalloc _ ?_ | with_reducible refine kdrew ?_ | with_reducible refine kdrewN ?_ | with_reducible refine kcall (by with_reducible assumption) ?_))))
                  have bc1 : wq.cell? ⟨wA.heap.size, 1, none⟩ = some (.int .i64 0) := kcall hB (by (first | with_reducible assumption | (repeat (first | with_reducible assumption | ((with_reducible refine kfresh ?_ ?_) <;> (first | with_reducible rfl | (simp; done))) | ((with_reducible refine ksameS ?_); focus ((repeat (first | with_reducible exact kis_of (by with_reducible assumption) | with_reducible refine kis_set ?_ | ((with_reducible refine kis_new ?_ ?_) <;> (first | with_reducible rfl | rfl | (simp; done))) | with_reducible refine kis_alloc _ ?_ | with_reducible refine kis_drew ?_ | with_reducible refine kis_call (by with_reducible assumption) ?_ | with_reducible exact kis_of (kcall (by with_reducible assumption) (by with_reducible assumption)))); done)) | with_reducible refine kother (by decide) ?_ | with_reducible refine kset (by first | omega | (simp; done) | (simp; omega)) ?_ | with_reducible refine kalloc _ ?_ | with_reducible refine kdrew ?_ | with_reducible refine kdrewN ?_ | with_reducible refine kcall (by with_reducible assumption) ?_))))
                  have bc2 : wq.cell? ⟨wA.heap.size, 2, none⟩ = some (.int .i64 0) := kcall hB (by (first | with_reducible assumption | (repeat (first | with_reducible assumption | ((with_reducible refine kfresh ?_ ?_) <;> (first | with_reducible rfl | (simp; done))) | ((with_reducible refine ksameS ?_); focus ((repeat (first | with_reducible exact kis_of (by with_reducible assumption) | with_reducible refine kis_set ?_ | ((with_reducible refine kis_new ?_ ?_) <;> (first | with_reducible rfl | rfl | (simp; done))) | with_reducible refine kis_alloc _ ?_ | with_reducible refine kis_drew ?_ | with_reducible refine kis_call (by with_reducible assumption) ?_ | with_reducible exact kis_of (kcall (by with_reducible assumption) (by with_reducible assumption)))); done)) | with_reducible refine kother (by decide) ?_ | with_reducible refine kset (by first | omega | (simp; done) | (simp; omega)) ?_ | with_reducible refine kalloc _ ?_ | with_reducible refine kdrew ?_ | with_reducible refine kdrewN ?_ | with_reducible refine kcall (by with_reducible assumption) ?_))))
                  have fz0 : wq.frozen? ⟨wA.heap.size, 0, none⟩ = false := by (refine kfro hB ?_ ?_ <;> first | with_reducible assumption | omega | (simp; done) | (simp; omega) | (repeat (first | with_reducible assumption | with_reducible refine fdrew ?_ | with_reducible refine fdrewN ?_ | with_reducible refine fset ?_ | ((with_reducible refine fallocNew ?_) <;> (first | with_reducible rfl | (simp; done))) | ((with_reducible refine kfro (by with_reducible assumption) ?_ ?_); focus (first | with_reducible assumption | omega | (simp; done) | (simp; omega))) | ((with_reducible refine falloc ?_ ?_); focus (first | with_reducible assumption | omega | (simp; done) | (simp; omega))))))
                  have fz1 : wq.frozen? ⟨wA.heap.size, 1, none⟩ = false := by (refine kfro hB ?_ ?_ <;> first | with_reducible assumption | omega | (simp; done) | (simp; omega) | (repeat (first | with_reducible assumption | with_reducible refine fdrew ?_ | with_reducible refine fdrewN ?_ | with_reducible refine fset ?_ | ((with_reducible refine fallocNew ?_) <;> (first | with_reducible rfl | (simp; done))) | ((with_reducible refine kfro (by with_reducible assumption) ?_ ?_); focus (first | with_reducible assumption | omega | (simp; done) | (simp; omega))) | ((with_reducible refine falloc ?_ ?_); focus (first | with_reducible assumption | omega | (simp; done) | (simp; omega))))))
                  have fz2 : wq.frozen? ⟨wA.heap.size, 2, none⟩ = false := by (refine kfro hB ?_ ?_ <;> first | with_reducible assumption | omega | (simp; done) | (simp; omega) | (repeat (first | with_reducible assumption | with_reducible refine fdrew ?_ | with_reducible refine fdrewN ?_ | with_reducible refine fset ?_ | ((with_reducible refine fallocNew ?_) <;> (first | with_reducible rfl | (simp; done))) | ((with_reducible refine kfro (by with_reducible assumption) ?_ ?_); focus (first | with_reducible assumption | omega | (simp; done) | (simp; omega))) | ((with_reducible refine falloc ?_ ?_); focus (first | with_reducible assumption | omega | (simp; done) | (simp; omega))))))
                  (refine wpAnyH_ready (rs := [9]) (by kernel_rfl) (by simp) ?_; refine AllReadyH.cons rfl (fun K hK => ?_) AllReadyH.nil; (go_simp); refine hK.out _ _ (by exact (fun W (h : Below wA.heap.size wA W) => (⟨q0 W h, q1 W h, q2 W h, qd0 W h, qd1 W h, h⟩ : _ ∧ _ ∧ _ ∧ _ ∧ _ ∧ _)) _ (by (first | ((refine Below.setCell ?_ (by first | (simp; done) | (simp; omega) | omega) _); (repeat refine Below.setCell ?_ (by first | (simp; done) | (simp; omega) | omega) _)) | skip); first | with_reducible assumption | exact hPre | exact brealloc (by omega) hPre)) (fun hHeld => ?_); clear hK K; try simp only [Act.put, List.setIfInBounds_toArray, List.set_cons_zero, List.set_cons_succ])
                  refine wpAnyH_done (by kernel_rfl) ?_ _
                  go_upto_region 10 with fail
                  refine wp_name (fun wX hwX => ?_)
                  have hX : Below wA.heap.size wA wX := by rw [hwX]; exact hHeld.2.2.2.2.2
                  have sX := hX.size
                  have b0 : wX.cell? ⟨wA.heap.size, 0, none⟩ = some (.int .i64 t1) := by rw [hwX]; (first | with_reducible assumption | (repeat (first | with_reducible assumption | ((with_reducible refine kfresh ?_ ?_) <;> (first | with_reducible rfl | (simp; done))) | ((with_reducible refine ksameS ?_); focus ((repeat (first | with_reducible exact kis_of (by with_reducible assumption) | with_reducible refine kis_set ?_ | ((with_reducible refine kis_new ?_ ?_) <;> (first | with_reducible rfl | rfl | (simp; done))) | with_reducible refine kis_alloc _ ?_ | with_reducible refine kis_drew ?_ | with_reducible refine kis_call (by with_reducible assumption) ?_ | with_reducible exact kis_of (kcall (by with_reducible assumption) (by with_reducible assumption)))); done)) | with_reducible refine kother (by decide) ?_ | with_reducible refine kset (by first | omega | (simp; done) | (simp; omega)) ?_ | with_reducible refine kalloc _ ?_ | with_reducible refine kdrew ?_ | with_reducible refine kdrewN ?_ | with_reducible refine kcall (by with_reducible assumption) ?_)))
                  have b1 : wX.cell? ⟨wA.heap.size, 1, none⟩ = some (.int .i64 t2) := by rw [hwX]; (first | with_reducible assumption | (repeat (first | with_reducible assumption | ((with_reducible refine kfresh ?_ ?_) <;> (first | with_reducible rfl | (simp; done))) | ((with_reducible refine ksameS ?_); focus ((repeat (first | with_reducible exact kis_of (by with_reducible assumption) | with_reducible refine kis_set ?_ | ((with_reducible refine kis_new ?_ ?_) <;> (first | with_reducible rfl | rfl | (simp; done))) | with_reducible refine kis_alloc _ ?_ | with_reducible refine kis_drew ?_ | with_reducible refine kis_call (by with_reducible assumption) ?_ | with_reducible exact kis_of (kcall (by with_reducible assumption) (by with_reducible assumption)))); done)) | with_reducible refine kother (by decide) ?_ | with_reducible refine kset (by first | omega | (simp; done) | (simp; omega)) ?_ | with_reducible refine kalloc _ ?_ | with_reducible refine kdrew ?_ | with_reducible refine kdrewN ?_ | with_reducible refine kcall (by with_reducible assumption) ?_)))
                  have b2 : wX.cell? ⟨wA.heap.size, 2, none⟩ = some (.int .i64 t3) := by rw [hwX]; (first | with_reducible assumption | (repeat (first | with_reducible assumption | ((with_reducible refine kfresh ?_ ?_) <;> (first | with_reducible rfl | (simp; done))) | ((with_reducible refine ksameS ?_); focus ((repeat (first | with_reducible exact kis_of (by with_reducible assumption) | with_reducible refine kis_set ?_ | ((with_reducible refine kis_new ?_ ?_) <;> (first | with_reducible rfl | rfl | (simp; done))) | with_reducible refine kis_alloc _ ?_ | with_reducible refine kis_drew ?_ | with_reducible refine kis_call (by with_reducible assumption) ?_ | with_reducible exact kis_of (kcall (by with_reducible assumption) (by with_reducible assumption)))); done)) | with_reducible refine kother (by decide) ?_ | with_reducible refine kset (by first | omega | (simp; done) | (simp; omega)) ?_ | with_reducible refine kalloc _ ?_ | with_reducible refine kdrew ?_ | with_reducible refine kdrewN ?_ | with_reducible refine kcall (by with_reducible assumption) ?_)))
                  clear hwX
                  have a3 := q3 wX hX
                  have a4 := q4 wX hX
                  have hoX := own_call hoA hX
                  have hbX := hbA.trans (hX.mono hbA.size)
                  clear hoA hbA HC1
                  clear q0
                  clear q1
                  clear q2
                  clear q3
                  clear q4
                  clear qd0 qd1 hX
                  go_wp2_with fail
                  refine Calls.mono (HC2.out _) ?_
                  rintro e wv ⟨rfl, hBv⟩
                  have v0 := kcall hBv b0
                  have v1 := kcall hBv b1
                  have v2 := kcall hBv b2
                  have hov := own_call hoX hBv
                  have hbv := hbX.trans (hBv.mono hbX.size)
                  have sV := hbv.size
                  have sVX := hBv.size
                  clear hoX hbX b0 b1 b2 hBv a3 a4
                  rcases bool_ways bo with hbo | hbo
                  · subst hbo
                    have HN := Lib.hid (hN rfl)
                    clear hY hN v0 v1 v2
                    have HO := Lib.hid hov
                    clear hov
                    go_wp2_with fail
                    go_wp2
                    go_roundw
                    case rel => exact ⟨j + 1, g, m, cap, by omega, by go_num, by rw [HN.out]; exact HM.out, rfl, by rw [HN.out]; exact HO.out, hbv⟩
                    case measure => simp [intOf]; omega
                  · subst hbo
                    have HY := Lib.hid (hY rfl)
                    clear hY hN
                    go_wp2_with fail
                    refine Calls.mono (put_any (srtL (tgL p col k1 k2 a1 a2 (ps.take j))) t1 t2 t3 g m cap wz.heap.size _ HM.out (by omega) (srtL_sorted _) (by omega) hov) ?_
                    rintro e wu ⟨g', cap', rfl, hou, hBu⟩
                    rw [← srtL_snoc, ← HY.out] at hou ⊢
                    obtain ⟨M, hM⟩ : ∃ M, M = (srtL (tgL p col k1 k2 a1 a2 (ps.take (j + 1)))).length := ⟨_, rfl⟩
                    rw [← hM] at hou ⊢
                    have HMM := Lib.hid hM
                    clear hM hov v0 v1 v2
                    have HO := Lib.hid hou
                    clear hou
                    go_wp2
                    go_roundw
                    case rel => exact ⟨j + 1, g', M, cap', by omega, by go_num, HMM.out, rfl, HO.out, hbv.trans (hBu.mono hbv.size)⟩
                    case measure => simp [intOf]; omega
              · have HN := Lib.hid (hN (by unfold tgB; simp only; rw [hb]; rfl))
                clear hY hN
                have ht := hb
                have HO := Lib.hid hown
                clear hown
                go_wp2_with fail
                go_quiet (fail)
                go_wp2
                go_roundw
                case rel => exact ⟨j + 1, g, m, cap, by omega, by go_num, by rw [HN.out]; exact HM.out, rfl, by rw [HN.out]; exact HO.out, by first | exact hbel | exact Below.drew hbel | (repeat (first | with_reducible exact Below.refl _ _ | with_reducible exact hbel | with_reducible refine balloc ?_ _ | with_reducible refine bdrewN ?_ _ | with_reducible refine Below.drew ?_ | with_reducible refine bthen ?_ (by with_reducible assumption) | with_reducible refine Below.setCell ?_ (by first | (simp; done) | (simp; omega)) _))⟩
                case measure => simp [intOf]; omega
            · have ej : j = ps.length := by omega
              subst ej
              rw [List.take_length, ← HVT.out] at hown
              have HO := Lib.hid hown
              clear hown
              go_wp2
              (refine bodyPost_ret (v := .tuple #[.slice (some ⟨g, 0, none⟩) m cap, .int .i64 (tfC p col k1 k2 k3 a1 a2)]) (by simp [results, Try.results6, go_sem, HV.out.2]) rfl (slicePost_mk (by rw [HV.out.1]; exact own_base HO.out (by omega)) (hB0.trans (hbel.mono (by omega)))))

end Go.Proofs.Ytmpgpmcmhbpjeab
