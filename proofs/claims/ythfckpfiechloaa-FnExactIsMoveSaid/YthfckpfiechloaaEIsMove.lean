/-
  IsMove: the program's and the model's.
-/
import Derived.Test.YthfckpfiechloaaSpecMoveCode
import Derived.Test.YthfckpfiechloaaImplMaps
import Derived.Test.YthfckpfiechloaaImplIsMove
import Derived.Test.YthfckpfiechloaaImplCol
import Derived.Test.YthfckpfiechloaaCode
import Derived.Deep.RegionHeld3
import Derived.Deep.DeepCutAuto
import Derived.Test.YthfckpfiechloaaBaseMath
namespace Go.Proofs.Ythfckpfiechloaa
open Go.RowKit

set_option linter.unusedVariables false in
def imB (p col m1 m2 m3 m4 m5 m6 : Int) : Bool := colB col && numsIn p [m1, m2, m3, m4, m5, m6]
set_option linter.unusedVariables false in
def imS (p col m1 m2 m3 m4 m5 m6 : Int) : Int := 0
set_option linter.unusedVariables false in
def imC (p col m1 m2 m3 m4 m5 m6 : Int) : Int := if isP p = true then (if imB p col m1 m2 m3 m4 m5 m6 = true then imS p col m1 m2 m3 m4 m5 m6 else 2) else 1
set_option linter.unusedVariables false in
def imV1 (p col m1 m2 m3 m4 m5 m6 : Int) : Bool := if imC p col m1 m2 m3 m4 m5 m6 = 0 then mvB p col m1 m2 m3 m4 else false
theorem im_zero {p col m1 m2 m3 m4 m5 m6 k : Int} (h : imC p col m1 m2 m3 m4 m5 m6 = k) (hk : k ≠ 0) : imV1 p col m1 m2 m3 m4 m5 m6 = false ∧ imC p col m1 m2 m3 m4 m5 m6 = k := by
  have hn : ¬ (imC p col m1 m2 m3 m4 m5 m6 = 0) := fun e => hk (h.symm.trans e)
  exact ⟨if_neg hn, h⟩
theorem im_no {p col m1 m2 m3 m4 m5 m6 : Int} (h : isP p = false) : imV1 p col m1 m2 m3 m4 m5 m6 = false ∧ imC p col m1 m2 m3 m4 m5 m6 = 1 := im_zero (by simp [imC, h]) (by decide)
theorem im_out {p col m1 m2 m3 m4 m5 m6 : Int} (hp : isP p = true) (h : imB p col m1 m2 m3 m4 m5 m6 = false) : imV1 p col m1 m2 m3 m4 m5 m6 = false ∧ imC p col m1 m2 m3 m4 m5 m6 = 2 := im_zero (by simp [imC, hp, h]) (by decide)
theorem im_st {p col m1 m2 m3 m4 m5 m6 k : Int} (hp : isP p = true) (h : imB p col m1 m2 m3 m4 m5 m6 = true) (hs : imS p col m1 m2 m3 m4 m5 m6 = k) (hk : k ≠ 0) : imV1 p col m1 m2 m3 m4 m5 m6 = false ∧ imC p col m1 m2 m3 m4 m5 m6 = k := im_zero (by simp [imC, hp, h, hs]) hk
theorem im_good {p col m1 m2 m3 m4 m5 m6 : Int} (hp : isP p = true) (h : imB p col m1 m2 m3 m4 m5 m6 = true) (hs : imS p col m1 m2 m3 m4 m5 m6 = 0) : imV1 p col m1 m2 m3 m4 m5 m6 = mvB p col m1 m2 m3 m4 ∧ imC p col m1 m2 m3 m4 m5 m6 = 0 := by
  have h' : imC p col m1 m2 m3 m4 m5 m6 = 0 := by simp [imC, hp, h, hs]
  exact ⟨if_pos h', h'⟩

set_option linter.unusedVariables false in
set_option linter.unusedSimpArgs false in
set_option maxRecDepth 20000 in
set_option maxHeartbeats 4000000 in
theorem specIsMove_any (p col m1 m2 m3 m4 m5 m6 : Int)  (w : World) :
    Calls Try.prog 15 #[.int .i64 p, .int .i64 col, .agg #[.int .i64 m1, .int .i64 m2, .int .i64 m3, .int .i64 m4, .int .i64 m5, .int .i64 m6]] w fun e w' =>
      e = .returned (.tuple #[.bool (imV1 p col m1 m2 m3 m4 m5 m6), .int .i64 (imC p col m1 m2 m3 m4 m5 m6)]) ∧ Below w.heap.size w w' := by
  go_enter Try.func15, Try.ntmps15
  rcases bool_ways (isP p) with hd1 | hd1
  · skip
    have c_1 : mvCb true p col m1 m2 m3 m4 m5 m6 = 1 := by simp [mvCb, hd1]
    go_wp2_with fail
    refine Calls.mono (specMoveCode_any _ _ _ _ _ _ _ _ _) ?_
    rintro e w1 ⟨rfl, hB1⟩
    (obtain ⟨hB1c, hB1f⟩ := bcell hB1; have hB1s := hB1.size; (try simp at hB1s); (try have hB1q1 := Nat.lt_of_succ_le hB1s); (try have hB1q2 := Nat.lt_of_succ_lt hB1q1); (try have hB1q3 := Nat.lt_of_succ_lt hB1q2); (try have hB1zw0 : w.heap.size < w1.heap.size := (by omega)); (try have hB1zw1 : w.heap.size + 1 < w1.heap.size := (by omega)); (try have hB1zw2 : w.heap.size + 1 + 1 < w1.heap.size := (by omega)); (try have hB1zw3 : w.heap.size + 1 + 1 + 1 < w1.heap.size := (by omega)); (try have hB1zw4 : w.heap.size + 1 + 1 + 1 + 1 < w1.heap.size := (by omega)))
    have HV := Lib.hid (im_no (col := col) (m1 := m1) (m2 := m2) (m3 := m3) (m4 := m4) (m5 := m5) (m6 := m6) hd1)
    go_wp2
    (refine bodyPost_ret (v := .tuple #[.bool (imV1 p col m1 m2 m3 m4 m5 m6), .int .i64 (imC p col m1 m2 m3 m4 m5 m6)]) (by simp [results, Try.results15, go_sem, HV.out.1, HV.out.2, *]) rfl ⟨?_, ?_⟩)
    · rfl
    · (repeat (first | with_reducible exact Below.refl _ _ | with_reducible refine balloc ?_ _ | with_reducible refine bdrewN ?_ _ | with_reducible refine Below.drew ?_ | with_reducible refine bthen ?_ (by with_reducible assumption) | with_reducible refine Below.setCell ?_ (by first | (simp; done) | (simp; omega)) _))
  · have hp := hd1
    have hr := isP_range hp
    rcases bool_ways (numsIn p [m1, m2, m3, m4, m5, m6]) with hd2 | hd2
    · skip
      have c_1 : mvCb true p col m1 m2 m3 m4 m5 m6 = 2 := by simp [mvCb, hd1, hd2]
      go_wp2_with fail
      refine Calls.mono (specMoveCode_any _ _ _ _ _ _ _ _ _) ?_
      rintro e w1 ⟨rfl, hB1⟩
      (obtain ⟨hB1c, hB1f⟩ := bcell hB1; have hB1s := hB1.size; (try simp at hB1s); (try have hB1q1 := Nat.lt_of_succ_le hB1s); (try have hB1q2 := Nat.lt_of_succ_lt hB1q1); (try have hB1q3 := Nat.lt_of_succ_lt hB1q2); (try have hB1zw0 : w.heap.size < w1.heap.size := (by omega)); (try have hB1zw1 : w.heap.size + 1 < w1.heap.size := (by omega)); (try have hB1zw2 : w.heap.size + 1 + 1 < w1.heap.size := (by omega)); (try have hB1zw3 : w.heap.size + 1 + 1 + 1 < w1.heap.size := (by omega)); (try have hB1zw4 : w.heap.size + 1 + 1 + 1 + 1 < w1.heap.size := (by omega)))
      have HV := Lib.hid (im_out (col := col) (m1 := m1) (m2 := m2) (m3 := m3) (m4 := m4) (m5 := m5) (m6 := m6) hp (by simp [imB, hd1, hd2]))
      go_wp2
      (refine bodyPost_ret (v := .tuple #[.bool (imV1 p col m1 m2 m3 m4 m5 m6), .int .i64 (imC p col m1 m2 m3 m4 m5 m6)]) (by simp [results, Try.results15, go_sem, HV.out.1, HV.out.2, *]) rfl ⟨?_, ?_⟩)
      · rfl
      · (repeat (first | with_reducible exact Below.refl _ _ | with_reducible refine balloc ?_ _ | with_reducible refine bdrewN ?_ _ | with_reducible refine Below.drew ?_ | with_reducible refine bthen ?_ (by with_reducible assumption) | with_reducible refine Below.setCell ?_ (by first | (simp; done) | (simp; omega)) _))
    · have hd2q := nums6 hd2
      rcases bool_ways (colB col) with hd3 | hd3
      · skip
        have c_1 : mvCb true p col m1 m2 m3 m4 m5 m6 = 2 := by simp [mvCb, hd1, hd2, hd3]
        go_wp2_with fail
        refine Calls.mono (specMoveCode_any _ _ _ _ _ _ _ _ _) ?_
        rintro e w1 ⟨rfl, hB1⟩
        (obtain ⟨hB1c, hB1f⟩ := bcell hB1; have hB1s := hB1.size; (try simp at hB1s); (try have hB1q1 := Nat.lt_of_succ_le hB1s); (try have hB1q2 := Nat.lt_of_succ_lt hB1q1); (try have hB1q3 := Nat.lt_of_succ_lt hB1q2); (try have hB1zw0 : w.heap.size < w1.heap.size := (by omega)); (try have hB1zw1 : w.heap.size + 1 < w1.heap.size := (by omega)); (try have hB1zw2 : w.heap.size + 1 + 1 < w1.heap.size := (by omega)); (try have hB1zw3 : w.heap.size + 1 + 1 + 1 < w1.heap.size := (by omega)); (try have hB1zw4 : w.heap.size + 1 + 1 + 1 + 1 < w1.heap.size := (by omega)))
        have HV := Lib.hid (im_out (col := col) (m1 := m1) (m2 := m2) (m3 := m3) (m4 := m4) (m5 := m5) (m6 := m6) hp (by simp [imB, hd1, hd2, hd3]))
        go_wp2
        (refine bodyPost_ret (v := .tuple #[.bool (imV1 p col m1 m2 m3 m4 m5 m6), .int .i64 (imC p col m1 m2 m3 m4 m5 m6)]) (by simp [results, Try.results15, go_sem, HV.out.1, HV.out.2, *]) rfl ⟨?_, ?_⟩)
        · rfl
        · (repeat (first | with_reducible exact Below.refl _ _ | with_reducible refine balloc ?_ _ | with_reducible refine bdrewN ?_ _ | with_reducible refine Below.drew ?_ | with_reducible refine bthen ?_ (by with_reducible assumption) | with_reducible refine Below.setCell ?_ (by first | (simp; done) | (simp; omega)) _))
      · have hc := hd3
        have hcr := colB_range hc
        rcases bool_ways (mvB p col m1 m2 m3 m4) with hd4 | hd4
        · skip
          have c_1 : mvCb true p col m1 m2 m3 m4 m5 m6 = 5 := by simp [mvCb, hd1, hd2, hd3, hd4]
          go_wp2_with fail
          refine Calls.mono (specMoveCode_any _ _ _ _ _ _ _ _ _) ?_
          rintro e w1 ⟨rfl, hB1⟩
          (obtain ⟨hB1c, hB1f⟩ := bcell hB1; have hB1s := hB1.size; (try simp at hB1s); (try have hB1q1 := Nat.lt_of_succ_le hB1s); (try have hB1q2 := Nat.lt_of_succ_lt hB1q1); (try have hB1q3 := Nat.lt_of_succ_lt hB1q2); (try have hB1zw0 : w.heap.size < w1.heap.size := (by omega)); (try have hB1zw1 : w.heap.size + 1 < w1.heap.size := (by omega)); (try have hB1zw2 : w.heap.size + 1 + 1 < w1.heap.size := (by omega)); (try have hB1zw3 : w.heap.size + 1 + 1 + 1 < w1.heap.size := (by omega)); (try have hB1zw4 : w.heap.size + 1 + 1 + 1 + 1 < w1.heap.size := (by omega)))
          have HB : imB p col m1 m2 m3 m4 m5 m6 = true := by simp [imB, hd1, hd2, hd3, hd4]
          have HS : imS p col m1 m2 m3 m4 m5 m6 = 0 := by rfl
          have HV := Lib.hid (show imV1 p col m1 m2 m3 m4 m5 m6 = false ∧ imC p col m1 m2 m3 m4 m5 m6 = 0 from by
            have HG := im_good (col := col) (m1 := m1) (m2 := m2) (m3 := m3) (m4 := m4) (m5 := m5) (m6 := m6) hp HB HS
            refine ⟨(HG.1).trans ?_, HG.2⟩
            all_goals (first | rfl | (simp [hd1, hd2, hd3, hd4])))
          clear HB HS
          go_wp2
          (refine bodyPost_ret (v := .tuple #[.bool (imV1 p col m1 m2 m3 m4 m5 m6), .int .i64 (imC p col m1 m2 m3 m4 m5 m6)]) (by simp [results, Try.results15, go_sem, HV.out.1, HV.out.2, *]) rfl ⟨?_, ?_⟩)
          · rfl
          · (repeat (first | with_reducible exact Below.refl _ _ | with_reducible refine balloc ?_ _ | with_reducible refine bdrewN ?_ _ | with_reducible refine Below.drew ?_ | with_reducible refine bthen ?_ (by with_reducible assumption) | with_reducible refine Below.setCell ?_ (by first | (simp; done) | (simp; omega)) _))
        · skip
          have c_1 : mvCb true p col m1 m2 m3 m4 m5 m6 = 0 := by simp [mvCb, hd1, hd2, hd3, hd4]
          go_wp2_with fail
          refine Calls.mono (specMoveCode_any _ _ _ _ _ _ _ _ _) ?_
          rintro e w1 ⟨rfl, hB1⟩
          (obtain ⟨hB1c, hB1f⟩ := bcell hB1; have hB1s := hB1.size; (try simp at hB1s); (try have hB1q1 := Nat.lt_of_succ_le hB1s); (try have hB1q2 := Nat.lt_of_succ_lt hB1q1); (try have hB1q3 := Nat.lt_of_succ_lt hB1q2); (try have hB1zw0 : w.heap.size < w1.heap.size := (by omega)); (try have hB1zw1 : w.heap.size + 1 < w1.heap.size := (by omega)); (try have hB1zw2 : w.heap.size + 1 + 1 < w1.heap.size := (by omega)); (try have hB1zw3 : w.heap.size + 1 + 1 + 1 < w1.heap.size := (by omega)); (try have hB1zw4 : w.heap.size + 1 + 1 + 1 + 1 < w1.heap.size := (by omega)))
          have HB : imB p col m1 m2 m3 m4 m5 m6 = true := by simp [imB, hd1, hd2, hd3, hd4]
          have HS : imS p col m1 m2 m3 m4 m5 m6 = 0 := by rfl
          have HV := Lib.hid (show imV1 p col m1 m2 m3 m4 m5 m6 = true ∧ imC p col m1 m2 m3 m4 m5 m6 = 0 from by
            have HG := im_good (col := col) (m1 := m1) (m2 := m2) (m3 := m3) (m4 := m4) (m5 := m5) (m6 := m6) hp HB HS
            refine ⟨(HG.1).trans ?_, HG.2⟩
            all_goals (first | rfl | (simp [hd1, hd2, hd3, hd4])))
          clear HB HS
          go_wp2
          (refine bodyPost_ret (v := .tuple #[.bool (imV1 p col m1 m2 m3 m4 m5 m6), .int .i64 (imC p col m1 m2 m3 m4 m5 m6)]) (by simp [results, Try.results15, go_sem, HV.out.1, HV.out.2, *]) rfl ⟨?_, ?_⟩)
          · rfl
          · (repeat (first | with_reducible exact Below.refl _ _ | with_reducible refine balloc ?_ _ | with_reducible refine bdrewN ?_ _ | with_reducible refine Below.drew ?_ | with_reducible refine bthen ?_ (by with_reducible assumption) | with_reducible refine Below.setCell ?_ (by first | (simp; done) | (simp; omega)) _))

set_option linter.unusedVariables false in
set_option linter.unusedSimpArgs false in
set_option maxRecDepth 20000 in
set_option maxHeartbeats 4000000 in
theorem implIsMove_any (p col m1 m2 m3 m4 m5 m6 : Int)  (w : World) :
    Calls Try.prog 17 #[.int .i64 p, .int .i64 col, .agg #[.int .i64 m1, .int .i64 m2, .int .i64 m3, .int .i64 m4, .int .i64 m5, .int .i64 m6]] w fun e w' =>
      e = .returned (.tuple #[.bool (imV1 p col m1 m2 m3 m4 m5 m6), .int .i64 (imC p col m1 m2 m3 m4 m5 m6)]) ∧ Below w.heap.size w w' := by
  go_enter Try.func17, Try.ntmps17
  rcases bool_ways (colB col) with hd1 | hd1
  · skip
    rcases bool_ways (isP p) with hd2 | hd2
    · skip
      have c_1 : codeOf p false = 1 := codeOf_no hd2
      have cN : ∀ b, codeOf p b = 1 := fun b => codeOf_no hd2
      go_wp2_with fail
      refine Calls.mono (isColour_any _ _) ?_
      rintro e w' ⟨rfl, rfl⟩
      go_wp2_with fail
      refine Calls.mono (codeFor_any _ _ _) ?_
      rintro e w' ⟨rfl, rfl⟩
      have HV := Lib.hid (im_no (col := col) (m1 := m1) (m2 := m2) (m3 := m3) (m4 := m4) (m5 := m5) (m6 := m6) hd2)
      go_wp2
      (refine bodyPost_ret (v := .tuple #[.bool (imV1 p col m1 m2 m3 m4 m5 m6), .int .i64 (imC p col m1 m2 m3 m4 m5 m6)]) (by simp [results, Try.results17, go_sem, HV.out.1, HV.out.2, *]) rfl ⟨?_, ?_⟩)
      · rfl
      · (repeat (first | with_reducible exact Below.refl _ _ | with_reducible refine balloc ?_ _ | with_reducible refine bdrewN ?_ _ | with_reducible refine Below.drew ?_ | with_reducible refine bthen ?_ (by with_reducible assumption) | with_reducible refine Below.setCell ?_ (by first | (simp; done) | (simp; omega)) _))
    · have hp := hd2
      have hr := isP_range hp
      have c_1 : codeOf p false = 2 := codeOf_out hp (by simp)
      have cT : codeOf p true = 0 := codeOf_in hp rfl
      have cF : codeOf p false = 2 := codeOf_out hp rfl
      go_wp2_with fail
      refine Calls.mono (isColour_any _ _) ?_
      rintro e w' ⟨rfl, rfl⟩
      go_wp2_with fail
      refine Calls.mono (codeFor_any _ _ _) ?_
      rintro e w' ⟨rfl, rfl⟩
      have HV := Lib.hid (im_out (col := col) (m1 := m1) (m2 := m2) (m3 := m3) (m4 := m4) (m5 := m5) (m6 := m6) hp (by simp [imB, hd1, hd2]))
      go_wp2
      (refine bodyPost_ret (v := .tuple #[.bool (imV1 p col m1 m2 m3 m4 m5 m6), .int .i64 (imC p col m1 m2 m3 m4 m5 m6)]) (by simp [results, Try.results17, go_sem, HV.out.1, HV.out.2, *]) rfl ⟨?_, ?_⟩)
      · rfl
      · (repeat (first | with_reducible exact Below.refl _ _ | with_reducible refine balloc ?_ _ | with_reducible refine bdrewN ?_ _ | with_reducible refine Below.drew ?_ | with_reducible refine bthen ?_ (by with_reducible assumption) | with_reducible refine Below.setCell ?_ (by first | (simp; done) | (simp; omega)) _))
  · have hc := hd1
    have hcr := colB_range hc
    rcases bool_ways (isP p) with hd2 | hd2
    · skip
      have c_1 : codeOf p (numsIn p [m1, m2, m3, m4, m5, m6]) = 1 := codeOf_no hd2
      have cN : ∀ b, codeOf p b = 1 := fun b => codeOf_no hd2
      go_wp2_with fail
      refine Calls.mono (isColour_any _ _) ?_
      rintro e w' ⟨rfl, rfl⟩
      go_wp2_with fail
      refine Calls.mono (implMaps1 _ _ _ _ _ _ _ _ _ (by first | rfl | (simp; done))) ?_
      rintro e w1 ⟨rfl, hB1⟩
      (obtain ⟨hB1c, hB1f⟩ := bcell hB1; have hB1s := hB1.size; (try simp at hB1s); (try have hB1q1 := Nat.lt_of_succ_le hB1s); (try have hB1q2 := Nat.lt_of_succ_lt hB1q1); (try have hB1q3 := Nat.lt_of_succ_lt hB1q2); (try have hB1zw0 : w.heap.size < w1.heap.size := (by omega)); (try have hB1zw1 : w.heap.size + 1 < w1.heap.size := (by omega)); (try have hB1zw2 : w.heap.size + 1 + 1 < w1.heap.size := (by omega)); (try have hB1zw3 : w.heap.size + 1 + 1 + 1 < w1.heap.size := (by omega)); (try have hB1zw4 : w.heap.size + 1 + 1 + 1 + 1 < w1.heap.size := (by omega)))
      go_wp2_with fail
      refine Calls.mono (codeFor_any _ _ _) ?_
      rintro e w' ⟨rfl, rfl⟩
      have HV := Lib.hid (im_no (col := col) (m1 := m1) (m2 := m2) (m3 := m3) (m4 := m4) (m5 := m5) (m6 := m6) hd2)
      go_wp2
      (refine bodyPost_ret (v := .tuple #[.bool (imV1 p col m1 m2 m3 m4 m5 m6), .int .i64 (imC p col m1 m2 m3 m4 m5 m6)]) (by simp [results, Try.results17, go_sem, HV.out.1, HV.out.2, *]) rfl ⟨?_, ?_⟩)
      · rfl
      · (repeat (first | with_reducible exact Below.refl _ _ | with_reducible refine balloc ?_ _ | with_reducible refine bdrewN ?_ _ | with_reducible refine Below.drew ?_ | with_reducible refine bthen ?_ (by with_reducible assumption) | with_reducible refine Below.setCell ?_ (by first | (simp; done) | (simp; omega)) _))
    · have hp := hd2
      have hr := isP_range hp
      rcases bool_ways (numsIn p [m1, m2, m3, m4, m5, m6]) with hd3 | hd3
      · skip
        have c_1 : codeOf p (numsIn p [m1, m2, m3, m4, m5, m6]) = 2 := codeOf_out hp (by simp [hd3])
        have cT : codeOf p true = 0 := codeOf_in hp rfl
        have cF : codeOf p false = 2 := codeOf_out hp rfl
        go_wp2_with fail
        refine Calls.mono (isColour_any _ _) ?_
        rintro e w' ⟨rfl, rfl⟩
        go_wp2_with fail
        refine Calls.mono (implMaps1 _ _ _ _ _ _ _ _ _ (by first | rfl | (simp; done))) ?_
        rintro e w1 ⟨rfl, hB1⟩
        (obtain ⟨hB1c, hB1f⟩ := bcell hB1; have hB1s := hB1.size; (try simp at hB1s); (try have hB1q1 := Nat.lt_of_succ_le hB1s); (try have hB1q2 := Nat.lt_of_succ_lt hB1q1); (try have hB1q3 := Nat.lt_of_succ_lt hB1q2); (try have hB1zw0 : w.heap.size < w1.heap.size := (by omega)); (try have hB1zw1 : w.heap.size + 1 < w1.heap.size := (by omega)); (try have hB1zw2 : w.heap.size + 1 + 1 < w1.heap.size := (by omega)); (try have hB1zw3 : w.heap.size + 1 + 1 + 1 < w1.heap.size := (by omega)); (try have hB1zw4 : w.heap.size + 1 + 1 + 1 + 1 < w1.heap.size := (by omega)))
        go_wp2_with fail
        refine Calls.mono (codeFor_any _ _ _) ?_
        rintro e w' ⟨rfl, rfl⟩
        have HV := Lib.hid (im_out (col := col) (m1 := m1) (m2 := m2) (m3 := m3) (m4 := m4) (m5 := m5) (m6 := m6) hp (by simp [imB, hd1, hd2, hd3]))
        go_wp2
        (refine bodyPost_ret (v := .tuple #[.bool (imV1 p col m1 m2 m3 m4 m5 m6), .int .i64 (imC p col m1 m2 m3 m4 m5 m6)]) (by simp [results, Try.results17, go_sem, HV.out.1, HV.out.2, *]) rfl ⟨?_, ?_⟩)
        · rfl
        · (repeat (first | with_reducible exact Below.refl _ _ | with_reducible refine balloc ?_ _ | with_reducible refine bdrewN ?_ _ | with_reducible refine Below.drew ?_ | with_reducible refine bthen ?_ (by with_reducible assumption) | with_reducible refine Below.setCell ?_ (by first | (simp; done) | (simp; omega)) _))
      · have hd3q := nums6 hd3
        have c_1 : codeOf p (numsIn p [m1, m2, m3, m4, m5, m6]) = 0 := codeOf_in hp (by simp [hd3])
        have cT : codeOf p true = 0 := codeOf_in hp rfl
        go_wp2_with fail
        refine Calls.mono (isColour_any _ _) ?_
        rintro e w' ⟨rfl, rfl⟩
        go_wp2_with fail
        refine Calls.mono (implMaps1 _ _ _ _ _ _ _ _ _ (by first | rfl | (simp; done))) ?_
        rintro e w1 ⟨rfl, hB1⟩
        (obtain ⟨hB1c, hB1f⟩ := bcell hB1; have hB1s := hB1.size; (try simp at hB1s); (try have hB1q1 := Nat.lt_of_succ_le hB1s); (try have hB1q2 := Nat.lt_of_succ_lt hB1q1); (try have hB1q3 := Nat.lt_of_succ_lt hB1q2); (try have hB1zw0 : w.heap.size < w1.heap.size := (by omega)); (try have hB1zw1 : w.heap.size + 1 < w1.heap.size := (by omega)); (try have hB1zw2 : w.heap.size + 1 + 1 < w1.heap.size := (by omega)); (try have hB1zw3 : w.heap.size + 1 + 1 + 1 < w1.heap.size := (by omega)); (try have hB1zw4 : w.heap.size + 1 + 1 + 1 + 1 < w1.heap.size := (by omega)))
        go_wp2_with fail
        refine Calls.mono (codeFor_any _ _ _) ?_
        rintro e w' ⟨rfl, rfl⟩
        go_wp2_with fail
        refine Calls.mono (isMove_any _ _ _ _ _ _ _ _ _ hp hc (by omega) (by omega) (by omega) (by omega) (by omega) (by omega)) ?_
        rintro e w2 ⟨rfl, hB2⟩
        (obtain ⟨hB2c, hB2f⟩ := bcell hB2; have hB2s := hB2.size; (try simp at hB2s); (try have hB2q1 := Nat.lt_of_succ_le hB2s); (try have hB2q2 := Nat.lt_of_succ_lt hB2q1); (try have hB2q3 := Nat.lt_of_succ_lt hB2q2); (try have hB2zw0 : w.heap.size < w2.heap.size := (by omega)); (try have hB2zw1 : w.heap.size + 1 < w2.heap.size := (by omega)); (try have hB2zw2 : w.heap.size + 1 + 1 < w2.heap.size := (by omega)); (try have hB2zw3 : w.heap.size + 1 + 1 + 1 < w2.heap.size := (by omega)); (try have hB2zw4 : w.heap.size + 1 + 1 + 1 + 1 < w2.heap.size := (by omega)); (try have hB2zw10 : w1.heap.size < w2.heap.size := (by omega)); (try have hB2zw11 : w1.heap.size + 1 < w2.heap.size := (by omega)); (try have hB2zw12 : w1.heap.size + 1 + 1 < w2.heap.size := (by omega)); (try have hB2zw13 : w1.heap.size + 1 + 1 + 1 < w2.heap.size := (by omega)); (try have hB2zw14 : w1.heap.size + 1 + 1 + 1 + 1 < w2.heap.size := (by omega)))
        have HB : imB p col m1 m2 m3 m4 m5 m6 = true := by simp [imB, hd1, hd2, hd3]
        have HS : imS p col m1 m2 m3 m4 m5 m6 = 0 := by rfl
        have HV := Lib.hid (show imV1 p col m1 m2 m3 m4 m5 m6 = mvB p col m1 m2 m3 m4 ∧ imC p col m1 m2 m3 m4 m5 m6 = 0 from by
          have HG := im_good (col := col) (m1 := m1) (m2 := m2) (m3 := m3) (m4 := m4) (m5 := m5) (m6 := m6) hp HB HS
          refine ⟨(HG.1).trans ?_, HG.2⟩
          all_goals (first | rfl | (simp [hd1, hd2, hd3])))
        clear HB HS
        go_wp2
        (refine bodyPost_ret (v := .tuple #[.bool (imV1 p col m1 m2 m3 m4 m5 m6), .int .i64 (imC p col m1 m2 m3 m4 m5 m6)]) (by simp [results, Try.results17, go_sem, HV.out.1, HV.out.2, *]) rfl ⟨?_, ?_⟩)
        · rfl
        · (repeat (first | with_reducible exact Below.refl _ _ | with_reducible refine balloc ?_ _ | with_reducible refine bdrewN ?_ _ | with_reducible refine Below.drew ?_ | with_reducible refine bthen ?_ (by with_reducible assumption) | with_reducible refine Below.setCell ?_ (by first | (simp; done) | (simp; omega)) _))

end Go.Proofs.Ythfckpfiechloaa
