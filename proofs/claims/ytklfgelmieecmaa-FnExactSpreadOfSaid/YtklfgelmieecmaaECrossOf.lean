/-
  CrossOf: the program's and the model's.
-/
import Derived.Test.YtklfgelmieecmaaImplSpread
import Derived.Test.YtklfgelmieecmaaSpec3Cross
import Derived.Test.YtklfgelmieecmaaSpec3Null
import Derived.Test.YtklfgelmieecmaaSpec3Lins
import Derived.Test.YtklfgelmieecmaaImplLins
import Derived.Test.YtklfgelmieecmaaImplCol
import Derived.Test.YtklfgelmieecmaaCode
import Derived.Deep.RegionHeld3
import Derived.Deep.DeepCutAuto
import Derived.Test.YtklfgelmieecmaaPcMath
namespace Go.Proofs.Ytklfgelmieecmaa
open Go.RowKit

set_option linter.unusedVariables false in
def crB (p col l1 l2 l3 m1 m2 m3 : Int) : Bool := colB col && (lineB p l1 l2 l3 && lineB p m1 m2 m3)
set_option linter.unusedVariables false in
def crS (p col l1 l2 l3 m1 m2 m3 : Int) : Int := crT p col l1 l2 m1 m2
set_option linter.unusedVariables false in
def crC (p col l1 l2 l3 m1 m2 m3 : Int) : Int := if isP p = true then (if crB p col l1 l2 l3 m1 m2 m3 = true then crS p col l1 l2 l3 m1 m2 m3 else 2) else 1
set_option linter.unusedVariables false in
def crZ1 (p col l1 l2 l3 m1 m2 m3 : Int) : Int := if crC p col l1 l2 l3 m1 m2 m3 = 0 then crO p col l1 l2 m1 m2 else 0
theorem cr_zero {p col l1 l2 l3 m1 m2 m3 k : Int} (h : crC p col l1 l2 l3 m1 m2 m3 = k) (hk : k ≠ 0) : crZ1 p col l1 l2 l3 m1 m2 m3 = 0 ∧ crC p col l1 l2 l3 m1 m2 m3 = k := by
  have hn : ¬ (crC p col l1 l2 l3 m1 m2 m3 = 0) := fun e => hk (h.symm.trans e)
  exact ⟨if_neg hn, h⟩
theorem cr_no {p col l1 l2 l3 m1 m2 m3 : Int} (h : isP p = false) : crZ1 p col l1 l2 l3 m1 m2 m3 = 0 ∧ crC p col l1 l2 l3 m1 m2 m3 = 1 := cr_zero (by simp [crC, h]) (by decide)
theorem cr_out {p col l1 l2 l3 m1 m2 m3 : Int} (hp : isP p = true) (h : crB p col l1 l2 l3 m1 m2 m3 = false) : crZ1 p col l1 l2 l3 m1 m2 m3 = 0 ∧ crC p col l1 l2 l3 m1 m2 m3 = 2 := cr_zero (by simp [crC, hp, h]) (by decide)
theorem cr_st {p col l1 l2 l3 m1 m2 m3 k : Int} (hp : isP p = true) (h : crB p col l1 l2 l3 m1 m2 m3 = true) (hs : crS p col l1 l2 l3 m1 m2 m3 = k) (hk : k ≠ 0) : crZ1 p col l1 l2 l3 m1 m2 m3 = 0 ∧ crC p col l1 l2 l3 m1 m2 m3 = k := cr_zero (by simp [crC, hp, h, hs]) hk
theorem cr_good {p col l1 l2 l3 m1 m2 m3 : Int} (hp : isP p = true) (h : crB p col l1 l2 l3 m1 m2 m3 = true) (hs : crS p col l1 l2 l3 m1 m2 m3 = 0) : crZ1 p col l1 l2 l3 m1 m2 m3 = crO p col l1 l2 m1 m2 ∧ crC p col l1 l2 l3 m1 m2 m3 = 0 := by
  have h' : crC p col l1 l2 l3 m1 m2 m3 = 0 := by simp [crC, hp, h, hs]
  exact ⟨if_pos h', h'⟩

set_option linter.unusedSimpArgs false in
set_option maxRecDepth 20000 in
set_option maxHeartbeats 4000000 in
theorem specBoth3_any (p col l1 l2 l3 m1 m2 m3 : Int) (w : World) :
    Calls Try.prog 35 #[.int .i64 p, .int .i64 col, .agg #[.int .i64 l1, .int .i64 l2, .int .i64 l3], .agg #[.int .i64 m1, .int .i64 m2, .int .i64 m3]] w fun e w' =>
      e = .returned (.int .i64 (crC p col l1 l2 l3 m1 m2 m3)) ∧ Below w.heap.size w w' := by
  go_enter Try.func35, Try.ntmps35
  rcases bool_ways (isP p) with hd1 | hd1
  · skip
    have c_1 : codeOf p (colB col && (lineB p l1 l2 l3 && lineB p m1 m2 m3)) = 1 := codeOf_no hd1
    have cN : ∀ b, codeOf p b = 1 := fun b => codeOf_no hd1
    go_wp2_with fail
    refine Calls.mono (spec3Lines2 _ _ _ _ _ _ _ _ _ _ (by first | rfl | (simp; done))) ?_
    rintro e w1 ⟨rfl, hB1⟩
    (obtain ⟨hB1c, hB1f⟩ := bcell hB1; have hB1s := hB1.size; (try simp at hB1s); (try have hB1q1 := Nat.lt_of_succ_le hB1s); (try have hB1q2 := Nat.lt_of_succ_lt hB1q1); (try have hB1q3 := Nat.lt_of_succ_lt hB1q2); (try have hB1zw0 : w.heap.size < w1.heap.size := (by omega)); (try have hB1zw1 : w.heap.size + 1 < w1.heap.size := (by omega)); (try have hB1zw2 : w.heap.size + 1 + 1 < w1.heap.size := (by omega)); (try have hB1zw3 : w.heap.size + 1 + 1 + 1 < w1.heap.size := (by omega)); (try have hB1zw4 : w.heap.size + 1 + 1 + 1 + 1 < w1.heap.size := (by omega)))
    have HV := Lib.hid (show crC p col l1 l2 l3 m1 m2 m3 = 1 from by
      simp [crC, crB, crS, crT, hd1])
    go_wp2
    (refine bodyPost_ret (v := .int .i64 (crC p col l1 l2 l3 m1 m2 m3)) (by simp [results, Try.results35, go_sem, HV.out, *]) rfl ⟨?_, ?_⟩)
    · rfl
    · (repeat (first | with_reducible exact Below.refl _ _ | with_reducible refine balloc ?_ _ | with_reducible refine bdrewN ?_ _ | with_reducible refine Below.drew ?_ | with_reducible refine bthen ?_ (by with_reducible assumption) | with_reducible refine Below.setCell ?_ (by first | (simp; done) | (simp; omega)) _))
  · have hp := hd1
    have hr := isP_range hp
    rcases bool_ways (colB col) with hd2 | hd2
    · skip
      have c_1 : codeOf p (colB col && (lineB p l1 l2 l3 && lineB p m1 m2 m3)) = 2 := codeOf_out hp (by simp [hd2])
      have cT : codeOf p true = 0 := codeOf_in hp rfl
      have cF : codeOf p false = 2 := codeOf_out hp rfl
      go_wp2_with fail
      refine Calls.mono (spec3Lines2 _ _ _ _ _ _ _ _ _ _ (by first | rfl | (simp; done))) ?_
      rintro e w1 ⟨rfl, hB1⟩
      (obtain ⟨hB1c, hB1f⟩ := bcell hB1; have hB1s := hB1.size; (try simp at hB1s); (try have hB1q1 := Nat.lt_of_succ_le hB1s); (try have hB1q2 := Nat.lt_of_succ_lt hB1q1); (try have hB1q3 := Nat.lt_of_succ_lt hB1q2); (try have hB1zw0 : w.heap.size < w1.heap.size := (by omega)); (try have hB1zw1 : w.heap.size + 1 < w1.heap.size := (by omega)); (try have hB1zw2 : w.heap.size + 1 + 1 < w1.heap.size := (by omega)); (try have hB1zw3 : w.heap.size + 1 + 1 + 1 < w1.heap.size := (by omega)); (try have hB1zw4 : w.heap.size + 1 + 1 + 1 + 1 < w1.heap.size := (by omega)))
      have HV := Lib.hid (show crC p col l1 l2 l3 m1 m2 m3 = 2 from by
        simp [crC, crB, crS, crT, hd1, hd2])
      go_wp2
      (refine bodyPost_ret (v := .int .i64 (crC p col l1 l2 l3 m1 m2 m3)) (by simp [results, Try.results35, go_sem, HV.out, *]) rfl ⟨?_, ?_⟩)
      · rfl
      · (repeat (first | with_reducible exact Below.refl _ _ | with_reducible refine balloc ?_ _ | with_reducible refine bdrewN ?_ _ | with_reducible refine Below.drew ?_ | with_reducible refine bthen ?_ (by with_reducible assumption) | with_reducible refine Below.setCell ?_ (by first | (simp; done) | (simp; omega)) _))
    · have hc := hd2
      have hcr := colB_range hc
      rcases bool_ways (lineB p l1 l2 l3) with hd3 | hd3
      · skip
        have c_1 : codeOf p (colB col && (lineB p l1 l2 l3 && lineB p m1 m2 m3)) = 2 := codeOf_out hp (by simp [hd2, hd3])
        have cT : codeOf p true = 0 := codeOf_in hp rfl
        have cF : codeOf p false = 2 := codeOf_out hp rfl
        go_wp2_with fail
        refine Calls.mono (spec3Lines2 _ _ _ _ _ _ _ _ _ _ (by first | rfl | (simp; done))) ?_
        rintro e w1 ⟨rfl, hB1⟩
        (obtain ⟨hB1c, hB1f⟩ := bcell hB1; have hB1s := hB1.size; (try simp at hB1s); (try have hB1q1 := Nat.lt_of_succ_le hB1s); (try have hB1q2 := Nat.lt_of_succ_lt hB1q1); (try have hB1q3 := Nat.lt_of_succ_lt hB1q2); (try have hB1zw0 : w.heap.size < w1.heap.size := (by omega)); (try have hB1zw1 : w.heap.size + 1 < w1.heap.size := (by omega)); (try have hB1zw2 : w.heap.size + 1 + 1 < w1.heap.size := (by omega)); (try have hB1zw3 : w.heap.size + 1 + 1 + 1 < w1.heap.size := (by omega)); (try have hB1zw4 : w.heap.size + 1 + 1 + 1 + 1 < w1.heap.size := (by omega)))
        have HV := Lib.hid (show crC p col l1 l2 l3 m1 m2 m3 = 2 from by
          simp [crC, crB, crS, crT, hd1, hd2, hd3])
        go_wp2
        (refine bodyPost_ret (v := .int .i64 (crC p col l1 l2 l3 m1 m2 m3)) (by simp [results, Try.results35, go_sem, HV.out, *]) rfl ⟨?_, ?_⟩)
        · rfl
        · (repeat (first | with_reducible exact Below.refl _ _ | with_reducible refine balloc ?_ _ | with_reducible refine bdrewN ?_ _ | with_reducible refine Below.drew ?_ | with_reducible refine bthen ?_ (by with_reducible assumption) | with_reducible refine Below.setCell ?_ (by first | (simp; done) | (simp; omega)) _))
      · have hd3q := nums3 (lineB_in hd3).2
        have hd3l := lead_ways (lineB_in hd3).1
        rcases bool_ways (lineB p m1 m2 m3) with hd4 | hd4
        · skip
          have c_1 : codeOf p (colB col && (lineB p l1 l2 l3 && lineB p m1 m2 m3)) = 2 := codeOf_out hp (by simp [hd2, hd3, hd4])
          have cT : codeOf p true = 0 := codeOf_in hp rfl
          have cF : codeOf p false = 2 := codeOf_out hp rfl
          go_wp2_with fail
          refine Calls.mono (spec3Lines2 _ _ _ _ _ _ _ _ _ _ (by first | rfl | (simp; done))) ?_
          rintro e w1 ⟨rfl, hB1⟩
          (obtain ⟨hB1c, hB1f⟩ := bcell hB1; have hB1s := hB1.size; (try simp at hB1s); (try have hB1q1 := Nat.lt_of_succ_le hB1s); (try have hB1q2 := Nat.lt_of_succ_lt hB1q1); (try have hB1q3 := Nat.lt_of_succ_lt hB1q2); (try have hB1zw0 : w.heap.size < w1.heap.size := (by omega)); (try have hB1zw1 : w.heap.size + 1 < w1.heap.size := (by omega)); (try have hB1zw2 : w.heap.size + 1 + 1 < w1.heap.size := (by omega)); (try have hB1zw3 : w.heap.size + 1 + 1 + 1 < w1.heap.size := (by omega)); (try have hB1zw4 : w.heap.size + 1 + 1 + 1 + 1 < w1.heap.size := (by omega)))
          have HV := Lib.hid (show crC p col l1 l2 l3 m1 m2 m3 = 2 from by
            simp [crC, crB, crS, crT, hd1, hd2, hd3, hd4])
          go_wp2
          (refine bodyPost_ret (v := .int .i64 (crC p col l1 l2 l3 m1 m2 m3)) (by simp [results, Try.results35, go_sem, HV.out, *]) rfl ⟨?_, ?_⟩)
          · rfl
          · (repeat (first | with_reducible exact Below.refl _ _ | with_reducible refine balloc ?_ _ | with_reducible refine bdrewN ?_ _ | with_reducible refine Below.drew ?_ | with_reducible refine bthen ?_ (by with_reducible assumption) | with_reducible refine Below.setCell ?_ (by first | (simp; done) | (simp; omega)) _))
        · have hd4q := nums3 (lineB_in hd4).2
          have hd4l := lead_ways (lineB_in hd4).1
          have c_1 : codeOf p (colB col && (lineB p l1 l2 l3 && lineB p m1 m2 m3)) = 0 := codeOf_in hp (by simp [hd2, hd3, hd4])
          have cT : codeOf p true = 0 := codeOf_in hp rfl
          go_wp2_with fail
          refine Calls.mono (spec3Lines2 _ _ _ _ _ _ _ _ _ _ (by first | rfl | (simp; done))) ?_
          rintro e w1 ⟨rfl, hB1⟩
          (obtain ⟨hB1c, hB1f⟩ := bcell hB1; have hB1s := hB1.size; (try simp at hB1s); (try have hB1q1 := Nat.lt_of_succ_le hB1s); (try have hB1q2 := Nat.lt_of_succ_lt hB1q1); (try have hB1q3 := Nat.lt_of_succ_lt hB1q2); (try have hB1zw0 : w.heap.size < w1.heap.size := (by omega)); (try have hB1zw1 : w.heap.size + 1 < w1.heap.size := (by omega)); (try have hB1zw2 : w.heap.size + 1 + 1 < w1.heap.size := (by omega)); (try have hB1zw3 : w.heap.size + 1 + 1 + 1 < w1.heap.size := (by omega)); (try have hB1zw4 : w.heap.size + 1 + 1 + 1 + 1 < w1.heap.size := (by omega)))
          rcases bool_ways (nullB p col l1 l2) with hd5 | hd5
          · skip
            go_wp2_with fail
            refine Calls.mono (specNull_any _ _ _ _ _ _ hp hc (by omega) (by omega)) ?_
            rintro e w2 ⟨rfl, hB2⟩
            (obtain ⟨hB2c, hB2f⟩ := bcell hB2; have hB2s := hB2.size; (try simp at hB2s); (try have hB2q1 := Nat.lt_of_succ_le hB2s); (try have hB2q2 := Nat.lt_of_succ_lt hB2q1); (try have hB2q3 := Nat.lt_of_succ_lt hB2q2); (try have hB2zw0 : w.heap.size < w2.heap.size := (by omega)); (try have hB2zw1 : w.heap.size + 1 < w2.heap.size := (by omega)); (try have hB2zw2 : w.heap.size + 1 + 1 < w2.heap.size := (by omega)); (try have hB2zw3 : w.heap.size + 1 + 1 + 1 < w2.heap.size := (by omega)); (try have hB2zw4 : w.heap.size + 1 + 1 + 1 + 1 < w2.heap.size := (by omega)); (try have hB2zw10 : w1.heap.size < w2.heap.size := (by omega)); (try have hB2zw11 : w1.heap.size + 1 < w2.heap.size := (by omega)); (try have hB2zw12 : w1.heap.size + 1 + 1 < w2.heap.size := (by omega)); (try have hB2zw13 : w1.heap.size + 1 + 1 + 1 < w2.heap.size := (by omega)); (try have hB2zw14 : w1.heap.size + 1 + 1 + 1 + 1 < w2.heap.size := (by omega)))
            go_wp2_with fail
            refine Calls.mono (specNull_any _ _ _ _ _ _ hp hc (by omega) (by omega)) ?_
            rintro e w3 ⟨rfl, hB3⟩
            (obtain ⟨hB3c, hB3f⟩ := bcell hB3; have hB3s := hB3.size; (try simp at hB3s); (try have hB3q1 := Nat.lt_of_succ_le hB3s); (try have hB3q2 := Nat.lt_of_succ_lt hB3q1); (try have hB3q3 := Nat.lt_of_succ_lt hB3q2); (try have hB3zw0 : w.heap.size < w3.heap.size := (by omega)); (try have hB3zw1 : w.heap.size + 1 < w3.heap.size := (by omega)); (try have hB3zw2 : w.heap.size + 1 + 1 < w3.heap.size := (by omega)); (try have hB3zw3 : w.heap.size + 1 + 1 + 1 < w3.heap.size := (by omega)); (try have hB3zw4 : w.heap.size + 1 + 1 + 1 + 1 < w3.heap.size := (by omega)); (try have hB3zw20 : w2.heap.size < w3.heap.size := (by omega)); (try have hB3zw21 : w2.heap.size + 1 < w3.heap.size := (by omega)); (try have hB3zw22 : w2.heap.size + 1 + 1 < w3.heap.size := (by omega)); (try have hB3zw23 : w2.heap.size + 1 + 1 + 1 < w3.heap.size := (by omega)); (try have hB3zw24 : w2.heap.size + 1 + 1 + 1 + 1 < w3.heap.size := (by omega)); (try have hB3zw10 : w1.heap.size < w3.heap.size := (by omega)); (try have hB3zw11 : w1.heap.size + 1 < w3.heap.size := (by omega)); (try have hB3zw12 : w1.heap.size + 1 + 1 < w3.heap.size := (by omega)); (try have hB3zw13 : w1.heap.size + 1 + 1 + 1 < w3.heap.size := (by omega)); (try have hB3zw14 : w1.heap.size + 1 + 1 + 1 + 1 < w3.heap.size := (by omega)))
            rcases bool_ways (nullB p col m1 m2) with hd6 | hd6
            · skip
              have HV := Lib.hid (show crC p col l1 l2 l3 m1 m2 m3 = 0 from by
                simp [crC, crB, crS, crT, hd1, hd2, hd3, hd4, hd5, hd6])
              go_wp2
              (refine bodyPost_ret (v := .int .i64 (crC p col l1 l2 l3 m1 m2 m3)) (by simp [results, Try.results35, go_sem, HV.out, *]) rfl ⟨?_, ?_⟩)
              · rfl
              · (repeat (first | with_reducible exact Below.refl _ _ | with_reducible refine balloc ?_ _ | with_reducible refine bdrewN ?_ _ | with_reducible refine Below.drew ?_ | with_reducible refine bthen ?_ (by with_reducible assumption) | with_reducible refine Below.setCell ?_ (by first | (simp; done) | (simp; omega)) _))
            · skip
              have HV := Lib.hid (show crC p col l1 l2 l3 m1 m2 m3 = 5 from by
                simp [crC, crB, crS, crT, hd1, hd2, hd3, hd4, hd5, hd6])
              go_wp2
              (refine bodyPost_ret (v := .int .i64 (crC p col l1 l2 l3 m1 m2 m3)) (by simp [results, Try.results35, go_sem, HV.out, *]) rfl ⟨?_, ?_⟩)
              · rfl
              · (repeat (first | with_reducible exact Below.refl _ _ | with_reducible refine balloc ?_ _ | with_reducible refine bdrewN ?_ _ | with_reducible refine Below.drew ?_ | with_reducible refine bthen ?_ (by with_reducible assumption) | with_reducible refine Below.setCell ?_ (by first | (simp; done) | (simp; omega)) _))
          · skip
            go_wp2_with fail
            refine Calls.mono (specNull_any _ _ _ _ _ _ hp hc (by omega) (by omega)) ?_
            rintro e w2 ⟨rfl, hB2⟩
            (obtain ⟨hB2c, hB2f⟩ := bcell hB2; have hB2s := hB2.size; (try simp at hB2s); (try have hB2q1 := Nat.lt_of_succ_le hB2s); (try have hB2q2 := Nat.lt_of_succ_lt hB2q1); (try have hB2q3 := Nat.lt_of_succ_lt hB2q2); (try have hB2zw0 : w.heap.size < w2.heap.size := (by omega)); (try have hB2zw1 : w.heap.size + 1 < w2.heap.size := (by omega)); (try have hB2zw2 : w.heap.size + 1 + 1 < w2.heap.size := (by omega)); (try have hB2zw3 : w.heap.size + 1 + 1 + 1 < w2.heap.size := (by omega)); (try have hB2zw4 : w.heap.size + 1 + 1 + 1 + 1 < w2.heap.size := (by omega)); (try have hB2zw10 : w1.heap.size < w2.heap.size := (by omega)); (try have hB2zw11 : w1.heap.size + 1 < w2.heap.size := (by omega)); (try have hB2zw12 : w1.heap.size + 1 + 1 < w2.heap.size := (by omega)); (try have hB2zw13 : w1.heap.size + 1 + 1 + 1 < w2.heap.size := (by omega)); (try have hB2zw14 : w1.heap.size + 1 + 1 + 1 + 1 < w2.heap.size := (by omega)))
            have HV := Lib.hid (show crC p col l1 l2 l3 m1 m2 m3 = 5 from by
              simp [crC, crB, crS, crT, hd1, hd2, hd3, hd4, hd5])
            go_wp2
            (refine bodyPost_ret (v := .int .i64 (crC p col l1 l2 l3 m1 m2 m3)) (by simp [results, Try.results35, go_sem, HV.out, *]) rfl ⟨?_, ?_⟩)
            · rfl
            · (repeat (first | with_reducible exact Below.refl _ _ | with_reducible refine balloc ?_ _ | with_reducible refine bdrewN ?_ _ | with_reducible refine Below.drew ?_ | with_reducible refine bthen ?_ (by with_reducible assumption) | with_reducible refine Below.setCell ?_ (by first | (simp; done) | (simp; omega)) _))

set_option linter.unusedSimpArgs false in
set_option maxRecDepth 20000 in
set_option maxHeartbeats 4000000 in
theorem specCrossOf_any (p col l1 l2 l3 m1 m2 m3 : Int) (w : World) :
    Calls Try.prog 12 #[.int .i64 p, .int .i64 col, .agg #[.int .i64 l1, .int .i64 l2, .int .i64 l3], .agg #[.int .i64 m1, .int .i64 m2, .int .i64 m3]] w fun e w' =>
      e = .returned (.tuple #[.int .i64 (crZ1 p col l1 l2 l3 m1 m2 m3), .int .i64 (crC p col l1 l2 l3 m1 m2 m3)]) ∧ Below w.heap.size w w' := by
  go_enter Try.func12, Try.ntmps12
  rcases bool_ways (isP p) with hd1 | hd1
  · skip
    have c_1 : crC p col l1 l2 l3 m1 m2 m3 = 1 := by simp [crC, crB, crS, crT, hd1]
    go_wp2_with fail
    refine Calls.mono (specBoth3_any _ _ _ _ _ _ _ _ _ ) ?_
    rintro e w1 ⟨rfl, hB1⟩
    (obtain ⟨hB1c, hB1f⟩ := bcell hB1; have hB1s := hB1.size; (try simp at hB1s); (try have hB1q1 := Nat.lt_of_succ_le hB1s); (try have hB1q2 := Nat.lt_of_succ_lt hB1q1); (try have hB1q3 := Nat.lt_of_succ_lt hB1q2); (try have hB1zw0 : w.heap.size < w1.heap.size := (by omega)); (try have hB1zw1 : w.heap.size + 1 < w1.heap.size := (by omega)); (try have hB1zw2 : w.heap.size + 1 + 1 < w1.heap.size := (by omega)); (try have hB1zw3 : w.heap.size + 1 + 1 + 1 < w1.heap.size := (by omega)); (try have hB1zw4 : w.heap.size + 1 + 1 + 1 + 1 < w1.heap.size := (by omega)))
    have HV := Lib.hid (cr_no (col := col) (l1 := l1) (l2 := l2) (l3 := l3) (m1 := m1) (m2 := m2) (m3 := m3) hd1)
    go_wp2
    (refine bodyPost_ret (v := .tuple #[.int .i64 (crZ1 p col l1 l2 l3 m1 m2 m3), .int .i64 (crC p col l1 l2 l3 m1 m2 m3)]) (by simp [results, Try.results12, go_sem, HV.out.1, HV.out.2, *]) rfl ⟨?_, ?_⟩)
    · rfl
    · (repeat (first | with_reducible exact Below.refl _ _ | with_reducible refine balloc ?_ _ | with_reducible refine bdrewN ?_ _ | with_reducible refine Below.drew ?_ | with_reducible refine bthen ?_ (by with_reducible assumption) | with_reducible refine Below.setCell ?_ (by first | (simp; done) | (simp; omega)) _))
  · have hp := hd1
    have hr := isP_range hp
    rcases bool_ways (colB col) with hd2 | hd2
    · skip
      have c_1 : crC p col l1 l2 l3 m1 m2 m3 = 2 := by simp [crC, crB, crS, crT, hd1, hd2]
      go_wp2_with fail
      refine Calls.mono (specBoth3_any _ _ _ _ _ _ _ _ _ ) ?_
      rintro e w1 ⟨rfl, hB1⟩
      (obtain ⟨hB1c, hB1f⟩ := bcell hB1; have hB1s := hB1.size; (try simp at hB1s); (try have hB1q1 := Nat.lt_of_succ_le hB1s); (try have hB1q2 := Nat.lt_of_succ_lt hB1q1); (try have hB1q3 := Nat.lt_of_succ_lt hB1q2); (try have hB1zw0 : w.heap.size < w1.heap.size := (by omega)); (try have hB1zw1 : w.heap.size + 1 < w1.heap.size := (by omega)); (try have hB1zw2 : w.heap.size + 1 + 1 < w1.heap.size := (by omega)); (try have hB1zw3 : w.heap.size + 1 + 1 + 1 < w1.heap.size := (by omega)); (try have hB1zw4 : w.heap.size + 1 + 1 + 1 + 1 < w1.heap.size := (by omega)))
      have HV := Lib.hid (cr_out (col := col) (l1 := l1) (l2 := l2) (l3 := l3) (m1 := m1) (m2 := m2) (m3 := m3) hp (by simp [crB, hd1, hd2]))
      go_wp2
      (refine bodyPost_ret (v := .tuple #[.int .i64 (crZ1 p col l1 l2 l3 m1 m2 m3), .int .i64 (crC p col l1 l2 l3 m1 m2 m3)]) (by simp [results, Try.results12, go_sem, HV.out.1, HV.out.2, *]) rfl ⟨?_, ?_⟩)
      · rfl
      · (repeat (first | with_reducible exact Below.refl _ _ | with_reducible refine balloc ?_ _ | with_reducible refine bdrewN ?_ _ | with_reducible refine Below.drew ?_ | with_reducible refine bthen ?_ (by with_reducible assumption) | with_reducible refine Below.setCell ?_ (by first | (simp; done) | (simp; omega)) _))
    · have hc := hd2
      have hcr := colB_range hc
      rcases bool_ways (lineB p l1 l2 l3) with hd3 | hd3
      · skip
        have c_1 : crC p col l1 l2 l3 m1 m2 m3 = 2 := by simp [crC, crB, crS, crT, hd1, hd2, hd3]
        go_wp2_with fail
        refine Calls.mono (specBoth3_any _ _ _ _ _ _ _ _ _ ) ?_
        rintro e w1 ⟨rfl, hB1⟩
        (obtain ⟨hB1c, hB1f⟩ := bcell hB1; have hB1s := hB1.size; (try simp at hB1s); (try have hB1q1 := Nat.lt_of_succ_le hB1s); (try have hB1q2 := Nat.lt_of_succ_lt hB1q1); (try have hB1q3 := Nat.lt_of_succ_lt hB1q2); (try have hB1zw0 : w.heap.size < w1.heap.size := (by omega)); (try have hB1zw1 : w.heap.size + 1 < w1.heap.size := (by omega)); (try have hB1zw2 : w.heap.size + 1 + 1 < w1.heap.size := (by omega)); (try have hB1zw3 : w.heap.size + 1 + 1 + 1 < w1.heap.size := (by omega)); (try have hB1zw4 : w.heap.size + 1 + 1 + 1 + 1 < w1.heap.size := (by omega)))
        have HV := Lib.hid (cr_out (col := col) (l1 := l1) (l2 := l2) (l3 := l3) (m1 := m1) (m2 := m2) (m3 := m3) hp (by simp [crB, hd1, hd2, hd3]))
        go_wp2
        (refine bodyPost_ret (v := .tuple #[.int .i64 (crZ1 p col l1 l2 l3 m1 m2 m3), .int .i64 (crC p col l1 l2 l3 m1 m2 m3)]) (by simp [results, Try.results12, go_sem, HV.out.1, HV.out.2, *]) rfl ⟨?_, ?_⟩)
        · rfl
        · (repeat (first | with_reducible exact Below.refl _ _ | with_reducible refine balloc ?_ _ | with_reducible refine bdrewN ?_ _ | with_reducible refine Below.drew ?_ | with_reducible refine bthen ?_ (by with_reducible assumption) | with_reducible refine Below.setCell ?_ (by first | (simp; done) | (simp; omega)) _))
      · have hd3q := nums3 (lineB_in hd3).2
        have hd3l := lead_ways (lineB_in hd3).1
        rcases bool_ways (lineB p m1 m2 m3) with hd4 | hd4
        · skip
          have c_1 : crC p col l1 l2 l3 m1 m2 m3 = 2 := by simp [crC, crB, crS, crT, hd1, hd2, hd3, hd4]
          go_wp2_with fail
          refine Calls.mono (specBoth3_any _ _ _ _ _ _ _ _ _ ) ?_
          rintro e w1 ⟨rfl, hB1⟩
          (obtain ⟨hB1c, hB1f⟩ := bcell hB1; have hB1s := hB1.size; (try simp at hB1s); (try have hB1q1 := Nat.lt_of_succ_le hB1s); (try have hB1q2 := Nat.lt_of_succ_lt hB1q1); (try have hB1q3 := Nat.lt_of_succ_lt hB1q2); (try have hB1zw0 : w.heap.size < w1.heap.size := (by omega)); (try have hB1zw1 : w.heap.size + 1 < w1.heap.size := (by omega)); (try have hB1zw2 : w.heap.size + 1 + 1 < w1.heap.size := (by omega)); (try have hB1zw3 : w.heap.size + 1 + 1 + 1 < w1.heap.size := (by omega)); (try have hB1zw4 : w.heap.size + 1 + 1 + 1 + 1 < w1.heap.size := (by omega)))
          have HV := Lib.hid (cr_out (col := col) (l1 := l1) (l2 := l2) (l3 := l3) (m1 := m1) (m2 := m2) (m3 := m3) hp (by simp [crB, hd1, hd2, hd3, hd4]))
          go_wp2
          (refine bodyPost_ret (v := .tuple #[.int .i64 (crZ1 p col l1 l2 l3 m1 m2 m3), .int .i64 (crC p col l1 l2 l3 m1 m2 m3)]) (by simp [results, Try.results12, go_sem, HV.out.1, HV.out.2, *]) rfl ⟨?_, ?_⟩)
          · rfl
          · (repeat (first | with_reducible exact Below.refl _ _ | with_reducible refine balloc ?_ _ | with_reducible refine bdrewN ?_ _ | with_reducible refine Below.drew ?_ | with_reducible refine bthen ?_ (by with_reducible assumption) | with_reducible refine Below.setCell ?_ (by first | (simp; done) | (simp; omega)) _))
        · have hd4q := nums3 (lineB_in hd4).2
          have hd4l := lead_ways (lineB_in hd4).1
          rcases bool_ways (nullB p col l1 l2) with hd5 | hd5
          · skip
            rcases bool_ways (nullB p col m1 m2) with hd6 | hd6
            · skip
              have c_1 : crC p col l1 l2 l3 m1 m2 m3 = 0 := by simp [crC, crB, crS, crT, hd1, hd2, hd3, hd4, hd5, hd6]
              obtain ⟨v1, hv1⟩ : ∃ v : Int, v = crO p col l1 l2 m1 m2 := ⟨_, rfl⟩
              have rv1 := crO_r col l1 l2 m1 m2 hp
              rw [← hv1] at rv1
              have Hv1 := Lib.hid hv1
              clear hv1
              go_wp2_with fail
              refine Calls.mono (specBoth3_any _ _ _ _ _ _ _ _ _ ) ?_
              rintro e w1 ⟨rfl, hB1⟩
              (obtain ⟨hB1c, hB1f⟩ := bcell hB1; have hB1s := hB1.size; (try simp at hB1s); (try have hB1q1 := Nat.lt_of_succ_le hB1s); (try have hB1q2 := Nat.lt_of_succ_lt hB1q1); (try have hB1q3 := Nat.lt_of_succ_lt hB1q2); (try have hB1zw0 : w.heap.size < w1.heap.size := (by omega)); (try have hB1zw1 : w.heap.size + 1 < w1.heap.size := (by omega)); (try have hB1zw2 : w.heap.size + 1 + 1 < w1.heap.size := (by omega)); (try have hB1zw3 : w.heap.size + 1 + 1 + 1 < w1.heap.size := (by omega)); (try have hB1zw4 : w.heap.size + 1 + 1 + 1 + 1 < w1.heap.size := (by omega)))
              go_wp2_with fail
              refine Calls.mono (specCross_any _ _ _ _ _ _ _ _ _ hp hc (by omega) (by omega) (by omega) (by omega)) ?_
              rw [← Hv1.out]
              rintro e w2 ⟨rfl, hB2⟩
              (obtain ⟨hB2c, hB2f⟩ := bcell hB2; have hB2s := hB2.size; (try simp at hB2s); (try have hB2q1 := Nat.lt_of_succ_le hB2s); (try have hB2q2 := Nat.lt_of_succ_lt hB2q1); (try have hB2q3 := Nat.lt_of_succ_lt hB2q2); (try have hB2zw0 : w.heap.size < w2.heap.size := (by omega)); (try have hB2zw1 : w.heap.size + 1 < w2.heap.size := (by omega)); (try have hB2zw2 : w.heap.size + 1 + 1 < w2.heap.size := (by omega)); (try have hB2zw3 : w.heap.size + 1 + 1 + 1 < w2.heap.size := (by omega)); (try have hB2zw4 : w.heap.size + 1 + 1 + 1 + 1 < w2.heap.size := (by omega)); (try have hB2zw10 : w1.heap.size < w2.heap.size := (by omega)); (try have hB2zw11 : w1.heap.size + 1 < w2.heap.size := (by omega)); (try have hB2zw12 : w1.heap.size + 1 + 1 < w2.heap.size := (by omega)); (try have hB2zw13 : w1.heap.size + 1 + 1 + 1 < w2.heap.size := (by omega)); (try have hB2zw14 : w1.heap.size + 1 + 1 + 1 + 1 < w2.heap.size := (by omega)))
              have HB : crB p col l1 l2 l3 m1 m2 m3 = true := by simp [crB, hd1, hd2, hd3, hd4, hd5, hd6]
              have HS : crS p col l1 l2 l3 m1 m2 m3 = 0 := by (simp only [crS, crT, ← Hv1.out] <;> simp [hd1, hd2, hd3, hd4, hd5, hd6])
              have HV := Lib.hid (show crZ1 p col l1 l2 l3 m1 m2 m3 = v1 ∧ crC p col l1 l2 l3 m1 m2 m3 = 0 from by
                have HG := cr_good (col := col) (l1 := l1) (l2 := l2) (l3 := l3) (m1 := m1) (m2 := m2) (m3 := m3) hp HB HS
                refine ⟨(HG.1).trans ?_, HG.2⟩
                all_goals (simp only [← Hv1.out] <;> simp [hd1, hd2, hd3, hd4, hd5, hd6]))
              clear HB HS
              go_wp2
              (refine bodyPost_ret (v := .tuple #[.int .i64 (crZ1 p col l1 l2 l3 m1 m2 m3), .int .i64 (crC p col l1 l2 l3 m1 m2 m3)]) (by simp [results, Try.results12, go_sem, HV.out.1, HV.out.2, *]) rfl ⟨?_, ?_⟩)
              · rfl
              · (repeat (first | with_reducible exact Below.refl _ _ | with_reducible refine balloc ?_ _ | with_reducible refine bdrewN ?_ _ | with_reducible refine Below.drew ?_ | with_reducible refine bthen ?_ (by with_reducible assumption) | with_reducible refine Below.setCell ?_ (by first | (simp; done) | (simp; omega)) _))
            · skip
              have c_1 : crC p col l1 l2 l3 m1 m2 m3 = 5 := by simp [crC, crB, crS, crT, hd1, hd2, hd3, hd4, hd5, hd6]
              go_wp2_with fail
              refine Calls.mono (specBoth3_any _ _ _ _ _ _ _ _ _ ) ?_
              rintro e w1 ⟨rfl, hB1⟩
              (obtain ⟨hB1c, hB1f⟩ := bcell hB1; have hB1s := hB1.size; (try simp at hB1s); (try have hB1q1 := Nat.lt_of_succ_le hB1s); (try have hB1q2 := Nat.lt_of_succ_lt hB1q1); (try have hB1q3 := Nat.lt_of_succ_lt hB1q2); (try have hB1zw0 : w.heap.size < w1.heap.size := (by omega)); (try have hB1zw1 : w.heap.size + 1 < w1.heap.size := (by omega)); (try have hB1zw2 : w.heap.size + 1 + 1 < w1.heap.size := (by omega)); (try have hB1zw3 : w.heap.size + 1 + 1 + 1 < w1.heap.size := (by omega)); (try have hB1zw4 : w.heap.size + 1 + 1 + 1 + 1 < w1.heap.size := (by omega)))
              have HB : crB p col l1 l2 l3 m1 m2 m3 = true := by simp [crB, hd1, hd2, hd3, hd4, hd5, hd6]
              have HS : crS p col l1 l2 l3 m1 m2 m3 = 5 := by (simp only [crS, crT] <;> simp [hd1, hd2, hd3, hd4, hd5, hd6])
              have HV := Lib.hid (cr_st (col := col) (l1 := l1) (l2 := l2) (l3 := l3) (m1 := m1) (m2 := m2) (m3 := m3) hp HB HS (by decide))
              clear HB HS
              go_wp2
              (refine bodyPost_ret (v := .tuple #[.int .i64 (crZ1 p col l1 l2 l3 m1 m2 m3), .int .i64 (crC p col l1 l2 l3 m1 m2 m3)]) (by simp [results, Try.results12, go_sem, HV.out.1, HV.out.2, *]) rfl ⟨?_, ?_⟩)
              · rfl
              · (repeat (first | with_reducible exact Below.refl _ _ | with_reducible refine balloc ?_ _ | with_reducible refine bdrewN ?_ _ | with_reducible refine Below.drew ?_ | with_reducible refine bthen ?_ (by with_reducible assumption) | with_reducible refine Below.setCell ?_ (by first | (simp; done) | (simp; omega)) _))
          · skip
            have c_1 : crC p col l1 l2 l3 m1 m2 m3 = 5 := by simp [crC, crB, crS, crT, hd1, hd2, hd3, hd4, hd5]
            go_wp2_with fail
            refine Calls.mono (specBoth3_any _ _ _ _ _ _ _ _ _ ) ?_
            rintro e w1 ⟨rfl, hB1⟩
            (obtain ⟨hB1c, hB1f⟩ := bcell hB1; have hB1s := hB1.size; (try simp at hB1s); (try have hB1q1 := Nat.lt_of_succ_le hB1s); (try have hB1q2 := Nat.lt_of_succ_lt hB1q1); (try have hB1q3 := Nat.lt_of_succ_lt hB1q2); (try have hB1zw0 : w.heap.size < w1.heap.size := (by omega)); (try have hB1zw1 : w.heap.size + 1 < w1.heap.size := (by omega)); (try have hB1zw2 : w.heap.size + 1 + 1 < w1.heap.size := (by omega)); (try have hB1zw3 : w.heap.size + 1 + 1 + 1 < w1.heap.size := (by omega)); (try have hB1zw4 : w.heap.size + 1 + 1 + 1 + 1 < w1.heap.size := (by omega)))
            have HB : crB p col l1 l2 l3 m1 m2 m3 = true := by simp [crB, hd1, hd2, hd3, hd4, hd5]
            have HS : crS p col l1 l2 l3 m1 m2 m3 = 5 := by (simp only [crS, crT] <;> simp [hd1, hd2, hd3, hd4, hd5])
            have HV := Lib.hid (cr_st (col := col) (l1 := l1) (l2 := l2) (l3 := l3) (m1 := m1) (m2 := m2) (m3 := m3) hp HB HS (by decide))
            clear HB HS
            go_wp2
            (refine bodyPost_ret (v := .tuple #[.int .i64 (crZ1 p col l1 l2 l3 m1 m2 m3), .int .i64 (crC p col l1 l2 l3 m1 m2 m3)]) (by simp [results, Try.results12, go_sem, HV.out.1, HV.out.2, *]) rfl ⟨?_, ?_⟩)
            · rfl
            · (repeat (first | with_reducible exact Below.refl _ _ | with_reducible refine balloc ?_ _ | with_reducible refine bdrewN ?_ _ | with_reducible refine Below.drew ?_ | with_reducible refine bthen ?_ (by with_reducible assumption) | with_reducible refine Below.setCell ?_ (by first | (simp; done) | (simp; omega)) _))

set_option linter.unusedSimpArgs false in
set_option maxRecDepth 20000 in
set_option maxHeartbeats 4000000 in
theorem implCrossOf_any (p col l1 l2 l3 m1 m2 m3 : Int) (w : World) :
    Calls Try.prog 14 #[.int .i64 p, .int .i64 col, .agg #[.int .i64 l1, .int .i64 l2, .int .i64 l3], .agg #[.int .i64 m1, .int .i64 m2, .int .i64 m3]] w fun e w' =>
      e = .returned (.tuple #[.int .i64 (crZ1 p col l1 l2 l3 m1 m2 m3), .int .i64 (crC p col l1 l2 l3 m1 m2 m3)]) ∧ Below w.heap.size w w' := by
  go_enter Try.func14, Try.ntmps14
  rcases bool_ways (colB col) with hd1 | hd1
  · skip
    rcases bool_ways (isP p) with hd2 | hd2
    · skip
      have c_1 : codeOf p false = 1 := codeOf_no hd2
      have cN : ∀ b, codeOf p b = 1 := fun b => codeOf_no hd2
      go_wp2_with fail
      refine Calls.mono (isColour_any _ _) ?_
      rintro e w' ⟨rfl, rfl⟩
      go_wp2_with fail
      refine Calls.mono (codeFor_any _ _ _) ?_
      rintro e w' ⟨rfl, rfl⟩
      have HV := Lib.hid (cr_no (col := col) (l1 := l1) (l2 := l2) (l3 := l3) (m1 := m1) (m2 := m2) (m3 := m3) hd2)
      go_wp2
      (refine bodyPost_ret (v := .tuple #[.int .i64 (crZ1 p col l1 l2 l3 m1 m2 m3), .int .i64 (crC p col l1 l2 l3 m1 m2 m3)]) (by simp [results, Try.results14, go_sem, HV.out.1, HV.out.2, *]) rfl ⟨?_, ?_⟩)
      · rfl
      · (repeat (first | with_reducible exact Below.refl _ _ | with_reducible refine balloc ?_ _ | with_reducible refine bdrewN ?_ _ | with_reducible refine Below.drew ?_ | with_reducible refine bthen ?_ (by with_reducible assumption) | with_reducible refine Below.setCell ?_ (by first | (simp; done) | (simp; omega)) _))
    · have hp := hd2
      have hr := isP_range hp
      have c_1 : codeOf p false = 2 := codeOf_out hp (by simp)
      have cT : codeOf p true = 0 := codeOf_in hp rfl
      have cF : codeOf p false = 2 := codeOf_out hp rfl
      go_wp2_with fail
      refine Calls.mono (isColour_any _ _) ?_
      rintro e w' ⟨rfl, rfl⟩
      go_wp2_with fail
      refine Calls.mono (codeFor_any _ _ _) ?_
      rintro e w' ⟨rfl, rfl⟩
      have HV := Lib.hid (cr_out (col := col) (l1 := l1) (l2 := l2) (l3 := l3) (m1 := m1) (m2 := m2) (m3 := m3) hp (by simp [crB, hd1, hd2]))
      go_wp2
      (refine bodyPost_ret (v := .tuple #[.int .i64 (crZ1 p col l1 l2 l3 m1 m2 m3), .int .i64 (crC p col l1 l2 l3 m1 m2 m3)]) (by simp [results, Try.results14, go_sem, HV.out.1, HV.out.2, *]) rfl ⟨?_, ?_⟩)
      · rfl
      · (repeat (first | with_reducible exact Below.refl _ _ | with_reducible refine balloc ?_ _ | with_reducible refine bdrewN ?_ _ | with_reducible refine Below.drew ?_ | with_reducible refine bthen ?_ (by with_reducible assumption) | with_reducible refine Below.setCell ?_ (by first | (simp; done) | (simp; omega)) _))
  · have hc := hd1
    have hcr := colB_range hc
    rcases bool_ways (lineB p l1 l2 l3) with hd2 | hd2
    · skip
      rcases bool_ways (lineB p m1 m2 m3) with hd3 | hd3
      · skip
        rcases bool_ways (isP p) with hd4 | hd4
        · skip
          have c_1 : codeOf p false = 1 := codeOf_no hd4
          have cN : ∀ b, codeOf p b = 1 := fun b => codeOf_no hd4
          go_wp2_with fail
          refine Calls.mono (isColour_any _ _) ?_
          rintro e w' ⟨rfl, rfl⟩
          go_wp2_with fail
          refine Calls.mono (implLines2 _ _ _ _ _ _ _ _ _ (by first | rfl | (simp; done))) ?_
          rintro e w1 ⟨rfl, hB1⟩
          (obtain ⟨hB1c, hB1f⟩ := bcell hB1; have hB1s := hB1.size; (try simp at hB1s); (try have hB1q1 := Nat.lt_of_succ_le hB1s); (try have hB1q2 := Nat.lt_of_succ_lt hB1q1); (try have hB1q3 := Nat.lt_of_succ_lt hB1q2); (try have hB1zw0 : w.heap.size < w1.heap.size := (by omega)); (try have hB1zw1 : w.heap.size + 1 < w1.heap.size := (by omega)); (try have hB1zw2 : w.heap.size + 1 + 1 < w1.heap.size := (by omega)); (try have hB1zw3 : w.heap.size + 1 + 1 + 1 < w1.heap.size := (by omega)); (try have hB1zw4 : w.heap.size + 1 + 1 + 1 + 1 < w1.heap.size := (by omega)))
          go_wp2_with fail
          refine Calls.mono (codeFor_any _ _ _) ?_
          rintro e w' ⟨rfl, rfl⟩
          have HV := Lib.hid (cr_no (col := col) (l1 := l1) (l2 := l2) (l3 := l3) (m1 := m1) (m2 := m2) (m3 := m3) hd4)
          go_wp2
          (refine bodyPost_ret (v := .tuple #[.int .i64 (crZ1 p col l1 l2 l3 m1 m2 m3), .int .i64 (crC p col l1 l2 l3 m1 m2 m3)]) (by simp [results, Try.results14, go_sem, HV.out.1, HV.out.2, *]) rfl ⟨?_, ?_⟩)
          · rfl
          · (repeat (first | with_reducible exact Below.refl _ _ | with_reducible refine balloc ?_ _ | with_reducible refine bdrewN ?_ _ | with_reducible refine Below.drew ?_ | with_reducible refine bthen ?_ (by with_reducible assumption) | with_reducible refine Below.setCell ?_ (by first | (simp; done) | (simp; omega)) _))
        · have hp := hd4
          have hr := isP_range hp
          have c_1 : codeOf p false = 2 := codeOf_out hp (by simp)
          have cT : codeOf p true = 0 := codeOf_in hp rfl
          have cF : codeOf p false = 2 := codeOf_out hp rfl
          go_wp2_with fail
          refine Calls.mono (isColour_any _ _) ?_
          rintro e w' ⟨rfl, rfl⟩
          go_wp2_with fail
          refine Calls.mono (implLines2 _ _ _ _ _ _ _ _ _ (by first | rfl | (simp; done))) ?_
          rintro e w1 ⟨rfl, hB1⟩
          (obtain ⟨hB1c, hB1f⟩ := bcell hB1; have hB1s := hB1.size; (try simp at hB1s); (try have hB1q1 := Nat.lt_of_succ_le hB1s); (try have hB1q2 := Nat.lt_of_succ_lt hB1q1); (try have hB1q3 := Nat.lt_of_succ_lt hB1q2); (try have hB1zw0 : w.heap.size < w1.heap.size := (by omega)); (try have hB1zw1 : w.heap.size + 1 < w1.heap.size := (by omega)); (try have hB1zw2 : w.heap.size + 1 + 1 < w1.heap.size := (by omega)); (try have hB1zw3 : w.heap.size + 1 + 1 + 1 < w1.heap.size := (by omega)); (try have hB1zw4 : w.heap.size + 1 + 1 + 1 + 1 < w1.heap.size := (by omega)))
          go_wp2_with fail
          refine Calls.mono (codeFor_any _ _ _) ?_
          rintro e w' ⟨rfl, rfl⟩
          have HV := Lib.hid (cr_out (col := col) (l1 := l1) (l2 := l2) (l3 := l3) (m1 := m1) (m2 := m2) (m3 := m3) hp (by simp [crB, hd1, hd2, hd3, hd4]))
          go_wp2
          (refine bodyPost_ret (v := .tuple #[.int .i64 (crZ1 p col l1 l2 l3 m1 m2 m3), .int .i64 (crC p col l1 l2 l3 m1 m2 m3)]) (by simp [results, Try.results14, go_sem, HV.out.1, HV.out.2, *]) rfl ⟨?_, ?_⟩)
          · rfl
          · (repeat (first | with_reducible exact Below.refl _ _ | with_reducible refine balloc ?_ _ | with_reducible refine bdrewN ?_ _ | with_reducible refine Below.drew ?_ | with_reducible refine bthen ?_ (by with_reducible assumption) | with_reducible refine Below.setCell ?_ (by first | (simp; done) | (simp; omega)) _))
      · have hd3q := nums3 (lineB_in hd3).2
        have hd3l := lead_ways (lineB_in hd3).1
        rcases bool_ways (isP p) with hd4 | hd4
        · skip
          have c_1 : codeOf p false = 1 := codeOf_no hd4
          have cN : ∀ b, codeOf p b = 1 := fun b => codeOf_no hd4
          go_wp2_with fail
          refine Calls.mono (isColour_any _ _) ?_
          rintro e w' ⟨rfl, rfl⟩
          go_wp2_with fail
          refine Calls.mono (implLines2 _ _ _ _ _ _ _ _ _ (by first | rfl | (simp; done))) ?_
          rintro e w1 ⟨rfl, hB1⟩
          (obtain ⟨hB1c, hB1f⟩ := bcell hB1; have hB1s := hB1.size; (try simp at hB1s); (try have hB1q1 := Nat.lt_of_succ_le hB1s); (try have hB1q2 := Nat.lt_of_succ_lt hB1q1); (try have hB1q3 := Nat.lt_of_succ_lt hB1q2); (try have hB1zw0 : w.heap.size < w1.heap.size := (by omega)); (try have hB1zw1 : w.heap.size + 1 < w1.heap.size := (by omega)); (try have hB1zw2 : w.heap.size + 1 + 1 < w1.heap.size := (by omega)); (try have hB1zw3 : w.heap.size + 1 + 1 + 1 < w1.heap.size := (by omega)); (try have hB1zw4 : w.heap.size + 1 + 1 + 1 + 1 < w1.heap.size := (by omega)))
          go_wp2_with fail
          refine Calls.mono (codeFor_any _ _ _) ?_
          rintro e w' ⟨rfl, rfl⟩
          have HV := Lib.hid (cr_no (col := col) (l1 := l1) (l2 := l2) (l3 := l3) (m1 := m1) (m2 := m2) (m3 := m3) hd4)
          go_wp2
          (refine bodyPost_ret (v := .tuple #[.int .i64 (crZ1 p col l1 l2 l3 m1 m2 m3), .int .i64 (crC p col l1 l2 l3 m1 m2 m3)]) (by simp [results, Try.results14, go_sem, HV.out.1, HV.out.2, *]) rfl ⟨?_, ?_⟩)
          · rfl
          · (repeat (first | with_reducible exact Below.refl _ _ | with_reducible refine balloc ?_ _ | with_reducible refine bdrewN ?_ _ | with_reducible refine Below.drew ?_ | with_reducible refine bthen ?_ (by with_reducible assumption) | with_reducible refine Below.setCell ?_ (by first | (simp; done) | (simp; omega)) _))
        · have hp := hd4
          have hr := isP_range hp
          have c_1 : codeOf p false = 2 := codeOf_out hp (by simp)
          have cT : codeOf p true = 0 := codeOf_in hp rfl
          have cF : codeOf p false = 2 := codeOf_out hp rfl
          go_wp2_with fail
          refine Calls.mono (isColour_any _ _) ?_
          rintro e w' ⟨rfl, rfl⟩
          go_wp2_with fail
          refine Calls.mono (implLines2 _ _ _ _ _ _ _ _ _ (by first | rfl | (simp; done))) ?_
          rintro e w1 ⟨rfl, hB1⟩
          (obtain ⟨hB1c, hB1f⟩ := bcell hB1; have hB1s := hB1.size; (try simp at hB1s); (try have hB1q1 := Nat.lt_of_succ_le hB1s); (try have hB1q2 := Nat.lt_of_succ_lt hB1q1); (try have hB1q3 := Nat.lt_of_succ_lt hB1q2); (try have hB1zw0 : w.heap.size < w1.heap.size := (by omega)); (try have hB1zw1 : w.heap.size + 1 < w1.heap.size := (by omega)); (try have hB1zw2 : w.heap.size + 1 + 1 < w1.heap.size := (by omega)); (try have hB1zw3 : w.heap.size + 1 + 1 + 1 < w1.heap.size := (by omega)); (try have hB1zw4 : w.heap.size + 1 + 1 + 1 + 1 < w1.heap.size := (by omega)))
          go_wp2_with fail
          refine Calls.mono (codeFor_any _ _ _) ?_
          rintro e w' ⟨rfl, rfl⟩
          have HV := Lib.hid (cr_out (col := col) (l1 := l1) (l2 := l2) (l3 := l3) (m1 := m1) (m2 := m2) (m3 := m3) hp (by simp [crB, hd1, hd2, hd3, hd4]))
          go_wp2
          (refine bodyPost_ret (v := .tuple #[.int .i64 (crZ1 p col l1 l2 l3 m1 m2 m3), .int .i64 (crC p col l1 l2 l3 m1 m2 m3)]) (by simp [results, Try.results14, go_sem, HV.out.1, HV.out.2, *]) rfl ⟨?_, ?_⟩)
          · rfl
          · (repeat (first | with_reducible exact Below.refl _ _ | with_reducible refine balloc ?_ _ | with_reducible refine bdrewN ?_ _ | with_reducible refine Below.drew ?_ | with_reducible refine bthen ?_ (by with_reducible assumption) | with_reducible refine Below.setCell ?_ (by first | (simp; done) | (simp; omega)) _))
    · have hd2q := nums3 (lineB_in hd2).2
      have hd2l := lead_ways (lineB_in hd2).1
      rcases bool_ways (lineB p m1 m2 m3) with hd3 | hd3
      · skip
        rcases bool_ways (isP p) with hd4 | hd4
        · skip
          have c_1 : codeOf p false = 1 := codeOf_no hd4
          have cN : ∀ b, codeOf p b = 1 := fun b => codeOf_no hd4
          go_wp2_with fail
          refine Calls.mono (isColour_any _ _) ?_
          rintro e w' ⟨rfl, rfl⟩
          go_wp2_with fail
          refine Calls.mono (implLines2 _ _ _ _ _ _ _ _ _ (by first | rfl | (simp; done))) ?_
          rintro e w1 ⟨rfl, hB1⟩
          (obtain ⟨hB1c, hB1f⟩ := bcell hB1; have hB1s := hB1.size; (try simp at hB1s); (try have hB1q1 := Nat.lt_of_succ_le hB1s); (try have hB1q2 := Nat.lt_of_succ_lt hB1q1); (try have hB1q3 := Nat.lt_of_succ_lt hB1q2); (try have hB1zw0 : w.heap.size < w1.heap.size := (by omega)); (try have hB1zw1 : w.heap.size + 1 < w1.heap.size := (by omega)); (try have hB1zw2 : w.heap.size + 1 + 1 < w1.heap.size := (by omega)); (try have hB1zw3 : w.heap.size + 1 + 1 + 1 < w1.heap.size := (by omega)); (try have hB1zw4 : w.heap.size + 1 + 1 + 1 + 1 < w1.heap.size := (by omega)))
          go_wp2_with fail
          refine Calls.mono (codeFor_any _ _ _) ?_
          rintro e w' ⟨rfl, rfl⟩
          have HV := Lib.hid (cr_no (col := col) (l1 := l1) (l2 := l2) (l3 := l3) (m1 := m1) (m2 := m2) (m3 := m3) hd4)
          go_wp2
          (refine bodyPost_ret (v := .tuple #[.int .i64 (crZ1 p col l1 l2 l3 m1 m2 m3), .int .i64 (crC p col l1 l2 l3 m1 m2 m3)]) (by simp [results, Try.results14, go_sem, HV.out.1, HV.out.2, *]) rfl ⟨?_, ?_⟩)
          · rfl
          · (repeat (first | with_reducible exact Below.refl _ _ | with_reducible refine balloc ?_ _ | with_reducible refine bdrewN ?_ _ | with_reducible refine Below.drew ?_ | with_reducible refine bthen ?_ (by with_reducible assumption) | with_reducible refine Below.setCell ?_ (by first | (simp; done) | (simp; omega)) _))
        · have hp := hd4
          have hr := isP_range hp
          have c_1 : codeOf p false = 2 := codeOf_out hp (by simp)
          have cT : codeOf p true = 0 := codeOf_in hp rfl
          have cF : codeOf p false = 2 := codeOf_out hp rfl
          go_wp2_with fail
          refine Calls.mono (isColour_any _ _) ?_
          rintro e w' ⟨rfl, rfl⟩
          go_wp2_with fail
          refine Calls.mono (implLines2 _ _ _ _ _ _ _ _ _ (by first | rfl | (simp; done))) ?_
          rintro e w1 ⟨rfl, hB1⟩
          (obtain ⟨hB1c, hB1f⟩ := bcell hB1; have hB1s := hB1.size; (try simp at hB1s); (try have hB1q1 := Nat.lt_of_succ_le hB1s); (try have hB1q2 := Nat.lt_of_succ_lt hB1q1); (try have hB1q3 := Nat.lt_of_succ_lt hB1q2); (try have hB1zw0 : w.heap.size < w1.heap.size := (by omega)); (try have hB1zw1 : w.heap.size + 1 < w1.heap.size := (by omega)); (try have hB1zw2 : w.heap.size + 1 + 1 < w1.heap.size := (by omega)); (try have hB1zw3 : w.heap.size + 1 + 1 + 1 < w1.heap.size := (by omega)); (try have hB1zw4 : w.heap.size + 1 + 1 + 1 + 1 < w1.heap.size := (by omega)))
          go_wp2_with fail
          refine Calls.mono (codeFor_any _ _ _) ?_
          rintro e w' ⟨rfl, rfl⟩
          have HV := Lib.hid (cr_out (col := col) (l1 := l1) (l2 := l2) (l3 := l3) (m1 := m1) (m2 := m2) (m3 := m3) hp (by simp [crB, hd1, hd2, hd3, hd4]))
          go_wp2
          (refine bodyPost_ret (v := .tuple #[.int .i64 (crZ1 p col l1 l2 l3 m1 m2 m3), .int .i64 (crC p col l1 l2 l3 m1 m2 m3)]) (by simp [results, Try.results14, go_sem, HV.out.1, HV.out.2, *]) rfl ⟨?_, ?_⟩)
          · rfl
          · (repeat (first | with_reducible exact Below.refl _ _ | with_reducible refine balloc ?_ _ | with_reducible refine bdrewN ?_ _ | with_reducible refine Below.drew ?_ | with_reducible refine bthen ?_ (by with_reducible assumption) | with_reducible refine Below.setCell ?_ (by first | (simp; done) | (simp; omega)) _))
      · have hd3q := nums3 (lineB_in hd3).2
        have hd3l := lead_ways (lineB_in hd3).1
        rcases bool_ways (isP p) with hd4 | hd4
        · skip
          have c_1 : codeOf p true = 1 := codeOf_no hd4
          have cN : ∀ b, codeOf p b = 1 := fun b => codeOf_no hd4
          go_wp2_with fail
          refine Calls.mono (isColour_any _ _) ?_
          rintro e w' ⟨rfl, rfl⟩
          go_wp2_with fail
          refine Calls.mono (implLines2 _ _ _ _ _ _ _ _ _ (by first | rfl | (simp; done))) ?_
          rintro e w1 ⟨rfl, hB1⟩
          (obtain ⟨hB1c, hB1f⟩ := bcell hB1; have hB1s := hB1.size; (try simp at hB1s); (try have hB1q1 := Nat.lt_of_succ_le hB1s); (try have hB1q2 := Nat.lt_of_succ_lt hB1q1); (try have hB1q3 := Nat.lt_of_succ_lt hB1q2); (try have hB1zw0 : w.heap.size < w1.heap.size := (by omega)); (try have hB1zw1 : w.heap.size + 1 < w1.heap.size := (by omega)); (try have hB1zw2 : w.heap.size + 1 + 1 < w1.heap.size := (by omega)); (try have hB1zw3 : w.heap.size + 1 + 1 + 1 < w1.heap.size := (by omega)); (try have hB1zw4 : w.heap.size + 1 + 1 + 1 + 1 < w1.heap.size := (by omega)))
          go_wp2_with fail
          refine Calls.mono (codeFor_any _ _ _) ?_
          rintro e w' ⟨rfl, rfl⟩
          have HV := Lib.hid (cr_no (col := col) (l1 := l1) (l2 := l2) (l3 := l3) (m1 := m1) (m2 := m2) (m3 := m3) hd4)
          go_wp2
          (refine bodyPost_ret (v := .tuple #[.int .i64 (crZ1 p col l1 l2 l3 m1 m2 m3), .int .i64 (crC p col l1 l2 l3 m1 m2 m3)]) (by simp [results, Try.results14, go_sem, HV.out.1, HV.out.2, *]) rfl ⟨?_, ?_⟩)
          · rfl
          · (repeat (first | with_reducible exact Below.refl _ _ | with_reducible refine balloc ?_ _ | with_reducible refine bdrewN ?_ _ | with_reducible refine Below.drew ?_ | with_reducible refine bthen ?_ (by with_reducible assumption) | with_reducible refine Below.setCell ?_ (by first | (simp; done) | (simp; omega)) _))
        · have hp := hd4
          have hr := isP_range hp
          have c_1 : codeOf p true = 0 := codeOf_in hp (by simp)
          have cT : codeOf p true = 0 := codeOf_in hp rfl
          go_wp2_with fail
          refine Calls.mono (isColour_any _ _) ?_
          rintro e w' ⟨rfl, rfl⟩
          go_wp2_with fail
          refine Calls.mono (implLines2 _ _ _ _ _ _ _ _ _ (by first | rfl | (simp; done))) ?_
          rintro e w1 ⟨rfl, hB1⟩
          (obtain ⟨hB1c, hB1f⟩ := bcell hB1; have hB1s := hB1.size; (try simp at hB1s); (try have hB1q1 := Nat.lt_of_succ_le hB1s); (try have hB1q2 := Nat.lt_of_succ_lt hB1q1); (try have hB1q3 := Nat.lt_of_succ_lt hB1q2); (try have hB1zw0 : w.heap.size < w1.heap.size := (by omega)); (try have hB1zw1 : w.heap.size + 1 < w1.heap.size := (by omega)); (try have hB1zw2 : w.heap.size + 1 + 1 < w1.heap.size := (by omega)); (try have hB1zw3 : w.heap.size + 1 + 1 + 1 < w1.heap.size := (by omega)); (try have hB1zw4 : w.heap.size + 1 + 1 + 1 + 1 < w1.heap.size := (by omega)))
          go_wp2_with fail
          refine Calls.mono (codeFor_any _ _ _) ?_
          rintro e w' ⟨rfl, rfl⟩
          rcases bool_ways (nullB p col l1 l2) with hd5 | hd5
          · skip
            rcases bool_ways (nullB p col m1 m2) with hd6 | hd6
            · skip
              have c_2 : crT p col l1 l2 m1 m2 = 0 := by simp [crT, crV, hd5, hd6]
              obtain ⟨v1, hv1⟩ : ∃ v : Int, v = crO p col l1 l2 m1 m2 := ⟨_, rfl⟩
              have rv1 := crO_r col l1 l2 m1 m2 hp
              rw [← hv1] at rv1
              have Hv1 := Lib.hid hv1
              clear hv1
              have c_3 : crV p col l1 l2 m1 m2 = v1 := by rw [Hv1.out]; simp [crT, crV, hd5, hd6]
              go_upto_region 4 with fail
              go_cut [8, 9] (fun s8 s9 wx => s8 = .int .i64 v1 ∧ s9 = .int .i64 0 ∧ (wx.cell? ⟨w.heap.size, 0, none⟩ = some (.int .i64 l1) ∧ wx.cell? ⟨w.heap.size, 1, none⟩ = some (.int .i64 l2) ∧ wx.cell? ⟨w.heap.size, 2, none⟩ = some (.int .i64 l3) ∧ wx.cell? ⟨w.heap.size + 1, 0, none⟩ = some (.int .i64 m1) ∧ wx.cell? ⟨w.heap.size + 1, 1, none⟩ = some (.int .i64 m2) ∧ wx.cell? ⟨w.heap.size + 1, 2, none⟩ = some (.int .i64 m3)) ∧ Below w.heap.size w wx)
              case first =>
                have kb0_0 : w1.cell? ⟨w.heap.size, 0, none⟩ = some (.int .i64 l1) := by (first | with_reducible assumption | (repeat (first | with_reducible assumption | ((with_reducible refine kfresh ?_ ?_) <;> (first | with_reducible rfl | (simp; done))) | with_reducible refine ksame (u := .int .i64 0) ?_ | with_reducible refine kother (by decide) ?_ | with_reducible refine kset (by first | omega | (simp; done) | (simp; omega)) ?_ | with_reducible refine kalloc _ ?_ | with_reducible refine kdrew ?_ | with_reducible refine kcall (by with_reducible assumption) ?_)))
                have kb0_1 : w1.cell? ⟨w.heap.size, 1, none⟩ = some (.int .i64 l2) := by (first | with_reducible assumption | (repeat (first | with_reducible assumption | ((with_reducible refine kfresh ?_ ?_) <;> (first | with_reducible rfl | (simp; done))) | with_reducible refine ksame (u := .int .i64 0) ?_ | with_reducible refine kother (by decide) ?_ | with_reducible refine kset (by first | omega | (simp; done) | (simp; omega)) ?_ | with_reducible refine kalloc _ ?_ | with_reducible refine kdrew ?_ | with_reducible refine kcall (by with_reducible assumption) ?_)))
                have kb0_2 : w1.cell? ⟨w.heap.size, 2, none⟩ = some (.int .i64 l3) := by (first | with_reducible assumption | (repeat (first | with_reducible assumption | ((with_reducible refine kfresh ?_ ?_) <;> (first | with_reducible rfl | (simp; done))) | with_reducible refine ksame (u := .int .i64 0) ?_ | with_reducible refine kother (by decide) ?_ | with_reducible refine kset (by first | omega | (simp; done) | (simp; omega)) ?_ | with_reducible refine kalloc _ ?_ | with_reducible refine kdrew ?_ | with_reducible refine kcall (by with_reducible assumption) ?_)))
                have kb1_0 : w1.cell? ⟨w.heap.size + 1, 0, none⟩ = some (.int .i64 m1) := by (first | with_reducible assumption | (repeat (first | with_reducible assumption | ((with_reducible refine kfresh ?_ ?_) <;> (first | with_reducible rfl | (simp; done))) | with_reducible refine ksame (u := .int .i64 0) ?_ | with_reducible refine kother (by decide) ?_ | with_reducible refine kset (by first | omega | (simp; done) | (simp; omega)) ?_ | with_reducible refine kalloc _ ?_ | with_reducible refine kdrew ?_ | with_reducible refine kcall (by with_reducible assumption) ?_)))
                have kb1_1 : w1.cell? ⟨w.heap.size + 1, 1, none⟩ = some (.int .i64 m2) := by (first | with_reducible assumption | (repeat (first | with_reducible assumption | ((with_reducible refine kfresh ?_ ?_) <;> (first | with_reducible rfl | (simp; done))) | with_reducible refine ksame (u := .int .i64 0) ?_ | with_reducible refine kother (by decide) ?_ | with_reducible refine kset (by first | omega | (simp; done) | (simp; omega)) ?_ | with_reducible refine kalloc _ ?_ | with_reducible refine kdrew ?_ | with_reducible refine kcall (by with_reducible assumption) ?_)))
                have kb1_2 : w1.cell? ⟨w.heap.size + 1, 2, none⟩ = some (.int .i64 m3) := by (first | with_reducible assumption | (repeat (first | with_reducible assumption | ((with_reducible refine kfresh ?_ ?_) <;> (first | with_reducible rfl | (simp; done))) | with_reducible refine ksame (u := .int .i64 0) ?_ | with_reducible refine kother (by decide) ?_ | with_reducible refine kset (by first | omega | (simp; done) | (simp; omega)) ?_ | with_reducible refine kalloc _ ?_ | with_reducible refine kdrew ?_ | with_reducible refine kcall (by with_reducible assumption) ?_)))
                have hW : Below w.heap.size w w1 := by (repeat (first | with_reducible exact Below.refl _ _ | with_reducible refine balloc ?_ _ | with_reducible refine bdrewN ?_ _ | with_reducible refine Below.drew ?_ | with_reducible refine bthen ?_ (by with_reducible assumption) | with_reducible refine Below.setCell ?_ (by first | (simp; done) | (simp; omega)) _))
                go_region_held3 (fun W => W.cell? ⟨w.heap.size, 0, none⟩ = some (.int .i64 l1) ∧ W.cell? ⟨w.heap.size, 1, none⟩ = some (.int .i64 l2) ∧ W.cell? ⟨w.heap.size, 2, none⟩ = some (.int .i64 l3) ∧ W.cell? ⟨w.heap.size + 1, 0, none⟩ = some (.int .i64 m1) ∧ W.cell? ⟨w.heap.size + 1, 1, none⟩ = some (.int .i64 m2) ∧ W.cell? ⟨w.heap.size + 1, 2, none⟩ = some (.int .i64 m3)) (first | (refine ⟨?_, ?_, ?_, ?_, ?_, ?_⟩ <;> ((try with_reducible refine kdrew ?_); (repeat with_reducible refine kalloc _ ?_); with_reducible assumption)) | (first | with_reducible assumption | with_reducible exact (And.imp (kcall hB) (And.imp (kcall hB) (And.imp (kcall hB) (And.imp (kcall hB) (And.imp (kcall hB) ((kcall hB))))))) (by with_reducible assumption) | with_reducible exact (And.imp (kalloc _) (And.imp (kalloc _) (And.imp (kalloc _) (And.imp (kalloc _) (And.imp (kalloc _) ((kalloc _))))))) (by with_reducible assumption) | with_reducible exact (And.imp (krealloc (by first | omega | (simp; done) | (simp; omega))) (And.imp (krealloc (by first | omega | (simp; done) | (simp; omega))) (And.imp (krealloc (by first | omega | (simp; done) | (simp; omega))) (And.imp (krealloc (by first | omega | (simp; done) | (simp; omega))) (And.imp (krealloc (by first | omega | (simp; done) | (simp; omega))) ((krealloc (by first | omega | (simp; done) | (simp; omega))))))))) (by with_reducible assumption) | with_reducible exact (And.imp (fun h => kdrew (kalloc _ (kundrew h))) (And.imp (fun h => kdrew (kalloc _ (kundrew h))) (And.imp (fun h => kdrew (kalloc _ (kundrew h))) (And.imp (fun h => kdrew (kalloc _ (kundrew h))) (And.imp (fun h => kdrew (kalloc _ (kundrew h))) ((fun h => kdrew (kalloc _ (kundrew h))))))))) (by with_reducible assumption) | with_reducible exact (And.imp (fun h => kdrew (krealloc (by first | omega | (simp; done) | (simp; omega)) (kundrew h))) (And.imp (fun h => kdrew (krealloc (by first | omega | (simp; done) | (simp; omega)) (kundrew h))) (And.imp (fun h => kdrew (krealloc (by first | omega | (simp; done) | (simp; omega)) (kundrew h))) (And.imp (fun h => kdrew (krealloc (by first | omega | (simp; done) | (simp; omega)) (kundrew h))) (And.imp (fun h => kdrew (krealloc (by first | omega | (simp; done) | (simp; omega)) (kundrew h))) ((fun h => kdrew (krealloc (by first | omega | (simp; done) | (simp; omega)) (kundrew h))))))))) (by with_reducible assumption) | with_reducible exact (And.imp (fun h => kset (by first | omega | (simp; done) | (simp; omega)) (kset (by first | omega | (simp; done) | (simp; omega)) (kset (by first | omega | (simp; done) | (simp; omega)) h))) (And.imp (fun h => kset (by first | omega | (simp; done) | (simp; omega)) (kset (by first | omega | (simp; done) | (simp; omega)) (kset (by first | omega | (simp; done) | (simp; omega)) h))) (And.imp (fun h => kset (by first | omega | (simp; done) | (simp; omega)) (kset (by first | omega | (simp; done) | (simp; omega)) (kset (by first | omega | (simp; done) | (simp; omega)) h))) (And.imp (fun h => kset (by first | omega | (simp; done) | (simp; omega)) (kset (by first | omega | (simp; done) | (simp; omega)) (kset (by first | omega | (simp; done) | (simp; omega)) h))) (And.imp (fun h => kset (by first | omega | (simp; done) | (simp; omega)) (kset (by first | omega | (simp; done) | (simp; omega)) (kset (by first | omega | (simp; done) | (simp; omega)) h))) ((fun h => kset (by first | omega | (simp; done) | (simp; omega)) (kset (by first | omega | (simp; done) | (simp; omega)) (kset (by first | omega | (simp; done) | (simp; omega)) h))))))))) (by with_reducible assumption) | with_reducible exact (And.imp (fun h => kset (by first | omega | (simp; done) | (simp; omega)) (kset (by first | omega | (simp; done) | (simp; omega)) h)) (And.imp (fun h => kset (by first | omega | (simp; done) | (simp; omega)) (kset (by first | omega | (simp; done) | (simp; omega)) h)) (And.imp (fun h => kset (by first | omega | (simp; done) | (simp; omega)) (kset (by first | omega | (simp; done) | (simp; omega)) h)) (And.imp (fun h => kset (by first | omega | (simp; done) | (simp; omega)) (kset (by first | omega | (simp; done) | (simp; omega)) h)) (And.imp (fun h => kset (by first | omega | (simp; done) | (simp; omega)) (kset (by first | omega | (simp; done) | (simp; omega)) h)) ((fun h => kset (by first | omega | (simp; done) | (simp; omega)) (kset (by first | omega | (simp; done) | (simp; omega)) h)))))))) (by with_reducible assumption) | with_reducible exact (And.imp (fun h => kset (by first | omega | (simp; done) | (simp; omega)) h) (And.imp (fun h => kset (by first | omega | (simp; done) | (simp; omega)) h) (And.imp (fun h => kset (by first | omega | (simp; done) | (simp; omega)) h) (And.imp (fun h => kset (by first | omega | (simp; done) | (simp; omega)) h) (And.imp (fun h => kset (by first | omega | (simp; done) | (simp; omega)) h) ((fun h => kset (by first | omega | (simp; done) | (simp; omega)) h))))))) (by with_reducible assumption) | with_reducible exact (And.imp (fun h => kalloc _ (kset (by first | omega | (simp; done) | (simp; omega)) (kset (by first | omega | (simp; done) | (simp; omega)) (kback (by first | omega | (simp; done) | (simp; omega)) h)))) (And.imp (fun h => kalloc _ (kset (by first | omega | (simp; done) | (simp; omega)) (kset (by first | omega | (simp; done) | (simp; omega)) (kback (by first | omega | (simp; done) | (simp; omega)) h)))) (And.imp (fun h => kalloc _ (kset (by first | omega | (simp; done) | (simp; omega)) (kset (by first | omega | (simp; done) | (simp; omega)) (kback (by first | omega | (simp; done) | (simp; omega)) h)))) (And.imp (fun h => kalloc _ (kset (by first | omega | (simp; done) | (simp; omega)) (kset (by first | omega | (simp; done) | (simp; omega)) (kback (by first | omega | (simp; done) | (simp; omega)) h)))) (And.imp (fun h => kalloc _ (kset (by first | omega | (simp; done) | (simp; omega)) (kset (by first | omega | (simp; done) | (simp; omega)) (kback (by first | omega | (simp; done) | (simp; omega)) h)))) ((fun h => kalloc _ (kset (by first | omega | (simp; done) | (simp; omega)) (kset (by first | omega | (simp; done) | (simp; omega)) (kback (by first | omega | (simp; done) | (simp; omega)) h)))))))))) (by with_reducible assumption) | with_reducible exact (And.imp (fun h => kalloc _ (kset (by first | omega | (simp; done) | (simp; omega)) (kset (by first | omega | (simp; done) | (simp; omega)) (kset (by first | omega | (simp; done) | (simp; omega)) (kback (by first | omega | (simp; done) | (simp; omega)) h))))) (And.imp (fun h => kalloc _ (kset (by first | omega | (simp; done) | (simp; omega)) (kset (by first | omega | (simp; done) | (simp; omega)) (kset (by first | omega | (simp; done) | (simp; omega)) (kback (by first | omega | (simp; done) | (simp; omega)) h))))) (And.imp (fun h => kalloc _ (kset (by first | omega | (simp; done) | (simp; omega)) (kset (by first | omega | (simp; done) | (simp; omega)) (kset (by first | omega | (simp; done) | (simp; omega)) (kback (by first | omega | (simp; done) | (simp; omega)) h))))) (And.imp (fun h => kalloc _ (kset (by first | omega | (simp; done) | (simp; omega)) (kset (by first | omega | (simp; done) | (simp; omega)) (kset (by first | omega | (simp; done) | (simp; omega)) (kback (by first | omega | (simp; done) | (simp; omega)) h))))) (And.imp (fun h => kalloc _ (kset (by first | omega | (simp; done) | (simp; omega)) (kset (by first | omega | (simp; done) | (simp; omega)) (kset (by first | omega | (simp; done) | (simp; omega)) (kback (by first | omega | (simp; done) | (simp; omega)) h))))) ((fun h => kalloc _ (kset (by first | omega | (simp; done) | (simp; omega)) (kset (by first | omega | (simp; done) | (simp; omega)) (kset (by first | omega | (simp; done) | (simp; omega)) (kback (by first | omega | (simp; done) | (simp; omega)) h))))))))))) (by with_reducible assumption) | with_reducible exact (And.imp (fun h => kalloc _ (kalloc _ (kback (by first | omega | (simp; done) | (simp; omega)) (kback (by first | omega | (simp; done) | (simp; omega)) h)))) (And.imp (fun h => kalloc _ (kalloc _ (kback (by first | omega | (simp; done) | (simp; omega)) (kback (by first | omega | (simp; done) | (simp; omega)) h)))) (And.imp (fun h => kalloc _ (kalloc _ (kback (by first | omega | (simp; done) | (simp; omega)) (kback (by first | omega | (simp; done) | (simp; omega)) h)))) (And.imp (fun h => kalloc _ (kalloc _ (kback (by first | omega | (simp; done) | (simp; omega)) (kback (by first | omega | (simp; done) | (simp; omega)) h)))) (And.imp (fun h => kalloc _ (kalloc _ (kback (by first | omega | (simp; done) | (simp; omega)) (kback (by first | omega | (simp; done) | (simp; omega)) h)))) ((fun h => kalloc _ (kalloc _ (kback (by first | omega | (simp; done) | (simp; omega)) (kback (by first | omega | (simp; done) | (simp; omega)) h)))))))))) (by with_reducible assumption) | with_reducible exact (And.imp (fun h => kdrew (kalloc _ (kalloc _ (kback (by first | omega | (simp; done) | (simp; omega)) (kback (by first | omega | (simp; done) | (simp; omega)) (kundrew h)))))) (And.imp (fun h => kdrew (kalloc _ (kalloc _ (kback (by first | omega | (simp; done) | (simp; omega)) (kback (by first | omega | (simp; done) | (simp; omega)) (kundrew h)))))) (And.imp (fun h => kdrew (kalloc _ (kalloc _ (kback (by first | omega | (simp; done) | (simp; omega)) (kback (by first | omega | (simp; done) | (simp; omega)) (kundrew h)))))) (And.imp (fun h => kdrew (kalloc _ (kalloc _ (kback (by first | omega | (simp; done) | (simp; omega)) (kback (by first | omega | (simp; done) | (simp; omega)) (kundrew h)))))) (And.imp (fun h => kdrew (kalloc _ (kalloc _ (kback (by first | omega | (simp; done) | (simp; omega)) (kback (by first | omega | (simp; done) | (simp; omega)) (kundrew h)))))) ((fun h => kdrew (kalloc _ (kalloc _ (kback (by first | omega | (simp; done) | (simp; omega)) (kback (by first | omega | (simp; done) | (simp; omega)) (kundrew h)))))))))))) (by with_reducible assumption) | (simp; done) | (refine ⟨?_, ?_, ?_, ?_, ?_, ?_⟩ <;> (refine kdrew ?_; repeat (first | exact kfresh (by first | rfl | (simp; done)) (by rfl) | refine kalloc _ ?_)); done))) (first | (go_at_call 41; refine Calls.mono (shadeOf_any _ _ hc) ?_; rintro e wq ⟨rfl, hB⟩; (obtain ⟨hBc, hBf⟩ := bcell hB; have hBs := hB.size; (try simp at hBs); (try have hBq1 := Nat.lt_of_succ_le hBs); (try have hBq2 := Nat.lt_of_succ_lt hBq1); (try have hBq3 := Nat.lt_of_succ_lt hBq2); (try have hBzw0 : w.heap.size < wq.heap.size := (by omega)); (try have hBzw1 : w.heap.size + 1 < wq.heap.size := (by omega)); (try have hBzw2 : w.heap.size + 1 + 1 < wq.heap.size := (by omega)); (try have hBzw3 : w.heap.size + 1 + 1 + 1 < wq.heap.size := (by omega)); (try have hBzw4 : w.heap.size + 1 + 1 + 1 + 1 < wq.heap.size := (by omega)); (try have hBzw10 : w1.heap.size < wq.heap.size := (by omega)); (try have hBzw11 : w1.heap.size + 1 < wq.heap.size := (by omega)); (try have hBzw12 : w1.heap.size + 1 + 1 < wq.heap.size := (by omega)); (try have hBzw13 : w1.heap.size + 1 + 1 + 1 < wq.heap.size := (by omega)); (try have hBzw14 : w1.heap.size + 1 + 1 + 1 + 1 < wq.heap.size := (by omega)))) | (go_at_call 40; refine Calls.mono (cross_any _ _ _ _ _ _ _ _ _ hp hc (by omega) (by omega) (by omega) (by omega)) ?_; rintro e wq ⟨rfl, hB⟩; (obtain ⟨hBc, hBf⟩ := bcell hB; have hBs := hB.size; (try simp at hBs); (try have hBq1 := Nat.lt_of_succ_le hBs); (try have hBq2 := Nat.lt_of_succ_lt hBq1); (try have hBq3 := Nat.lt_of_succ_lt hBq2); (try have hBzw0 : w.heap.size < wq.heap.size := (by omega)); (try have hBzw1 : w.heap.size + 1 < wq.heap.size := (by omega)); (try have hBzw2 : w.heap.size + 1 + 1 < wq.heap.size := (by omega)); (try have hBzw3 : w.heap.size + 1 + 1 + 1 < wq.heap.size := (by omega)); (try have hBzw4 : w.heap.size + 1 + 1 + 1 + 1 < wq.heap.size := (by omega)); (try have hBzw10 : w1.heap.size < wq.heap.size := (by omega)); (try have hBzw11 : w1.heap.size + 1 < wq.heap.size := (by omega)); (try have hBzw12 : w1.heap.size + 1 + 1 < wq.heap.size := (by omega)); (try have hBzw13 : w1.heap.size + 1 + 1 + 1 < wq.heap.size := (by omega)); (try have hBzw14 : w1.heap.size + 1 + 1 + 1 + 1 < wq.heap.size := (by omega)))))
                all_goals
                  go_wp2_with fail
                  go_meet
                  refine ⟨rfl, rfl, by with_reducible assumption, ?_⟩
                  · (repeat (first | with_reducible exact Below.refl _ _ | with_reducible exact hW | with_reducible refine balloc ?_ _ | with_reducible refine bdrewN ?_ _ | with_reducible refine Below.drew ?_ | with_reducible refine bthen ?_ (by with_reducible assumption) | with_reducible refine Below.setCell ?_ (by first | (simp; done) | (simp; omega)) _))
              case' rest => obtain ⟨rfl, rfl, ⟨bA0, bA1, bA2, bA3, bA4, bA5⟩, hxA⟩ := hcut
              obtain ⟨wA, rfl⟩ : ∃ wA : World, wA = wc := ⟨_, rfl⟩
              have lA_1 : w.heap.size < wA.heap.size := World.block_lt_of_cell? wA ⟨w.heap.size, 0, none⟩ bA0
              have lA_2 : w.heap.size + 1 < wA.heap.size := World.block_lt_of_cell? wA ⟨w.heap.size + 1, 0, none⟩ bA3
              have HB : crB p col l1 l2 l3 m1 m2 m3 = true := by simp [crB, hd1, hd2, hd3, hd4, hd5, hd6]
              have HS : crS p col l1 l2 l3 m1 m2 m3 = 0 := by (simp only [crS, crT, ← Hv1.out] <;> simp [hd1, hd2, hd3, hd4, hd5, hd6])
              have HV := Lib.hid (show crZ1 p col l1 l2 l3 m1 m2 m3 = v1 ∧ crC p col l1 l2 l3 m1 m2 m3 = 0 from by
                have HG := cr_good (col := col) (l1 := l1) (l2 := l2) (l3 := l3) (m1 := m1) (m2 := m2) (m3 := m3) hp HB HS
                refine ⟨(HG.1).trans ?_, HG.2⟩
                all_goals (simp only [← Hv1.out] <;> simp [hd1, hd2, hd3, hd4, hd5, hd6]))
              clear HB HS
              go_wp2
              (refine bodyPost_ret (v := .tuple #[.int .i64 (crZ1 p col l1 l2 l3 m1 m2 m3), .int .i64 (crC p col l1 l2 l3 m1 m2 m3)]) (by simp [results, Try.results14, go_sem, HV.out.1, HV.out.2, *]) rfl ⟨?_, ?_⟩)
              · rfl
              · (repeat (first | with_reducible exact Below.refl _ _ | with_reducible exact hxA | with_reducible refine balloc ?_ _ | with_reducible refine bdrewN ?_ _ | with_reducible refine Below.drew ?_ | with_reducible refine bthen ?_ (by with_reducible assumption) | with_reducible refine Below.setCell ?_ (by first | (simp; done) | (simp; omega)) _))
            · skip
              have c_2 : crT p col l1 l2 m1 m2 = 5 := by simp [crT, crV, hd5, hd6]
              have c_3 : crV p col l1 l2 m1 m2 = 0 := by simp [crT, crV, hd5, hd6]
              go_upto_region 4 with fail
              go_cut [8, 9] (fun s8 s9 wx => s8 = .int .i64 0 ∧ s9 = .int .i64 5 ∧ (wx.cell? ⟨w.heap.size, 0, none⟩ = some (.int .i64 l1) ∧ wx.cell? ⟨w.heap.size, 1, none⟩ = some (.int .i64 l2) ∧ wx.cell? ⟨w.heap.size, 2, none⟩ = some (.int .i64 l3) ∧ wx.cell? ⟨w.heap.size + 1, 0, none⟩ = some (.int .i64 m1) ∧ wx.cell? ⟨w.heap.size + 1, 1, none⟩ = some (.int .i64 m2) ∧ wx.cell? ⟨w.heap.size + 1, 2, none⟩ = some (.int .i64 m3)) ∧ Below w.heap.size w wx)
              case first =>
                have kb0_0 : w1.cell? ⟨w.heap.size, 0, none⟩ = some (.int .i64 l1) := by (first | with_reducible assumption | (repeat (first | with_reducible assumption | ((with_reducible refine kfresh ?_ ?_) <;> (first | with_reducible rfl | (simp; done))) | with_reducible refine ksame (u := .int .i64 0) ?_ | with_reducible refine kother (by decide) ?_ | with_reducible refine kset (by first | omega | (simp; done) | (simp; omega)) ?_ | with_reducible refine kalloc _ ?_ | with_reducible refine kdrew ?_ | with_reducible refine kcall (by with_reducible assumption) ?_)))
                have kb0_1 : w1.cell? ⟨w.heap.size, 1, none⟩ = some (.int .i64 l2) := by (first | with_reducible assumption | (repeat (first | with_reducible assumption | ((with_reducible refine kfresh ?_ ?_) <;> (first | with_reducible rfl | (simp; done))) | with_reducible refine ksame (u := .int .i64 0) ?_ | with_reducible refine kother (by decide) ?_ | with_reducible refine kset (by first | omega | (simp; done) | (simp; omega)) ?_ | with_reducible refine kalloc _ ?_ | with_reducible refine kdrew ?_ | with_reducible refine kcall (by with_reducible assumption) ?_)))
                have kb0_2 : w1.cell? ⟨w.heap.size, 2, none⟩ = some (.int .i64 l3) := by (first | with_reducible assumption | (repeat (first | with_reducible assumption | ((with_reducible refine kfresh ?_ ?_) <;> (first | with_reducible rfl | (simp; done))) | with_reducible refine ksame (u := .int .i64 0) ?_ | with_reducible refine kother (by decide) ?_ | with_reducible refine kset (by first | omega | (simp; done) | (simp; omega)) ?_ | with_reducible refine kalloc _ ?_ | with_reducible refine kdrew ?_ | with_reducible refine kcall (by with_reducible assumption) ?_)))
                have kb1_0 : w1.cell? ⟨w.heap.size + 1, 0, none⟩ = some (.int .i64 m1) := by (first | with_reducible assumption | (repeat (first | with_reducible assumption | ((with_reducible refine kfresh ?_ ?_) <;> (first | with_reducible rfl | (simp; done))) | with_reducible refine ksame (u := .int .i64 0) ?_ | with_reducible refine kother (by decide) ?_ | with_reducible refine kset (by first | omega | (simp; done) | (simp; omega)) ?_ | with_reducible refine kalloc _ ?_ | with_reducible refine kdrew ?_ | with_reducible refine kcall (by with_reducible assumption) ?_)))
                have kb1_1 : w1.cell? ⟨w.heap.size + 1, 1, none⟩ = some (.int .i64 m2) := by (first | with_reducible assumption | (repeat (first | with_reducible assumption | ((with_reducible refine kfresh ?_ ?_) <;> (first | with_reducible rfl | (simp; done))) | with_reducible refine ksame (u := .int .i64 0) ?_ | with_reducible refine kother (by decide) ?_ | with_reducible refine kset (by first | omega | (simp; done) | (simp; omega)) ?_ | with_reducible refine kalloc _ ?_ | with_reducible refine kdrew ?_ | with_reducible refine kcall (by with_reducible assumption) ?_)))
                have kb1_2 : w1.cell? ⟨w.heap.size + 1, 2, none⟩ = some (.int .i64 m3) := by (first | with_reducible assumption | (repeat (first | with_reducible assumption | ((with_reducible refine kfresh ?_ ?_) <;> (first | with_reducible rfl | (simp; done))) | with_reducible refine ksame (u := .int .i64 0) ?_ | with_reducible refine kother (by decide) ?_ | with_reducible refine kset (by first | omega | (simp; done) | (simp; omega)) ?_ | with_reducible refine kalloc _ ?_ | with_reducible refine kdrew ?_ | with_reducible refine kcall (by with_reducible assumption) ?_)))
                have hW : Below w.heap.size w w1 := by (repeat (first | with_reducible exact Below.refl _ _ | with_reducible refine balloc ?_ _ | with_reducible refine bdrewN ?_ _ | with_reducible refine Below.drew ?_ | with_reducible refine bthen ?_ (by with_reducible assumption) | with_reducible refine Below.setCell ?_ (by first | (simp; done) | (simp; omega)) _))
                go_region_held3 (fun W => W.cell? ⟨w.heap.size, 0, none⟩ = some (.int .i64 l1) ∧ W.cell? ⟨w.heap.size, 1, none⟩ = some (.int .i64 l2) ∧ W.cell? ⟨w.heap.size, 2, none⟩ = some (.int .i64 l3) ∧ W.cell? ⟨w.heap.size + 1, 0, none⟩ = some (.int .i64 m1) ∧ W.cell? ⟨w.heap.size + 1, 1, none⟩ = some (.int .i64 m2) ∧ W.cell? ⟨w.heap.size + 1, 2, none⟩ = some (.int .i64 m3)) (first | (refine ⟨?_, ?_, ?_, ?_, ?_, ?_⟩ <;> ((try with_reducible refine kdrew ?_); (repeat with_reducible refine kalloc _ ?_); with_reducible assumption)) | (first | with_reducible assumption | with_reducible exact (And.imp (kcall hB) (And.imp (kcall hB) (And.imp (kcall hB) (And.imp (kcall hB) (And.imp (kcall hB) ((kcall hB))))))) (by with_reducible assumption) | with_reducible exact (And.imp (kalloc _) (And.imp (kalloc _) (And.imp (kalloc _) (And.imp (kalloc _) (And.imp (kalloc _) ((kalloc _))))))) (by with_reducible assumption) | with_reducible exact (And.imp (krealloc (by first | omega | (simp; done) | (simp; omega))) (And.imp (krealloc (by first | omega | (simp; done) | (simp; omega))) (And.imp (krealloc (by first | omega | (simp; done) | (simp; omega))) (And.imp (krealloc (by first | omega | (simp; done) | (simp; omega))) (And.imp (krealloc (by first | omega | (simp; done) | (simp; omega))) ((krealloc (by first | omega | (simp; done) | (simp; omega))))))))) (by with_reducible assumption) | with_reducible exact (And.imp (fun h => kdrew (kalloc _ (kundrew h))) (And.imp (fun h => kdrew (kalloc _ (kundrew h))) (And.imp (fun h => kdrew (kalloc _ (kundrew h))) (And.imp (fun h => kdrew (kalloc _ (kundrew h))) (And.imp (fun h => kdrew (kalloc _ (kundrew h))) ((fun h => kdrew (kalloc _ (kundrew h))))))))) (by with_reducible assumption) | with_reducible exact (And.imp (fun h => kdrew (krealloc (by first | omega | (simp; done) | (simp; omega)) (kundrew h))) (And.imp (fun h => kdrew (krealloc (by first | omega | (simp; done) | (simp; omega)) (kundrew h))) (And.imp (fun h => kdrew (krealloc (by first | omega | (simp; done) | (simp; omega)) (kundrew h))) (And.imp (fun h => kdrew (krealloc (by first | omega | (simp; done) | (simp; omega)) (kundrew h))) (And.imp (fun h => kdrew (krealloc (by first | omega | (simp; done) | (simp; omega)) (kundrew h))) ((fun h => kdrew (krealloc (by first | omega | (simp; done) | (simp; omega)) (kundrew h))))))))) (by with_reducible assumption) | with_reducible exact (And.imp (fun h => kset (by first | omega | (simp; done) | (simp; omega)) (kset (by first | omega | (simp; done) | (simp; omega)) (kset (by first | omega | (simp; done) | (simp; omega)) h))) (And.imp (fun h => kset (by first | omega | (simp; done) | (simp; omega)) (kset (by first | omega | (simp; done) | (simp; omega)) (kset (by first | omega | (simp; done) | (simp; omega)) h))) (And.imp (fun h => kset (by first | omega | (simp; done) | (simp; omega)) (kset (by first | omega | (simp; done) | (simp; omega)) (kset (by first | omega | (simp; done) | (simp; omega)) h))) (And.imp (fun h => kset (by first | omega | (simp; done) | (simp; omega)) (kset (by first | omega | (simp; done) | (simp; omega)) (kset (by first | omega | (simp; done) | (simp; omega)) h))) (And.imp (fun h => kset (by first | omega | (simp; done) | (simp; omega)) (kset (by first | omega | (simp; done) | (simp; omega)) (kset (by first | omega | (simp; done) | (simp; omega)) h))) ((fun h => kset (by first | omega | (simp; done) | (simp; omega)) (kset (by first | omega | (simp; done) | (simp; omega)) (kset (by first | omega | (simp; done) | (simp; omega)) h))))))))) (by with_reducible assumption) | with_reducible exact (And.imp (fun h => kset (by first | omega | (simp; done) | (simp; omega)) (kset (by first | omega | (simp; done) | (simp; omega)) h)) (And.imp (fun h => kset (by first | omega | (simp; done) | (simp; omega)) (kset (by first | omega | (simp; done) | (simp; omega)) h)) (And.imp (fun h => kset (by first | omega | (simp; done) | (simp; omega)) (kset (by first | omega | (simp; done) | (simp; omega)) h)) (And.imp (fun h => kset (by first | omega | (simp; done) | (simp; omega)) (kset (by first | omega | (simp; done) | (simp; omega)) h)) (And.imp (fun h => kset (by first | omega | (simp; done) | (simp; omega)) (kset (by first | omega | (simp; done) | (simp; omega)) h)) ((fun h => kset (by first | omega | (simp; done) | (simp; omega)) (kset (by first | omega | (simp; done) | (simp; omega)) h)))))))) (by with_reducible assumption) | with_reducible exact (And.imp (fun h => kset (by first | omega | (simp; done) | (simp; omega)) h) (And.imp (fun h => kset (by first | omega | (simp; done) | (simp; omega)) h) (And.imp (fun h => kset (by first | omega | (simp; done) | (simp; omega)) h) (And.imp (fun h => kset (by first | omega | (simp; done) | (simp; omega)) h) (And.imp (fun h => kset (by first | omega | (simp; done) | (simp; omega)) h) ((fun h => kset (by first | omega | (simp; done) | (simp; omega)) h))))))) (by with_reducible assumption) | with_reducible exact (And.imp (fun h => kalloc _ (kset (by first | omega | (simp; done) | (simp; omega)) (kset (by first | omega | (simp; done) | (simp; omega)) (kback (by first | omega | (simp; done) | (simp; omega)) h)))) (And.imp (fun h => kalloc _ (kset (by first | omega | (simp; done) | (simp; omega)) (kset (by first | omega | (simp; done) | (simp; omega)) (kback (by first | omega | (simp; done) | (simp; omega)) h)))) (And.imp (fun h => kalloc _ (kset (by first | omega | (simp; done) | (simp; omega)) (kset (by first | omega | (simp; done) | (simp; omega)) (kback (by first | omega | (simp; done) | (simp; omega)) h)))) (And.imp (fun h => kalloc _ (kset (by first | omega | (simp; done) | (simp; omega)) (kset (by first | omega | (simp; done) | (simp; omega)) (kback (by first | omega | (simp; done) | (simp; omega)) h)))) (And.imp (fun h => kalloc _ (kset (by first | omega | (simp; done) | (simp; omega)) (kset (by first | omega | (simp; done) | (simp; omega)) (kback (by first | omega | (simp; done) | (simp; omega)) h)))) ((fun h => kalloc _ (kset (by first | omega | (simp; done) | (simp; omega)) (kset (by first | omega | (simp; done) | (simp; omega)) (kback (by first | omega | (simp; done) | (simp; omega)) h)))))))))) (by with_reducible assumption) | with_reducible exact (And.imp (fun h => kalloc _ (kset (by first | omega | (simp; done) | (simp; omega)) (kset (by first | omega | (simp; done) | (simp; omega)) (kset (by first | omega | (simp; done) | (simp; omega)) (kback (by first | omega | (simp; done) | (simp; omega)) h))))) (And.imp (fun h => kalloc _ (kset (by first | omega | (simp; done) | (simp; omega)) (kset (by first | omega | (simp; done) | (simp; omega)) (kset (by first | omega | (simp; done) | (simp; omega)) (kback (by first | omega | (simp; done) | (simp; omega)) h))))) (And.imp (fun h => kalloc _ (kset (by first | omega | (simp; done) | (simp; omega)) (kset (by first | omega | (simp; done) | (simp; omega)) (kset (by first | omega | (simp; done) | (simp; omega)) (kback (by first | omega | (simp; done) | (simp; omega)) h))))) (And.imp (fun h => kalloc _ (kset (by first | omega | (simp; done) | (simp; omega)) (kset (by first | omega | (simp; done) | (simp; omega)) (kset (by first | omega | (simp; done) | (simp; omega)) (kback (by first | omega | (simp; done) | (simp; omega)) h))))) (And.imp (fun h => kalloc _ (kset (by first | omega | (simp; done) | (simp; omega)) (kset (by first | omega | (simp; done) | (simp; omega)) (kset (by first | omega | (simp; done) | (simp; omega)) (kback (by first | omega | (simp; done) | (simp; omega)) h))))) ((fun h => kalloc _ (kset (by first | omega | (simp; done) | (simp; omega)) (kset (by first | omega | (simp; done) | (simp; omega)) (kset (by first | omega | (simp; done) | (simp; omega)) (kback (by first | omega | (simp; done) | (simp; omega)) h))))))))))) (by with_reducible assumption) | with_reducible exact (And.imp (fun h => kalloc _ (kalloc _ (kback (by first | omega | (simp; done) | (simp; omega)) (kback (by first | omega | (simp; done) | (simp; omega)) h)))) (And.imp (fun h => kalloc _ (kalloc _ (kback (by first | omega | (simp; done) | (simp; omega)) (kback (by first | omega | (simp; done) | (simp; omega)) h)))) (And.imp (fun h => kalloc _ (kalloc _ (kback (by first | omega | (simp; done) | (simp; omega)) (kback (by first | omega | (simp; done) | (simp; omega)) h)))) (And.imp (fun h => kalloc _ (kalloc _ (kback (by first | omega | (simp; done) | (simp; omega)) (kback (by first | omega | (simp; done) | (simp; omega)) h)))) (And.imp (fun h => kalloc _ (kalloc _ (kback (by first | omega | (simp; done) | (simp; omega)) (kback (by first | omega | (simp; done) | (simp; omega)) h)))) ((fun h => kalloc _ (kalloc _ (kback (by first | omega | (simp; done) | (simp; omega)) (kback (by first | omega | (simp; done) | (simp; omega)) h)))))))))) (by with_reducible assumption) | with_reducible exact (And.imp (fun h => kdrew (kalloc _ (kalloc _ (kback (by first | omega | (simp; done) | (simp; omega)) (kback (by first | omega | (simp; done) | (simp; omega)) (kundrew h)))))) (And.imp (fun h => kdrew (kalloc _ (kalloc _ (kback (by first | omega | (simp; done) | (simp; omega)) (kback (by first | omega | (simp; done) | (simp; omega)) (kundrew h)))))) (And.imp (fun h => kdrew (kalloc _ (kalloc _ (kback (by first | omega | (simp; done) | (simp; omega)) (kback (by first | omega | (simp; done) | (simp; omega)) (kundrew h)))))) (And.imp (fun h => kdrew (kalloc _ (kalloc _ (kback (by first | omega | (simp; done) | (simp; omega)) (kback (by first | omega | (simp; done) | (simp; omega)) (kundrew h)))))) (And.imp (fun h => kdrew (kalloc _ (kalloc _ (kback (by first | omega | (simp; done) | (simp; omega)) (kback (by first | omega | (simp; done) | (simp; omega)) (kundrew h)))))) ((fun h => kdrew (kalloc _ (kalloc _ (kback (by first | omega | (simp; done) | (simp; omega)) (kback (by first | omega | (simp; done) | (simp; omega)) (kundrew h)))))))))))) (by with_reducible assumption) | (simp; done) | (refine ⟨?_, ?_, ?_, ?_, ?_, ?_⟩ <;> (refine kdrew ?_; repeat (first | exact kfresh (by first | rfl | (simp; done)) (by rfl) | refine kalloc _ ?_)); done))) (first | (go_at_call 41; refine Calls.mono (shadeOf_any _ _ hc) ?_; rintro e wq ⟨rfl, hB⟩; (obtain ⟨hBc, hBf⟩ := bcell hB; have hBs := hB.size; (try simp at hBs); (try have hBq1 := Nat.lt_of_succ_le hBs); (try have hBq2 := Nat.lt_of_succ_lt hBq1); (try have hBq3 := Nat.lt_of_succ_lt hBq2); (try have hBzw0 : w.heap.size < wq.heap.size := (by omega)); (try have hBzw1 : w.heap.size + 1 < wq.heap.size := (by omega)); (try have hBzw2 : w.heap.size + 1 + 1 < wq.heap.size := (by omega)); (try have hBzw3 : w.heap.size + 1 + 1 + 1 < wq.heap.size := (by omega)); (try have hBzw4 : w.heap.size + 1 + 1 + 1 + 1 < wq.heap.size := (by omega)); (try have hBzw10 : w1.heap.size < wq.heap.size := (by omega)); (try have hBzw11 : w1.heap.size + 1 < wq.heap.size := (by omega)); (try have hBzw12 : w1.heap.size + 1 + 1 < wq.heap.size := (by omega)); (try have hBzw13 : w1.heap.size + 1 + 1 + 1 < wq.heap.size := (by omega)); (try have hBzw14 : w1.heap.size + 1 + 1 + 1 + 1 < wq.heap.size := (by omega)))) | (go_at_call 40; refine Calls.mono (cross_any _ _ _ _ _ _ _ _ _ hp hc (by omega) (by omega) (by omega) (by omega)) ?_; rintro e wq ⟨rfl, hB⟩; (obtain ⟨hBc, hBf⟩ := bcell hB; have hBs := hB.size; (try simp at hBs); (try have hBq1 := Nat.lt_of_succ_le hBs); (try have hBq2 := Nat.lt_of_succ_lt hBq1); (try have hBq3 := Nat.lt_of_succ_lt hBq2); (try have hBzw0 : w.heap.size < wq.heap.size := (by omega)); (try have hBzw1 : w.heap.size + 1 < wq.heap.size := (by omega)); (try have hBzw2 : w.heap.size + 1 + 1 < wq.heap.size := (by omega)); (try have hBzw3 : w.heap.size + 1 + 1 + 1 < wq.heap.size := (by omega)); (try have hBzw4 : w.heap.size + 1 + 1 + 1 + 1 < wq.heap.size := (by omega)); (try have hBzw10 : w1.heap.size < wq.heap.size := (by omega)); (try have hBzw11 : w1.heap.size + 1 < wq.heap.size := (by omega)); (try have hBzw12 : w1.heap.size + 1 + 1 < wq.heap.size := (by omega)); (try have hBzw13 : w1.heap.size + 1 + 1 + 1 < wq.heap.size := (by omega)); (try have hBzw14 : w1.heap.size + 1 + 1 + 1 + 1 < wq.heap.size := (by omega)))))
                all_goals
                  go_wp2_with fail
                  go_meet
                  refine ⟨rfl, rfl, by with_reducible assumption, ?_⟩
                  · (repeat (first | with_reducible exact Below.refl _ _ | with_reducible exact hW | with_reducible refine balloc ?_ _ | with_reducible refine bdrewN ?_ _ | with_reducible refine Below.drew ?_ | with_reducible refine bthen ?_ (by with_reducible assumption) | with_reducible refine Below.setCell ?_ (by first | (simp; done) | (simp; omega)) _))
              case' rest => obtain ⟨rfl, rfl, ⟨bA0, bA1, bA2, bA3, bA4, bA5⟩, hxA⟩ := hcut
              obtain ⟨wA, rfl⟩ : ∃ wA : World, wA = wc := ⟨_, rfl⟩
              have lA_1 : w.heap.size < wA.heap.size := World.block_lt_of_cell? wA ⟨w.heap.size, 0, none⟩ bA0
              have lA_2 : w.heap.size + 1 < wA.heap.size := World.block_lt_of_cell? wA ⟨w.heap.size + 1, 0, none⟩ bA3
              have HB : crB p col l1 l2 l3 m1 m2 m3 = true := by simp [crB, hd1, hd2, hd3, hd4, hd5, hd6]
              have HS : crS p col l1 l2 l3 m1 m2 m3 = 5 := by (simp only [crS, crT] <;> simp [hd1, hd2, hd3, hd4, hd5, hd6])
              have HV := Lib.hid (cr_st (col := col) (l1 := l1) (l2 := l2) (l3 := l3) (m1 := m1) (m2 := m2) (m3 := m3) hp HB HS (by decide))
              clear HB HS
              go_wp2
              (refine bodyPost_ret (v := .tuple #[.int .i64 (crZ1 p col l1 l2 l3 m1 m2 m3), .int .i64 (crC p col l1 l2 l3 m1 m2 m3)]) (by simp [results, Try.results14, go_sem, HV.out.1, HV.out.2, *]) rfl ⟨?_, ?_⟩)
              · rfl
              · (repeat (first | with_reducible exact Below.refl _ _ | with_reducible exact hxA | with_reducible refine balloc ?_ _ | with_reducible refine bdrewN ?_ _ | with_reducible refine Below.drew ?_ | with_reducible refine bthen ?_ (by with_reducible assumption) | with_reducible refine Below.setCell ?_ (by first | (simp; done) | (simp; omega)) _))
          · skip
            have c_2 : crT p col l1 l2 m1 m2 = 5 := by simp [crT, crV, hd5]
            have c_3 : crV p col l1 l2 m1 m2 = 0 := by simp [crT, crV, hd5]
            go_upto_region 4 with fail
            go_cut [8, 9] (fun s8 s9 wx => s8 = .int .i64 0 ∧ s9 = .int .i64 5 ∧ (wx.cell? ⟨w.heap.size, 0, none⟩ = some (.int .i64 l1) ∧ wx.cell? ⟨w.heap.size, 1, none⟩ = some (.int .i64 l2) ∧ wx.cell? ⟨w.heap.size, 2, none⟩ = some (.int .i64 l3) ∧ wx.cell? ⟨w.heap.size + 1, 0, none⟩ = some (.int .i64 m1) ∧ wx.cell? ⟨w.heap.size + 1, 1, none⟩ = some (.int .i64 m2) ∧ wx.cell? ⟨w.heap.size + 1, 2, none⟩ = some (.int .i64 m3)) ∧ Below w.heap.size w wx)
            case first =>
              have kb0_0 : w1.cell? ⟨w.heap.size, 0, none⟩ = some (.int .i64 l1) := by (first | with_reducible assumption | (repeat (first | with_reducible assumption | ((with_reducible refine kfresh ?_ ?_) <;> (first | with_reducible rfl | (simp; done))) | with_reducible refine ksame (u := .int .i64 0) ?_ | with_reducible refine kother (by decide) ?_ | with_reducible refine kset (by first | omega | (simp; done) | (simp; omega)) ?_ | with_reducible refine kalloc _ ?_ | with_reducible refine kdrew ?_ | with_reducible refine kcall (by with_reducible assumption) ?_)))
              have kb0_1 : w1.cell? ⟨w.heap.size, 1, none⟩ = some (.int .i64 l2) := by (first | with_reducible assumption | (repeat (first | with_reducible assumption | ((with_reducible refine kfresh ?_ ?_) <;> (first | with_reducible rfl | (simp; done))) | with_reducible refine ksame (u := .int .i64 0) ?_ | with_reducible refine kother (by decide) ?_ | with_reducible refine kset (by first | omega | (simp; done) | (simp; omega)) ?_ | with_reducible refine kalloc _ ?_ | with_reducible refine kdrew ?_ | with_reducible refine kcall (by with_reducible assumption) ?_)))
              have kb0_2 : w1.cell? ⟨w.heap.size, 2, none⟩ = some (.int .i64 l3) := by (first | with_reducible assumption | (repeat (first | with_reducible assumption | ((with_reducible refine kfresh ?_ ?_) <;> (first | with_reducible rfl | (simp; done))) | with_reducible refine ksame (u := .int .i64 0) ?_ | with_reducible refine kother (by decide) ?_ | with_reducible refine kset (by first | omega | (simp; done) | (simp; omega)) ?_ | with_reducible refine kalloc _ ?_ | with_reducible refine kdrew ?_ | with_reducible refine kcall (by with_reducible assumption) ?_)))
              have kb1_0 : w1.cell? ⟨w.heap.size + 1, 0, none⟩ = some (.int .i64 m1) := by (first | with_reducible assumption | (repeat (first | with_reducible assumption | ((with_reducible refine kfresh ?_ ?_) <;> (first | with_reducible rfl | (simp; done))) | with_reducible refine ksame (u := .int .i64 0) ?_ | with_reducible refine kother (by decide) ?_ | with_reducible refine kset (by first | omega | (simp; done) | (simp; omega)) ?_ | with_reducible refine kalloc _ ?_ | with_reducible refine kdrew ?_ | with_reducible refine kcall (by with_reducible assumption) ?_)))
              have kb1_1 : w1.cell? ⟨w.heap.size + 1, 1, none⟩ = some (.int .i64 m2) := by (first | with_reducible assumption | (repeat (first | with_reducible assumption | ((with_reducible refine kfresh ?_ ?_) <;> (first | with_reducible rfl | (simp; done))) | with_reducible refine ksame (u := .int .i64 0) ?_ | with_reducible refine kother (by decide) ?_ | with_reducible refine kset (by first | omega | (simp; done) | (simp; omega)) ?_ | with_reducible refine kalloc _ ?_ | with_reducible refine kdrew ?_ | with_reducible refine kcall (by with_reducible assumption) ?_)))
              have kb1_2 : w1.cell? ⟨w.heap.size + 1, 2, none⟩ = some (.int .i64 m3) := by (first | with_reducible assumption | (repeat (first | with_reducible assumption | ((with_reducible refine kfresh ?_ ?_) <;> (first | with_reducible rfl | (simp; done))) | with_reducible refine ksame (u := .int .i64 0) ?_ | with_reducible refine kother (by decide) ?_ | with_reducible refine kset (by first | omega | (simp; done) | (simp; omega)) ?_ | with_reducible refine kalloc _ ?_ | with_reducible refine kdrew ?_ | with_reducible refine kcall (by with_reducible assumption) ?_)))
              have hW : Below w.heap.size w w1 := by (repeat (first | with_reducible exact Below.refl _ _ | with_reducible refine balloc ?_ _ | with_reducible refine bdrewN ?_ _ | with_reducible refine Below.drew ?_ | with_reducible refine bthen ?_ (by with_reducible assumption) | with_reducible refine Below.setCell ?_ (by first | (simp; done) | (simp; omega)) _))
              go_region_held3 (fun W => W.cell? ⟨w.heap.size, 0, none⟩ = some (.int .i64 l1) ∧ W.cell? ⟨w.heap.size, 1, none⟩ = some (.int .i64 l2) ∧ W.cell? ⟨w.heap.size, 2, none⟩ = some (.int .i64 l3) ∧ W.cell? ⟨w.heap.size + 1, 0, none⟩ = some (.int .i64 m1) ∧ W.cell? ⟨w.heap.size + 1, 1, none⟩ = some (.int .i64 m2) ∧ W.cell? ⟨w.heap.size + 1, 2, none⟩ = some (.int .i64 m3)) (first | (refine ⟨?_, ?_, ?_, ?_, ?_, ?_⟩ <;> ((try with_reducible refine kdrew ?_); (repeat with_reducible refine kalloc _ ?_); with_reducible assumption)) | (first | with_reducible assumption | with_reducible exact (And.imp (kcall hB) (And.imp (kcall hB) (And.imp (kcall hB) (And.imp (kcall hB) (And.imp (kcall hB) ((kcall hB))))))) (by with_reducible assumption) | with_reducible exact (And.imp (kalloc _) (And.imp (kalloc _) (And.imp (kalloc _) (And.imp (kalloc _) (And.imp (kalloc _) ((kalloc _))))))) (by with_reducible assumption) | with_reducible exact (And.imp (krealloc (by first | omega | (simp; done) | (simp; omega))) (And.imp (krealloc (by first | omega | (simp; done) | (simp; omega))) (And.imp (krealloc (by first | omega | (simp; done) | (simp; omega))) (And.imp (krealloc (by first | omega | (simp; done) | (simp; omega))) (And.imp (krealloc (by first | omega | (simp; done) | (simp; omega))) ((krealloc (by first | omega | (simp; done) | (simp; omega))))))))) (by with_reducible assumption) | with_reducible exact (And.imp (fun h => kdrew (kalloc _ (kundrew h))) (And.imp (fun h => kdrew (kalloc _ (kundrew h))) (And.imp (fun h => kdrew (kalloc _ (kundrew h))) (And.imp (fun h => kdrew (kalloc _ (kundrew h))) (And.imp (fun h => kdrew (kalloc _ (kundrew h))) ((fun h => kdrew (kalloc _ (kundrew h))))))))) (by with_reducible assumption) | with_reducible exact (And.imp (fun h => kdrew (krealloc (by first | omega | (simp; done) | (simp; omega)) (kundrew h))) (And.imp (fun h => kdrew (krealloc (by first | omega | (simp; done) | (simp; omega)) (kundrew h))) (And.imp (fun h => kdrew (krealloc (by first | omega | (simp; done) | (simp; omega)) (kundrew h))) (And.imp (fun h => kdrew (krealloc (by first | omega | (simp; done) | (simp; omega)) (kundrew h))) (And.imp (fun h => kdrew (krealloc (by first | omega | (simp; done) | (simp; omega)) (kundrew h))) ((fun h => kdrew (krealloc (by first | omega | (simp; done) | (simp; omega)) (kundrew h))))))))) (by with_reducible assumption) | with_reducible exact (And.imp (fun h => kset (by first | omega | (simp; done) | (simp; omega)) (kset (by first | omega | (simp; done) | (simp; omega)) (kset (by first | omega | (simp; done) | (simp; omega)) h))) (And.imp (fun h => kset (by first | omega | (simp; done) | (simp; omega)) (kset (by first | omega | (simp; done) | (simp; omega)) (kset (by first | omega | (simp; done) | (simp; omega)) h))) (And.imp (fun h => kset (by first | omega | (simp; done) | (simp; omega)) (kset (by first | omega | (simp; done) | (simp; omega)) (kset (by first | omega | (simp; done) | (simp; omega)) h))) (And.imp (fun h => kset (by first | omega | (simp; done) | (simp; omega)) (kset (by first | omega | (simp; done) | (simp; omega)) (kset (by first | omega | (simp; done) | (simp; omega)) h))) (And.imp (fun h => kset (by first | omega | (simp; done) | (simp; omega)) (kset (by first | omega | (simp; done) | (simp; omega)) (kset (by first | omega | (simp; done) | (simp; omega)) h))) ((fun h => kset (by first | omega | (simp; done) | (simp; omega)) (kset (by first | omega | (simp; done) | (simp; omega)) (kset (by first | omega | (simp; done) | (simp; omega)) h))))))))) (by with_reducible assumption) | with_reducible exact (And.imp (fun h => kset (by first | omega | (simp; done) | (simp; omega)) (kset (by first | omega | (simp; done) | (simp; omega)) h)) (And.imp (fun h => kset (by first | omega | (simp; done) | (simp; omega)) (kset (by first | omega | (simp; done) | (simp; omega)) h)) (And.imp (fun h => kset (by first | omega | (simp; done) | (simp; omega)) (kset (by first | omega | (simp; done) | (simp; omega)) h)) (And.imp (fun h => kset (by first | omega | (simp; done) | (simp; omega)) (kset (by first | omega | (simp; done) | (simp; omega)) h)) (And.imp (fun h => kset (by first | omega | (simp; done) | (simp; omega)) (kset (by first | omega | (simp; done) | (simp; omega)) h)) ((fun h => kset (by first | omega | (simp; done) | (simp; omega)) (kset (by first | omega | (simp; done) | (simp; omega)) h)))))))) (by with_reducible assumption) | with_reducible exact (And.imp (fun h => kset (by first | omega | (simp; done) | (simp; omega)) h) (And.imp (fun h => kset (by first | omega | (simp; done) | (simp; omega)) h) (And.imp (fun h => kset (by first | omega | (simp; done) | (simp; omega)) h) (And.imp (fun h => kset (by first | omega | (simp; done) | (simp; omega)) h) (And.imp (fun h => kset (by first | omega | (simp; done) | (simp; omega)) h) ((fun h => kset (by first | omega | (simp; done) | (simp; omega)) h))))))) (by with_reducible assumption) | with_reducible exact (And.imp (fun h => kalloc _ (kset (by first | omega | (simp; done) | (simp; omega)) (kset (by first | omega | (simp; done) | (simp; omega)) (kback (by first | omega | (simp; done) | (simp; omega)) h)))) (And.imp (fun h => kalloc _ (kset (by first | omega | (simp; done) | (simp; omega)) (kset (by first | omega | (simp; done) | (simp; omega)) (kback (by first | omega | (simp; done) | (simp; omega)) h)))) (And.imp (fun h => kalloc _ (kset (by first | omega | (simp; done) | (simp; omega)) (kset (by first | omega | (simp; done) | (simp; omega)) (kback (by first | omega | (simp; done) | (simp; omega)) h)))) (And.imp (fun h => kalloc _ (kset (by first | omega | (simp; done) | (simp; omega)) (kset (by first | omega | (simp; done) | (simp; omega)) (kback (by first | omega | (simp; done) | (simp; omega)) h)))) (And.imp (fun h => kalloc _ (kset (by first | omega | (simp; done) | (simp; omega)) (kset (by first | omega | (simp; done) | (simp; omega)) (kback (by first | omega | (simp; done) | (simp; omega)) h)))) ((fun h => kalloc _ (kset (by first | omega | (simp; done) | (simp; omega)) (kset (by first | omega | (simp; done) | (simp; omega)) (kback (by first | omega | (simp; done) | (simp; omega)) h)))))))))) (by with_reducible assumption) | with_reducible exact (And.imp (fun h => kalloc _ (kset (by first | omega | (simp; done) | (simp; omega)) (kset (by first | omega | (simp; done) | (simp; omega)) (kset (by first | omega | (simp; done) | (simp; omega)) (kback (by first | omega | (simp; done) | (simp; omega)) h))))) (And.imp (fun h => kalloc _ (kset (by first | omega | (simp; done) | (simp; omega)) (kset (by first | omega | (simp; done) | (simp; omega)) (kset (by first | omega | (simp; done) | (simp; omega)) (kback (by first | omega | (simp; done) | (simp; omega)) h))))) (And.imp (fun h => kalloc _ (kset (by first | omega | (simp; done) | (simp; omega)) (kset (by first | omega | (simp; done) | (simp; omega)) (kset (by first | omega | (simp; done) | (simp; omega)) (kback (by first | omega | (simp; done) | (simp; omega)) h))))) (And.imp (fun h => kalloc _ (kset (by first | omega | (simp; done) | (simp; omega)) (kset (by first | omega | (simp; done) | (simp; omega)) (kset (by first | omega | (simp; done) | (simp; omega)) (kback (by first | omega | (simp; done) | (simp; omega)) h))))) (And.imp (fun h => kalloc _ (kset (by first | omega | (simp; done) | (simp; omega)) (kset (by first | omega | (simp; done) | (simp; omega)) (kset (by first | omega | (simp; done) | (simp; omega)) (kback (by first | omega | (simp; done) | (simp; omega)) h))))) ((fun h => kalloc _ (kset (by first | omega | (simp; done) | (simp; omega)) (kset (by first | omega | (simp; done) | (simp; omega)) (kset (by first | omega | (simp; done) | (simp; omega)) (kback (by first | omega | (simp; done) | (simp; omega)) h))))))))))) (by with_reducible assumption) | with_reducible exact (And.imp (fun h => kalloc _ (kalloc _ (kback (by first | omega | (simp; done) | (simp; omega)) (kback (by first | omega | (simp; done) | (simp; omega)) h)))) (And.imp (fun h => kalloc _ (kalloc _ (kback (by first | omega | (simp; done) | (simp; omega)) (kback (by first | omega | (simp; done) | (simp; omega)) h)))) (And.imp (fun h => kalloc _ (kalloc _ (kback (by first | omega | (simp; done) | (simp; omega)) (kback (by first | omega | (simp; done) | (simp; omega)) h)))) (And.imp (fun h => kalloc _ (kalloc _ (kback (by first | omega | (simp; done) | (simp; omega)) (kback (by first | omega | (simp; done) | (simp; omega)) h)))) (And.imp (fun h => kalloc _ (kalloc _ (kback (by first | omega | (simp; done) | (simp; omega)) (kback (by first | omega | (simp; done) | (simp; omega)) h)))) ((fun h => kalloc _ (kalloc _ (kback (by first | omega | (simp; done) | (simp; omega)) (kback (by first | omega | (simp; done) | (simp; omega)) h)))))))))) (by with_reducible assumption) | with_reducible exact (And.imp (fun h => kdrew (kalloc _ (kalloc _ (kback (by first | omega | (simp; done) | (simp; omega)) (kback (by first | omega | (simp; done) | (simp; omega)) (kundrew h)))))) (And.imp (fun h => kdrew (kalloc _ (kalloc _ (kback (by first | omega | (simp; done) | (simp; omega)) (kback (by first | omega | (simp; done) | (simp; omega)) (kundrew h)))))) (And.imp (fun h => kdrew (kalloc _ (kalloc _ (kback (by first | omega | (simp; done) | (simp; omega)) (kback (by first | omega | (simp; done) | (simp; omega)) (kundrew h)))))) (And.imp (fun h => kdrew (kalloc _ (kalloc _ (kback (by first | omega | (simp; done) | (simp; omega)) (kback (by first | omega | (simp; done) | (simp; omega)) (kundrew h)))))) (And.imp (fun h => kdrew (kalloc _ (kalloc _ (kback (by first | omega | (simp; done) | (simp; omega)) (kback (by first | omega | (simp; done) | (simp; omega)) (kundrew h)))))) ((fun h => kdrew (kalloc _ (kalloc _ (kback (by first | omega | (simp; done) | (simp; omega)) (kback (by first | omega | (simp; done) | (simp; omega)) (kundrew h)))))))))))) (by with_reducible assumption) | (simp; done) | (refine ⟨?_, ?_, ?_, ?_, ?_, ?_⟩ <;> (refine kdrew ?_; repeat (first | exact kfresh (by first | rfl | (simp; done)) (by rfl) | refine kalloc _ ?_)); done))) (first | (go_at_call 41; refine Calls.mono (shadeOf_any _ _ hc) ?_; rintro e wq ⟨rfl, hB⟩; (obtain ⟨hBc, hBf⟩ := bcell hB; have hBs := hB.size; (try simp at hBs); (try have hBq1 := Nat.lt_of_succ_le hBs); (try have hBq2 := Nat.lt_of_succ_lt hBq1); (try have hBq3 := Nat.lt_of_succ_lt hBq2); (try have hBzw0 : w.heap.size < wq.heap.size := (by omega)); (try have hBzw1 : w.heap.size + 1 < wq.heap.size := (by omega)); (try have hBzw2 : w.heap.size + 1 + 1 < wq.heap.size := (by omega)); (try have hBzw3 : w.heap.size + 1 + 1 + 1 < wq.heap.size := (by omega)); (try have hBzw4 : w.heap.size + 1 + 1 + 1 + 1 < wq.heap.size := (by omega)); (try have hBzw10 : w1.heap.size < wq.heap.size := (by omega)); (try have hBzw11 : w1.heap.size + 1 < wq.heap.size := (by omega)); (try have hBzw12 : w1.heap.size + 1 + 1 < wq.heap.size := (by omega)); (try have hBzw13 : w1.heap.size + 1 + 1 + 1 < wq.heap.size := (by omega)); (try have hBzw14 : w1.heap.size + 1 + 1 + 1 + 1 < wq.heap.size := (by omega)))) | (go_at_call 40; refine Calls.mono (cross_any _ _ _ _ _ _ _ _ _ hp hc (by omega) (by omega) (by omega) (by omega)) ?_; rintro e wq ⟨rfl, hB⟩; (obtain ⟨hBc, hBf⟩ := bcell hB; have hBs := hB.size; (try simp at hBs); (try have hBq1 := Nat.lt_of_succ_le hBs); (try have hBq2 := Nat.lt_of_succ_lt hBq1); (try have hBq3 := Nat.lt_of_succ_lt hBq2); (try have hBzw0 : w.heap.size < wq.heap.size := (by omega)); (try have hBzw1 : w.heap.size + 1 < wq.heap.size := (by omega)); (try have hBzw2 : w.heap.size + 1 + 1 < wq.heap.size := (by omega)); (try have hBzw3 : w.heap.size + 1 + 1 + 1 < wq.heap.size := (by omega)); (try have hBzw4 : w.heap.size + 1 + 1 + 1 + 1 < wq.heap.size := (by omega)); (try have hBzw10 : w1.heap.size < wq.heap.size := (by omega)); (try have hBzw11 : w1.heap.size + 1 < wq.heap.size := (by omega)); (try have hBzw12 : w1.heap.size + 1 + 1 < wq.heap.size := (by omega)); (try have hBzw13 : w1.heap.size + 1 + 1 + 1 < wq.heap.size := (by omega)); (try have hBzw14 : w1.heap.size + 1 + 1 + 1 + 1 < wq.heap.size := (by omega)))))
              all_goals
                go_wp2_with fail
                go_meet
                refine ⟨rfl, rfl, by with_reducible assumption, ?_⟩
                · (repeat (first | with_reducible exact Below.refl _ _ | with_reducible exact hW | with_reducible refine balloc ?_ _ | with_reducible refine bdrewN ?_ _ | with_reducible refine Below.drew ?_ | with_reducible refine bthen ?_ (by with_reducible assumption) | with_reducible refine Below.setCell ?_ (by first | (simp; done) | (simp; omega)) _))
            case' rest => obtain ⟨rfl, rfl, ⟨bA0, bA1, bA2, bA3, bA4, bA5⟩, hxA⟩ := hcut
            obtain ⟨wA, rfl⟩ : ∃ wA : World, wA = wc := ⟨_, rfl⟩
            have lA_1 : w.heap.size < wA.heap.size := World.block_lt_of_cell? wA ⟨w.heap.size, 0, none⟩ bA0
            have lA_2 : w.heap.size + 1 < wA.heap.size := World.block_lt_of_cell? wA ⟨w.heap.size + 1, 0, none⟩ bA3
            have HB : crB p col l1 l2 l3 m1 m2 m3 = true := by simp [crB, hd1, hd2, hd3, hd4, hd5]
            have HS : crS p col l1 l2 l3 m1 m2 m3 = 5 := by (simp only [crS, crT] <;> simp [hd1, hd2, hd3, hd4, hd5])
            have HV := Lib.hid (cr_st (col := col) (l1 := l1) (l2 := l2) (l3 := l3) (m1 := m1) (m2 := m2) (m3 := m3) hp HB HS (by decide))
            clear HB HS
            go_wp2
            (refine bodyPost_ret (v := .tuple #[.int .i64 (crZ1 p col l1 l2 l3 m1 m2 m3), .int .i64 (crC p col l1 l2 l3 m1 m2 m3)]) (by simp [results, Try.results14, go_sem, HV.out.1, HV.out.2, *]) rfl ⟨?_, ?_⟩)
            · rfl
            · (repeat (first | with_reducible exact Below.refl _ _ | with_reducible exact hxA | with_reducible refine balloc ?_ _ | with_reducible refine bdrewN ?_ _ | with_reducible refine Below.drew ?_ | with_reducible refine bthen ?_ (by with_reducible assumption) | with_reducible refine Below.setCell ?_ (by first | (simp; done) | (simp; omega)) _))

end Go.Proofs.Ytklfgelmieecmaa
