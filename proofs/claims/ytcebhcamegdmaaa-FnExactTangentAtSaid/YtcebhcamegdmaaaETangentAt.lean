/-
  TangentAt: the program's and the model's.
-/
import Derived.Test.YtcebhcamegdmaaaSpecTangent
import Derived.Test.YtcebhcamegdmaaaImplTangent
import Derived.Test.YtcebhcamegdmaaaSpecPower
import Derived.Test.YtcebhcamegdmaaaImplIsOn
import Derived.Test.YtcebhcamegdmaaaSpecGiven6
import Derived.Test.YtcebhcamegdmaaaImplCircles
import Derived.Test.YtcebhcamegdmaaaImplPts
import Derived.Test.YtcebhcamegdmaaaImplCol
import Derived.Test.YtcebhcamegdmaaaCode
import Derived.Test.YtcebhcamegdmaaaArrEq
import Derived.Deep.RegionHeld3
import Derived.Deep.DeepCutAuto
import Derived.Test.YtcebhcamegdmaaaBaseMath
namespace Go.Proofs.Ytcebhcamegdmaaa
open Go.RowKit

theorem at_ne {a1 a2 k1 k2 : Int} (h : (a1 == k1 && a2 == k2) = false) : ¬ (k1 = a1 ∧ k2 = a2) := fun e => by simp [e.1, e.2] at h

set_option linter.unusedVariables false in
def taB (p col k1 k2 k3 a1 a2 : Int) : Bool := colB col && (numsIn p [k1, k2, k3] && numsIn p [a1, a2])
set_option linter.unusedVariables false in
def taS (p col k1 k2 k3 a1 a2 : Int) : Int := if (a1 == k1 && a2 == k2) = true then 5 else if onC p col k1 k2 k3 a1 a2 = true then 0 else 5
set_option linter.unusedVariables false in
def taC (p col k1 k2 k3 a1 a2 : Int) : Int := if isP p = true then (if taB p col k1 k2 k3 a1 a2 = true then taS p col k1 k2 k3 a1 a2 else 2) else 1
set_option linter.unusedVariables false in
def taV1 (p col k1 k2 k3 a1 a2 : Int) : Int := if taC p col k1 k2 k3 a1 a2 = 0 then tn1 p col k1 k2 a1 a2 else 0
set_option linter.unusedVariables false in
def taV2 (p col k1 k2 k3 a1 a2 : Int) : Int := if taC p col k1 k2 k3 a1 a2 = 0 then tn2 p col k1 k2 a1 a2 else 0
set_option linter.unusedVariables false in
def taV3 (p col k1 k2 k3 a1 a2 : Int) : Int := if taC p col k1 k2 k3 a1 a2 = 0 then tn3 p col k1 k2 a1 a2 else 0
theorem ta_zero {p col k1 k2 k3 a1 a2 k : Int} (h : taC p col k1 k2 k3 a1 a2 = k) (hk : k ≠ 0) : taV1 p col k1 k2 k3 a1 a2 = 0 ∧ taV2 p col k1 k2 k3 a1 a2 = 0 ∧ taV3 p col k1 k2 k3 a1 a2 = 0 ∧ taC p col k1 k2 k3 a1 a2 = k := by
  have hn : ¬ (taC p col k1 k2 k3 a1 a2 = 0) := fun e => hk (h.symm.trans e)
  exact ⟨if_neg hn, if_neg hn, if_neg hn, h⟩
theorem ta_no {p col k1 k2 k3 a1 a2 : Int} (h : isP p = false) : taV1 p col k1 k2 k3 a1 a2 = 0 ∧ taV2 p col k1 k2 k3 a1 a2 = 0 ∧ taV3 p col k1 k2 k3 a1 a2 = 0 ∧ taC p col k1 k2 k3 a1 a2 = 1 := ta_zero (by simp [taC, h]) (by decide)
theorem ta_out {p col k1 k2 k3 a1 a2 : Int} (hp : isP p = true) (h : taB p col k1 k2 k3 a1 a2 = false) : taV1 p col k1 k2 k3 a1 a2 = 0 ∧ taV2 p col k1 k2 k3 a1 a2 = 0 ∧ taV3 p col k1 k2 k3 a1 a2 = 0 ∧ taC p col k1 k2 k3 a1 a2 = 2 := ta_zero (by simp [taC, hp, h]) (by decide)
theorem ta_st {p col k1 k2 k3 a1 a2 k : Int} (hp : isP p = true) (h : taB p col k1 k2 k3 a1 a2 = true) (hs : taS p col k1 k2 k3 a1 a2 = k) (hk : k ≠ 0) : taV1 p col k1 k2 k3 a1 a2 = 0 ∧ taV2 p col k1 k2 k3 a1 a2 = 0 ∧ taV3 p col k1 k2 k3 a1 a2 = 0 ∧ taC p col k1 k2 k3 a1 a2 = k := ta_zero (by simp [taC, hp, h, hs]) hk
theorem ta_good {p col k1 k2 k3 a1 a2 : Int} (hp : isP p = true) (h : taB p col k1 k2 k3 a1 a2 = true) (hs : taS p col k1 k2 k3 a1 a2 = 0) : taV1 p col k1 k2 k3 a1 a2 = tn1 p col k1 k2 a1 a2 ∧ taV2 p col k1 k2 k3 a1 a2 = tn2 p col k1 k2 a1 a2 ∧ taV3 p col k1 k2 k3 a1 a2 = tn3 p col k1 k2 a1 a2 ∧ taC p col k1 k2 k3 a1 a2 = 0 := by
  have h' : taC p col k1 k2 k3 a1 a2 = 0 := by simp [taC, hp, h, hs]
  exact ⟨if_pos h', if_pos h', if_pos h', h'⟩

set_option linter.unusedSimpArgs false in
set_option maxRecDepth 20000 in
set_option maxHeartbeats 4000000 in
theorem specTangentAt_any (p col k1 k2 k3 a1 a2 : Int) (w : World) :
    Calls Try.prog 34 #[.int .i64 p, .int .i64 col, .agg #[.int .i64 k1, .int .i64 k2, .int .i64 k3], .agg #[.int .i64 a1, .int .i64 a2]] w fun e w' =>
      e = .returned (.tuple #[.agg #[.int .i64 (taV1 p col k1 k2 k3 a1 a2), .int .i64 (taV2 p col k1 k2 k3 a1 a2), .int .i64 (taV3 p col k1 k2 k3 a1 a2)], .int .i64 (taC p col k1 k2 k3 a1 a2)]) ∧ Below w.heap.size w w' := by
  have heq := equalPoint
  go_enter Try.func34, Try.ntmps34
  rcases bool_ways (isP p) with hd1 | hd1
  · skip
    have c_1 : codeOf p (colB col && (numsIn p [k1, k2, k3] && numsIn p [a1, a2])) = 1 := codeOf_no hd1
    have cN : ∀ b, codeOf p b = 1 := fun b => codeOf_no hd1
    go_wp2_with fail
    refine Calls.mono (specGiven6_any _ _ _ _ _ _ _ _) ?_
    rintro e w1 ⟨rfl, hB1⟩
    (obtain ⟨hB1c, hB1f⟩ := bcell hB1; have hB1s := hB1.size; (try simp at hB1s); (try have hB1q1 := Nat.lt_of_succ_le hB1s); (try have hB1q2 := Nat.lt_of_succ_lt hB1q1); (try have hB1q3 := Nat.lt_of_succ_lt hB1q2); (try have hB1zw0 : w.heap.size < w1.heap.size := (by omega)); (try have hB1zw1 : w.heap.size + 1 < w1.heap.size := (by omega)); (try have hB1zw2 : w.heap.size + 1 + 1 < w1.heap.size := (by omega)); (try have hB1zw3 : w.heap.size + 1 + 1 + 1 < w1.heap.size := (by omega)); (try have hB1zw4 : w.heap.size + 1 + 1 + 1 + 1 < w1.heap.size := (by omega)))
    have HV := Lib.hid (ta_no (col := col) (k1 := k1) (k2 := k2) (k3 := k3) (a1 := a1) (a2 := a2) hd1)
    go_wp2
    (refine bodyPost_ret (v := .tuple #[.agg #[.int .i64 (taV1 p col k1 k2 k3 a1 a2), .int .i64 (taV2 p col k1 k2 k3 a1 a2), .int .i64 (taV3 p col k1 k2 k3 a1 a2)], .int .i64 (taC p col k1 k2 k3 a1 a2)]) (by simp [results, Try.results34, go_sem, HV.out.1, HV.out.2.1, HV.out.2.2.1, HV.out.2.2.2, *]) rfl ⟨?_, ?_⟩)
    · rfl
    · (repeat (first | with_reducible exact Below.refl _ _ | with_reducible refine balloc ?_ _ | with_reducible refine bdrewN ?_ _ | with_reducible refine Below.drew ?_ | with_reducible refine bthen ?_ (by with_reducible assumption) | with_reducible refine Below.setCell ?_ (by first | (simp; done) | (simp; omega)) _))
  · have hp := hd1
    have hr := isP_range hp
    rcases bool_ways (colB col) with hd2 | hd2
    · skip
      have c_1 : codeOf p (colB col && (numsIn p [k1, k2, k3] && numsIn p [a1, a2])) = 2 := codeOf_out hp (by simp [hd2])
      have cT : codeOf p true = 0 := codeOf_in hp rfl
      have cF : codeOf p false = 2 := codeOf_out hp rfl
      go_wp2_with fail
      refine Calls.mono (specGiven6_any _ _ _ _ _ _ _ _) ?_
      rintro e w1 ⟨rfl, hB1⟩
      (obtain ⟨hB1c, hB1f⟩ := bcell hB1; have hB1s := hB1.size; (try simp at hB1s); (try have hB1q1 := Nat.lt_of_succ_le hB1s); (try have hB1q2 := Nat.lt_of_succ_lt hB1q1); (try have hB1q3 := Nat.lt_of_succ_lt hB1q2); (try have hB1zw0 : w.heap.size < w1.heap.size := (by omega)); (try have hB1zw1 : w.heap.size + 1 < w1.heap.size := (by omega)); (try have hB1zw2 : w.heap.size + 1 + 1 < w1.heap.size := (by omega)); (try have hB1zw3 : w.heap.size + 1 + 1 + 1 < w1.heap.size := (by omega)); (try have hB1zw4 : w.heap.size + 1 + 1 + 1 + 1 < w1.heap.size := (by omega)))
      have HV := Lib.hid (ta_out (col := col) (k1 := k1) (k2 := k2) (k3 := k3) (a1 := a1) (a2 := a2) hp (by simp [taB, hd1, hd2]))
      go_wp2
      (refine bodyPost_ret (v := .tuple #[.agg #[.int .i64 (taV1 p col k1 k2 k3 a1 a2), .int .i64 (taV2 p col k1 k2 k3 a1 a2), .int .i64 (taV3 p col k1 k2 k3 a1 a2)], .int .i64 (taC p col k1 k2 k3 a1 a2)]) (by simp [results, Try.results34, go_sem, HV.out.1, HV.out.2.1, HV.out.2.2.1, HV.out.2.2.2, *]) rfl ⟨?_, ?_⟩)
      · rfl
      · (repeat (first | with_reducible exact Below.refl _ _ | with_reducible refine balloc ?_ _ | with_reducible refine bdrewN ?_ _ | with_reducible refine Below.drew ?_ | with_reducible refine bthen ?_ (by with_reducible assumption) | with_reducible refine Below.setCell ?_ (by first | (simp; done) | (simp; omega)) _))
    · have hc := hd2
      have hcr := colB_range hc
      rcases bool_ways (numsIn p [k1, k2, k3]) with hd3 | hd3
      · skip
        have c_1 : codeOf p (colB col && (numsIn p [k1, k2, k3] && numsIn p [a1, a2])) = 2 := codeOf_out hp (by simp [hd2, hd3])
        have cT : codeOf p true = 0 := codeOf_in hp rfl
        have cF : codeOf p false = 2 := codeOf_out hp rfl
        go_wp2_with fail
        refine Calls.mono (specGiven6_any _ _ _ _ _ _ _ _) ?_
        rintro e w1 ⟨rfl, hB1⟩
        (obtain ⟨hB1c, hB1f⟩ := bcell hB1; have hB1s := hB1.size; (try simp at hB1s); (try have hB1q1 := Nat.lt_of_succ_le hB1s); (try have hB1q2 := Nat.lt_of_succ_lt hB1q1); (try have hB1q3 := Nat.lt_of_succ_lt hB1q2); (try have hB1zw0 : w.heap.size < w1.heap.size := (by omega)); (try have hB1zw1 : w.heap.size + 1 < w1.heap.size := (by omega)); (try have hB1zw2 : w.heap.size + 1 + 1 < w1.heap.size := (by omega)); (try have hB1zw3 : w.heap.size + 1 + 1 + 1 < w1.heap.size := (by omega)); (try have hB1zw4 : w.heap.size + 1 + 1 + 1 + 1 < w1.heap.size := (by omega)))
        have HV := Lib.hid (ta_out (col := col) (k1 := k1) (k2 := k2) (k3 := k3) (a1 := a1) (a2 := a2) hp (by simp [taB, hd1, hd2, hd3]))
        go_wp2
        (refine bodyPost_ret (v := .tuple #[.agg #[.int .i64 (taV1 p col k1 k2 k3 a1 a2), .int .i64 (taV2 p col k1 k2 k3 a1 a2), .int .i64 (taV3 p col k1 k2 k3 a1 a2)], .int .i64 (taC p col k1 k2 k3 a1 a2)]) (by simp [results, Try.results34, go_sem, HV.out.1, HV.out.2.1, HV.out.2.2.1, HV.out.2.2.2, *]) rfl ⟨?_, ?_⟩)
        · rfl
        · (repeat (first | with_reducible exact Below.refl _ _ | with_reducible refine balloc ?_ _ | with_reducible refine bdrewN ?_ _ | with_reducible refine Below.drew ?_ | with_reducible refine bthen ?_ (by with_reducible assumption) | with_reducible refine Below.setCell ?_ (by first | (simp; done) | (simp; omega)) _))
      · have hd3q := nums3 hd3
        rcases bool_ways (numsIn p [a1, a2]) with hd4 | hd4
        · skip
          have c_1 : codeOf p (colB col && (numsIn p [k1, k2, k3] && numsIn p [a1, a2])) = 2 := codeOf_out hp (by simp [hd2, hd3, hd4])
          have cT : codeOf p true = 0 := codeOf_in hp rfl
          have cF : codeOf p false = 2 := codeOf_out hp rfl
          go_wp2_with fail
          refine Calls.mono (specGiven6_any _ _ _ _ _ _ _ _) ?_
          rintro e w1 ⟨rfl, hB1⟩
          (obtain ⟨hB1c, hB1f⟩ := bcell hB1; have hB1s := hB1.size; (try simp at hB1s); (try have hB1q1 := Nat.lt_of_succ_le hB1s); (try have hB1q2 := Nat.lt_of_succ_lt hB1q1); (try have hB1q3 := Nat.lt_of_succ_lt hB1q2); (try have hB1zw0 : w.heap.size < w1.heap.size := (by omega)); (try have hB1zw1 : w.heap.size + 1 < w1.heap.size := (by omega)); (try have hB1zw2 : w.heap.size + 1 + 1 < w1.heap.size := (by omega)); (try have hB1zw3 : w.heap.size + 1 + 1 + 1 < w1.heap.size := (by omega)); (try have hB1zw4 : w.heap.size + 1 + 1 + 1 + 1 < w1.heap.size := (by omega)))
          have HV := Lib.hid (ta_out (col := col) (k1 := k1) (k2 := k2) (k3 := k3) (a1 := a1) (a2 := a2) hp (by simp [taB, hd1, hd2, hd3, hd4]))
          go_wp2
          (refine bodyPost_ret (v := .tuple #[.agg #[.int .i64 (taV1 p col k1 k2 k3 a1 a2), .int .i64 (taV2 p col k1 k2 k3 a1 a2), .int .i64 (taV3 p col k1 k2 k3 a1 a2)], .int .i64 (taC p col k1 k2 k3 a1 a2)]) (by simp [results, Try.results34, go_sem, HV.out.1, HV.out.2.1, HV.out.2.2.1, HV.out.2.2.2, *]) rfl ⟨?_, ?_⟩)
          · rfl
          · (repeat (first | with_reducible exact Below.refl _ _ | with_reducible refine balloc ?_ _ | with_reducible refine bdrewN ?_ _ | with_reducible refine Below.drew ?_ | with_reducible refine bthen ?_ (by with_reducible assumption) | with_reducible refine Below.setCell ?_ (by first | (simp; done) | (simp; omega)) _))
        · have hd4q := nums2 hd4
          have c_1 : codeOf p (colB col && (numsIn p [k1, k2, k3] && numsIn p [a1, a2])) = 0 := codeOf_in hp (by simp [hd2, hd3, hd4])
          have cT : codeOf p true = 0 := codeOf_in hp rfl
          obtain ⟨v1, hv1⟩ : ∃ v : Int, v = pw p col k1 k2 k3 a1 a2 := ⟨_, rfl⟩
          have rv1 := pw_r col k1 k2 k3 a1 a2 hp
          rw [← hv1] at rv1
          have Hv1 := Lib.hid hv1
          clear hv1
          go_wp2_with fail
          refine Calls.mono (specGiven6_any _ _ _ _ _ _ _ _) ?_
          rintro e w1 ⟨rfl, hB1⟩
          (obtain ⟨hB1c, hB1f⟩ := bcell hB1; have hB1s := hB1.size; (try simp at hB1s); (try have hB1q1 := Nat.lt_of_succ_le hB1s); (try have hB1q2 := Nat.lt_of_succ_lt hB1q1); (try have hB1q3 := Nat.lt_of_succ_lt hB1q2); (try have hB1zw0 : w.heap.size < w1.heap.size := (by omega)); (try have hB1zw1 : w.heap.size + 1 < w1.heap.size := (by omega)); (try have hB1zw2 : w.heap.size + 1 + 1 < w1.heap.size := (by omega)); (try have hB1zw3 : w.heap.size + 1 + 1 + 1 < w1.heap.size := (by omega)); (try have hB1zw4 : w.heap.size + 1 + 1 + 1 + 1 < w1.heap.size := (by omega)))
          rcases bool_ways (v1 == 0) with hd5 | hd5
          · have hd5n : (v1 != 0) = true := by rw [bne, hd5]; rfl
            have Hhd5p := Lib.hid (beq_eq_false_iff_ne.1 hd5)
            go_wp2_with fail
            refine Calls.mono (specPower_any _ _ _ _ _ _ _ _ hp hc (by omega) (by omega) (by omega) (by omega) (by omega)) ?_
            rw [← Hv1.out]
            rintro e w2 ⟨rfl, hB2⟩
            (obtain ⟨hB2c, hB2f⟩ := bcell hB2; have hB2s := hB2.size; (try simp at hB2s); (try have hB2q1 := Nat.lt_of_succ_le hB2s); (try have hB2q2 := Nat.lt_of_succ_lt hB2q1); (try have hB2q3 := Nat.lt_of_succ_lt hB2q2); (try have hB2zw0 : w.heap.size < w2.heap.size := (by omega)); (try have hB2zw1 : w.heap.size + 1 < w2.heap.size := (by omega)); (try have hB2zw2 : w.heap.size + 1 + 1 < w2.heap.size := (by omega)); (try have hB2zw3 : w.heap.size + 1 + 1 + 1 < w2.heap.size := (by omega)); (try have hB2zw4 : w.heap.size + 1 + 1 + 1 + 1 < w2.heap.size := (by omega)); (try have hB2zw10 : w1.heap.size < w2.heap.size := (by omega)); (try have hB2zw11 : w1.heap.size + 1 < w2.heap.size := (by omega)); (try have hB2zw12 : w1.heap.size + 1 + 1 < w2.heap.size := (by omega)); (try have hB2zw13 : w1.heap.size + 1 + 1 + 1 < w2.heap.size := (by omega)); (try have hB2zw14 : w1.heap.size + 1 + 1 + 1 + 1 < w2.heap.size := (by omega)))
            have HB : taB p col k1 k2 k3 a1 a2 = true := by simp [taB, hd1, hd2, hd3, hd4, hd5]
            have HS : taS p col k1 k2 k3 a1 a2 = 5 := by (have ho := pw_on (p := p) (c := col) (k1 := k1) (k2 := k2) (k3 := k3) (a1 := a1) (a2 := a2) hp (by omega); (try rw [← Hv1.out] at ho); simp_all [taS])
            have HV := Lib.hid (ta_st (col := col) (k1 := k1) (k2 := k2) (k3 := k3) (a1 := a1) (a2 := a2) hp HB HS (by decide))
            clear HB HS
            go_wp2
            (refine bodyPost_ret (v := .tuple #[.agg #[.int .i64 (taV1 p col k1 k2 k3 a1 a2), .int .i64 (taV2 p col k1 k2 k3 a1 a2), .int .i64 (taV3 p col k1 k2 k3 a1 a2)], .int .i64 (taC p col k1 k2 k3 a1 a2)]) (by simp [results, Try.results34, go_sem, HV.out.1, HV.out.2.1, HV.out.2.2.1, HV.out.2.2.2, *]) rfl ⟨?_, ?_⟩)
            · rfl
            · (repeat (first | with_reducible exact Below.refl _ _ | with_reducible refine balloc ?_ _ | with_reducible refine bdrewN ?_ _ | with_reducible refine Below.drew ?_ | with_reducible refine bthen ?_ (by with_reducible assumption) | with_reducible refine Below.setCell ?_ (by first | (simp; done) | (simp; omega)) _))
          · have hd5n : (v1 != 0) = false := by rw [bne, hd5]; rfl
            have Hhd5p := Lib.hid (beq_iff_eq.1 hd5)
            go_wp2_with fail
            refine Calls.mono (specPower_any _ _ _ _ _ _ _ _ hp hc (by omega) (by omega) (by omega) (by omega) (by omega)) ?_
            rw [← Hv1.out]
            rintro e w2 ⟨rfl, hB2⟩
            (obtain ⟨hB2c, hB2f⟩ := bcell hB2; have hB2s := hB2.size; (try simp at hB2s); (try have hB2q1 := Nat.lt_of_succ_le hB2s); (try have hB2q2 := Nat.lt_of_succ_lt hB2q1); (try have hB2q3 := Nat.lt_of_succ_lt hB2q2); (try have hB2zw0 : w.heap.size < w2.heap.size := (by omega)); (try have hB2zw1 : w.heap.size + 1 < w2.heap.size := (by omega)); (try have hB2zw2 : w.heap.size + 1 + 1 < w2.heap.size := (by omega)); (try have hB2zw3 : w.heap.size + 1 + 1 + 1 < w2.heap.size := (by omega)); (try have hB2zw4 : w.heap.size + 1 + 1 + 1 + 1 < w2.heap.size := (by omega)); (try have hB2zw10 : w1.heap.size < w2.heap.size := (by omega)); (try have hB2zw11 : w1.heap.size + 1 < w2.heap.size := (by omega)); (try have hB2zw12 : w1.heap.size + 1 + 1 < w2.heap.size := (by omega)); (try have hB2zw13 : w1.heap.size + 1 + 1 + 1 < w2.heap.size := (by omega)); (try have hB2zw14 : w1.heap.size + 1 + 1 + 1 + 1 < w2.heap.size := (by omega)))
            rcases bool_ways (a1 == k1 && a2 == k2) with hd6 | hd6
            · skip
              obtain ⟨v2, hv2⟩ : ∃ v : Int, v = tn1 p col k1 k2 a1 a2 := ⟨_, rfl⟩
              have rv2 := tn1_r col k1 k2 a1 a2 hp
              rw [← hv2] at rv2
              have Hv2 := Lib.hid hv2
              clear hv2
              obtain ⟨v3, hv3⟩ : ∃ v : Int, v = tn2 p col k1 k2 a1 a2 := ⟨_, rfl⟩
              have rv3 := tn2_r col k1 k2 a1 a2 hp
              rw [← hv3] at rv3
              have Hv3 := Lib.hid hv3
              clear hv3
              obtain ⟨v4, hv4⟩ : ∃ v : Int, v = tn3 p col k1 k2 a1 a2 := ⟨_, rfl⟩
              have rv4 := tn3_r col k1 k2 a1 a2 hp
              rw [← hv4] at rv4
              have Hv4 := Lib.hid hv4
              clear hv4
              go_wp2_with fail
              refine Calls.mono (specTangent_any _ _ _ _ _ _ _ _ hp hc (by omega) (by omega) (by omega) (by omega)) ?_
              rw [← Hv2.out, ← Hv3.out, ← Hv4.out]
              rintro e w3 ⟨rfl, hB3⟩
              (obtain ⟨hB3c, hB3f⟩ := bcell hB3; have hB3s := hB3.size; (try simp at hB3s); (try have hB3q1 := Nat.lt_of_succ_le hB3s); (try have hB3q2 := Nat.lt_of_succ_lt hB3q1); (try have hB3q3 := Nat.lt_of_succ_lt hB3q2); (try have hB3zw0 : w.heap.size < w3.heap.size := (by omega)); (try have hB3zw1 : w.heap.size + 1 < w3.heap.size := (by omega)); (try have hB3zw2 : w.heap.size + 1 + 1 < w3.heap.size := (by omega)); (try have hB3zw3 : w.heap.size + 1 + 1 + 1 < w3.heap.size := (by omega)); (try have hB3zw4 : w.heap.size + 1 + 1 + 1 + 1 < w3.heap.size := (by omega)); (try have hB3zw20 : w2.heap.size < w3.heap.size := (by omega)); (try have hB3zw21 : w2.heap.size + 1 < w3.heap.size := (by omega)); (try have hB3zw22 : w2.heap.size + 1 + 1 < w3.heap.size := (by omega)); (try have hB3zw23 : w2.heap.size + 1 + 1 + 1 < w3.heap.size := (by omega)); (try have hB3zw24 : w2.heap.size + 1 + 1 + 1 + 1 < w3.heap.size := (by omega)); (try have hB3zw10 : w1.heap.size < w3.heap.size := (by omega)); (try have hB3zw11 : w1.heap.size + 1 < w3.heap.size := (by omega)); (try have hB3zw12 : w1.heap.size + 1 + 1 < w3.heap.size := (by omega)); (try have hB3zw13 : w1.heap.size + 1 + 1 + 1 < w3.heap.size := (by omega)); (try have hB3zw14 : w1.heap.size + 1 + 1 + 1 + 1 < w3.heap.size := (by omega)))
              have HB : taB p col k1 k2 k3 a1 a2 = true := by simp [taB, hd1, hd2, hd3, hd4, hd5, hd6]
              have HS : taS p col k1 k2 k3 a1 a2 = 0 := by (have ho := pw_on (p := p) (c := col) (k1 := k1) (k2 := k2) (k3 := k3) (a1 := a1) (a2 := a2) hp (by omega); (try rw [← Hv1.out] at ho); simp_all [taS])
              have HV := Lib.hid (show taV1 p col k1 k2 k3 a1 a2 = v2 ∧ taV2 p col k1 k2 k3 a1 a2 = v3 ∧ taV3 p col k1 k2 k3 a1 a2 = v4 ∧ taC p col k1 k2 k3 a1 a2 = 0 from by
                have HG := ta_good (col := col) (k1 := k1) (k2 := k2) (k3 := k3) (a1 := a1) (a2 := a2) hp HB HS
                refine ⟨(HG.1).trans ?_, (HG.2.1).trans ?_, (HG.2.2.1).trans ?_, HG.2.2.2⟩
                all_goals (simp only [← Hv1.out, ← Hv2.out, ← Hv3.out, ← Hv4.out]))
              clear HB HS
              go_wp2
              (refine bodyPost_ret (v := .tuple #[.agg #[.int .i64 (taV1 p col k1 k2 k3 a1 a2), .int .i64 (taV2 p col k1 k2 k3 a1 a2), .int .i64 (taV3 p col k1 k2 k3 a1 a2)], .int .i64 (taC p col k1 k2 k3 a1 a2)]) (by simp [results, Try.results34, go_sem, HV.out.1, HV.out.2.1, HV.out.2.2.1, HV.out.2.2.2, *]) rfl ⟨?_, ?_⟩)
              · rfl
              · (repeat (first | with_reducible exact Below.refl _ _ | with_reducible refine balloc ?_ _ | with_reducible refine bdrewN ?_ _ | with_reducible refine Below.drew ?_ | with_reducible refine bthen ?_ (by with_reducible assumption) | with_reducible refine Below.setCell ?_ (by first | (simp; done) | (simp; omega)) _))
            · skip
              have HB : taB p col k1 k2 k3 a1 a2 = true := by simp [taB, hd1, hd2, hd3, hd4, hd5, hd6]
              have HS : taS p col k1 k2 k3 a1 a2 = 5 := by (have ho := pw_on (p := p) (c := col) (k1 := k1) (k2 := k2) (k3 := k3) (a1 := a1) (a2 := a2) hp (by omega); (try rw [← Hv1.out] at ho); simp_all [taS])
              have HV := Lib.hid (ta_st (col := col) (k1 := k1) (k2 := k2) (k3 := k3) (a1 := a1) (a2 := a2) hp HB HS (by decide))
              clear HB HS
              go_wp2
              (refine bodyPost_ret (v := .tuple #[.agg #[.int .i64 (taV1 p col k1 k2 k3 a1 a2), .int .i64 (taV2 p col k1 k2 k3 a1 a2), .int .i64 (taV3 p col k1 k2 k3 a1 a2)], .int .i64 (taC p col k1 k2 k3 a1 a2)]) (by simp [results, Try.results34, go_sem, HV.out.1, HV.out.2.1, HV.out.2.2.1, HV.out.2.2.2, *]) rfl ⟨?_, ?_⟩)
              · rfl
              · (repeat (first | with_reducible exact Below.refl _ _ | with_reducible refine balloc ?_ _ | with_reducible refine bdrewN ?_ _ | with_reducible refine Below.drew ?_ | with_reducible refine bthen ?_ (by with_reducible assumption) | with_reducible refine Below.setCell ?_ (by first | (simp; done) | (simp; omega)) _))

set_option linter.unusedSimpArgs false in
set_option maxRecDepth 20000 in
set_option maxHeartbeats 4000000 in
theorem implTangentAt_any (p col k1 k2 k3 a1 a2 : Int) (w : World) :
    Calls Try.prog 35 #[.int .i64 p, .int .i64 col, .agg #[.int .i64 k1, .int .i64 k2, .int .i64 k3], .agg #[.int .i64 a1, .int .i64 a2]] w fun e w' =>
      e = .returned (.tuple #[.agg #[.int .i64 (taV1 p col k1 k2 k3 a1 a2), .int .i64 (taV2 p col k1 k2 k3 a1 a2), .int .i64 (taV3 p col k1 k2 k3 a1 a2)], .int .i64 (taC p col k1 k2 k3 a1 a2)]) ∧ Below w.heap.size w w' := by
  have heq := equalPoint
  go_enter Try.func35, Try.ntmps35
  rcases bool_ways (colB col) with hd1 | hd1
  · skip
    rcases bool_ways (isP p) with hd2 | hd2
    · skip
      have c_1 : codeOf p false = 1 := codeOf_no hd2
      have cN : ∀ b, codeOf p b = 1 := fun b => codeOf_no hd2
      go_wp2_with fail
      refine Calls.mono (isColour_any _ _) ?_
      rintro e w' ⟨rfl, rfl⟩
      go_wp2_with fail
      refine Calls.mono (codeFor_any _ _ _) ?_
      rintro e w' ⟨rfl, rfl⟩
      have HV := Lib.hid (ta_no (col := col) (k1 := k1) (k2 := k2) (k3 := k3) (a1 := a1) (a2 := a2) hd2)
      go_wp2
      (refine bodyPost_ret (v := .tuple #[.agg #[.int .i64 (taV1 p col k1 k2 k3 a1 a2), .int .i64 (taV2 p col k1 k2 k3 a1 a2), .int .i64 (taV3 p col k1 k2 k3 a1 a2)], .int .i64 (taC p col k1 k2 k3 a1 a2)]) (by simp [results, Try.results35, go_sem, HV.out.1, HV.out.2.1, HV.out.2.2.1, HV.out.2.2.2, *]) rfl ⟨?_, ?_⟩)
      · rfl
      · (repeat (first | with_reducible exact Below.refl _ _ | with_reducible refine balloc ?_ _ | with_reducible refine bdrewN ?_ _ | with_reducible refine Below.drew ?_ | with_reducible refine bthen ?_ (by with_reducible assumption) | with_reducible refine Below.setCell ?_ (by first | (simp; done) | (simp; omega)) _))
    · have hp := hd2
      have hr := isP_range hp
      have c_1 : codeOf p false = 2 := codeOf_out hp (by simp)
      have cT : codeOf p true = 0 := codeOf_in hp rfl
      have cF : codeOf p false = 2 := codeOf_out hp rfl
      go_wp2_with fail
      refine Calls.mono (isColour_any _ _) ?_
      rintro e w' ⟨rfl, rfl⟩
      go_wp2_with fail
      refine Calls.mono (codeFor_any _ _ _) ?_
      rintro e w' ⟨rfl, rfl⟩
      have HV := Lib.hid (ta_out (col := col) (k1 := k1) (k2 := k2) (k3 := k3) (a1 := a1) (a2 := a2) hp (by simp [taB, hd1, hd2]))
      go_wp2
      (refine bodyPost_ret (v := .tuple #[.agg #[.int .i64 (taV1 p col k1 k2 k3 a1 a2), .int .i64 (taV2 p col k1 k2 k3 a1 a2), .int .i64 (taV3 p col k1 k2 k3 a1 a2)], .int .i64 (taC p col k1 k2 k3 a1 a2)]) (by simp [results, Try.results35, go_sem, HV.out.1, HV.out.2.1, HV.out.2.2.1, HV.out.2.2.2, *]) rfl ⟨?_, ?_⟩)
      · rfl
      · (repeat (first | with_reducible exact Below.refl _ _ | with_reducible refine balloc ?_ _ | with_reducible refine bdrewN ?_ _ | with_reducible refine Below.drew ?_ | with_reducible refine bthen ?_ (by with_reducible assumption) | with_reducible refine Below.setCell ?_ (by first | (simp; done) | (simp; omega)) _))
  · have hc := hd1
    have hcr := colB_range hc
    rcases bool_ways (numsIn p [k1, k2, k3]) with hd2 | hd2
    · skip
      rcases bool_ways (isP p) with hd3 | hd3
      · skip
        have c_1 : codeOf p false = 1 := codeOf_no hd3
        have cN : ∀ b, codeOf p b = 1 := fun b => codeOf_no hd3
        go_wp2_with fail
        refine Calls.mono (isColour_any _ _) ?_
        rintro e w' ⟨rfl, rfl⟩
        go_wp2_with fail
        refine Calls.mono (implCircles1 _ _ _ _ _ _ (by first | rfl | (simp; done))) ?_
        rintro e w1 ⟨rfl, hB1⟩
        (obtain ⟨hB1c, hB1f⟩ := bcell hB1; have hB1s := hB1.size; (try simp at hB1s); (try have hB1q1 := Nat.lt_of_succ_le hB1s); (try have hB1q2 := Nat.lt_of_succ_lt hB1q1); (try have hB1q3 := Nat.lt_of_succ_lt hB1q2); (try have hB1zw0 : w.heap.size < w1.heap.size := (by omega)); (try have hB1zw1 : w.heap.size + 1 < w1.heap.size := (by omega)); (try have hB1zw2 : w.heap.size + 1 + 1 < w1.heap.size := (by omega)); (try have hB1zw3 : w.heap.size + 1 + 1 + 1 < w1.heap.size := (by omega)); (try have hB1zw4 : w.heap.size + 1 + 1 + 1 + 1 < w1.heap.size := (by omega)))
        go_wp2_with fail
        refine Calls.mono (codeFor_any _ _ _) ?_
        rintro e w' ⟨rfl, rfl⟩
        have HV := Lib.hid (ta_no (col := col) (k1 := k1) (k2 := k2) (k3 := k3) (a1 := a1) (a2 := a2) hd3)
        go_wp2
        (refine bodyPost_ret (v := .tuple #[.agg #[.int .i64 (taV1 p col k1 k2 k3 a1 a2), .int .i64 (taV2 p col k1 k2 k3 a1 a2), .int .i64 (taV3 p col k1 k2 k3 a1 a2)], .int .i64 (taC p col k1 k2 k3 a1 a2)]) (by simp [results, Try.results35, go_sem, HV.out.1, HV.out.2.1, HV.out.2.2.1, HV.out.2.2.2, *]) rfl ⟨?_, ?_⟩)
        · rfl
        · (repeat (first | with_reducible exact Below.refl _ _ | with_reducible refine balloc ?_ _ | with_reducible refine bdrewN ?_ _ | with_reducible refine Below.drew ?_ | with_reducible refine bthen ?_ (by with_reducible assumption) | with_reducible refine Below.setCell ?_ (by first | (simp; done) | (simp; omega)) _))
      · have hp := hd3
        have hr := isP_range hp
        have c_1 : codeOf p false = 2 := codeOf_out hp (by simp)
        have cT : codeOf p true = 0 := codeOf_in hp rfl
        have cF : codeOf p false = 2 := codeOf_out hp rfl
        go_wp2_with fail
        refine Calls.mono (isColour_any _ _) ?_
        rintro e w' ⟨rfl, rfl⟩
        go_wp2_with fail
        refine Calls.mono (implCircles1 _ _ _ _ _ _ (by first | rfl | (simp; done))) ?_
        rintro e w1 ⟨rfl, hB1⟩
        (obtain ⟨hB1c, hB1f⟩ := bcell hB1; have hB1s := hB1.size; (try simp at hB1s); (try have hB1q1 := Nat.lt_of_succ_le hB1s); (try have hB1q2 := Nat.lt_of_succ_lt hB1q1); (try have hB1q3 := Nat.lt_of_succ_lt hB1q2); (try have hB1zw0 : w.heap.size < w1.heap.size := (by omega)); (try have hB1zw1 : w.heap.size + 1 < w1.heap.size := (by omega)); (try have hB1zw2 : w.heap.size + 1 + 1 < w1.heap.size := (by omega)); (try have hB1zw3 : w.heap.size + 1 + 1 + 1 < w1.heap.size := (by omega)); (try have hB1zw4 : w.heap.size + 1 + 1 + 1 + 1 < w1.heap.size := (by omega)))
        go_wp2_with fail
        refine Calls.mono (codeFor_any _ _ _) ?_
        rintro e w' ⟨rfl, rfl⟩
        have HV := Lib.hid (ta_out (col := col) (k1 := k1) (k2 := k2) (k3 := k3) (a1 := a1) (a2 := a2) hp (by simp [taB, hd1, hd2, hd3]))
        go_wp2
        (refine bodyPost_ret (v := .tuple #[.agg #[.int .i64 (taV1 p col k1 k2 k3 a1 a2), .int .i64 (taV2 p col k1 k2 k3 a1 a2), .int .i64 (taV3 p col k1 k2 k3 a1 a2)], .int .i64 (taC p col k1 k2 k3 a1 a2)]) (by simp [results, Try.results35, go_sem, HV.out.1, HV.out.2.1, HV.out.2.2.1, HV.out.2.2.2, *]) rfl ⟨?_, ?_⟩)
        · rfl
        · (repeat (first | with_reducible exact Below.refl _ _ | with_reducible refine balloc ?_ _ | with_reducible refine bdrewN ?_ _ | with_reducible refine Below.drew ?_ | with_reducible refine bthen ?_ (by with_reducible assumption) | with_reducible refine Below.setCell ?_ (by first | (simp; done) | (simp; omega)) _))
    · have hd2q := nums3 hd2
      rcases bool_ways (isP p) with hd3 | hd3
      · skip
        have c_1 : codeOf p (numsIn p [a1, a2]) = 1 := codeOf_no hd3
        have cN : ∀ b, codeOf p b = 1 := fun b => codeOf_no hd3
        go_wp2_with fail
        refine Calls.mono (isColour_any _ _) ?_
        rintro e w' ⟨rfl, rfl⟩
        go_wp2_with fail
        refine Calls.mono (implCircles1 _ _ _ _ _ _ (by first | rfl | (simp; done))) ?_
        rintro e w1 ⟨rfl, hB1⟩
        (obtain ⟨hB1c, hB1f⟩ := bcell hB1; have hB1s := hB1.size; (try simp at hB1s); (try have hB1q1 := Nat.lt_of_succ_le hB1s); (try have hB1q2 := Nat.lt_of_succ_lt hB1q1); (try have hB1q3 := Nat.lt_of_succ_lt hB1q2); (try have hB1zw0 : w.heap.size < w1.heap.size := (by omega)); (try have hB1zw1 : w.heap.size + 1 < w1.heap.size := (by omega)); (try have hB1zw2 : w.heap.size + 1 + 1 < w1.heap.size := (by omega)); (try have hB1zw3 : w.heap.size + 1 + 1 + 1 < w1.heap.size := (by omega)); (try have hB1zw4 : w.heap.size + 1 + 1 + 1 + 1 < w1.heap.size := (by omega)))
        go_wp2_with fail
        refine Calls.mono (implPoints1 _ _ _ _ _ (by first | rfl | (simp; done))) ?_
        rintro e w2 ⟨rfl, hB2⟩
        (obtain ⟨hB2c, hB2f⟩ := bcell hB2; have hB2s := hB2.size; (try simp at hB2s); (try have hB2q1 := Nat.lt_of_succ_le hB2s); (try have hB2q2 := Nat.lt_of_succ_lt hB2q1); (try have hB2q3 := Nat.lt_of_succ_lt hB2q2); (try have hB2zw0 : w.heap.size < w2.heap.size := (by omega)); (try have hB2zw1 : w.heap.size + 1 < w2.heap.size := (by omega)); (try have hB2zw2 : w.heap.size + 1 + 1 < w2.heap.size := (by omega)); (try have hB2zw3 : w.heap.size + 1 + 1 + 1 < w2.heap.size := (by omega)); (try have hB2zw4 : w.heap.size + 1 + 1 + 1 + 1 < w2.heap.size := (by omega)); (try have hB2zw10 : w1.heap.size < w2.heap.size := (by omega)); (try have hB2zw11 : w1.heap.size + 1 < w2.heap.size := (by omega)); (try have hB2zw12 : w1.heap.size + 1 + 1 < w2.heap.size := (by omega)); (try have hB2zw13 : w1.heap.size + 1 + 1 + 1 < w2.heap.size := (by omega)); (try have hB2zw14 : w1.heap.size + 1 + 1 + 1 + 1 < w2.heap.size := (by omega)))
        go_wp2_with fail
        refine Calls.mono (codeFor_any _ _ _) ?_
        rintro e w' ⟨rfl, rfl⟩
        have HV := Lib.hid (ta_no (col := col) (k1 := k1) (k2 := k2) (k3 := k3) (a1 := a1) (a2 := a2) hd3)
        go_wp2
        (refine bodyPost_ret (v := .tuple #[.agg #[.int .i64 (taV1 p col k1 k2 k3 a1 a2), .int .i64 (taV2 p col k1 k2 k3 a1 a2), .int .i64 (taV3 p col k1 k2 k3 a1 a2)], .int .i64 (taC p col k1 k2 k3 a1 a2)]) (by simp [results, Try.results35, go_sem, HV.out.1, HV.out.2.1, HV.out.2.2.1, HV.out.2.2.2, *]) rfl ⟨?_, ?_⟩)
        · rfl
        · (repeat (first | with_reducible exact Below.refl _ _ | with_reducible refine balloc ?_ _ | with_reducible refine bdrewN ?_ _ | with_reducible refine Below.drew ?_ | with_reducible refine bthen ?_ (by with_reducible assumption) | with_reducible refine Below.setCell ?_ (by first | (simp; done) | (simp; omega)) _))
      · have hp := hd3
        have hr := isP_range hp
        rcases bool_ways (numsIn p [a1, a2]) with hd4 | hd4
        · skip
          have c_1 : codeOf p (numsIn p [a1, a2]) = 2 := codeOf_out hp (by simp [hd4])
          have cT : codeOf p true = 0 := codeOf_in hp rfl
          have cF : codeOf p false = 2 := codeOf_out hp rfl
          go_wp2_with fail
          refine Calls.mono (isColour_any _ _) ?_
          rintro e w' ⟨rfl, rfl⟩
          go_wp2_with fail
          refine Calls.mono (implCircles1 _ _ _ _ _ _ (by first | rfl | (simp; done))) ?_
          rintro e w1 ⟨rfl, hB1⟩
          (obtain ⟨hB1c, hB1f⟩ := bcell hB1; have hB1s := hB1.size; (try simp at hB1s); (try have hB1q1 := Nat.lt_of_succ_le hB1s); (try have hB1q2 := Nat.lt_of_succ_lt hB1q1); (try have hB1q3 := Nat.lt_of_succ_lt hB1q2); (try have hB1zw0 : w.heap.size < w1.heap.size := (by omega)); (try have hB1zw1 : w.heap.size + 1 < w1.heap.size := (by omega)); (try have hB1zw2 : w.heap.size + 1 + 1 < w1.heap.size := (by omega)); (try have hB1zw3 : w.heap.size + 1 + 1 + 1 < w1.heap.size := (by omega)); (try have hB1zw4 : w.heap.size + 1 + 1 + 1 + 1 < w1.heap.size := (by omega)))
          go_wp2_with fail
          refine Calls.mono (implPoints1 _ _ _ _ _ (by first | rfl | (simp; done))) ?_
          rintro e w2 ⟨rfl, hB2⟩
          (obtain ⟨hB2c, hB2f⟩ := bcell hB2; have hB2s := hB2.size; (try simp at hB2s); (try have hB2q1 := Nat.lt_of_succ_le hB2s); (try have hB2q2 := Nat.lt_of_succ_lt hB2q1); (try have hB2q3 := Nat.lt_of_succ_lt hB2q2); (try have hB2zw0 : w.heap.size < w2.heap.size := (by omega)); (try have hB2zw1 : w.heap.size + 1 < w2.heap.size := (by omega)); (try have hB2zw2 : w.heap.size + 1 + 1 < w2.heap.size := (by omega)); (try have hB2zw3 : w.heap.size + 1 + 1 + 1 < w2.heap.size := (by omega)); (try have hB2zw4 : w.heap.size + 1 + 1 + 1 + 1 < w2.heap.size := (by omega)); (try have hB2zw10 : w1.heap.size < w2.heap.size := (by omega)); (try have hB2zw11 : w1.heap.size + 1 < w2.heap.size := (by omega)); (try have hB2zw12 : w1.heap.size + 1 + 1 < w2.heap.size := (by omega)); (try have hB2zw13 : w1.heap.size + 1 + 1 + 1 < w2.heap.size := (by omega)); (try have hB2zw14 : w1.heap.size + 1 + 1 + 1 + 1 < w2.heap.size := (by omega)))
          go_wp2_with fail
          refine Calls.mono (codeFor_any _ _ _) ?_
          rintro e w' ⟨rfl, rfl⟩
          have HV := Lib.hid (ta_out (col := col) (k1 := k1) (k2 := k2) (k3 := k3) (a1 := a1) (a2 := a2) hp (by simp [taB, hd1, hd2, hd3, hd4]))
          go_wp2
          (refine bodyPost_ret (v := .tuple #[.agg #[.int .i64 (taV1 p col k1 k2 k3 a1 a2), .int .i64 (taV2 p col k1 k2 k3 a1 a2), .int .i64 (taV3 p col k1 k2 k3 a1 a2)], .int .i64 (taC p col k1 k2 k3 a1 a2)]) (by simp [results, Try.results35, go_sem, HV.out.1, HV.out.2.1, HV.out.2.2.1, HV.out.2.2.2, *]) rfl ⟨?_, ?_⟩)
          · rfl
          · (repeat (first | with_reducible exact Below.refl _ _ | with_reducible refine balloc ?_ _ | with_reducible refine bdrewN ?_ _ | with_reducible refine Below.drew ?_ | with_reducible refine bthen ?_ (by with_reducible assumption) | with_reducible refine Below.setCell ?_ (by first | (simp; done) | (simp; omega)) _))
        · have hd4q := nums2 hd4
          have c_1 : codeOf p (numsIn p [a1, a2]) = 0 := codeOf_in hp (by simp [hd4])
          have cT : codeOf p true = 0 := codeOf_in hp rfl
          go_wp2_with fail
          refine Calls.mono (isColour_any _ _) ?_
          rintro e w' ⟨rfl, rfl⟩
          go_wp2_with fail
          refine Calls.mono (implCircles1 _ _ _ _ _ _ (by first | rfl | (simp; done))) ?_
          rintro e w1 ⟨rfl, hB1⟩
          (obtain ⟨hB1c, hB1f⟩ := bcell hB1; have hB1s := hB1.size; (try simp at hB1s); (try have hB1q1 := Nat.lt_of_succ_le hB1s); (try have hB1q2 := Nat.lt_of_succ_lt hB1q1); (try have hB1q3 := Nat.lt_of_succ_lt hB1q2); (try have hB1zw0 : w.heap.size < w1.heap.size := (by omega)); (try have hB1zw1 : w.heap.size + 1 < w1.heap.size := (by omega)); (try have hB1zw2 : w.heap.size + 1 + 1 < w1.heap.size := (by omega)); (try have hB1zw3 : w.heap.size + 1 + 1 + 1 < w1.heap.size := (by omega)); (try have hB1zw4 : w.heap.size + 1 + 1 + 1 + 1 < w1.heap.size := (by omega)))
          go_wp2_with fail
          refine Calls.mono (implPoints1 _ _ _ _ _ (by first | rfl | (simp; done))) ?_
          rintro e w2 ⟨rfl, hB2⟩
          (obtain ⟨hB2c, hB2f⟩ := bcell hB2; have hB2s := hB2.size; (try simp at hB2s); (try have hB2q1 := Nat.lt_of_succ_le hB2s); (try have hB2q2 := Nat.lt_of_succ_lt hB2q1); (try have hB2q3 := Nat.lt_of_succ_lt hB2q2); (try have hB2zw0 : w.heap.size < w2.heap.size := (by omega)); (try have hB2zw1 : w.heap.size + 1 < w2.heap.size := (by omega)); (try have hB2zw2 : w.heap.size + 1 + 1 < w2.heap.size := (by omega)); (try have hB2zw3 : w.heap.size + 1 + 1 + 1 < w2.heap.size := (by omega)); (try have hB2zw4 : w.heap.size + 1 + 1 + 1 + 1 < w2.heap.size := (by omega)); (try have hB2zw10 : w1.heap.size < w2.heap.size := (by omega)); (try have hB2zw11 : w1.heap.size + 1 < w2.heap.size := (by omega)); (try have hB2zw12 : w1.heap.size + 1 + 1 < w2.heap.size := (by omega)); (try have hB2zw13 : w1.heap.size + 1 + 1 + 1 < w2.heap.size := (by omega)); (try have hB2zw14 : w1.heap.size + 1 + 1 + 1 + 1 < w2.heap.size := (by omega)))
          go_wp2_with fail
          refine Calls.mono (codeFor_any _ _ _) ?_
          rintro e w' ⟨rfl, rfl⟩
          rcases bool_ways (a1 == k1 && a2 == k2) with hd5 | hd5
          · skip
            go_wp2_with fail
            refine Calls.mono (isOn_any _ _ _ _ _ _ _ _ hp hc (by omega) (by omega) (by omega) (by omega)) ?_
            rintro e w3 ⟨rfl, hB3⟩
            (obtain ⟨hB3c, hB3f⟩ := bcell hB3; have hB3s := hB3.size; (try simp at hB3s); (try have hB3q1 := Nat.lt_of_succ_le hB3s); (try have hB3q2 := Nat.lt_of_succ_lt hB3q1); (try have hB3q3 := Nat.lt_of_succ_lt hB3q2); (try have hB3zw0 : w.heap.size < w3.heap.size := (by omega)); (try have hB3zw1 : w.heap.size + 1 < w3.heap.size := (by omega)); (try have hB3zw2 : w.heap.size + 1 + 1 < w3.heap.size := (by omega)); (try have hB3zw3 : w.heap.size + 1 + 1 + 1 < w3.heap.size := (by omega)); (try have hB3zw4 : w.heap.size + 1 + 1 + 1 + 1 < w3.heap.size := (by omega)); (try have hB3zw20 : w2.heap.size < w3.heap.size := (by omega)); (try have hB3zw21 : w2.heap.size + 1 < w3.heap.size := (by omega)); (try have hB3zw22 : w2.heap.size + 1 + 1 < w3.heap.size := (by omega)); (try have hB3zw23 : w2.heap.size + 1 + 1 + 1 < w3.heap.size := (by omega)); (try have hB3zw24 : w2.heap.size + 1 + 1 + 1 + 1 < w3.heap.size := (by omega)); (try have hB3zw10 : w1.heap.size < w3.heap.size := (by omega)); (try have hB3zw11 : w1.heap.size + 1 < w3.heap.size := (by omega)); (try have hB3zw12 : w1.heap.size + 1 + 1 < w3.heap.size := (by omega)); (try have hB3zw13 : w1.heap.size + 1 + 1 + 1 < w3.heap.size := (by omega)); (try have hB3zw14 : w1.heap.size + 1 + 1 + 1 + 1 < w3.heap.size := (by omega)))
            rcases bool_ways (onC p col k1 k2 k3 a1 a2) with hd6 | hd6
            · skip
              have HB : taB p col k1 k2 k3 a1 a2 = true := by simp [taB, hd1, hd2, hd3, hd4, hd5, hd6]
              have HS : taS p col k1 k2 k3 a1 a2 = 5 := by (simp only [taS] <;> simp [hd1, hd2, hd3, hd4, hd5, hd6])
              have HV := Lib.hid (ta_st (col := col) (k1 := k1) (k2 := k2) (k3 := k3) (a1 := a1) (a2 := a2) hp HB HS (by decide))
              clear HB HS
              go_wp2
              (refine bodyPost_ret (v := .tuple #[.agg #[.int .i64 (taV1 p col k1 k2 k3 a1 a2), .int .i64 (taV2 p col k1 k2 k3 a1 a2), .int .i64 (taV3 p col k1 k2 k3 a1 a2)], .int .i64 (taC p col k1 k2 k3 a1 a2)]) (by simp [results, Try.results35, go_sem, HV.out.1, HV.out.2.1, HV.out.2.2.1, HV.out.2.2.2, *]) rfl ⟨?_, ?_⟩)
              · rfl
              · (repeat (first | with_reducible exact Below.refl _ _ | with_reducible refine balloc ?_ _ | with_reducible refine bdrewN ?_ _ | with_reducible refine Below.drew ?_ | with_reducible refine bthen ?_ (by with_reducible assumption) | with_reducible refine Below.setCell ?_ (by first | (simp; done) | (simp; omega)) _))
            · skip
              obtain ⟨v1, hv1⟩ : ∃ v : Int, v = tn1 p col k1 k2 a1 a2 := ⟨_, rfl⟩
              have rv1 := tn1_r col k1 k2 a1 a2 hp
              rw [← hv1] at rv1
              have Hv1 := Lib.hid hv1
              clear hv1
              obtain ⟨v2, hv2⟩ : ∃ v : Int, v = tn2 p col k1 k2 a1 a2 := ⟨_, rfl⟩
              have rv2 := tn2_r col k1 k2 a1 a2 hp
              rw [← hv2] at rv2
              have Hv2 := Lib.hid hv2
              clear hv2
              obtain ⟨v3, hv3⟩ : ∃ v : Int, v = tn3 p col k1 k2 a1 a2 := ⟨_, rfl⟩
              have rv3 := tn3_r col k1 k2 a1 a2 hp
              rw [← hv3] at rv3
              have Hv3 := Lib.hid hv3
              clear hv3
              go_wp2_with fail
              refine Calls.mono (implTangent_any _ _ _ _ _ _ _ _ hp hc (by omega) (by omega) (by omega) (by omega) (by first | assumption | exact at_ne (by assumption))) ?_
              rw [← Hv1.out, ← Hv2.out, ← Hv3.out]
              rintro e w4 ⟨rfl, hB4⟩
              (obtain ⟨hB4c, hB4f⟩ := bcell hB4; have hB4s := hB4.size; (try simp at hB4s); (try have hB4q1 := Nat.lt_of_succ_le hB4s); (try have hB4q2 := Nat.lt_of_succ_lt hB4q1); (try have hB4q3 := Nat.lt_of_succ_lt hB4q2); (try have hB4zw0 : w.heap.size < w4.heap.size := (by omega)); (try have hB4zw1 : w.heap.size + 1 < w4.heap.size := (by omega)); (try have hB4zw2 : w.heap.size + 1 + 1 < w4.heap.size := (by omega)); (try have hB4zw3 : w.heap.size + 1 + 1 + 1 < w4.heap.size := (by omega)); (try have hB4zw4 : w.heap.size + 1 + 1 + 1 + 1 < w4.heap.size := (by omega)); (try have hB4zw30 : w3.heap.size < w4.heap.size := (by omega)); (try have hB4zw31 : w3.heap.size + 1 < w4.heap.size := (by omega)); (try have hB4zw32 : w3.heap.size + 1 + 1 < w4.heap.size := (by omega)); (try have hB4zw33 : w3.heap.size + 1 + 1 + 1 < w4.heap.size := (by omega)); (try have hB4zw34 : w3.heap.size + 1 + 1 + 1 + 1 < w4.heap.size := (by omega)); (try have hB4zw20 : w2.heap.size < w4.heap.size := (by omega)); (try have hB4zw21 : w2.heap.size + 1 < w4.heap.size := (by omega)); (try have hB4zw22 : w2.heap.size + 1 + 1 < w4.heap.size := (by omega)); (try have hB4zw23 : w2.heap.size + 1 + 1 + 1 < w4.heap.size := (by omega)); (try have hB4zw24 : w2.heap.size + 1 + 1 + 1 + 1 < w4.heap.size := (by omega)); (try have hB4zw10 : w1.heap.size < w4.heap.size := (by omega)); (try have hB4zw11 : w1.heap.size + 1 < w4.heap.size := (by omega)); (try have hB4zw12 : w1.heap.size + 1 + 1 < w4.heap.size := (by omega)); (try have hB4zw13 : w1.heap.size + 1 + 1 + 1 < w4.heap.size := (by omega)); (try have hB4zw14 : w1.heap.size + 1 + 1 + 1 + 1 < w4.heap.size := (by omega)))
              have HB : taB p col k1 k2 k3 a1 a2 = true := by simp [taB, hd1, hd2, hd3, hd4, hd5, hd6]
              have HS : taS p col k1 k2 k3 a1 a2 = 0 := by (simp only [taS, ← Hv1.out, ← Hv2.out, ← Hv3.out] <;> simp [hd1, hd2, hd3, hd4, hd5, hd6])
              have HV := Lib.hid (show taV1 p col k1 k2 k3 a1 a2 = v1 ∧ taV2 p col k1 k2 k3 a1 a2 = v2 ∧ taV3 p col k1 k2 k3 a1 a2 = v3 ∧ taC p col k1 k2 k3 a1 a2 = 0 from by
                have HG := ta_good (col := col) (k1 := k1) (k2 := k2) (k3 := k3) (a1 := a1) (a2 := a2) hp HB HS
                refine ⟨(HG.1).trans ?_, (HG.2.1).trans ?_, (HG.2.2.1).trans ?_, HG.2.2.2⟩
                all_goals (simp only [← Hv1.out, ← Hv2.out, ← Hv3.out] <;> simp [hd1, hd2, hd3, hd4, hd5, hd6]))
              clear HB HS
              go_wp2
              (refine bodyPost_ret (v := .tuple #[.agg #[.int .i64 (taV1 p col k1 k2 k3 a1 a2), .int .i64 (taV2 p col k1 k2 k3 a1 a2), .int .i64 (taV3 p col k1 k2 k3 a1 a2)], .int .i64 (taC p col k1 k2 k3 a1 a2)]) (by simp [results, Try.results35, go_sem, HV.out.1, HV.out.2.1, HV.out.2.2.1, HV.out.2.2.2, *]) rfl ⟨?_, ?_⟩)
              · rfl
              · (repeat (first | with_reducible exact Below.refl _ _ | with_reducible refine balloc ?_ _ | with_reducible refine bdrewN ?_ _ | with_reducible refine Below.drew ?_ | with_reducible refine bthen ?_ (by with_reducible assumption) | with_reducible refine Below.setCell ?_ (by first | (simp; done) | (simp; omega)) _))
          · skip
            have HB : taB p col k1 k2 k3 a1 a2 = true := by simp [taB, hd1, hd2, hd3, hd4, hd5]
            have HS : taS p col k1 k2 k3 a1 a2 = 5 := by (simp only [taS] <;> simp [hd1, hd2, hd3, hd4, hd5])
            have HV := Lib.hid (ta_st (col := col) (k1 := k1) (k2 := k2) (k3 := k3) (a1 := a1) (a2 := a2) hp HB HS (by decide))
            clear HB HS
            go_wp2
            (refine bodyPost_ret (v := .tuple #[.agg #[.int .i64 (taV1 p col k1 k2 k3 a1 a2), .int .i64 (taV2 p col k1 k2 k3 a1 a2), .int .i64 (taV3 p col k1 k2 k3 a1 a2)], .int .i64 (taC p col k1 k2 k3 a1 a2)]) (by simp [results, Try.results35, go_sem, HV.out.1, HV.out.2.1, HV.out.2.2.1, HV.out.2.2.2, *]) rfl ⟨?_, ?_⟩)
            · rfl
            · (repeat (first | with_reducible exact Below.refl _ _ | with_reducible refine balloc ?_ _ | with_reducible refine bdrewN ?_ _ | with_reducible refine Below.drew ?_ | with_reducible refine bthen ?_ (by with_reducible assumption) | with_reducible refine Below.setCell ?_ (by first | (simp; done) | (simp; omega)) _))

end Go.Proofs.Ytcebhcamegdmaaa
