/-
  TangentOf: the program's and the model's.
-/
import Derived.Test.YtijmmagdkbnhdaaImplPolarIn
import Derived.Test.YtijmmagdkbnhdaaSpecPolar
import Derived.Test.YtijmmagdkbnhdaaSpecDtm
import Derived.Test.YtijmmagdkbnhdaaSpecCv
import Derived.Test.YtijmmagdkbnhdaaImplDtm
import Derived.Test.YtijmmagdkbnhdaaImplIsOnCon
import Derived.Test.YtijmmagdkbnhdaaSpecConGiven
import Derived.Test.YtijmmagdkbnhdaaImplIsConic
import Derived.Test.YtijmmagdkbnhdaaImplPts
import Derived.Test.YtijmmagdkbnhdaaCode
import Derived.Deep.RegionHeld3
import Derived.Deep.DeepCutAuto
import Derived.Test.YtijmmagdkbnhdaaBaseMath
namespace Go.Proofs.Ytijmmagdkbnhdaa
open Go.RowKit

set_option linter.unusedVariables false in
def tgB (p k1 k2 k3 k4 k5 k6 a1 a2 : Int) : Bool := cnB p k1 k2 k3 k4 k5 k6 && numsIn p [a1, a2]
set_option linter.unusedVariables false in
def tgS (p k1 k2 k3 k4 k5 k6 a1 a2 : Int) : Int := if (dtm p k1 k2 k3 k4 k5 k6 == 0) = true then 5 else (if (cvl p k1 k2 k3 k4 k5 k6 a1 a2 == 0) = true then 0 else 5)
set_option linter.unusedVariables false in
def tgC (p k1 k2 k3 k4 k5 k6 a1 a2 : Int) : Int := if isP p = true then (if tgB p k1 k2 k3 k4 k5 k6 a1 a2 = true then tgS p k1 k2 k3 k4 k5 k6 a1 a2 else 2) else 1
set_option linter.unusedVariables false in
def tgV1 (p k1 k2 k3 k4 k5 k6 a1 a2 : Int) : Int := if tgC p k1 k2 k3 k4 k5 k6 a1 a2 = 0 then pl1 p k1 k2 k3 k4 k5 k6 a1 a2 else 0
set_option linter.unusedVariables false in
def tgV2 (p k1 k2 k3 k4 k5 k6 a1 a2 : Int) : Int := if tgC p k1 k2 k3 k4 k5 k6 a1 a2 = 0 then pl2 p k1 k2 k3 k4 k5 k6 a1 a2 else 0
set_option linter.unusedVariables false in
def tgV3 (p k1 k2 k3 k4 k5 k6 a1 a2 : Int) : Int := if tgC p k1 k2 k3 k4 k5 k6 a1 a2 = 0 then pl3 p k1 k2 k3 k4 k5 k6 a1 a2 else 0
theorem tg_zero {p k1 k2 k3 k4 k5 k6 a1 a2 k : Int} (h : tgC p k1 k2 k3 k4 k5 k6 a1 a2 = k) (hk : k ≠ 0) : tgV1 p k1 k2 k3 k4 k5 k6 a1 a2 = 0 ∧ tgV2 p k1 k2 k3 k4 k5 k6 a1 a2 = 0 ∧ tgV3 p k1 k2 k3 k4 k5 k6 a1 a2 = 0 ∧ tgC p k1 k2 k3 k4 k5 k6 a1 a2 = k := by
  have hn : ¬ (tgC p k1 k2 k3 k4 k5 k6 a1 a2 = 0) := fun e => hk (h.symm.trans e)
  exact ⟨if_neg hn, if_neg hn, if_neg hn, h⟩
theorem tg_no {p k1 k2 k3 k4 k5 k6 a1 a2 : Int} (h : isP p = false) : tgV1 p k1 k2 k3 k4 k5 k6 a1 a2 = 0 ∧ tgV2 p k1 k2 k3 k4 k5 k6 a1 a2 = 0 ∧ tgV3 p k1 k2 k3 k4 k5 k6 a1 a2 = 0 ∧ tgC p k1 k2 k3 k4 k5 k6 a1 a2 = 1 := tg_zero (by simp [tgC, h]) (by decide)
theorem tg_out {p k1 k2 k3 k4 k5 k6 a1 a2 : Int} (hp : isP p = true) (h : tgB p k1 k2 k3 k4 k5 k6 a1 a2 = false) : tgV1 p k1 k2 k3 k4 k5 k6 a1 a2 = 0 ∧ tgV2 p k1 k2 k3 k4 k5 k6 a1 a2 = 0 ∧ tgV3 p k1 k2 k3 k4 k5 k6 a1 a2 = 0 ∧ tgC p k1 k2 k3 k4 k5 k6 a1 a2 = 2 := tg_zero (by simp [tgC, hp, h]) (by decide)
theorem tg_st {p k1 k2 k3 k4 k5 k6 a1 a2 k : Int} (hp : isP p = true) (h : tgB p k1 k2 k3 k4 k5 k6 a1 a2 = true) (hs : tgS p k1 k2 k3 k4 k5 k6 a1 a2 = k) (hk : k ≠ 0) : tgV1 p k1 k2 k3 k4 k5 k6 a1 a2 = 0 ∧ tgV2 p k1 k2 k3 k4 k5 k6 a1 a2 = 0 ∧ tgV3 p k1 k2 k3 k4 k5 k6 a1 a2 = 0 ∧ tgC p k1 k2 k3 k4 k5 k6 a1 a2 = k := tg_zero (by simp [tgC, hp, h, hs]) hk
theorem tg_good {p k1 k2 k3 k4 k5 k6 a1 a2 : Int} (hp : isP p = true) (h : tgB p k1 k2 k3 k4 k5 k6 a1 a2 = true) (hs : tgS p k1 k2 k3 k4 k5 k6 a1 a2 = 0) : tgV1 p k1 k2 k3 k4 k5 k6 a1 a2 = pl1 p k1 k2 k3 k4 k5 k6 a1 a2 ∧ tgV2 p k1 k2 k3 k4 k5 k6 a1 a2 = pl2 p k1 k2 k3 k4 k5 k6 a1 a2 ∧ tgV3 p k1 k2 k3 k4 k5 k6 a1 a2 = pl3 p k1 k2 k3 k4 k5 k6 a1 a2 ∧ tgC p k1 k2 k3 k4 k5 k6 a1 a2 = 0 := by
  have h' : tgC p k1 k2 k3 k4 k5 k6 a1 a2 = 0 := by simp [tgC, hp, h, hs]
  exact ⟨if_pos h', if_pos h', if_pos h', h'⟩

set_option linter.unusedVariables false in
set_option linter.unusedSimpArgs false in
set_option maxRecDepth 20000 in
set_option maxHeartbeats 4000000 in
theorem specTangentOf_any (p k1 k2 k3 k4 k5 k6 a1 a2 : Int)  (w : World) :
    Calls Try.prog 45 #[.int .i64 p, .agg #[.int .i64 k1, .int .i64 k2, .int .i64 k3, .int .i64 k4, .int .i64 k5, .int .i64 k6], .agg #[.int .i64 a1, .int .i64 a2]] w fun e w' =>
      e = .returned (.tuple #[.agg #[.int .i64 (tgV1 p k1 k2 k3 k4 k5 k6 a1 a2), .int .i64 (tgV2 p k1 k2 k3 k4 k5 k6 a1 a2), .int .i64 (tgV3 p k1 k2 k3 k4 k5 k6 a1 a2)], .int .i64 (tgC p k1 k2 k3 k4 k5 k6 a1 a2)]) ∧ Below w.heap.size w w' := by
  go_enter Try.func45, Try.ntmps45
  rcases bool_ways (isP p) with hd1 | hd1
  · skip
    have c_1 : codeOf p (cnB p k1 k2 k3 k4 k5 k6 && numsIn p [a1, a2]) = 1 := codeOf_no hd1
    have cN : ∀ b, codeOf p b = 1 := fun b => codeOf_no hd1
    go_wp2_with fail
    refine Calls.mono (specConGiven_any _ _ _ _ _ _ _ _ _ _) ?_
    rintro e w1 ⟨rfl, hB1⟩
    (obtain ⟨hB1c, hB1f⟩ := bcell hB1; have hB1s := hB1.size; (try simp at hB1s); (try have hB1q1 := Nat.lt_of_succ_le hB1s); (try have hB1q2 := Nat.lt_of_succ_lt hB1q1); (try have hB1q3 := Nat.lt_of_succ_lt hB1q2); (try have hB1zw0 : w.heap.size < w1.heap.size := (by omega)); (try have hB1zw1 : w.heap.size + 1 < w1.heap.size := (by omega)); (try have hB1zw2 : w.heap.size + 1 + 1 < w1.heap.size := (by omega)); (try have hB1zw3 : w.heap.size + 1 + 1 + 1 < w1.heap.size := (by omega)); (try have hB1zw4 : w.heap.size + 1 + 1 + 1 + 1 < w1.heap.size := (by omega)))
    have HV := Lib.hid (tg_no (k1 := k1) (k2 := k2) (k3 := k3) (k4 := k4) (k5 := k5) (k6 := k6) (a1 := a1) (a2 := a2) hd1)
    go_wp2
    (refine bodyPost_ret (v := .tuple #[.agg #[.int .i64 (tgV1 p k1 k2 k3 k4 k5 k6 a1 a2), .int .i64 (tgV2 p k1 k2 k3 k4 k5 k6 a1 a2), .int .i64 (tgV3 p k1 k2 k3 k4 k5 k6 a1 a2)], .int .i64 (tgC p k1 k2 k3 k4 k5 k6 a1 a2)]) (by simp [results, Try.results45, go_sem, HV.out.1, HV.out.2.1, HV.out.2.2.1, HV.out.2.2.2, *]) rfl ⟨?_, ?_⟩)
    · rfl
    · (repeat (first | with_reducible exact Below.refl _ _ | with_reducible refine balloc ?_ _ | with_reducible refine bdrewN ?_ _ | with_reducible refine Below.drew ?_ | with_reducible refine bthen ?_ (by with_reducible assumption) | with_reducible refine Below.setCell ?_ (by first | (simp; done) | (simp; omega)) _))
  · have hp := hd1
    have hr := isP_range hp
    rcases bool_ways (cnB p k1 k2 k3 k4 k5 k6) with hd2 | hd2
    · skip
      have c_1 : codeOf p (cnB p k1 k2 k3 k4 k5 k6 && numsIn p [a1, a2]) = 2 := codeOf_out hp (by simp [hd2])
      have cT : codeOf p true = 0 := codeOf_in hp rfl
      have cF : codeOf p false = 2 := codeOf_out hp rfl
      go_wp2_with fail
      refine Calls.mono (specConGiven_any _ _ _ _ _ _ _ _ _ _) ?_
      rintro e w1 ⟨rfl, hB1⟩
      (obtain ⟨hB1c, hB1f⟩ := bcell hB1; have hB1s := hB1.size; (try simp at hB1s); (try have hB1q1 := Nat.lt_of_succ_le hB1s); (try have hB1q2 := Nat.lt_of_succ_lt hB1q1); (try have hB1q3 := Nat.lt_of_succ_lt hB1q2); (try have hB1zw0 : w.heap.size < w1.heap.size := (by omega)); (try have hB1zw1 : w.heap.size + 1 < w1.heap.size := (by omega)); (try have hB1zw2 : w.heap.size + 1 + 1 < w1.heap.size := (by omega)); (try have hB1zw3 : w.heap.size + 1 + 1 + 1 < w1.heap.size := (by omega)); (try have hB1zw4 : w.heap.size + 1 + 1 + 1 + 1 < w1.heap.size := (by omega)))
      have HV := Lib.hid (tg_out (k1 := k1) (k2 := k2) (k3 := k3) (k4 := k4) (k5 := k5) (k6 := k6) (a1 := a1) (a2 := a2) hp (by simp [tgB, hd1, hd2]))
      go_wp2
      (refine bodyPost_ret (v := .tuple #[.agg #[.int .i64 (tgV1 p k1 k2 k3 k4 k5 k6 a1 a2), .int .i64 (tgV2 p k1 k2 k3 k4 k5 k6 a1 a2), .int .i64 (tgV3 p k1 k2 k3 k4 k5 k6 a1 a2)], .int .i64 (tgC p k1 k2 k3 k4 k5 k6 a1 a2)]) (by simp [results, Try.results45, go_sem, HV.out.1, HV.out.2.1, HV.out.2.2.1, HV.out.2.2.2, *]) rfl ⟨?_, ?_⟩)
      · rfl
      · (repeat (first | with_reducible exact Below.refl _ _ | with_reducible refine balloc ?_ _ | with_reducible refine bdrewN ?_ _ | with_reducible refine Below.drew ?_ | with_reducible refine bthen ?_ (by with_reducible assumption) | with_reducible refine Below.setCell ?_ (by first | (simp; done) | (simp; omega)) _))
    · have hd2q := nums6 (cnB_nums hd2)
      rcases bool_ways (numsIn p [a1, a2]) with hd3 | hd3
      · skip
        have c_1 : codeOf p (cnB p k1 k2 k3 k4 k5 k6 && numsIn p [a1, a2]) = 2 := codeOf_out hp (by simp [hd2, hd3])
        have cT : codeOf p true = 0 := codeOf_in hp rfl
        have cF : codeOf p false = 2 := codeOf_out hp rfl
        go_wp2_with fail
        refine Calls.mono (specConGiven_any _ _ _ _ _ _ _ _ _ _) ?_
        rintro e w1 ⟨rfl, hB1⟩
        (obtain ⟨hB1c, hB1f⟩ := bcell hB1; have hB1s := hB1.size; (try simp at hB1s); (try have hB1q1 := Nat.lt_of_succ_le hB1s); (try have hB1q2 := Nat.lt_of_succ_lt hB1q1); (try have hB1q3 := Nat.lt_of_succ_lt hB1q2); (try have hB1zw0 : w.heap.size < w1.heap.size := (by omega)); (try have hB1zw1 : w.heap.size + 1 < w1.heap.size := (by omega)); (try have hB1zw2 : w.heap.size + 1 + 1 < w1.heap.size := (by omega)); (try have hB1zw3 : w.heap.size + 1 + 1 + 1 < w1.heap.size := (by omega)); (try have hB1zw4 : w.heap.size + 1 + 1 + 1 + 1 < w1.heap.size := (by omega)))
        have HV := Lib.hid (tg_out (k1 := k1) (k2 := k2) (k3 := k3) (k4 := k4) (k5 := k5) (k6 := k6) (a1 := a1) (a2 := a2) hp (by simp [tgB, hd1, hd2, hd3]))
        go_wp2
        (refine bodyPost_ret (v := .tuple #[.agg #[.int .i64 (tgV1 p k1 k2 k3 k4 k5 k6 a1 a2), .int .i64 (tgV2 p k1 k2 k3 k4 k5 k6 a1 a2), .int .i64 (tgV3 p k1 k2 k3 k4 k5 k6 a1 a2)], .int .i64 (tgC p k1 k2 k3 k4 k5 k6 a1 a2)]) (by simp [results, Try.results45, go_sem, HV.out.1, HV.out.2.1, HV.out.2.2.1, HV.out.2.2.2, *]) rfl ⟨?_, ?_⟩)
        · rfl
        · (repeat (first | with_reducible exact Below.refl _ _ | with_reducible refine balloc ?_ _ | with_reducible refine bdrewN ?_ _ | with_reducible refine Below.drew ?_ | with_reducible refine bthen ?_ (by with_reducible assumption) | with_reducible refine Below.setCell ?_ (by first | (simp; done) | (simp; omega)) _))
      · have hd3q := nums2 hd3
        have c_1 : codeOf p (cnB p k1 k2 k3 k4 k5 k6 && numsIn p [a1, a2]) = 0 := codeOf_in hp (by simp [hd2, hd3])
        have cT : codeOf p true = 0 := codeOf_in hp rfl
        obtain ⟨v1, hv1⟩ : ∃ v : Int, v = dtm p k1 k2 k3 k4 k5 k6 := ⟨_, rfl⟩
        have rv1 := dtm_r k1 k2 k3 k4 k5 k6 hp
        rw [← hv1] at rv1
        have Hv1 := Lib.hid hv1
        clear hv1
        go_wp2_with fail
        refine Calls.mono (specConGiven_any _ _ _ _ _ _ _ _ _ _) ?_
        rintro e w1 ⟨rfl, hB1⟩
        (obtain ⟨hB1c, hB1f⟩ := bcell hB1; have hB1s := hB1.size; (try simp at hB1s); (try have hB1q1 := Nat.lt_of_succ_le hB1s); (try have hB1q2 := Nat.lt_of_succ_lt hB1q1); (try have hB1q3 := Nat.lt_of_succ_lt hB1q2); (try have hB1zw0 : w.heap.size < w1.heap.size := (by omega)); (try have hB1zw1 : w.heap.size + 1 < w1.heap.size := (by omega)); (try have hB1zw2 : w.heap.size + 1 + 1 < w1.heap.size := (by omega)); (try have hB1zw3 : w.heap.size + 1 + 1 + 1 < w1.heap.size := (by omega)); (try have hB1zw4 : w.heap.size + 1 + 1 + 1 + 1 < w1.heap.size := (by omega)))
        rcases bool_ways (v1 == 0) with hd4 | hd4
        · have hd4n : (v1 != 0) = true := by rw [bne, hd4]; rfl
          have Hhd4p := Lib.hid (beq_eq_false_iff_ne.1 hd4)
          obtain ⟨v2, hv2⟩ : ∃ v : Int, v = cvl p k1 k2 k3 k4 k5 k6 a1 a2 := ⟨_, rfl⟩
          have rv2 := cvl_r k1 k2 k3 k4 k5 k6 a1 a2 hp
          rw [← hv2] at rv2
          have Hv2 := Lib.hid hv2
          clear hv2
          go_wp2_with fail
          refine Calls.mono (specDtm_any _ _ _ _ _ _ _ _ hp (by omega) (by omega) (by omega) (by omega) (by omega) (by omega)) ?_
          rw [← Hv1.out]
          rintro e w2 ⟨rfl, hB2⟩
          (obtain ⟨hB2c, hB2f⟩ := bcell hB2; have hB2s := hB2.size; (try simp at hB2s); (try have hB2q1 := Nat.lt_of_succ_le hB2s); (try have hB2q2 := Nat.lt_of_succ_lt hB2q1); (try have hB2q3 := Nat.lt_of_succ_lt hB2q2); (try have hB2zw0 : w.heap.size < w2.heap.size := (by omega)); (try have hB2zw1 : w.heap.size + 1 < w2.heap.size := (by omega)); (try have hB2zw2 : w.heap.size + 1 + 1 < w2.heap.size := (by omega)); (try have hB2zw3 : w.heap.size + 1 + 1 + 1 < w2.heap.size := (by omega)); (try have hB2zw4 : w.heap.size + 1 + 1 + 1 + 1 < w2.heap.size := (by omega)); (try have hB2zw10 : w1.heap.size < w2.heap.size := (by omega)); (try have hB2zw11 : w1.heap.size + 1 < w2.heap.size := (by omega)); (try have hB2zw12 : w1.heap.size + 1 + 1 < w2.heap.size := (by omega)); (try have hB2zw13 : w1.heap.size + 1 + 1 + 1 < w2.heap.size := (by omega)); (try have hB2zw14 : w1.heap.size + 1 + 1 + 1 + 1 < w2.heap.size := (by omega)))
          go_wp2_with fail
          refine Calls.mono (specCv_any _ _ _ _ _ _ _ _ _ _ hp (by omega) (by omega) (by omega) (by omega) (by omega) (by omega) (by omega) (by omega)) ?_
          rw [← Hv2.out]
          rintro e w3 ⟨rfl, hB3⟩
          (obtain ⟨hB3c, hB3f⟩ := bcell hB3; have hB3s := hB3.size; (try simp at hB3s); (try have hB3q1 := Nat.lt_of_succ_le hB3s); (try have hB3q2 := Nat.lt_of_succ_lt hB3q1); (try have hB3q3 := Nat.lt_of_succ_lt hB3q2); (try have hB3zw0 : w.heap.size < w3.heap.size := (by omega)); (try have hB3zw1 : w.heap.size + 1 < w3.heap.size := (by omega)); (try have hB3zw2 : w.heap.size + 1 + 1 < w3.heap.size := (by omega)); (try have hB3zw3 : w.heap.size + 1 + 1 + 1 < w3.heap.size := (by omega)); (try have hB3zw4 : w.heap.size + 1 + 1 + 1 + 1 < w3.heap.size := (by omega)); (try have hB3zw20 : w2.heap.size < w3.heap.size := (by omega)); (try have hB3zw21 : w2.heap.size + 1 < w3.heap.size := (by omega)); (try have hB3zw22 : w2.heap.size + 1 + 1 < w3.heap.size := (by omega)); (try have hB3zw23 : w2.heap.size + 1 + 1 + 1 < w3.heap.size := (by omega)); (try have hB3zw24 : w2.heap.size + 1 + 1 + 1 + 1 < w3.heap.size := (by omega)); (try have hB3zw10 : w1.heap.size < w3.heap.size := (by omega)); (try have hB3zw11 : w1.heap.size + 1 < w3.heap.size := (by omega)); (try have hB3zw12 : w1.heap.size + 1 + 1 < w3.heap.size := (by omega)); (try have hB3zw13 : w1.heap.size + 1 + 1 + 1 < w3.heap.size := (by omega)); (try have hB3zw14 : w1.heap.size + 1 + 1 + 1 + 1 < w3.heap.size := (by omega)))
          rcases bool_ways (v2 == 0) with hd5 | hd5
          · have hd5n : (v2 != 0) = true := by rw [bne, hd5]; rfl
            have Hhd5p := Lib.hid (beq_eq_false_iff_ne.1 hd5)
            have HB : tgB p k1 k2 k3 k4 k5 k6 a1 a2 = true := by simp [tgB, hd1, hd2, hd3, hd4, hd5]
            have HS : tgS p k1 k2 k3 k4 k5 k6 a1 a2 = 5 := by (unfold tgS; simp only [← Hv1.out, ← Hv2.out]; simp [hd1, hd2, hd3, hd4, hd5])
            have HV := Lib.hid (tg_st (k1 := k1) (k2 := k2) (k3 := k3) (k4 := k4) (k5 := k5) (k6 := k6) (a1 := a1) (a2 := a2) hp HB HS (by decide))
            clear HB HS
            go_wp2
            (refine bodyPost_ret (v := .tuple #[.agg #[.int .i64 (tgV1 p k1 k2 k3 k4 k5 k6 a1 a2), .int .i64 (tgV2 p k1 k2 k3 k4 k5 k6 a1 a2), .int .i64 (tgV3 p k1 k2 k3 k4 k5 k6 a1 a2)], .int .i64 (tgC p k1 k2 k3 k4 k5 k6 a1 a2)]) (by simp [results, Try.results45, go_sem, HV.out.1, HV.out.2.1, HV.out.2.2.1, HV.out.2.2.2, *]) rfl ⟨?_, ?_⟩)
            · rfl
            · (repeat (first | with_reducible exact Below.refl _ _ | with_reducible refine balloc ?_ _ | with_reducible refine bdrewN ?_ _ | with_reducible refine Below.drew ?_ | with_reducible refine bthen ?_ (by with_reducible assumption) | with_reducible refine Below.setCell ?_ (by first | (simp; done) | (simp; omega)) _))
          · have hd5n : (v2 != 0) = false := by rw [bne, hd5]; rfl
            have Hhd5p := Lib.hid (beq_iff_eq.1 hd5)
            obtain ⟨v3, hv3⟩ : ∃ v : Int, v = pl1 p k1 k2 k3 k4 k5 k6 a1 a2 := ⟨_, rfl⟩
            have rv3 := (pl_r k1 k2 k3 k4 k5 k6 a1 a2 hp).1
            rw [← hv3] at rv3
            have Hv3 := Lib.hid hv3
            clear hv3
            obtain ⟨v4, hv4⟩ : ∃ v : Int, v = pl2 p k1 k2 k3 k4 k5 k6 a1 a2 := ⟨_, rfl⟩
            have rv4 := (pl_r k1 k2 k3 k4 k5 k6 a1 a2 hp).2.1
            rw [← hv4] at rv4
            have Hv4 := Lib.hid hv4
            clear hv4
            obtain ⟨v5, hv5⟩ : ∃ v : Int, v = pl3 p k1 k2 k3 k4 k5 k6 a1 a2 := ⟨_, rfl⟩
            have rv5 := (pl_r k1 k2 k3 k4 k5 k6 a1 a2 hp).2.2
            rw [← hv5] at rv5
            have Hv5 := Lib.hid hv5
            clear hv5
            go_wp2_with fail
            refine Calls.mono (specPolar_any _ _ _ _ _ _ _ _ _ _ hp (by omega) (by omega) (by omega) (by omega) (by omega) (by omega) (by omega) (by omega)) ?_
            rw [← Hv3.out, ← Hv4.out, ← Hv5.out]
            rintro e w4 ⟨rfl, hB4⟩
            (obtain ⟨hB4c, hB4f⟩ := bcell hB4; have hB4s := hB4.size; (try simp at hB4s); (try have hB4q1 := Nat.lt_of_succ_le hB4s); (try have hB4q2 := Nat.lt_of_succ_lt hB4q1); (try have hB4q3 := Nat.lt_of_succ_lt hB4q2); (try have hB4zw0 : w.heap.size < w4.heap.size := (by omega)); (try have hB4zw1 : w.heap.size + 1 < w4.heap.size := (by omega)); (try have hB4zw2 : w.heap.size + 1 + 1 < w4.heap.size := (by omega)); (try have hB4zw3 : w.heap.size + 1 + 1 + 1 < w4.heap.size := (by omega)); (try have hB4zw4 : w.heap.size + 1 + 1 + 1 + 1 < w4.heap.size := (by omega)); (try have hB4zw30 : w3.heap.size < w4.heap.size := (by omega)); (try have hB4zw31 : w3.heap.size + 1 < w4.heap.size := (by omega)); (try have hB4zw32 : w3.heap.size + 1 + 1 < w4.heap.size := (by omega)); (try have hB4zw33 : w3.heap.size + 1 + 1 + 1 < w4.heap.size := (by omega)); (try have hB4zw34 : w3.heap.size + 1 + 1 + 1 + 1 < w4.heap.size := (by omega)); (try have hB4zw20 : w2.heap.size < w4.heap.size := (by omega)); (try have hB4zw21 : w2.heap.size + 1 < w4.heap.size := (by omega)); (try have hB4zw22 : w2.heap.size + 1 + 1 < w4.heap.size := (by omega)); (try have hB4zw23 : w2.heap.size + 1 + 1 + 1 < w4.heap.size := (by omega)); (try have hB4zw24 : w2.heap.size + 1 + 1 + 1 + 1 < w4.heap.size := (by omega)); (try have hB4zw10 : w1.heap.size < w4.heap.size := (by omega)); (try have hB4zw11 : w1.heap.size + 1 < w4.heap.size := (by omega)); (try have hB4zw12 : w1.heap.size + 1 + 1 < w4.heap.size := (by omega)); (try have hB4zw13 : w1.heap.size + 1 + 1 + 1 < w4.heap.size := (by omega)); (try have hB4zw14 : w1.heap.size + 1 + 1 + 1 + 1 < w4.heap.size := (by omega)))
            have HB : tgB p k1 k2 k3 k4 k5 k6 a1 a2 = true := by simp [tgB, hd1, hd2, hd3, hd4, hd5]
            have HS : tgS p k1 k2 k3 k4 k5 k6 a1 a2 = 0 := by (unfold tgS; simp only [← Hv1.out, ← Hv2.out, ← Hv3.out, ← Hv4.out, ← Hv5.out]; simp [hd1, hd2, hd3, hd4, hd5])
            have HV := Lib.hid (show tgV1 p k1 k2 k3 k4 k5 k6 a1 a2 = v3 ∧ tgV2 p k1 k2 k3 k4 k5 k6 a1 a2 = v4 ∧ tgV3 p k1 k2 k3 k4 k5 k6 a1 a2 = v5 ∧ tgC p k1 k2 k3 k4 k5 k6 a1 a2 = 0 from by
              have HG := tg_good (k1 := k1) (k2 := k2) (k3 := k3) (k4 := k4) (k5 := k5) (k6 := k6) (a1 := a1) (a2 := a2) hp HB HS
              refine ⟨(HG.1).trans ?_, (HG.2.1).trans ?_, (HG.2.2.1).trans ?_, HG.2.2.2⟩
              all_goals (simp only [Hv5.out, Hv4.out, Hv3.out, Hv2.out, Hv1.out]))
            clear HB HS
            go_wp2
            (refine bodyPost_ret (v := .tuple #[.agg #[.int .i64 (tgV1 p k1 k2 k3 k4 k5 k6 a1 a2), .int .i64 (tgV2 p k1 k2 k3 k4 k5 k6 a1 a2), .int .i64 (tgV3 p k1 k2 k3 k4 k5 k6 a1 a2)], .int .i64 (tgC p k1 k2 k3 k4 k5 k6 a1 a2)]) (by simp [results, Try.results45, go_sem, HV.out.1, HV.out.2.1, HV.out.2.2.1, HV.out.2.2.2, *]) rfl ⟨?_, ?_⟩)
            · rfl
            · (repeat (first | with_reducible exact Below.refl _ _ | with_reducible refine balloc ?_ _ | with_reducible refine bdrewN ?_ _ | with_reducible refine Below.drew ?_ | with_reducible refine bthen ?_ (by with_reducible assumption) | with_reducible refine Below.setCell ?_ (by first | (simp; done) | (simp; omega)) _))
        · have hd4n : (v1 != 0) = false := by rw [bne, hd4]; rfl
          have Hhd4p := Lib.hid (beq_iff_eq.1 hd4)
          go_wp2_with fail
          refine Calls.mono (specDtm_any _ _ _ _ _ _ _ _ hp (by omega) (by omega) (by omega) (by omega) (by omega) (by omega)) ?_
          rw [← Hv1.out]
          rintro e w2 ⟨rfl, hB2⟩
          (obtain ⟨hB2c, hB2f⟩ := bcell hB2; have hB2s := hB2.size; (try simp at hB2s); (try have hB2q1 := Nat.lt_of_succ_le hB2s); (try have hB2q2 := Nat.lt_of_succ_lt hB2q1); (try have hB2q3 := Nat.lt_of_succ_lt hB2q2); (try have hB2zw0 : w.heap.size < w2.heap.size := (by omega)); (try have hB2zw1 : w.heap.size + 1 < w2.heap.size := (by omega)); (try have hB2zw2 : w.heap.size + 1 + 1 < w2.heap.size := (by omega)); (try have hB2zw3 : w.heap.size + 1 + 1 + 1 < w2.heap.size := (by omega)); (try have hB2zw4 : w.heap.size + 1 + 1 + 1 + 1 < w2.heap.size := (by omega)); (try have hB2zw10 : w1.heap.size < w2.heap.size := (by omega)); (try have hB2zw11 : w1.heap.size + 1 < w2.heap.size := (by omega)); (try have hB2zw12 : w1.heap.size + 1 + 1 < w2.heap.size := (by omega)); (try have hB2zw13 : w1.heap.size + 1 + 1 + 1 < w2.heap.size := (by omega)); (try have hB2zw14 : w1.heap.size + 1 + 1 + 1 + 1 < w2.heap.size := (by omega)))
          have HB : tgB p k1 k2 k3 k4 k5 k6 a1 a2 = true := by simp [tgB, hd1, hd2, hd3, hd4]
          have HS : tgS p k1 k2 k3 k4 k5 k6 a1 a2 = 5 := by (unfold tgS; simp only [← Hv1.out]; simp [hd1, hd2, hd3, hd4])
          have HV := Lib.hid (tg_st (k1 := k1) (k2 := k2) (k3 := k3) (k4 := k4) (k5 := k5) (k6 := k6) (a1 := a1) (a2 := a2) hp HB HS (by decide))
          clear HB HS
          go_wp2
          (refine bodyPost_ret (v := .tuple #[.agg #[.int .i64 (tgV1 p k1 k2 k3 k4 k5 k6 a1 a2), .int .i64 (tgV2 p k1 k2 k3 k4 k5 k6 a1 a2), .int .i64 (tgV3 p k1 k2 k3 k4 k5 k6 a1 a2)], .int .i64 (tgC p k1 k2 k3 k4 k5 k6 a1 a2)]) (by simp [results, Try.results45, go_sem, HV.out.1, HV.out.2.1, HV.out.2.2.1, HV.out.2.2.2, *]) rfl ⟨?_, ?_⟩)
          · rfl
          · (repeat (first | with_reducible exact Below.refl _ _ | with_reducible refine balloc ?_ _ | with_reducible refine bdrewN ?_ _ | with_reducible refine Below.drew ?_ | with_reducible refine bthen ?_ (by with_reducible assumption) | with_reducible refine Below.setCell ?_ (by first | (simp; done) | (simp; omega)) _))

set_option linter.unusedVariables false in
set_option linter.unusedSimpArgs false in
set_option maxRecDepth 20000 in
set_option maxHeartbeats 4000000 in
theorem implTangentOf_any (p k1 k2 k3 k4 k5 k6 a1 a2 : Int)  (w : World) :
    Calls Try.prog 46 #[.int .i64 p, .agg #[.int .i64 k1, .int .i64 k2, .int .i64 k3, .int .i64 k4, .int .i64 k5, .int .i64 k6], .agg #[.int .i64 a1, .int .i64 a2]] w fun e w' =>
      e = .returned (.tuple #[.agg #[.int .i64 (tgV1 p k1 k2 k3 k4 k5 k6 a1 a2), .int .i64 (tgV2 p k1 k2 k3 k4 k5 k6 a1 a2), .int .i64 (tgV3 p k1 k2 k3 k4 k5 k6 a1 a2)], .int .i64 (tgC p k1 k2 k3 k4 k5 k6 a1 a2)]) ∧ Below w.heap.size w w' := by
  go_enter Try.func46, Try.ntmps46
  rcases bool_ways (cnB p k1 k2 k3 k4 k5 k6) with hd1 | hd1
  · skip
    rcases bool_ways (isP p) with hd2 | hd2
    · skip
      have c_1 : codeOf p false = 1 := codeOf_no hd2
      have cN : ∀ b, codeOf p b = 1 := fun b => codeOf_no hd2
      go_wp2_with fail
      refine Calls.mono (isConic_any _ _ _ _ _ _ _ _ ) ?_
      rintro e w1 ⟨rfl, hB1⟩
      (obtain ⟨hB1c, hB1f⟩ := bcell hB1; have hB1s := hB1.size; (try simp at hB1s); (try have hB1q1 := Nat.lt_of_succ_le hB1s); (try have hB1q2 := Nat.lt_of_succ_lt hB1q1); (try have hB1q3 := Nat.lt_of_succ_lt hB1q2); (try have hB1zw0 : w.heap.size < w1.heap.size := (by omega)); (try have hB1zw1 : w.heap.size + 1 < w1.heap.size := (by omega)); (try have hB1zw2 : w.heap.size + 1 + 1 < w1.heap.size := (by omega)); (try have hB1zw3 : w.heap.size + 1 + 1 + 1 < w1.heap.size := (by omega)); (try have hB1zw4 : w.heap.size + 1 + 1 + 1 + 1 < w1.heap.size := (by omega)))
      go_wp2_with fail
      refine Calls.mono (codeFor_any _ _ _) ?_
      rintro e w' ⟨rfl, rfl⟩
      have HV := Lib.hid (tg_no (k1 := k1) (k2 := k2) (k3 := k3) (k4 := k4) (k5 := k5) (k6 := k6) (a1 := a1) (a2 := a2) hd2)
      go_wp2
      (refine bodyPost_ret (v := .tuple #[.agg #[.int .i64 (tgV1 p k1 k2 k3 k4 k5 k6 a1 a2), .int .i64 (tgV2 p k1 k2 k3 k4 k5 k6 a1 a2), .int .i64 (tgV3 p k1 k2 k3 k4 k5 k6 a1 a2)], .int .i64 (tgC p k1 k2 k3 k4 k5 k6 a1 a2)]) (by simp [results, Try.results46, go_sem, HV.out.1, HV.out.2.1, HV.out.2.2.1, HV.out.2.2.2, *]) rfl ⟨?_, ?_⟩)
      · rfl
      · (repeat (first | with_reducible exact Below.refl _ _ | with_reducible refine balloc ?_ _ | with_reducible refine bdrewN ?_ _ | with_reducible refine Below.drew ?_ | with_reducible refine bthen ?_ (by with_reducible assumption) | with_reducible refine Below.setCell ?_ (by first | (simp; done) | (simp; omega)) _))
    · have hp := hd2
      have hr := isP_range hp
      have c_1 : codeOf p false = 2 := codeOf_out hp (by simp)
      have cT : codeOf p true = 0 := codeOf_in hp rfl
      have cF : codeOf p false = 2 := codeOf_out hp rfl
      go_wp2_with fail
      refine Calls.mono (isConic_any _ _ _ _ _ _ _ _ ) ?_
      rintro e w1 ⟨rfl, hB1⟩
      (obtain ⟨hB1c, hB1f⟩ := bcell hB1; have hB1s := hB1.size; (try simp at hB1s); (try have hB1q1 := Nat.lt_of_succ_le hB1s); (try have hB1q2 := Nat.lt_of_succ_lt hB1q1); (try have hB1q3 := Nat.lt_of_succ_lt hB1q2); (try have hB1zw0 : w.heap.size < w1.heap.size := (by omega)); (try have hB1zw1 : w.heap.size + 1 < w1.heap.size := (by omega)); (try have hB1zw2 : w.heap.size + 1 + 1 < w1.heap.size := (by omega)); (try have hB1zw3 : w.heap.size + 1 + 1 + 1 < w1.heap.size := (by omega)); (try have hB1zw4 : w.heap.size + 1 + 1 + 1 + 1 < w1.heap.size := (by omega)))
      go_wp2_with fail
      refine Calls.mono (codeFor_any _ _ _) ?_
      rintro e w' ⟨rfl, rfl⟩
      have HV := Lib.hid (tg_out (k1 := k1) (k2 := k2) (k3 := k3) (k4 := k4) (k5 := k5) (k6 := k6) (a1 := a1) (a2 := a2) hp (by simp [tgB, hd1, hd2]))
      go_wp2
      (refine bodyPost_ret (v := .tuple #[.agg #[.int .i64 (tgV1 p k1 k2 k3 k4 k5 k6 a1 a2), .int .i64 (tgV2 p k1 k2 k3 k4 k5 k6 a1 a2), .int .i64 (tgV3 p k1 k2 k3 k4 k5 k6 a1 a2)], .int .i64 (tgC p k1 k2 k3 k4 k5 k6 a1 a2)]) (by simp [results, Try.results46, go_sem, HV.out.1, HV.out.2.1, HV.out.2.2.1, HV.out.2.2.2, *]) rfl ⟨?_, ?_⟩)
      · rfl
      · (repeat (first | with_reducible exact Below.refl _ _ | with_reducible refine balloc ?_ _ | with_reducible refine bdrewN ?_ _ | with_reducible refine Below.drew ?_ | with_reducible refine bthen ?_ (by with_reducible assumption) | with_reducible refine Below.setCell ?_ (by first | (simp; done) | (simp; omega)) _))
  · have hd1q := nums6 (cnB_nums hd1)
    rcases bool_ways (isP p) with hd2 | hd2
    · skip
      have c_1 : codeOf p (numsIn p [a1, a2]) = 1 := codeOf_no hd2
      have cN : ∀ b, codeOf p b = 1 := fun b => codeOf_no hd2
      go_wp2_with fail
      refine Calls.mono (isConic_any _ _ _ _ _ _ _ _ ) ?_
      rintro e w1 ⟨rfl, hB1⟩
      (obtain ⟨hB1c, hB1f⟩ := bcell hB1; have hB1s := hB1.size; (try simp at hB1s); (try have hB1q1 := Nat.lt_of_succ_le hB1s); (try have hB1q2 := Nat.lt_of_succ_lt hB1q1); (try have hB1q3 := Nat.lt_of_succ_lt hB1q2); (try have hB1zw0 : w.heap.size < w1.heap.size := (by omega)); (try have hB1zw1 : w.heap.size + 1 < w1.heap.size := (by omega)); (try have hB1zw2 : w.heap.size + 1 + 1 < w1.heap.size := (by omega)); (try have hB1zw3 : w.heap.size + 1 + 1 + 1 < w1.heap.size := (by omega)); (try have hB1zw4 : w.heap.size + 1 + 1 + 1 + 1 < w1.heap.size := (by omega)))
      go_wp2_with fail
      refine Calls.mono (implPoints1 _ _ _ _ _ (by first | rfl | (simp; done))) ?_
      rintro e w2 ⟨rfl, hB2⟩
      (obtain ⟨hB2c, hB2f⟩ := bcell hB2; have hB2s := hB2.size; (try simp at hB2s); (try have hB2q1 := Nat.lt_of_succ_le hB2s); (try have hB2q2 := Nat.lt_of_succ_lt hB2q1); (try have hB2q3 := Nat.lt_of_succ_lt hB2q2); (try have hB2zw0 : w.heap.size < w2.heap.size := (by omega)); (try have hB2zw1 : w.heap.size + 1 < w2.heap.size := (by omega)); (try have hB2zw2 : w.heap.size + 1 + 1 < w2.heap.size := (by omega)); (try have hB2zw3 : w.heap.size + 1 + 1 + 1 < w2.heap.size := (by omega)); (try have hB2zw4 : w.heap.size + 1 + 1 + 1 + 1 < w2.heap.size := (by omega)); (try have hB2zw10 : w1.heap.size < w2.heap.size := (by omega)); (try have hB2zw11 : w1.heap.size + 1 < w2.heap.size := (by omega)); (try have hB2zw12 : w1.heap.size + 1 + 1 < w2.heap.size := (by omega)); (try have hB2zw13 : w1.heap.size + 1 + 1 + 1 < w2.heap.size := (by omega)); (try have hB2zw14 : w1.heap.size + 1 + 1 + 1 + 1 < w2.heap.size := (by omega)))
      go_wp2_with fail
      refine Calls.mono (codeFor_any _ _ _) ?_
      rintro e w' ⟨rfl, rfl⟩
      have HV := Lib.hid (tg_no (k1 := k1) (k2 := k2) (k3 := k3) (k4 := k4) (k5 := k5) (k6 := k6) (a1 := a1) (a2 := a2) hd2)
      go_wp2
      (refine bodyPost_ret (v := .tuple #[.agg #[.int .i64 (tgV1 p k1 k2 k3 k4 k5 k6 a1 a2), .int .i64 (tgV2 p k1 k2 k3 k4 k5 k6 a1 a2), .int .i64 (tgV3 p k1 k2 k3 k4 k5 k6 a1 a2)], .int .i64 (tgC p k1 k2 k3 k4 k5 k6 a1 a2)]) (by simp [results, Try.results46, go_sem, HV.out.1, HV.out.2.1, HV.out.2.2.1, HV.out.2.2.2, *]) rfl ⟨?_, ?_⟩)
      · rfl
      · (repeat (first | with_reducible exact Below.refl _ _ | with_reducible refine balloc ?_ _ | with_reducible refine bdrewN ?_ _ | with_reducible refine Below.drew ?_ | with_reducible refine bthen ?_ (by with_reducible assumption) | with_reducible refine Below.setCell ?_ (by first | (simp; done) | (simp; omega)) _))
    · have hp := hd2
      have hr := isP_range hp
      rcases bool_ways (numsIn p [a1, a2]) with hd3 | hd3
      · skip
        have c_1 : codeOf p (numsIn p [a1, a2]) = 2 := codeOf_out hp (by simp [hd3])
        have cT : codeOf p true = 0 := codeOf_in hp rfl
        have cF : codeOf p false = 2 := codeOf_out hp rfl
        go_wp2_with fail
        refine Calls.mono (isConic_any _ _ _ _ _ _ _ _ ) ?_
        rintro e w1 ⟨rfl, hB1⟩
        (obtain ⟨hB1c, hB1f⟩ := bcell hB1; have hB1s := hB1.size; (try simp at hB1s); (try have hB1q1 := Nat.lt_of_succ_le hB1s); (try have hB1q2 := Nat.lt_of_succ_lt hB1q1); (try have hB1q3 := Nat.lt_of_succ_lt hB1q2); (try have hB1zw0 : w.heap.size < w1.heap.size := (by omega)); (try have hB1zw1 : w.heap.size + 1 < w1.heap.size := (by omega)); (try have hB1zw2 : w.heap.size + 1 + 1 < w1.heap.size := (by omega)); (try have hB1zw3 : w.heap.size + 1 + 1 + 1 < w1.heap.size := (by omega)); (try have hB1zw4 : w.heap.size + 1 + 1 + 1 + 1 < w1.heap.size := (by omega)))
        go_wp2_with fail
        refine Calls.mono (implPoints1 _ _ _ _ _ (by first | rfl | (simp; done))) ?_
        rintro e w2 ⟨rfl, hB2⟩
        (obtain ⟨hB2c, hB2f⟩ := bcell hB2; have hB2s := hB2.size; (try simp at hB2s); (try have hB2q1 := Nat.lt_of_succ_le hB2s); (try have hB2q2 := Nat.lt_of_succ_lt hB2q1); (try have hB2q3 := Nat.lt_of_succ_lt hB2q2); (try have hB2zw0 : w.heap.size < w2.heap.size := (by omega)); (try have hB2zw1 : w.heap.size + 1 < w2.heap.size := (by omega)); (try have hB2zw2 : w.heap.size + 1 + 1 < w2.heap.size := (by omega)); (try have hB2zw3 : w.heap.size + 1 + 1 + 1 < w2.heap.size := (by omega)); (try have hB2zw4 : w.heap.size + 1 + 1 + 1 + 1 < w2.heap.size := (by omega)); (try have hB2zw10 : w1.heap.size < w2.heap.size := (by omega)); (try have hB2zw11 : w1.heap.size + 1 < w2.heap.size := (by omega)); (try have hB2zw12 : w1.heap.size + 1 + 1 < w2.heap.size := (by omega)); (try have hB2zw13 : w1.heap.size + 1 + 1 + 1 < w2.heap.size := (by omega)); (try have hB2zw14 : w1.heap.size + 1 + 1 + 1 + 1 < w2.heap.size := (by omega)))
        go_wp2_with fail
        refine Calls.mono (codeFor_any _ _ _) ?_
        rintro e w' ⟨rfl, rfl⟩
        have HV := Lib.hid (tg_out (k1 := k1) (k2 := k2) (k3 := k3) (k4 := k4) (k5 := k5) (k6 := k6) (a1 := a1) (a2 := a2) hp (by simp [tgB, hd1, hd2, hd3]))
        go_wp2
        (refine bodyPost_ret (v := .tuple #[.agg #[.int .i64 (tgV1 p k1 k2 k3 k4 k5 k6 a1 a2), .int .i64 (tgV2 p k1 k2 k3 k4 k5 k6 a1 a2), .int .i64 (tgV3 p k1 k2 k3 k4 k5 k6 a1 a2)], .int .i64 (tgC p k1 k2 k3 k4 k5 k6 a1 a2)]) (by simp [results, Try.results46, go_sem, HV.out.1, HV.out.2.1, HV.out.2.2.1, HV.out.2.2.2, *]) rfl ⟨?_, ?_⟩)
        · rfl
        · (repeat (first | with_reducible exact Below.refl _ _ | with_reducible refine balloc ?_ _ | with_reducible refine bdrewN ?_ _ | with_reducible refine Below.drew ?_ | with_reducible refine bthen ?_ (by with_reducible assumption) | with_reducible refine Below.setCell ?_ (by first | (simp; done) | (simp; omega)) _))
      · have hd3q := nums2 hd3
        have c_1 : codeOf p (numsIn p [a1, a2]) = 0 := codeOf_in hp (by simp [hd3])
        have cT : codeOf p true = 0 := codeOf_in hp rfl
        obtain ⟨v1, hv1⟩ : ∃ v : Int, v = dtm p k1 k2 k3 k4 k5 k6 := ⟨_, rfl⟩
        have rv1 := dtm_r k1 k2 k3 k4 k5 k6 hp
        rw [← hv1] at rv1
        have Hv1 := Lib.hid hv1
        clear hv1
        go_wp2_with fail
        refine Calls.mono (isConic_any _ _ _ _ _ _ _ _ ) ?_
        rintro e w1 ⟨rfl, hB1⟩
        (obtain ⟨hB1c, hB1f⟩ := bcell hB1; have hB1s := hB1.size; (try simp at hB1s); (try have hB1q1 := Nat.lt_of_succ_le hB1s); (try have hB1q2 := Nat.lt_of_succ_lt hB1q1); (try have hB1q3 := Nat.lt_of_succ_lt hB1q2); (try have hB1zw0 : w.heap.size < w1.heap.size := (by omega)); (try have hB1zw1 : w.heap.size + 1 < w1.heap.size := (by omega)); (try have hB1zw2 : w.heap.size + 1 + 1 < w1.heap.size := (by omega)); (try have hB1zw3 : w.heap.size + 1 + 1 + 1 < w1.heap.size := (by omega)); (try have hB1zw4 : w.heap.size + 1 + 1 + 1 + 1 < w1.heap.size := (by omega)))
        go_wp2_with fail
        refine Calls.mono (implPoints1 _ _ _ _ _ (by first | rfl | (simp; done))) ?_
        rintro e w2 ⟨rfl, hB2⟩
        (obtain ⟨hB2c, hB2f⟩ := bcell hB2; have hB2s := hB2.size; (try simp at hB2s); (try have hB2q1 := Nat.lt_of_succ_le hB2s); (try have hB2q2 := Nat.lt_of_succ_lt hB2q1); (try have hB2q3 := Nat.lt_of_succ_lt hB2q2); (try have hB2zw0 : w.heap.size < w2.heap.size := (by omega)); (try have hB2zw1 : w.heap.size + 1 < w2.heap.size := (by omega)); (try have hB2zw2 : w.heap.size + 1 + 1 < w2.heap.size := (by omega)); (try have hB2zw3 : w.heap.size + 1 + 1 + 1 < w2.heap.size := (by omega)); (try have hB2zw4 : w.heap.size + 1 + 1 + 1 + 1 < w2.heap.size := (by omega)); (try have hB2zw10 : w1.heap.size < w2.heap.size := (by omega)); (try have hB2zw11 : w1.heap.size + 1 < w2.heap.size := (by omega)); (try have hB2zw12 : w1.heap.size + 1 + 1 < w2.heap.size := (by omega)); (try have hB2zw13 : w1.heap.size + 1 + 1 + 1 < w2.heap.size := (by omega)); (try have hB2zw14 : w1.heap.size + 1 + 1 + 1 + 1 < w2.heap.size := (by omega)))
        go_wp2_with fail
        refine Calls.mono (codeFor_any _ _ _) ?_
        rintro e w' ⟨rfl, rfl⟩
        rcases bool_ways (v1 == 0) with hd4 | hd4
        · have hd4n : (v1 != 0) = true := by rw [bne, hd4]; rfl
          have Hhd4p := Lib.hid (beq_eq_false_iff_ne.1 hd4)
          go_wp2_with fail
          refine Calls.mono (implDtm_any _ _ _ _ _ _ _ _ hp (by omega) (by omega) (by omega) (by omega) (by omega) (by omega)) ?_
          rw [← Hv1.out]
          rintro e w3 ⟨rfl, hB3⟩
          (obtain ⟨hB3c, hB3f⟩ := bcell hB3; have hB3s := hB3.size; (try simp at hB3s); (try have hB3q1 := Nat.lt_of_succ_le hB3s); (try have hB3q2 := Nat.lt_of_succ_lt hB3q1); (try have hB3q3 := Nat.lt_of_succ_lt hB3q2); (try have hB3zw0 : w.heap.size < w3.heap.size := (by omega)); (try have hB3zw1 : w.heap.size + 1 < w3.heap.size := (by omega)); (try have hB3zw2 : w.heap.size + 1 + 1 < w3.heap.size := (by omega)); (try have hB3zw3 : w.heap.size + 1 + 1 + 1 < w3.heap.size := (by omega)); (try have hB3zw4 : w.heap.size + 1 + 1 + 1 + 1 < w3.heap.size := (by omega)); (try have hB3zw20 : w2.heap.size < w3.heap.size := (by omega)); (try have hB3zw21 : w2.heap.size + 1 < w3.heap.size := (by omega)); (try have hB3zw22 : w2.heap.size + 1 + 1 < w3.heap.size := (by omega)); (try have hB3zw23 : w2.heap.size + 1 + 1 + 1 < w3.heap.size := (by omega)); (try have hB3zw24 : w2.heap.size + 1 + 1 + 1 + 1 < w3.heap.size := (by omega)); (try have hB3zw10 : w1.heap.size < w3.heap.size := (by omega)); (try have hB3zw11 : w1.heap.size + 1 < w3.heap.size := (by omega)); (try have hB3zw12 : w1.heap.size + 1 + 1 < w3.heap.size := (by omega)); (try have hB3zw13 : w1.heap.size + 1 + 1 + 1 < w3.heap.size := (by omega)); (try have hB3zw14 : w1.heap.size + 1 + 1 + 1 + 1 < w3.heap.size := (by omega)))
          go_wp2_with fail
          refine Calls.mono (isOnCon_any _ _ _ _ _ _ _ _ _ _ hp (by omega) (by omega) (by omega) (by omega) (by omega) (by omega) (by omega) (by omega)) ?_
          rintro e w4 ⟨rfl, hB4⟩
          (obtain ⟨hB4c, hB4f⟩ := bcell hB4; have hB4s := hB4.size; (try simp at hB4s); (try have hB4q1 := Nat.lt_of_succ_le hB4s); (try have hB4q2 := Nat.lt_of_succ_lt hB4q1); (try have hB4q3 := Nat.lt_of_succ_lt hB4q2); (try have hB4zw0 : w.heap.size < w4.heap.size := (by omega)); (try have hB4zw1 : w.heap.size + 1 < w4.heap.size := (by omega)); (try have hB4zw2 : w.heap.size + 1 + 1 < w4.heap.size := (by omega)); (try have hB4zw3 : w.heap.size + 1 + 1 + 1 < w4.heap.size := (by omega)); (try have hB4zw4 : w.heap.size + 1 + 1 + 1 + 1 < w4.heap.size := (by omega)); (try have hB4zw30 : w3.heap.size < w4.heap.size := (by omega)); (try have hB4zw31 : w3.heap.size + 1 < w4.heap.size := (by omega)); (try have hB4zw32 : w3.heap.size + 1 + 1 < w4.heap.size := (by omega)); (try have hB4zw33 : w3.heap.size + 1 + 1 + 1 < w4.heap.size := (by omega)); (try have hB4zw34 : w3.heap.size + 1 + 1 + 1 + 1 < w4.heap.size := (by omega)); (try have hB4zw20 : w2.heap.size < w4.heap.size := (by omega)); (try have hB4zw21 : w2.heap.size + 1 < w4.heap.size := (by omega)); (try have hB4zw22 : w2.heap.size + 1 + 1 < w4.heap.size := (by omega)); (try have hB4zw23 : w2.heap.size + 1 + 1 + 1 < w4.heap.size := (by omega)); (try have hB4zw24 : w2.heap.size + 1 + 1 + 1 + 1 < w4.heap.size := (by omega)); (try have hB4zw10 : w1.heap.size < w4.heap.size := (by omega)); (try have hB4zw11 : w1.heap.size + 1 < w4.heap.size := (by omega)); (try have hB4zw12 : w1.heap.size + 1 + 1 < w4.heap.size := (by omega)); (try have hB4zw13 : w1.heap.size + 1 + 1 + 1 < w4.heap.size := (by omega)); (try have hB4zw14 : w1.heap.size + 1 + 1 + 1 + 1 < w4.heap.size := (by omega)))
          rcases bool_ways (cvl p k1 k2 k3 k4 k5 k6 a1 a2 == 0) with hd5 | hd5
          · have hd5n : (cvl p k1 k2 k3 k4 k5 k6 a1 a2 != 0) = true := by rw [bne, hd5]; rfl
            have Hhd5p := Lib.hid (beq_eq_false_iff_ne.1 hd5)
            have HB : tgB p k1 k2 k3 k4 k5 k6 a1 a2 = true := by simp [tgB, hd1, hd2, hd3, hd4, hd5]
            have HS : tgS p k1 k2 k3 k4 k5 k6 a1 a2 = 5 := by (unfold tgS; simp only [← Hv1.out]; simp [hd1, hd2, hd3, hd4, hd5])
            have HV := Lib.hid (tg_st (k1 := k1) (k2 := k2) (k3 := k3) (k4 := k4) (k5 := k5) (k6 := k6) (a1 := a1) (a2 := a2) hp HB HS (by decide))
            clear HB HS
            go_wp2
            (refine bodyPost_ret (v := .tuple #[.agg #[.int .i64 (tgV1 p k1 k2 k3 k4 k5 k6 a1 a2), .int .i64 (tgV2 p k1 k2 k3 k4 k5 k6 a1 a2), .int .i64 (tgV3 p k1 k2 k3 k4 k5 k6 a1 a2)], .int .i64 (tgC p k1 k2 k3 k4 k5 k6 a1 a2)]) (by simp [results, Try.results46, go_sem, HV.out.1, HV.out.2.1, HV.out.2.2.1, HV.out.2.2.2, *]) rfl ⟨?_, ?_⟩)
            · rfl
            · (repeat (first | with_reducible exact Below.refl _ _ | with_reducible refine balloc ?_ _ | with_reducible refine bdrewN ?_ _ | with_reducible refine Below.drew ?_ | with_reducible refine bthen ?_ (by with_reducible assumption) | with_reducible refine Below.setCell ?_ (by first | (simp; done) | (simp; omega)) _))
          · have hd5n : (cvl p k1 k2 k3 k4 k5 k6 a1 a2 != 0) = false := by rw [bne, hd5]; rfl
            have Hhd5p := Lib.hid (beq_iff_eq.1 hd5)
            obtain ⟨v2, hv2⟩ : ∃ v : Int, v = pl1 p k1 k2 k3 k4 k5 k6 a1 a2 := ⟨_, rfl⟩
            have rv2 := (pl_r k1 k2 k3 k4 k5 k6 a1 a2 hp).1
            rw [← hv2] at rv2
            have Hv2 := Lib.hid hv2
            clear hv2
            obtain ⟨v3, hv3⟩ : ∃ v : Int, v = pl2 p k1 k2 k3 k4 k5 k6 a1 a2 := ⟨_, rfl⟩
            have rv3 := (pl_r k1 k2 k3 k4 k5 k6 a1 a2 hp).2.1
            rw [← hv3] at rv3
            have Hv3 := Lib.hid hv3
            clear hv3
            obtain ⟨v4, hv4⟩ : ∃ v : Int, v = pl3 p k1 k2 k3 k4 k5 k6 a1 a2 := ⟨_, rfl⟩
            have rv4 := (pl_r k1 k2 k3 k4 k5 k6 a1 a2 hp).2.2
            rw [← hv4] at rv4
            have Hv4 := Lib.hid hv4
            clear hv4
            go_wp2_with fail
            refine Calls.mono (implPolarIn _ _ _ _ _ _ _ _ _ _ hp (by assumption) (by assumption) (tan_polar hp k1 k2 k3 k4 k5 k6 a1 a2 (by rw [← Hv1.out]; assumption) (by assumption))) ?_
            rw [← Hv2.out, ← Hv3.out, ← Hv4.out]
            rintro e w5 ⟨rfl, hB5⟩
            (obtain ⟨hB5c, hB5f⟩ := bcell hB5; have hB5s := hB5.size; (try simp at hB5s); (try have hB5q1 := Nat.lt_of_succ_le hB5s); (try have hB5q2 := Nat.lt_of_succ_lt hB5q1); (try have hB5q3 := Nat.lt_of_succ_lt hB5q2); (try have hB5zw0 : w.heap.size < w5.heap.size := (by omega)); (try have hB5zw1 : w.heap.size + 1 < w5.heap.size := (by omega)); (try have hB5zw2 : w.heap.size + 1 + 1 < w5.heap.size := (by omega)); (try have hB5zw3 : w.heap.size + 1 + 1 + 1 < w5.heap.size := (by omega)); (try have hB5zw4 : w.heap.size + 1 + 1 + 1 + 1 < w5.heap.size := (by omega)); (try have hB5zw40 : w4.heap.size < w5.heap.size := (by omega)); (try have hB5zw41 : w4.heap.size + 1 < w5.heap.size := (by omega)); (try have hB5zw42 : w4.heap.size + 1 + 1 < w5.heap.size := (by omega)); (try have hB5zw43 : w4.heap.size + 1 + 1 + 1 < w5.heap.size := (by omega)); (try have hB5zw44 : w4.heap.size + 1 + 1 + 1 + 1 < w5.heap.size := (by omega)); (try have hB5zw30 : w3.heap.size < w5.heap.size := (by omega)); (try have hB5zw31 : w3.heap.size + 1 < w5.heap.size := (by omega)); (try have hB5zw32 : w3.heap.size + 1 + 1 < w5.heap.size := (by omega)); (try have hB5zw33 : w3.heap.size + 1 + 1 + 1 < w5.heap.size := (by omega)); (try have hB5zw34 : w3.heap.size + 1 + 1 + 1 + 1 < w5.heap.size := (by omega)); (try have hB5zw20 : w2.heap.size < w5.heap.size := (by omega)); (try have hB5zw21 : w2.heap.size + 1 < w5.heap.size := (by omega)); (try have hB5zw22 : w2.heap.size + 1 + 1 < w5.heap.size := (by omega)); (try have hB5zw23 : w2.heap.size + 1 + 1 + 1 < w5.heap.size := (by omega)); (try have hB5zw24 : w2.heap.size + 1 + 1 + 1 + 1 < w5.heap.size := (by omega)); (try have hB5zw10 : w1.heap.size < w5.heap.size := (by omega)); (try have hB5zw11 : w1.heap.size + 1 < w5.heap.size := (by omega)); (try have hB5zw12 : w1.heap.size + 1 + 1 < w5.heap.size := (by omega)); (try have hB5zw13 : w1.heap.size + 1 + 1 + 1 < w5.heap.size := (by omega)); (try have hB5zw14 : w1.heap.size + 1 + 1 + 1 + 1 < w5.heap.size := (by omega)))
            have HB : tgB p k1 k2 k3 k4 k5 k6 a1 a2 = true := by simp [tgB, hd1, hd2, hd3, hd4, hd5]
            have HS : tgS p k1 k2 k3 k4 k5 k6 a1 a2 = 0 := by (unfold tgS; simp only [← Hv1.out, ← Hv2.out, ← Hv3.out, ← Hv4.out]; simp [hd1, hd2, hd3, hd4, hd5])
            have HV := Lib.hid (show tgV1 p k1 k2 k3 k4 k5 k6 a1 a2 = v2 ∧ tgV2 p k1 k2 k3 k4 k5 k6 a1 a2 = v3 ∧ tgV3 p k1 k2 k3 k4 k5 k6 a1 a2 = v4 ∧ tgC p k1 k2 k3 k4 k5 k6 a1 a2 = 0 from by
              have HG := tg_good (k1 := k1) (k2 := k2) (k3 := k3) (k4 := k4) (k5 := k5) (k6 := k6) (a1 := a1) (a2 := a2) hp HB HS
              refine ⟨(HG.1).trans ?_, (HG.2.1).trans ?_, (HG.2.2.1).trans ?_, HG.2.2.2⟩
              all_goals (simp only [Hv4.out, Hv3.out, Hv2.out, Hv1.out]))
            clear HB HS
            go_wp2
            (refine bodyPost_ret (v := .tuple #[.agg #[.int .i64 (tgV1 p k1 k2 k3 k4 k5 k6 a1 a2), .int .i64 (tgV2 p k1 k2 k3 k4 k5 k6 a1 a2), .int .i64 (tgV3 p k1 k2 k3 k4 k5 k6 a1 a2)], .int .i64 (tgC p k1 k2 k3 k4 k5 k6 a1 a2)]) (by simp [results, Try.results46, go_sem, HV.out.1, HV.out.2.1, HV.out.2.2.1, HV.out.2.2.2, *]) rfl ⟨?_, ?_⟩)
            · rfl
            · (repeat (first | with_reducible exact Below.refl _ _ | with_reducible refine balloc ?_ _ | with_reducible refine bdrewN ?_ _ | with_reducible refine Below.drew ?_ | with_reducible refine bthen ?_ (by with_reducible assumption) | with_reducible refine Below.setCell ?_ (by first | (simp; done) | (simp; omega)) _))
        · have hd4n : (v1 != 0) = false := by rw [bne, hd4]; rfl
          have Hhd4p := Lib.hid (beq_iff_eq.1 hd4)
          go_wp2_with fail
          refine Calls.mono (implDtm_any _ _ _ _ _ _ _ _ hp (by omega) (by omega) (by omega) (by omega) (by omega) (by omega)) ?_
          rw [← Hv1.out]
          rintro e w3 ⟨rfl, hB3⟩
          (obtain ⟨hB3c, hB3f⟩ := bcell hB3; have hB3s := hB3.size; (try simp at hB3s); (try have hB3q1 := Nat.lt_of_succ_le hB3s); (try have hB3q2 := Nat.lt_of_succ_lt hB3q1); (try have hB3q3 := Nat.lt_of_succ_lt hB3q2); (try have hB3zw0 : w.heap.size < w3.heap.size := (by omega)); (try have hB3zw1 : w.heap.size + 1 < w3.heap.size := (by omega)); (try have hB3zw2 : w.heap.size + 1 + 1 < w3.heap.size := (by omega)); (try have hB3zw3 : w.heap.size + 1 + 1 + 1 < w3.heap.size := (by omega)); (try have hB3zw4 : w.heap.size + 1 + 1 + 1 + 1 < w3.heap.size := (by omega)); (try have hB3zw20 : w2.heap.size < w3.heap.size := (by omega)); (try have hB3zw21 : w2.heap.size + 1 < w3.heap.size := (by omega)); (try have hB3zw22 : w2.heap.size + 1 + 1 < w3.heap.size := (by omega)); (try have hB3zw23 : w2.heap.size + 1 + 1 + 1 < w3.heap.size := (by omega)); (try have hB3zw24 : w2.heap.size + 1 + 1 + 1 + 1 < w3.heap.size := (by omega)); (try have hB3zw10 : w1.heap.size < w3.heap.size := (by omega)); (try have hB3zw11 : w1.heap.size + 1 < w3.heap.size := (by omega)); (try have hB3zw12 : w1.heap.size + 1 + 1 < w3.heap.size := (by omega)); (try have hB3zw13 : w1.heap.size + 1 + 1 + 1 < w3.heap.size := (by omega)); (try have hB3zw14 : w1.heap.size + 1 + 1 + 1 + 1 < w3.heap.size := (by omega)))
          have HB : tgB p k1 k2 k3 k4 k5 k6 a1 a2 = true := by simp [tgB, hd1, hd2, hd3, hd4]
          have HS : tgS p k1 k2 k3 k4 k5 k6 a1 a2 = 5 := by (unfold tgS; simp only [← Hv1.out]; simp [hd1, hd2, hd3, hd4])
          have HV := Lib.hid (tg_st (k1 := k1) (k2 := k2) (k3 := k3) (k4 := k4) (k5 := k5) (k6 := k6) (a1 := a1) (a2 := a2) hp HB HS (by decide))
          clear HB HS
          go_wp2
          (refine bodyPost_ret (v := .tuple #[.agg #[.int .i64 (tgV1 p k1 k2 k3 k4 k5 k6 a1 a2), .int .i64 (tgV2 p k1 k2 k3 k4 k5 k6 a1 a2), .int .i64 (tgV3 p k1 k2 k3 k4 k5 k6 a1 a2)], .int .i64 (tgC p k1 k2 k3 k4 k5 k6 a1 a2)]) (by simp [results, Try.results46, go_sem, HV.out.1, HV.out.2.1, HV.out.2.2.1, HV.out.2.2.2, *]) rfl ⟨?_, ?_⟩)
          · rfl
          · (repeat (first | with_reducible exact Below.refl _ _ | with_reducible refine balloc ?_ _ | with_reducible refine bdrewN ?_ _ | with_reducible refine Below.drew ?_ | with_reducible refine bthen ?_ (by with_reducible assumption) | with_reducible refine Below.setCell ?_ (by first | (simp; done) | (simp; omega)) _))

end Go.Proofs.Ytijmmagdkbnhdaa
