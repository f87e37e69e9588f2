/-
  DeterminantOf: the program's and the model's.
-/
import Derived.Test.YtijmmagdkbnhdaaSpecDtm
import Derived.Test.YtijmmagdkbnhdaaImplDtm
import Derived.Test.YtijmmagdkbnhdaaSpecConCode
import Derived.Test.YtijmmagdkbnhdaaImplIsConic
import Derived.Test.YtijmmagdkbnhdaaCode
import Derived.Deep.RegionHeld3
import Derived.Deep.DeepCutAuto
import Derived.Test.YtijmmagdkbnhdaaBaseMath
namespace Go.Proofs.Ytijmmagdkbnhdaa
open Go.RowKit

set_option linter.unusedVariables false in
def dtB (p k1 k2 k3 k4 k5 k6 : Int) : Bool := cnB p k1 k2 k3 k4 k5 k6
set_option linter.unusedVariables false in
def dtS (p k1 k2 k3 k4 k5 k6 : Int) : Int := 0
set_option linter.unusedVariables false in
def dtC (p k1 k2 k3 k4 k5 k6 : Int) : Int := if isP p = true then (if dtB p k1 k2 k3 k4 k5 k6 = true then dtS p k1 k2 k3 k4 k5 k6 else 2) else 1
set_option linter.unusedVariables false in
def dtV1 (p k1 k2 k3 k4 k5 k6 : Int) : Int := if dtC p k1 k2 k3 k4 k5 k6 = 0 then dtm p k1 k2 k3 k4 k5 k6 else 0
theorem dt_zero {p k1 k2 k3 k4 k5 k6 k : Int} (h : dtC p k1 k2 k3 k4 k5 k6 = k) (hk : k ≠ 0) : dtV1 p k1 k2 k3 k4 k5 k6 = 0 ∧ dtC p k1 k2 k3 k4 k5 k6 = k := by
  have hn : ¬ (dtC p k1 k2 k3 k4 k5 k6 = 0) := fun e => hk (h.symm.trans e)
  exact ⟨if_neg hn, h⟩
theorem dt_no {p k1 k2 k3 k4 k5 k6 : Int} (h : isP p = false) : dtV1 p k1 k2 k3 k4 k5 k6 = 0 ∧ dtC p k1 k2 k3 k4 k5 k6 = 1 := dt_zero (by simp [dtC, h]) (by decide)
theorem dt_out {p k1 k2 k3 k4 k5 k6 : Int} (hp : isP p = true) (h : dtB p k1 k2 k3 k4 k5 k6 = false) : dtV1 p k1 k2 k3 k4 k5 k6 = 0 ∧ dtC p k1 k2 k3 k4 k5 k6 = 2 := dt_zero (by simp [dtC, hp, h]) (by decide)
theorem dt_st {p k1 k2 k3 k4 k5 k6 k : Int} (hp : isP p = true) (h : dtB p k1 k2 k3 k4 k5 k6 = true) (hs : dtS p k1 k2 k3 k4 k5 k6 = k) (hk : k ≠ 0) : dtV1 p k1 k2 k3 k4 k5 k6 = 0 ∧ dtC p k1 k2 k3 k4 k5 k6 = k := dt_zero (by simp [dtC, hp, h, hs]) hk
theorem dt_good {p k1 k2 k3 k4 k5 k6 : Int} (hp : isP p = true) (h : dtB p k1 k2 k3 k4 k5 k6 = true) (hs : dtS p k1 k2 k3 k4 k5 k6 = 0) : dtV1 p k1 k2 k3 k4 k5 k6 = dtm p k1 k2 k3 k4 k5 k6 ∧ dtC p k1 k2 k3 k4 k5 k6 = 0 := by
  have h' : dtC p k1 k2 k3 k4 k5 k6 = 0 := by simp [dtC, hp, h, hs]
  exact ⟨if_pos h', h'⟩

set_option linter.unusedVariables false in
set_option linter.unusedSimpArgs false in
set_option maxRecDepth 20000 in
set_option maxHeartbeats 4000000 in
theorem specDeterminantOf_any (p k1 k2 k3 k4 k5 k6 : Int)  (w : World) :
    Calls Try.prog 34 #[.int .i64 p, .agg #[.int .i64 k1, .int .i64 k2, .int .i64 k3, .int .i64 k4, .int .i64 k5, .int .i64 k6]] w fun e w' =>
      e = .returned (.tuple #[.int .i64 (dtV1 p k1 k2 k3 k4 k5 k6), .int .i64 (dtC p k1 k2 k3 k4 k5 k6)]) ∧ Below w.heap.size w w' := by
  go_enter Try.func34, Try.ntmps34
  rcases bool_ways (isP p) with hd1 | hd1
  · skip
    have c_1 : codeOf p (cnB p k1 k2 k3 k4 k5 k6) = 1 := codeOf_no hd1
    have cN : ∀ b, codeOf p b = 1 := fun b => codeOf_no hd1
    go_wp2_with fail
    refine Calls.mono (specConCode_any _ _ _ _ _ _ _ _) ?_
    rintro e w1 ⟨rfl, hB1⟩
    (obtain ⟨hB1c, hB1f⟩ := bcell hB1; have hB1s := hB1.size; (try simp at hB1s); (try have hB1q1 := Nat.lt_of_succ_le hB1s); (try have hB1q2 := Nat.lt_of_succ_lt hB1q1); (try have hB1q3 := Nat.lt_of_succ_lt hB1q2); (try have hB1zw0 : w.heap.size < w1.heap.size := (by omega)); (try have hB1zw1 : w.heap.size + 1 < w1.heap.size := (by omega)); (try have hB1zw2 : w.heap.size + 1 + 1 < w1.heap.size := (by omega)); (try have hB1zw3 : w.heap.size + 1 + 1 + 1 < w1.heap.size := (by omega)); (try have hB1zw4 : w.heap.size + 1 + 1 + 1 + 1 < w1.heap.size := (by omega)))
    have HV := Lib.hid (dt_no (k1 := k1) (k2 := k2) (k3 := k3) (k4 := k4) (k5 := k5) (k6 := k6) hd1)
    go_wp2
    (refine bodyPost_ret (v := .tuple #[.int .i64 (dtV1 p k1 k2 k3 k4 k5 k6), .int .i64 (dtC p k1 k2 k3 k4 k5 k6)]) (by simp [results, Try.results34, go_sem, HV.out.1, HV.out.2, *]) rfl ⟨?_, ?_⟩)
    · rfl
    · (repeat (first | with_reducible exact Below.refl _ _ | with_reducible refine balloc ?_ _ | with_reducible refine bdrewN ?_ _ | with_reducible refine Below.drew ?_ | with_reducible refine bthen ?_ (by with_reducible assumption) | with_reducible refine Below.setCell ?_ (by first | (simp; done) | (simp; omega)) _))
  · have hp := hd1
    have hr := isP_range hp
    rcases bool_ways (cnB p k1 k2 k3 k4 k5 k6) with hd2 | hd2
    · skip
      have c_1 : codeOf p (cnB p k1 k2 k3 k4 k5 k6) = 2 := codeOf_out hp (by simp [hd2])
      have cT : codeOf p true = 0 := codeOf_in hp rfl
      have cF : codeOf p false = 2 := codeOf_out hp rfl
      go_wp2_with fail
      refine Calls.mono (specConCode_any _ _ _ _ _ _ _ _) ?_
      rintro e w1 ⟨rfl, hB1⟩
      (obtain ⟨hB1c, hB1f⟩ := bcell hB1; have hB1s := hB1.size; (try simp at hB1s); (try have hB1q1 := Nat.lt_of_succ_le hB1s); (try have hB1q2 := Nat.lt_of_succ_lt hB1q1); (try have hB1q3 := Nat.lt_of_succ_lt hB1q2); (try have hB1zw0 : w.heap.size < w1.heap.size := (by omega)); (try have hB1zw1 : w.heap.size + 1 < w1.heap.size := (by omega)); (try have hB1zw2 : w.heap.size + 1 + 1 < w1.heap.size := (by omega)); (try have hB1zw3 : w.heap.size + 1 + 1 + 1 < w1.heap.size := (by omega)); (try have hB1zw4 : w.heap.size + 1 + 1 + 1 + 1 < w1.heap.size := (by omega)))
      have HV := Lib.hid (dt_out (k1 := k1) (k2 := k2) (k3 := k3) (k4 := k4) (k5 := k5) (k6 := k6) hp (by simp [dtB, hd1, hd2]))
      go_wp2
      (refine bodyPost_ret (v := .tuple #[.int .i64 (dtV1 p k1 k2 k3 k4 k5 k6), .int .i64 (dtC p k1 k2 k3 k4 k5 k6)]) (by simp [results, Try.results34, go_sem, HV.out.1, HV.out.2, *]) rfl ⟨?_, ?_⟩)
      · rfl
      · (repeat (first | with_reducible exact Below.refl _ _ | with_reducible refine balloc ?_ _ | with_reducible refine bdrewN ?_ _ | with_reducible refine Below.drew ?_ | with_reducible refine bthen ?_ (by with_reducible assumption) | with_reducible refine Below.setCell ?_ (by first | (simp; done) | (simp; omega)) _))
    · have hd2q := nums6 (cnB_nums hd2)
      have c_1 : codeOf p (cnB p k1 k2 k3 k4 k5 k6) = 0 := codeOf_in hp (by simp [hd2])
      have cT : codeOf p true = 0 := codeOf_in hp rfl
      obtain ⟨v1, hv1⟩ : ∃ v : Int, v = dtm p k1 k2 k3 k4 k5 k6 := ⟨_, rfl⟩
      have rv1 := dtm_r k1 k2 k3 k4 k5 k6 hp
      rw [← hv1] at rv1
      have Hv1 := Lib.hid hv1
      clear hv1
      go_wp2_with fail
      refine Calls.mono (specConCode_any _ _ _ _ _ _ _ _) ?_
      rintro e w1 ⟨rfl, hB1⟩
      (obtain ⟨hB1c, hB1f⟩ := bcell hB1; have hB1s := hB1.size; (try simp at hB1s); (try have hB1q1 := Nat.lt_of_succ_le hB1s); (try have hB1q2 := Nat.lt_of_succ_lt hB1q1); (try have hB1q3 := Nat.lt_of_succ_lt hB1q2); (try have hB1zw0 : w.heap.size < w1.heap.size := (by omega)); (try have hB1zw1 : w.heap.size + 1 < w1.heap.size := (by omega)); (try have hB1zw2 : w.heap.size + 1 + 1 < w1.heap.size := (by omega)); (try have hB1zw3 : w.heap.size + 1 + 1 + 1 < w1.heap.size := (by omega)); (try have hB1zw4 : w.heap.size + 1 + 1 + 1 + 1 < w1.heap.size := (by omega)))
      go_wp2_with fail
      refine Calls.mono (specDtm_any _ _ _ _ _ _ _ _ hp (by omega) (by omega) (by omega) (by omega) (by omega) (by omega)) ?_
      rw [← Hv1.out]
      rintro e w2 ⟨rfl, hB2⟩
      (obtain ⟨hB2c, hB2f⟩ := bcell hB2; have hB2s := hB2.size; (try simp at hB2s); (try have hB2q1 := Nat.lt_of_succ_le hB2s); (try have hB2q2 := Nat.lt_of_succ_lt hB2q1); (try have hB2q3 := Nat.lt_of_succ_lt hB2q2); (try have hB2zw0 : w.heap.size < w2.heap.size := (by omega)); (try have hB2zw1 : w.heap.size + 1 < w2.heap.size := (by omega)); (try have hB2zw2 : w.heap.size + 1 + 1 < w2.heap.size := (by omega)); (try have hB2zw3 : w.heap.size + 1 + 1 + 1 < w2.heap.size := (by omega)); (try have hB2zw4 : w.heap.size + 1 + 1 + 1 + 1 < w2.heap.size := (by omega)); (try have hB2zw10 : w1.heap.size < w2.heap.size := (by omega)); (try have hB2zw11 : w1.heap.size + 1 < w2.heap.size := (by omega)); (try have hB2zw12 : w1.heap.size + 1 + 1 < w2.heap.size := (by omega)); (try have hB2zw13 : w1.heap.size + 1 + 1 + 1 < w2.heap.size := (by omega)); (try have hB2zw14 : w1.heap.size + 1 + 1 + 1 + 1 < w2.heap.size := (by omega)))
      have HB : dtB p k1 k2 k3 k4 k5 k6 = true := by simp [dtB, hd1, hd2]
      have HS : dtS p k1 k2 k3 k4 k5 k6 = 0 := by rfl
      have HV := Lib.hid (show dtV1 p k1 k2 k3 k4 k5 k6 = v1 ∧ dtC p k1 k2 k3 k4 k5 k6 = 0 from by
        have HG := dt_good (k1 := k1) (k2 := k2) (k3 := k3) (k4 := k4) (k5 := k5) (k6 := k6) hp HB HS
        refine ⟨(HG.1).trans ?_, HG.2⟩
        all_goals (simp only [← Hv1.out] <;> simp [hd1, hd2]))
      clear HB HS
      go_wp2
      (refine bodyPost_ret (v := .tuple #[.int .i64 (dtV1 p k1 k2 k3 k4 k5 k6), .int .i64 (dtC p k1 k2 k3 k4 k5 k6)]) (by simp [results, Try.results34, go_sem, HV.out.1, HV.out.2, *]) rfl ⟨?_, ?_⟩)
      · rfl
      · (repeat (first | with_reducible exact Below.refl _ _ | with_reducible refine balloc ?_ _ | with_reducible refine bdrewN ?_ _ | with_reducible refine Below.drew ?_ | with_reducible refine bthen ?_ (by with_reducible assumption) | with_reducible refine Below.setCell ?_ (by first | (simp; done) | (simp; omega)) _))

set_option linter.unusedVariables false in
set_option linter.unusedSimpArgs false in
set_option maxRecDepth 20000 in
set_option maxHeartbeats 4000000 in
theorem implDeterminantOf_any (p k1 k2 k3 k4 k5 k6 : Int)  (w : World) :
    Calls Try.prog 35 #[.int .i64 p, .agg #[.int .i64 k1, .int .i64 k2, .int .i64 k3, .int .i64 k4, .int .i64 k5, .int .i64 k6]] w fun e w' =>
      e = .returned (.tuple #[.int .i64 (dtV1 p k1 k2 k3 k4 k5 k6), .int .i64 (dtC p k1 k2 k3 k4 k5 k6)]) ∧ Below w.heap.size w w' := by
  go_enter Try.func35, Try.ntmps35
  rcases bool_ways (isP p) with hd1 | hd1
  · skip
    have c_1 : codeOf p (cnB p k1 k2 k3 k4 k5 k6) = 1 := codeOf_no hd1
    have cN : ∀ b, codeOf p b = 1 := fun b => codeOf_no hd1
    go_wp2_with fail
    refine Calls.mono (isConic_any _ _ _ _ _ _ _ _ ) ?_
    rintro e w1 ⟨rfl, hB1⟩
    (obtain ⟨hB1c, hB1f⟩ := bcell hB1; have hB1s := hB1.size; (try simp at hB1s); (try have hB1q1 := Nat.lt_of_succ_le hB1s); (try have hB1q2 := Nat.lt_of_succ_lt hB1q1); (try have hB1q3 := Nat.lt_of_succ_lt hB1q2); (try have hB1zw0 : w.heap.size < w1.heap.size := (by omega)); (try have hB1zw1 : w.heap.size + 1 < w1.heap.size := (by omega)); (try have hB1zw2 : w.heap.size + 1 + 1 < w1.heap.size := (by omega)); (try have hB1zw3 : w.heap.size + 1 + 1 + 1 < w1.heap.size := (by omega)); (try have hB1zw4 : w.heap.size + 1 + 1 + 1 + 1 < w1.heap.size := (by omega)))
    go_wp2_with fail
    refine Calls.mono (codeFor_any _ _ _) ?_
    rintro e w' ⟨rfl, rfl⟩
    have HV := Lib.hid (dt_no (k1 := k1) (k2 := k2) (k3 := k3) (k4 := k4) (k5 := k5) (k6 := k6) hd1)
    go_wp2
    (refine bodyPost_ret (v := .tuple #[.int .i64 (dtV1 p k1 k2 k3 k4 k5 k6), .int .i64 (dtC p k1 k2 k3 k4 k5 k6)]) (by simp [results, Try.results35, go_sem, HV.out.1, HV.out.2, *]) rfl ⟨?_, ?_⟩)
    · rfl
    · (repeat (first | with_reducible exact Below.refl _ _ | with_reducible refine balloc ?_ _ | with_reducible refine bdrewN ?_ _ | with_reducible refine Below.drew ?_ | with_reducible refine bthen ?_ (by with_reducible assumption) | with_reducible refine Below.setCell ?_ (by first | (simp; done) | (simp; omega)) _))
  · have hp := hd1
    have hr := isP_range hp
    rcases bool_ways (cnB p k1 k2 k3 k4 k5 k6) with hd2 | hd2
    · skip
      have c_1 : codeOf p (cnB p k1 k2 k3 k4 k5 k6) = 2 := codeOf_out hp (by simp [hd2])
      have cT : codeOf p true = 0 := codeOf_in hp rfl
      have cF : codeOf p false = 2 := codeOf_out hp rfl
      go_wp2_with fail
      refine Calls.mono (isConic_any _ _ _ _ _ _ _ _ ) ?_
      rintro e w1 ⟨rfl, hB1⟩
      (obtain ⟨hB1c, hB1f⟩ := bcell hB1; have hB1s := hB1.size; (try simp at hB1s); (try have hB1q1 := Nat.lt_of_succ_le hB1s); (try have hB1q2 := Nat.lt_of_succ_lt hB1q1); (try have hB1q3 := Nat.lt_of_succ_lt hB1q2); (try have hB1zw0 : w.heap.size < w1.heap.size := (by omega)); (try have hB1zw1 : w.heap.size + 1 < w1.heap.size := (by omega)); (try have hB1zw2 : w.heap.size + 1 + 1 < w1.heap.size := (by omega)); (try have hB1zw3 : w.heap.size + 1 + 1 + 1 < w1.heap.size := (by omega)); (try have hB1zw4 : w.heap.size + 1 + 1 + 1 + 1 < w1.heap.size := (by omega)))
      go_wp2_with fail
      refine Calls.mono (codeFor_any _ _ _) ?_
      rintro e w' ⟨rfl, rfl⟩
      have HV := Lib.hid (dt_out (k1 := k1) (k2 := k2) (k3 := k3) (k4 := k4) (k5 := k5) (k6 := k6) hp (by simp [dtB, hd1, hd2]))
      go_wp2
      (refine bodyPost_ret (v := .tuple #[.int .i64 (dtV1 p k1 k2 k3 k4 k5 k6), .int .i64 (dtC p k1 k2 k3 k4 k5 k6)]) (by simp [results, Try.results35, go_sem, HV.out.1, HV.out.2, *]) rfl ⟨?_, ?_⟩)
      · rfl
      · (repeat (first | with_reducible exact Below.refl _ _ | with_reducible refine balloc ?_ _ | with_reducible refine bdrewN ?_ _ | with_reducible refine Below.drew ?_ | with_reducible refine bthen ?_ (by with_reducible assumption) | with_reducible refine Below.setCell ?_ (by first | (simp; done) | (simp; omega)) _))
    · have hd2q := nums6 (cnB_nums hd2)
      have c_1 : codeOf p (cnB p k1 k2 k3 k4 k5 k6) = 0 := codeOf_in hp (by simp [hd2])
      have cT : codeOf p true = 0 := codeOf_in hp rfl
      obtain ⟨v1, hv1⟩ : ∃ v : Int, v = dtm p k1 k2 k3 k4 k5 k6 := ⟨_, rfl⟩
      have rv1 := dtm_r k1 k2 k3 k4 k5 k6 hp
      rw [← hv1] at rv1
      have Hv1 := Lib.hid hv1
      clear hv1
      go_wp2_with fail
      refine Calls.mono (isConic_any _ _ _ _ _ _ _ _ ) ?_
      rintro e w1 ⟨rfl, hB1⟩
      (obtain ⟨hB1c, hB1f⟩ := bcell hB1; have hB1s := hB1.size; (try simp at hB1s); (try have hB1q1 := Nat.lt_of_succ_le hB1s); (try have hB1q2 := Nat.lt_of_succ_lt hB1q1); (try have hB1q3 := Nat.lt_of_succ_lt hB1q2); (try have hB1zw0 : w.heap.size < w1.heap.size := (by omega)); (try have hB1zw1 : w.heap.size + 1 < w1.heap.size := (by omega)); (try have hB1zw2 : w.heap.size + 1 + 1 < w1.heap.size := (by omega)); (try have hB1zw3 : w.heap.size + 1 + 1 + 1 < w1.heap.size := (by omega)); (try have hB1zw4 : w.heap.size + 1 + 1 + 1 + 1 < w1.heap.size := (by omega)))
      go_wp2_with fail
      refine Calls.mono (codeFor_any _ _ _) ?_
      rintro e w' ⟨rfl, rfl⟩
      go_wp2_with fail
      refine Calls.mono (implDtm_any _ _ _ _ _ _ _ _ hp (by omega) (by omega) (by omega) (by omega) (by omega) (by omega)) ?_
      rw [← Hv1.out]
      rintro e w2 ⟨rfl, hB2⟩
      (obtain ⟨hB2c, hB2f⟩ := bcell hB2; have hB2s := hB2.size; (try simp at hB2s); (try have hB2q1 := Nat.lt_of_succ_le hB2s); (try have hB2q2 := Nat.lt_of_succ_lt hB2q1); (try have hB2q3 := Nat.lt_of_succ_lt hB2q2); (try have hB2zw0 : w.heap.size < w2.heap.size := (by omega)); (try have hB2zw1 : w.heap.size + 1 < w2.heap.size := (by omega)); (try have hB2zw2 : w.heap.size + 1 + 1 < w2.heap.size := (by omega)); (try have hB2zw3 : w.heap.size + 1 + 1 + 1 < w2.heap.size := (by omega)); (try have hB2zw4 : w.heap.size + 1 + 1 + 1 + 1 < w2.heap.size := (by omega)); (try have hB2zw10 : w1.heap.size < w2.heap.size := (by omega)); (try have hB2zw11 : w1.heap.size + 1 < w2.heap.size := (by omega)); (try have hB2zw12 : w1.heap.size + 1 + 1 < w2.heap.size := (by omega)); (try have hB2zw13 : w1.heap.size + 1 + 1 + 1 < w2.heap.size := (by omega)); (try have hB2zw14 : w1.heap.size + 1 + 1 + 1 + 1 < w2.heap.size := (by omega)))
      have HB : dtB p k1 k2 k3 k4 k5 k6 = true := by simp [dtB, hd1, hd2]
      have HS : dtS p k1 k2 k3 k4 k5 k6 = 0 := by rfl
      have HV := Lib.hid (show dtV1 p k1 k2 k3 k4 k5 k6 = v1 ∧ dtC p k1 k2 k3 k4 k5 k6 = 0 from by
        have HG := dt_good (k1 := k1) (k2 := k2) (k3 := k3) (k4 := k4) (k5 := k5) (k6 := k6) hp HB HS
        refine ⟨(HG.1).trans ?_, HG.2⟩
        all_goals (simp only [← Hv1.out] <;> simp [hd1, hd2]))
      clear HB HS
      go_wp2
      (refine bodyPost_ret (v := .tuple #[.int .i64 (dtV1 p k1 k2 k3 k4 k5 k6), .int .i64 (dtC p k1 k2 k3 k4 k5 k6)]) (by simp [results, Try.results35, go_sem, HV.out.1, HV.out.2, *]) rfl ⟨?_, ?_⟩)
      · rfl
      · (repeat (first | with_reducible exact Below.refl _ _ | with_reducible refine balloc ?_ _ | with_reducible refine bdrewN ?_ _ | with_reducible refine Below.drew ?_ | with_reducible refine bthen ?_ (by with_reducible assumption) | with_reducible refine Below.setCell ?_ (by first | (simp; done) | (simp; omega)) _))

end Go.Proofs.Ytijmmagdkbnhdaa
