/-
  KindOf: the program's and the model's.
-/
import Derived.Test.YtijmmagdkbnhdaaSpecKind
import Derived.Test.YtijmmagdkbnhdaaImplDsc
import Derived.Test.YtijmmagdkbnhdaaImplSquare
import Derived.Test.YtijmmagdkbnhdaaSpecConCode
import Derived.Test.YtijmmagdkbnhdaaImplIsConic
import Derived.Test.YtijmmagdkbnhdaaCode
import Derived.Deep.RegionHeld3
import Derived.Deep.DeepCutAuto
import Derived.Test.YtijmmagdkbnhdaaBaseMath
namespace Go.Proofs.Ytijmmagdkbnhdaa
open Go.RowKit

set_option linter.unusedVariables false in
def kdB (p k1 k2 k3 k4 k5 k6 : Int) : Bool := cnB p k1 k2 k3 k4 k5 k6
set_option linter.unusedVariables false in
def kdS (p k1 k2 k3 k4 k5 k6 : Int) : Int := 0
set_option linter.unusedVariables false in
def kdC (p k1 k2 k3 k4 k5 k6 : Int) : Int := if isP p = true then (if kdB p k1 k2 k3 k4 k5 k6 = true then kdS p k1 k2 k3 k4 k5 k6 else 2) else 1
set_option linter.unusedVariables false in
def kdV1 (p k1 k2 k3 k4 k5 k6 : Int) : Int := if kdC p k1 k2 k3 k4 k5 k6 = 0 then squareV p (dsc p k1 k2 k3) else 0
theorem kd_zero {p k1 k2 k3 k4 k5 k6 k : Int} (h : kdC p k1 k2 k3 k4 k5 k6 = k) (hk : k ≠ 0) : kdV1 p k1 k2 k3 k4 k5 k6 = 0 ∧ kdC p k1 k2 k3 k4 k5 k6 = k := by
  have hn : ¬ (kdC p k1 k2 k3 k4 k5 k6 = 0) := fun e => hk (h.symm.trans e)
  exact ⟨if_neg hn, h⟩
theorem kd_no {p k1 k2 k3 k4 k5 k6 : Int} (h : isP p = false) : kdV1 p k1 k2 k3 k4 k5 k6 = 0 ∧ kdC p k1 k2 k3 k4 k5 k6 = 1 := kd_zero (by simp [kdC, h]) (by decide)
theorem kd_out {p k1 k2 k3 k4 k5 k6 : Int} (hp : isP p = true) (h : kdB p k1 k2 k3 k4 k5 k6 = false) : kdV1 p k1 k2 k3 k4 k5 k6 = 0 ∧ kdC p k1 k2 k3 k4 k5 k6 = 2 := kd_zero (by simp [kdC, hp, h]) (by decide)
theorem kd_st {p k1 k2 k3 k4 k5 k6 k : Int} (hp : isP p = true) (h : kdB p k1 k2 k3 k4 k5 k6 = true) (hs : kdS p k1 k2 k3 k4 k5 k6 = k) (hk : k ≠ 0) : kdV1 p k1 k2 k3 k4 k5 k6 = 0 ∧ kdC p k1 k2 k3 k4 k5 k6 = k := kd_zero (by simp [kdC, hp, h, hs]) hk
theorem kd_good {p k1 k2 k3 k4 k5 k6 : Int} (hp : isP p = true) (h : kdB p k1 k2 k3 k4 k5 k6 = true) (hs : kdS p k1 k2 k3 k4 k5 k6 = 0) : kdV1 p k1 k2 k3 k4 k5 k6 = squareV p (dsc p k1 k2 k3) ∧ kdC p k1 k2 k3 k4 k5 k6 = 0 := by
  have h' : kdC p k1 k2 k3 k4 k5 k6 = 0 := by simp [kdC, hp, h, hs]
  exact ⟨if_pos h', h'⟩

set_option linter.unusedVariables false in
set_option linter.unusedSimpArgs false in
set_option maxRecDepth 20000 in
set_option maxHeartbeats 4000000 in
theorem specKindOf_any (p k1 k2 k3 k4 k5 k6 : Int)  (w : World) :
    Calls Try.prog 32 #[.int .i64 p, .agg #[.int .i64 k1, .int .i64 k2, .int .i64 k3, .int .i64 k4, .int .i64 k5, .int .i64 k6]] w fun e w' =>
      e = .returned (.tuple #[.int .i64 (kdV1 p k1 k2 k3 k4 k5 k6), .int .i64 (kdC p k1 k2 k3 k4 k5 k6)]) ∧ Below w.heap.size w w' := by
  go_enter Try.func32, Try.ntmps32
  rcases bool_ways (isP p) with hd1 | hd1
  · skip
    have c_1 : codeOf p (cnB p k1 k2 k3 k4 k5 k6) = 1 := codeOf_no hd1
    have cN : ∀ b, codeOf p b = 1 := fun b => codeOf_no hd1
    go_wp2_with fail
    refine Calls.mono (specConCode_any _ _ _ _ _ _ _ _) ?_
    rintro e w1 ⟨rfl, hB1⟩
    (obtain ⟨hB1c, hB1f⟩ := bcell hB1; have hB1s := hB1.size; (try simp at hB1s); (try have hB1q1 := Nat.lt_of_succ_le hB1s); (try have hB1q2 := Nat.lt_of_succ_lt hB1q1); (try have hB1q3 := Nat.lt_of_succ_lt hB1q2); (try have hB1zw0 : w.heap.size < w1.heap.size := (by omega)); (try have hB1zw1 : w.heap.size + 1 < w1.heap.size := (by omega)); (try have hB1zw2 : w.heap.size + 1 + 1 < w1.heap.size := (by omega)); (try have hB1zw3 : w.heap.size + 1 + 1 + 1 < w1.heap.size := (by omega)); (try have hB1zw4 : w.heap.size + 1 + 1 + 1 + 1 < w1.heap.size := (by omega)))
    have HV := Lib.hid (kd_no (k1 := k1) (k2 := k2) (k3 := k3) (k4 := k4) (k5 := k5) (k6 := k6) hd1)
    go_wp2
    (refine bodyPost_ret (v := .tuple #[.int .i64 (kdV1 p k1 k2 k3 k4 k5 k6), .int .i64 (kdC p k1 k2 k3 k4 k5 k6)]) (by simp [results, Try.results32, go_sem, HV.out.1, HV.out.2, *]) rfl ⟨?_, ?_⟩)
    · rfl
    · (repeat (first | with_reducible exact Below.refl _ _ | with_reducible refine balloc ?_ _ | with_reducible refine bdrewN ?_ _ | with_reducible refine Below.drew ?_ | with_reducible refine bthen ?_ (by with_reducible assumption) | with_reducible refine Below.setCell ?_ (by first | (simp; done) | (simp; omega)) _))
  · have hp := hd1
    have hr := isP_range hp
    rcases bool_ways (cnB p k1 k2 k3 k4 k5 k6) with hd2 | hd2
    · skip
      have c_1 : codeOf p (cnB p k1 k2 k3 k4 k5 k6) = 2 := codeOf_out hp (by simp [hd2])
      have cT : codeOf p true = 0 := codeOf_in hp rfl
      have cF : codeOf p false = 2 := codeOf_out hp rfl
      go_wp2_with fail
      refine Calls.mono (specConCode_any _ _ _ _ _ _ _ _) ?_
      rintro e w1 ⟨rfl, hB1⟩
      (obtain ⟨hB1c, hB1f⟩ := bcell hB1; have hB1s := hB1.size; (try simp at hB1s); (try have hB1q1 := Nat.lt_of_succ_le hB1s); (try have hB1q2 := Nat.lt_of_succ_lt hB1q1); (try have hB1q3 := Nat.lt_of_succ_lt hB1q2); (try have hB1zw0 : w.heap.size < w1.heap.size := (by omega)); (try have hB1zw1 : w.heap.size + 1 < w1.heap.size := (by omega)); (try have hB1zw2 : w.heap.size + 1 + 1 < w1.heap.size := (by omega)); (try have hB1zw3 : w.heap.size + 1 + 1 + 1 < w1.heap.size := (by omega)); (try have hB1zw4 : w.heap.size + 1 + 1 + 1 + 1 < w1.heap.size := (by omega)))
      have HV := Lib.hid (kd_out (k1 := k1) (k2 := k2) (k3 := k3) (k4 := k4) (k5 := k5) (k6 := k6) hp (by simp [kdB, hd1, hd2]))
      go_wp2
      (refine bodyPost_ret (v := .tuple #[.int .i64 (kdV1 p k1 k2 k3 k4 k5 k6), .int .i64 (kdC p k1 k2 k3 k4 k5 k6)]) (by simp [results, Try.results32, go_sem, HV.out.1, HV.out.2, *]) rfl ⟨?_, ?_⟩)
      · rfl
      · (repeat (first | with_reducible exact Below.refl _ _ | with_reducible refine balloc ?_ _ | with_reducible refine bdrewN ?_ _ | with_reducible refine Below.drew ?_ | with_reducible refine bthen ?_ (by with_reducible assumption) | with_reducible refine Below.setCell ?_ (by first | (simp; done) | (simp; omega)) _))
    · have hd2q := nums6 (cnB_nums hd2)
      have c_1 : codeOf p (cnB p k1 k2 k3 k4 k5 k6) = 0 := codeOf_in hp (by simp [hd2])
      have cT : codeOf p true = 0 := codeOf_in hp rfl
      obtain ⟨v1, hv1⟩ : ∃ v : Int, v = squareV p (dsc p k1 k2 k3) := ⟨_, rfl⟩
      have rv1 := squareV_r p (dsc p k1 k2 k3)
      rw [← hv1] at rv1
      have Hv1 := Lib.hid hv1
      clear hv1
      go_wp2_with fail
      refine Calls.mono (specConCode_any _ _ _ _ _ _ _ _) ?_
      rintro e w1 ⟨rfl, hB1⟩
      (obtain ⟨hB1c, hB1f⟩ := bcell hB1; have hB1s := hB1.size; (try simp at hB1s); (try have hB1q1 := Nat.lt_of_succ_le hB1s); (try have hB1q2 := Nat.lt_of_succ_lt hB1q1); (try have hB1q3 := Nat.lt_of_succ_lt hB1q2); (try have hB1zw0 : w.heap.size < w1.heap.size := (by omega)); (try have hB1zw1 : w.heap.size + 1 < w1.heap.size := (by omega)); (try have hB1zw2 : w.heap.size + 1 + 1 < w1.heap.size := (by omega)); (try have hB1zw3 : w.heap.size + 1 + 1 + 1 < w1.heap.size := (by omega)); (try have hB1zw4 : w.heap.size + 1 + 1 + 1 + 1 < w1.heap.size := (by omega)))
      go_wp2_with fail
      refine Calls.mono (specKind_any _ _ _ _ _ _ _ _ hp (by omega) (by omega) (by omega) (by omega) (by omega) (by omega)) ?_
      rw [← Hv1.out]
      rintro e w2 ⟨rfl, hB2⟩
      (obtain ⟨hB2c, hB2f⟩ := bcell hB2; have hB2s := hB2.size; (try simp at hB2s); (try have hB2q1 := Nat.lt_of_succ_le hB2s); (try have hB2q2 := Nat.lt_of_succ_lt hB2q1); (try have hB2q3 := Nat.lt_of_succ_lt hB2q2); (try have hB2zw0 : w.heap.size < w2.heap.size := (by omega)); (try have hB2zw1 : w.heap.size + 1 < w2.heap.size := (by omega)); (try have hB2zw2 : w.heap.size + 1 + 1 < w2.heap.size := (by omega)); (try have hB2zw3 : w.heap.size + 1 + 1 + 1 < w2.heap.size := (by omega)); (try have hB2zw4 : w.heap.size + 1 + 1 + 1 + 1 < w2.heap.size := (by omega)); (try have hB2zw10 : w1.heap.size < w2.heap.size := (by omega)); (try have hB2zw11 : w1.heap.size + 1 < w2.heap.size := (by omega)); (try have hB2zw12 : w1.heap.size + 1 + 1 < w2.heap.size := (by omega)); (try have hB2zw13 : w1.heap.size + 1 + 1 + 1 < w2.heap.size := (by omega)); (try have hB2zw14 : w1.heap.size + 1 + 1 + 1 + 1 < w2.heap.size := (by omega)))
      have HB : kdB p k1 k2 k3 k4 k5 k6 = true := by simp [kdB, hd1, hd2]
      have HS : kdS p k1 k2 k3 k4 k5 k6 = 0 := by rfl
      have HV := Lib.hid (show kdV1 p k1 k2 k3 k4 k5 k6 = v1 ∧ kdC p k1 k2 k3 k4 k5 k6 = 0 from by
        have HG := kd_good (k1 := k1) (k2 := k2) (k3 := k3) (k4 := k4) (k5 := k5) (k6 := k6) hp HB HS
        refine ⟨(HG.1).trans ?_, HG.2⟩
        all_goals (simp only [← Hv1.out] <;> simp [hd1, hd2]))
      clear HB HS
      go_wp2
      (refine bodyPost_ret (v := .tuple #[.int .i64 (kdV1 p k1 k2 k3 k4 k5 k6), .int .i64 (kdC p k1 k2 k3 k4 k5 k6)]) (by simp [results, Try.results32, go_sem, HV.out.1, HV.out.2, *]) rfl ⟨?_, ?_⟩)
      · rfl
      · (repeat (first | with_reducible exact Below.refl _ _ | with_reducible refine balloc ?_ _ | with_reducible refine bdrewN ?_ _ | with_reducible refine Below.drew ?_ | with_reducible refine bthen ?_ (by with_reducible assumption) | with_reducible refine Below.setCell ?_ (by first | (simp; done) | (simp; omega)) _))

set_option linter.unusedVariables false in
set_option linter.unusedSimpArgs false in
set_option maxRecDepth 20000 in
set_option maxHeartbeats 4000000 in
theorem implKindOf_any (p k1 k2 k3 k4 k5 k6 : Int)  (w : World) :
    Calls Try.prog 33 #[.int .i64 p, .agg #[.int .i64 k1, .int .i64 k2, .int .i64 k3, .int .i64 k4, .int .i64 k5, .int .i64 k6]] w fun e w' =>
      e = .returned (.tuple #[.int .i64 (kdV1 p k1 k2 k3 k4 k5 k6), .int .i64 (kdC p k1 k2 k3 k4 k5 k6)]) ∧ Below w.heap.size w w' := by
  go_enter Try.func33, Try.ntmps33
  rcases bool_ways (isP p) with hd1 | hd1
  · skip
    have c_1 : codeOf p (cnB p k1 k2 k3 k4 k5 k6) = 1 := codeOf_no hd1
    have cN : ∀ b, codeOf p b = 1 := fun b => codeOf_no hd1
    go_wp2_with fail
    refine Calls.mono (isConic_any _ _ _ _ _ _ _ _ ) ?_
    rintro e w1 ⟨rfl, hB1⟩
    (obtain ⟨hB1c, hB1f⟩ := bcell hB1; have hB1s := hB1.size; (try simp at hB1s); (try have hB1q1 := Nat.lt_of_succ_le hB1s); (try have hB1q2 := Nat.lt_of_succ_lt hB1q1); (try have hB1q3 := Nat.lt_of_succ_lt hB1q2); (try have hB1zw0 : w.heap.size < w1.heap.size := (by omega)); (try have hB1zw1 : w.heap.size + 1 < w1.heap.size := (by omega)); (try have hB1zw2 : w.heap.size + 1 + 1 < w1.heap.size := (by omega)); (try have hB1zw3 : w.heap.size + 1 + 1 + 1 < w1.heap.size := (by omega)); (try have hB1zw4 : w.heap.size + 1 + 1 + 1 + 1 < w1.heap.size := (by omega)))
    go_wp2_with fail
    refine Calls.mono (codeFor_any _ _ _) ?_
    rintro e w' ⟨rfl, rfl⟩
    have HV := Lib.hid (kd_no (k1 := k1) (k2 := k2) (k3 := k3) (k4 := k4) (k5 := k5) (k6 := k6) hd1)
    go_wp2
    (refine bodyPost_ret (v := .tuple #[.int .i64 (kdV1 p k1 k2 k3 k4 k5 k6), .int .i64 (kdC p k1 k2 k3 k4 k5 k6)]) (by simp [results, Try.results33, go_sem, HV.out.1, HV.out.2, *]) rfl ⟨?_, ?_⟩)
    · rfl
    · (repeat (first | with_reducible exact Below.refl _ _ | with_reducible refine balloc ?_ _ | with_reducible refine bdrewN ?_ _ | with_reducible refine Below.drew ?_ | with_reducible refine bthen ?_ (by with_reducible assumption) | with_reducible refine Below.setCell ?_ (by first | (simp; done) | (simp; omega)) _))
  · have hp := hd1
    have hr := isP_range hp
    rcases bool_ways (cnB p k1 k2 k3 k4 k5 k6) with hd2 | hd2
    · skip
      have c_1 : codeOf p (cnB p k1 k2 k3 k4 k5 k6) = 2 := codeOf_out hp (by simp [hd2])
      have cT : codeOf p true = 0 := codeOf_in hp rfl
      have cF : codeOf p false = 2 := codeOf_out hp rfl
      go_wp2_with fail
      refine Calls.mono (isConic_any _ _ _ _ _ _ _ _ ) ?_
      rintro e w1 ⟨rfl, hB1⟩
      (obtain ⟨hB1c, hB1f⟩ := bcell hB1; have hB1s := hB1.size; (try simp at hB1s); (try have hB1q1 := Nat.lt_of_succ_le hB1s); (try have hB1q2 := Nat.lt_of_succ_lt hB1q1); (try have hB1q3 := Nat.lt_of_succ_lt hB1q2); (try have hB1zw0 : w.heap.size < w1.heap.size := (by omega)); (try have hB1zw1 : w.heap.size + 1 < w1.heap.size := (by omega)); (try have hB1zw2 : w.heap.size + 1 + 1 < w1.heap.size := (by omega)); (try have hB1zw3 : w.heap.size + 1 + 1 + 1 < w1.heap.size := (by omega)); (try have hB1zw4 : w.heap.size + 1 + 1 + 1 + 1 < w1.heap.size := (by omega)))
      go_wp2_with fail
      refine Calls.mono (codeFor_any _ _ _) ?_
      rintro e w' ⟨rfl, rfl⟩
      have HV := Lib.hid (kd_out (k1 := k1) (k2 := k2) (k3 := k3) (k4 := k4) (k5 := k5) (k6 := k6) hp (by simp [kdB, hd1, hd2]))
      go_wp2
      (refine bodyPost_ret (v := .tuple #[.int .i64 (kdV1 p k1 k2 k3 k4 k5 k6), .int .i64 (kdC p k1 k2 k3 k4 k5 k6)]) (by simp [results, Try.results33, go_sem, HV.out.1, HV.out.2, *]) rfl ⟨?_, ?_⟩)
      · rfl
      · (repeat (first | with_reducible exact Below.refl _ _ | with_reducible refine balloc ?_ _ | with_reducible refine bdrewN ?_ _ | with_reducible refine Below.drew ?_ | with_reducible refine bthen ?_ (by with_reducible assumption) | with_reducible refine Below.setCell ?_ (by first | (simp; done) | (simp; omega)) _))
    · have hd2q := nums6 (cnB_nums hd2)
      have c_1 : codeOf p (cnB p k1 k2 k3 k4 k5 k6) = 0 := codeOf_in hp (by simp [hd2])
      have cT : codeOf p true = 0 := codeOf_in hp rfl
      obtain ⟨v1, hv1⟩ : ∃ v : Int, v = dsc p k1 k2 k3 := ⟨_, rfl⟩
      have rv1 := dsc_r k1 k2 k3 hp
      rw [← hv1] at rv1
      have Hv1 := Lib.hid hv1
      clear hv1
      obtain ⟨v2, hv2⟩ : ∃ v : Int, v = squareV p v1 := ⟨_, rfl⟩
      have rv2 := squareV_r p v1
      rw [← hv2] at rv2
      have Hv2 := Lib.hid hv2
      clear hv2
      go_wp2_with fail
      refine Calls.mono (isConic_any _ _ _ _ _ _ _ _ ) ?_
      rintro e w1 ⟨rfl, hB1⟩
      (obtain ⟨hB1c, hB1f⟩ := bcell hB1; have hB1s := hB1.size; (try simp at hB1s); (try have hB1q1 := Nat.lt_of_succ_le hB1s); (try have hB1q2 := Nat.lt_of_succ_lt hB1q1); (try have hB1q3 := Nat.lt_of_succ_lt hB1q2); (try have hB1zw0 : w.heap.size < w1.heap.size := (by omega)); (try have hB1zw1 : w.heap.size + 1 < w1.heap.size := (by omega)); (try have hB1zw2 : w.heap.size + 1 + 1 < w1.heap.size := (by omega)); (try have hB1zw3 : w.heap.size + 1 + 1 + 1 < w1.heap.size := (by omega)); (try have hB1zw4 : w.heap.size + 1 + 1 + 1 + 1 < w1.heap.size := (by omega)))
      go_wp2_with fail
      refine Calls.mono (codeFor_any _ _ _) ?_
      rintro e w' ⟨rfl, rfl⟩
      go_wp2_with fail
      refine Calls.mono (implDsc_any _ _ _ _ _ _ _ _ hp (by omega) (by omega) (by omega) (by omega) (by omega) (by omega)) ?_
      rw [← Hv1.out]
      rintro e w2 ⟨rfl, hB2⟩
      (obtain ⟨hB2c, hB2f⟩ := bcell hB2; have hB2s := hB2.size; (try simp at hB2s); (try have hB2q1 := Nat.lt_of_succ_le hB2s); (try have hB2q2 := Nat.lt_of_succ_lt hB2q1); (try have hB2q3 := Nat.lt_of_succ_lt hB2q2); (try have hB2zw0 : w.heap.size < w2.heap.size := (by omega)); (try have hB2zw1 : w.heap.size + 1 < w2.heap.size := (by omega)); (try have hB2zw2 : w.heap.size + 1 + 1 < w2.heap.size := (by omega)); (try have hB2zw3 : w.heap.size + 1 + 1 + 1 < w2.heap.size := (by omega)); (try have hB2zw4 : w.heap.size + 1 + 1 + 1 + 1 < w2.heap.size := (by omega)); (try have hB2zw10 : w1.heap.size < w2.heap.size := (by omega)); (try have hB2zw11 : w1.heap.size + 1 < w2.heap.size := (by omega)); (try have hB2zw12 : w1.heap.size + 1 + 1 < w2.heap.size := (by omega)); (try have hB2zw13 : w1.heap.size + 1 + 1 + 1 < w2.heap.size := (by omega)); (try have hB2zw14 : w1.heap.size + 1 + 1 + 1 + 1 < w2.heap.size := (by omega)))
      go_wp2_with fail
      refine Calls.mono (implSquareIn _ _ _ hp (by omega)) ?_
      rw [← Hv2.out]
      rintro e w3 ⟨rfl, hB3⟩
      (obtain ⟨hB3c, hB3f⟩ := bcell hB3; have hB3s := hB3.size; (try simp at hB3s); (try have hB3q1 := Nat.lt_of_succ_le hB3s); (try have hB3q2 := Nat.lt_of_succ_lt hB3q1); (try have hB3q3 := Nat.lt_of_succ_lt hB3q2); (try have hB3zw0 : w.heap.size < w3.heap.size := (by omega)); (try have hB3zw1 : w.heap.size + 1 < w3.heap.size := (by omega)); (try have hB3zw2 : w.heap.size + 1 + 1 < w3.heap.size := (by omega)); (try have hB3zw3 : w.heap.size + 1 + 1 + 1 < w3.heap.size := (by omega)); (try have hB3zw4 : w.heap.size + 1 + 1 + 1 + 1 < w3.heap.size := (by omega)); (try have hB3zw20 : w2.heap.size < w3.heap.size := (by omega)); (try have hB3zw21 : w2.heap.size + 1 < w3.heap.size := (by omega)); (try have hB3zw22 : w2.heap.size + 1 + 1 < w3.heap.size := (by omega)); (try have hB3zw23 : w2.heap.size + 1 + 1 + 1 < w3.heap.size := (by omega)); (try have hB3zw24 : w2.heap.size + 1 + 1 + 1 + 1 < w3.heap.size := (by omega)); (try have hB3zw10 : w1.heap.size < w3.heap.size := (by omega)); (try have hB3zw11 : w1.heap.size + 1 < w3.heap.size := (by omega)); (try have hB3zw12 : w1.heap.size + 1 + 1 < w3.heap.size := (by omega)); (try have hB3zw13 : w1.heap.size + 1 + 1 + 1 < w3.heap.size := (by omega)); (try have hB3zw14 : w1.heap.size + 1 + 1 + 1 + 1 < w3.heap.size := (by omega)))
      have HB : kdB p k1 k2 k3 k4 k5 k6 = true := by simp [kdB, hd1, hd2]
      have HS : kdS p k1 k2 k3 k4 k5 k6 = 0 := by rfl
      have HV := Lib.hid (show kdV1 p k1 k2 k3 k4 k5 k6 = v2 ∧ kdC p k1 k2 k3 k4 k5 k6 = 0 from by
        have HG := kd_good (k1 := k1) (k2 := k2) (k3 := k3) (k4 := k4) (k5 := k5) (k6 := k6) hp HB HS
        refine ⟨(HG.1).trans ?_, HG.2⟩
        all_goals (simp only [← Hv1.out, ← Hv2.out] <;> simp [hd1, hd2]))
      clear HB HS
      go_wp2
      (refine bodyPost_ret (v := .tuple #[.int .i64 (kdV1 p k1 k2 k3 k4 k5 k6), .int .i64 (kdC p k1 k2 k3 k4 k5 k6)]) (by simp [results, Try.results33, go_sem, HV.out.1, HV.out.2, *]) rfl ⟨?_, ?_⟩)
      · rfl
      · (repeat (first | with_reducible exact Below.refl _ _ | with_reducible refine balloc ?_ _ | with_reducible refine bdrewN ?_ _ | with_reducible refine Below.drew ?_ | with_reducible refine bthen ?_ (by with_reducible assumption) | with_reducible refine Below.setCell ?_ (by first | (simp; done) | (simp; omega)) _))

end Go.Proofs.Ytijmmagdkbnhdaa
