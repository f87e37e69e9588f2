/-
  ShiftBy: the program's and the model's.
-/
import Derived.Test.YthfckpfiechloaaImplShift
import Derived.Test.YthfckpfiechloaaSpecPts
import Derived.Test.YthfckpfiechloaaImplPts
import Derived.Test.YthfckpfiechloaaCode
import Derived.Deep.RegionHeld3
import Derived.Deep.DeepCutAuto
import Derived.Test.YthfckpfiechloaaBaseMath
namespace Go.Proofs.Ythfckpfiechloaa
open Go.RowKit

set_option linter.unusedVariables false in
def sbB (p a1 a2 : Int) : Bool := numsIn p [a1, a2]
set_option linter.unusedVariables false in
def sbS (p a1 a2 : Int) : Int := 0
set_option linter.unusedVariables false in
def sbC (p a1 a2 : Int) : Int := if isP p = true then (if sbB p a1 a2 = true then sbS p a1 a2 else 2) else 1
set_option linter.unusedVariables false in
def sbV1 (p a1 a2 : Int) : Int := if sbC p a1 a2 = 0 then 1 else 0
set_option linter.unusedVariables false in
def sbV2 (p a1 a2 : Int) : Int := if sbC p a1 a2 = 0 then 0 else 0
set_option linter.unusedVariables false in
def sbV3 (p a1 a2 : Int) : Int := if sbC p a1 a2 = 0 then 0 else 0
set_option linter.unusedVariables false in
def sbV4 (p a1 a2 : Int) : Int := if sbC p a1 a2 = 0 then 1 else 0
set_option linter.unusedVariables false in
def sbV5 (p a1 a2 : Int) : Int := if sbC p a1 a2 = 0 then a1 else 0
set_option linter.unusedVariables false in
def sbV6 (p a1 a2 : Int) : Int := if sbC p a1 a2 = 0 then a2 else 0
theorem sb_zero {p a1 a2 k : Int} (h : sbC p a1 a2 = k) (hk : k ≠ 0) : sbV1 p a1 a2 = 0 ∧ sbV2 p a1 a2 = 0 ∧ sbV3 p a1 a2 = 0 ∧ sbV4 p a1 a2 = 0 ∧ sbV5 p a1 a2 = 0 ∧ sbV6 p a1 a2 = 0 ∧ sbC p a1 a2 = k := by
  have hn : ¬ (sbC p a1 a2 = 0) := fun e => hk (h.symm.trans e)
  exact ⟨if_neg hn, if_neg hn, if_neg hn, if_neg hn, if_neg hn, if_neg hn, h⟩
theorem sb_no {p a1 a2 : Int} (h : isP p = false) : sbV1 p a1 a2 = 0 ∧ sbV2 p a1 a2 = 0 ∧ sbV3 p a1 a2 = 0 ∧ sbV4 p a1 a2 = 0 ∧ sbV5 p a1 a2 = 0 ∧ sbV6 p a1 a2 = 0 ∧ sbC p a1 a2 = 1 := sb_zero (by simp [sbC, h]) (by decide)
theorem sb_out {p a1 a2 : Int} (hp : isP p = true) (h : sbB p a1 a2 = false) : sbV1 p a1 a2 = 0 ∧ sbV2 p a1 a2 = 0 ∧ sbV3 p a1 a2 = 0 ∧ sbV4 p a1 a2 = 0 ∧ sbV5 p a1 a2 = 0 ∧ sbV6 p a1 a2 = 0 ∧ sbC p a1 a2 = 2 := sb_zero (by simp [sbC, hp, h]) (by decide)
theorem sb_st {p a1 a2 k : Int} (hp : isP p = true) (h : sbB p a1 a2 = true) (hs : sbS p a1 a2 = k) (hk : k ≠ 0) : sbV1 p a1 a2 = 0 ∧ sbV2 p a1 a2 = 0 ∧ sbV3 p a1 a2 = 0 ∧ sbV4 p a1 a2 = 0 ∧ sbV5 p a1 a2 = 0 ∧ sbV6 p a1 a2 = 0 ∧ sbC p a1 a2 = k := sb_zero (by simp [sbC, hp, h, hs]) hk
theorem sb_good {p a1 a2 : Int} (hp : isP p = true) (h : sbB p a1 a2 = true) (hs : sbS p a1 a2 = 0) : sbV1 p a1 a2 = 1 ∧ sbV2 p a1 a2 = 0 ∧ sbV3 p a1 a2 = 0 ∧ sbV4 p a1 a2 = 1 ∧ sbV5 p a1 a2 = a1 ∧ sbV6 p a1 a2 = a2 ∧ sbC p a1 a2 = 0 := by
  have h' : sbC p a1 a2 = 0 := by simp [sbC, hp, h, hs]
  exact ⟨if_pos h', if_pos h', if_pos h', if_pos h', if_pos h', if_pos h', h'⟩

set_option linter.unusedVariables false in
set_option linter.unusedSimpArgs false in
set_option maxRecDepth 20000 in
set_option maxHeartbeats 4000000 in
theorem specShiftBy_any (p a1 a2 : Int)  (w : World) :
    Calls Try.prog 33 #[.int .i64 p, .agg #[.int .i64 a1, .int .i64 a2]] w fun e w' =>
      e = .returned (.tuple #[.agg #[.int .i64 (sbV1 p a1 a2), .int .i64 (sbV2 p a1 a2), .int .i64 (sbV3 p a1 a2), .int .i64 (sbV4 p a1 a2), .int .i64 (sbV5 p a1 a2), .int .i64 (sbV6 p a1 a2)], .int .i64 (sbC p a1 a2)]) ∧ Below w.heap.size w w' := by
  go_enter Try.func33, Try.ntmps33
  rcases bool_ways (isP p) with hd1 | hd1
  · skip
    have c_1 : codeOf p (numsIn p [a1, a2]) = 1 := codeOf_no hd1
    have cN : ∀ b, codeOf p b = 1 := fun b => codeOf_no hd1
    go_wp2_with fail
    refine Calls.mono (specCode1 _ _ _ _ _ (by first | rfl | (simp; done))) ?_
    rintro e w1 ⟨rfl, hB1⟩
    (obtain ⟨hB1c, hB1f⟩ := bcell hB1; have hB1s := hB1.size; (try simp at hB1s); (try have hB1q1 := Nat.lt_of_succ_le hB1s); (try have hB1q2 := Nat.lt_of_succ_lt hB1q1); (try have hB1q3 := Nat.lt_of_succ_lt hB1q2); (try have hB1zw0 : w.heap.size < w1.heap.size := (by omega)); (try have hB1zw1 : w.heap.size + 1 < w1.heap.size := (by omega)); (try have hB1zw2 : w.heap.size + 1 + 1 < w1.heap.size := (by omega)); (try have hB1zw3 : w.heap.size + 1 + 1 + 1 < w1.heap.size := (by omega)); (try have hB1zw4 : w.heap.size + 1 + 1 + 1 + 1 < w1.heap.size := (by omega)))
    have HV := Lib.hid (sb_no (a1 := a1) (a2 := a2) hd1)
    go_wp2
    (refine bodyPost_ret (v := .tuple #[.agg #[.int .i64 (sbV1 p a1 a2), .int .i64 (sbV2 p a1 a2), .int .i64 (sbV3 p a1 a2), .int .i64 (sbV4 p a1 a2), .int .i64 (sbV5 p a1 a2), .int .i64 (sbV6 p a1 a2)], .int .i64 (sbC p a1 a2)]) (by simp [results, Try.results33, go_sem, HV.out.1, HV.out.2.1, HV.out.2.2.1, HV.out.2.2.2.1, HV.out.2.2.2.2.1, HV.out.2.2.2.2.2.1, HV.out.2.2.2.2.2.2, *]) rfl ⟨?_, ?_⟩)
    · rfl
    · (repeat (first | with_reducible exact Below.refl _ _ | with_reducible refine balloc ?_ _ | with_reducible refine bdrewN ?_ _ | with_reducible refine Below.drew ?_ | with_reducible refine bthen ?_ (by with_reducible assumption) | with_reducible refine Below.setCell ?_ (by first | (simp; done) | (simp; omega)) _))
  · have hp := hd1
    have hr := isP_range hp
    rcases bool_ways (numsIn p [a1, a2]) with hd2 | hd2
    · skip
      have c_1 : codeOf p (numsIn p [a1, a2]) = 2 := codeOf_out hp (by simp [hd2])
      have cT : codeOf p true = 0 := codeOf_in hp rfl
      have cF : codeOf p false = 2 := codeOf_out hp rfl
      go_wp2_with fail
      refine Calls.mono (specCode1 _ _ _ _ _ (by first | rfl | (simp; done))) ?_
      rintro e w1 ⟨rfl, hB1⟩
      (obtain ⟨hB1c, hB1f⟩ := bcell hB1; have hB1s := hB1.size; (try simp at hB1s); (try have hB1q1 := Nat.lt_of_succ_le hB1s); (try have hB1q2 := Nat.lt_of_succ_lt hB1q1); (try have hB1q3 := Nat.lt_of_succ_lt hB1q2); (try have hB1zw0 : w.heap.size < w1.heap.size := (by omega)); (try have hB1zw1 : w.heap.size + 1 < w1.heap.size := (by omega)); (try have hB1zw2 : w.heap.size + 1 + 1 < w1.heap.size := (by omega)); (try have hB1zw3 : w.heap.size + 1 + 1 + 1 < w1.heap.size := (by omega)); (try have hB1zw4 : w.heap.size + 1 + 1 + 1 + 1 < w1.heap.size := (by omega)))
      have HV := Lib.hid (sb_out (a1 := a1) (a2 := a2) hp (by simp [sbB, hd1, hd2]))
      go_wp2
      (refine bodyPost_ret (v := .tuple #[.agg #[.int .i64 (sbV1 p a1 a2), .int .i64 (sbV2 p a1 a2), .int .i64 (sbV3 p a1 a2), .int .i64 (sbV4 p a1 a2), .int .i64 (sbV5 p a1 a2), .int .i64 (sbV6 p a1 a2)], .int .i64 (sbC p a1 a2)]) (by simp [results, Try.results33, go_sem, HV.out.1, HV.out.2.1, HV.out.2.2.1, HV.out.2.2.2.1, HV.out.2.2.2.2.1, HV.out.2.2.2.2.2.1, HV.out.2.2.2.2.2.2, *]) rfl ⟨?_, ?_⟩)
      · rfl
      · (repeat (first | with_reducible exact Below.refl _ _ | with_reducible refine balloc ?_ _ | with_reducible refine bdrewN ?_ _ | with_reducible refine Below.drew ?_ | with_reducible refine bthen ?_ (by with_reducible assumption) | with_reducible refine Below.setCell ?_ (by first | (simp; done) | (simp; omega)) _))
    · have hd2q := nums2 hd2
      have c_1 : codeOf p (numsIn p [a1, a2]) = 0 := codeOf_in hp (by simp [hd2])
      have cT : codeOf p true = 0 := codeOf_in hp rfl
      go_wp2_with fail
      refine Calls.mono (specCode1 _ _ _ _ _ (by first | rfl | (simp; done))) ?_
      rintro e w1 ⟨rfl, hB1⟩
      (obtain ⟨hB1c, hB1f⟩ := bcell hB1; have hB1s := hB1.size; (try simp at hB1s); (try have hB1q1 := Nat.lt_of_succ_le hB1s); (try have hB1q2 := Nat.lt_of_succ_lt hB1q1); (try have hB1q3 := Nat.lt_of_succ_lt hB1q2); (try have hB1zw0 : w.heap.size < w1.heap.size := (by omega)); (try have hB1zw1 : w.heap.size + 1 < w1.heap.size := (by omega)); (try have hB1zw2 : w.heap.size + 1 + 1 < w1.heap.size := (by omega)); (try have hB1zw3 : w.heap.size + 1 + 1 + 1 < w1.heap.size := (by omega)); (try have hB1zw4 : w.heap.size + 1 + 1 + 1 + 1 < w1.heap.size := (by omega)))
      have HB : sbB p a1 a2 = true := by simp [sbB, hd1, hd2]
      have HS : sbS p a1 a2 = 0 := by rfl
      have HV := Lib.hid (show sbV1 p a1 a2 = 1 ∧ sbV2 p a1 a2 = 0 ∧ sbV3 p a1 a2 = 0 ∧ sbV4 p a1 a2 = 1 ∧ sbV5 p a1 a2 = a1 ∧ sbV6 p a1 a2 = a2 ∧ sbC p a1 a2 = 0 from by
        have HG := sb_good (a1 := a1) (a2 := a2) hp HB HS
        refine ⟨(HG.1).trans ?_, (HG.2.1).trans ?_, (HG.2.2.1).trans ?_, (HG.2.2.2.1).trans ?_, (HG.2.2.2.2.1).trans ?_, (HG.2.2.2.2.2.1).trans ?_, HG.2.2.2.2.2.2⟩
        all_goals (simp only [] <;> simp [hd1, hd2]))
      clear HB HS
      go_wp2
      (refine bodyPost_ret (v := .tuple #[.agg #[.int .i64 (sbV1 p a1 a2), .int .i64 (sbV2 p a1 a2), .int .i64 (sbV3 p a1 a2), .int .i64 (sbV4 p a1 a2), .int .i64 (sbV5 p a1 a2), .int .i64 (sbV6 p a1 a2)], .int .i64 (sbC p a1 a2)]) (by simp [results, Try.results33, go_sem, HV.out.1, HV.out.2.1, HV.out.2.2.1, HV.out.2.2.2.1, HV.out.2.2.2.2.1, HV.out.2.2.2.2.2.1, HV.out.2.2.2.2.2.2, *]) rfl ⟨?_, ?_⟩)
      · rfl
      · (repeat (first | with_reducible exact Below.refl _ _ | with_reducible refine balloc ?_ _ | with_reducible refine bdrewN ?_ _ | with_reducible refine Below.drew ?_ | with_reducible refine bthen ?_ (by with_reducible assumption) | with_reducible refine Below.setCell ?_ (by first | (simp; done) | (simp; omega)) _))

set_option linter.unusedVariables false in
set_option linter.unusedSimpArgs false in
set_option maxRecDepth 20000 in
set_option maxHeartbeats 4000000 in
theorem implShiftBy_any (p a1 a2 : Int)  (w : World) :
    Calls Try.prog 34 #[.int .i64 p, .agg #[.int .i64 a1, .int .i64 a2]] w fun e w' =>
      e = .returned (.tuple #[.agg #[.int .i64 (sbV1 p a1 a2), .int .i64 (sbV2 p a1 a2), .int .i64 (sbV3 p a1 a2), .int .i64 (sbV4 p a1 a2), .int .i64 (sbV5 p a1 a2), .int .i64 (sbV6 p a1 a2)], .int .i64 (sbC p a1 a2)]) ∧ Below w.heap.size w w' := by
  go_enter Try.func34, Try.ntmps34
  rcases bool_ways (isP p) with hd1 | hd1
  · skip
    have c_1 : codeOf p (numsIn p [a1, a2]) = 1 := codeOf_no hd1
    have cN : ∀ b, codeOf p b = 1 := fun b => codeOf_no hd1
    go_wp2_with fail
    refine Calls.mono (implPoints1 _ _ _ _ _ (by first | rfl | (simp; done))) ?_
    rintro e w1 ⟨rfl, hB1⟩
    (obtain ⟨hB1c, hB1f⟩ := bcell hB1; have hB1s := hB1.size; (try simp at hB1s); (try have hB1q1 := Nat.lt_of_succ_le hB1s); (try have hB1q2 := Nat.lt_of_succ_lt hB1q1); (try have hB1q3 := Nat.lt_of_succ_lt hB1q2); (try have hB1zw0 : w.heap.size < w1.heap.size := (by omega)); (try have hB1zw1 : w.heap.size + 1 < w1.heap.size := (by omega)); (try have hB1zw2 : w.heap.size + 1 + 1 < w1.heap.size := (by omega)); (try have hB1zw3 : w.heap.size + 1 + 1 + 1 < w1.heap.size := (by omega)); (try have hB1zw4 : w.heap.size + 1 + 1 + 1 + 1 < w1.heap.size := (by omega)))
    go_wp2_with fail
    refine Calls.mono (codeFor_any _ _ _) ?_
    rintro e w' ⟨rfl, rfl⟩
    have HV := Lib.hid (sb_no (a1 := a1) (a2 := a2) hd1)
    go_wp2
    (refine bodyPost_ret (v := .tuple #[.agg #[.int .i64 (sbV1 p a1 a2), .int .i64 (sbV2 p a1 a2), .int .i64 (sbV3 p a1 a2), .int .i64 (sbV4 p a1 a2), .int .i64 (sbV5 p a1 a2), .int .i64 (sbV6 p a1 a2)], .int .i64 (sbC p a1 a2)]) (by simp [results, Try.results34, go_sem, HV.out.1, HV.out.2.1, HV.out.2.2.1, HV.out.2.2.2.1, HV.out.2.2.2.2.1, HV.out.2.2.2.2.2.1, HV.out.2.2.2.2.2.2, *]) rfl ⟨?_, ?_⟩)
    · rfl
    · (repeat (first | with_reducible exact Below.refl _ _ | with_reducible refine balloc ?_ _ | with_reducible refine bdrewN ?_ _ | with_reducible refine Below.drew ?_ | with_reducible refine bthen ?_ (by with_reducible assumption) | with_reducible refine Below.setCell ?_ (by first | (simp; done) | (simp; omega)) _))
  · have hp := hd1
    have hr := isP_range hp
    rcases bool_ways (numsIn p [a1, a2]) with hd2 | hd2
    · skip
      have c_1 : codeOf p (numsIn p [a1, a2]) = 2 := codeOf_out hp (by simp [hd2])
      have cT : codeOf p true = 0 := codeOf_in hp rfl
      have cF : codeOf p false = 2 := codeOf_out hp rfl
      go_wp2_with fail
      refine Calls.mono (implPoints1 _ _ _ _ _ (by first | rfl | (simp; done))) ?_
      rintro e w1 ⟨rfl, hB1⟩
      (obtain ⟨hB1c, hB1f⟩ := bcell hB1; have hB1s := hB1.size; (try simp at hB1s); (try have hB1q1 := Nat.lt_of_succ_le hB1s); (try have hB1q2 := Nat.lt_of_succ_lt hB1q1); (try have hB1q3 := Nat.lt_of_succ_lt hB1q2); (try have hB1zw0 : w.heap.size < w1.heap.size := (by omega)); (try have hB1zw1 : w.heap.size + 1 < w1.heap.size := (by omega)); (try have hB1zw2 : w.heap.size + 1 + 1 < w1.heap.size := (by omega)); (try have hB1zw3 : w.heap.size + 1 + 1 + 1 < w1.heap.size := (by omega)); (try have hB1zw4 : w.heap.size + 1 + 1 + 1 + 1 < w1.heap.size := (by omega)))
      go_wp2_with fail
      refine Calls.mono (codeFor_any _ _ _) ?_
      rintro e w' ⟨rfl, rfl⟩
      have HV := Lib.hid (sb_out (a1 := a1) (a2 := a2) hp (by simp [sbB, hd1, hd2]))
      go_wp2
      (refine bodyPost_ret (v := .tuple #[.agg #[.int .i64 (sbV1 p a1 a2), .int .i64 (sbV2 p a1 a2), .int .i64 (sbV3 p a1 a2), .int .i64 (sbV4 p a1 a2), .int .i64 (sbV5 p a1 a2), .int .i64 (sbV6 p a1 a2)], .int .i64 (sbC p a1 a2)]) (by simp [results, Try.results34, go_sem, HV.out.1, HV.out.2.1, HV.out.2.2.1, HV.out.2.2.2.1, HV.out.2.2.2.2.1, HV.out.2.2.2.2.2.1, HV.out.2.2.2.2.2.2, *]) rfl ⟨?_, ?_⟩)
      · rfl
      · (repeat (first | with_reducible exact Below.refl _ _ | with_reducible refine balloc ?_ _ | with_reducible refine bdrewN ?_ _ | with_reducible refine Below.drew ?_ | with_reducible refine bthen ?_ (by with_reducible assumption) | with_reducible refine Below.setCell ?_ (by first | (simp; done) | (simp; omega)) _))
    · have hd2q := nums2 hd2
      have c_1 : codeOf p (numsIn p [a1, a2]) = 0 := codeOf_in hp (by simp [hd2])
      have cT : codeOf p true = 0 := codeOf_in hp rfl
      go_wp2_with fail
      refine Calls.mono (implPoints1 _ _ _ _ _ (by first | rfl | (simp; done))) ?_
      rintro e w1 ⟨rfl, hB1⟩
      (obtain ⟨hB1c, hB1f⟩ := bcell hB1; have hB1s := hB1.size; (try simp at hB1s); (try have hB1q1 := Nat.lt_of_succ_le hB1s); (try have hB1q2 := Nat.lt_of_succ_lt hB1q1); (try have hB1q3 := Nat.lt_of_succ_lt hB1q2); (try have hB1zw0 : w.heap.size < w1.heap.size := (by omega)); (try have hB1zw1 : w.heap.size + 1 < w1.heap.size := (by omega)); (try have hB1zw2 : w.heap.size + 1 + 1 < w1.heap.size := (by omega)); (try have hB1zw3 : w.heap.size + 1 + 1 + 1 < w1.heap.size := (by omega)); (try have hB1zw4 : w.heap.size + 1 + 1 + 1 + 1 < w1.heap.size := (by omega)))
      go_wp2_with fail
      refine Calls.mono (codeFor_any _ _ _) ?_
      rintro e w' ⟨rfl, rfl⟩
      go_wp2_with fail
      refine Calls.mono (shiftBy_any _ _ _ ) ?_
      rintro e w2 ⟨rfl, hB2⟩
      (obtain ⟨hB2c, hB2f⟩ := bcell hB2; have hB2s := hB2.size; (try simp at hB2s); (try have hB2q1 := Nat.lt_of_succ_le hB2s); (try have hB2q2 := Nat.lt_of_succ_lt hB2q1); (try have hB2q3 := Nat.lt_of_succ_lt hB2q2); (try have hB2zw0 : w.heap.size < w2.heap.size := (by omega)); (try have hB2zw1 : w.heap.size + 1 < w2.heap.size := (by omega)); (try have hB2zw2 : w.heap.size + 1 + 1 < w2.heap.size := (by omega)); (try have hB2zw3 : w.heap.size + 1 + 1 + 1 < w2.heap.size := (by omega)); (try have hB2zw4 : w.heap.size + 1 + 1 + 1 + 1 < w2.heap.size := (by omega)); (try have hB2zw10 : w1.heap.size < w2.heap.size := (by omega)); (try have hB2zw11 : w1.heap.size + 1 < w2.heap.size := (by omega)); (try have hB2zw12 : w1.heap.size + 1 + 1 < w2.heap.size := (by omega)); (try have hB2zw13 : w1.heap.size + 1 + 1 + 1 < w2.heap.size := (by omega)); (try have hB2zw14 : w1.heap.size + 1 + 1 + 1 + 1 < w2.heap.size := (by omega)))
      have HB : sbB p a1 a2 = true := by simp [sbB, hd1, hd2]
      have HS : sbS p a1 a2 = 0 := by rfl
      have HV := Lib.hid (show sbV1 p a1 a2 = 1 ∧ sbV2 p a1 a2 = 0 ∧ sbV3 p a1 a2 = 0 ∧ sbV4 p a1 a2 = 1 ∧ sbV5 p a1 a2 = a1 ∧ sbV6 p a1 a2 = a2 ∧ sbC p a1 a2 = 0 from by
        have HG := sb_good (a1 := a1) (a2 := a2) hp HB HS
        refine ⟨(HG.1).trans ?_, (HG.2.1).trans ?_, (HG.2.2.1).trans ?_, (HG.2.2.2.1).trans ?_, (HG.2.2.2.2.1).trans ?_, (HG.2.2.2.2.2.1).trans ?_, HG.2.2.2.2.2.2⟩
        all_goals (simp only [] <;> simp [hd1, hd2]))
      clear HB HS
      go_wp2
      (refine bodyPost_ret (v := .tuple #[.agg #[.int .i64 (sbV1 p a1 a2), .int .i64 (sbV2 p a1 a2), .int .i64 (sbV3 p a1 a2), .int .i64 (sbV4 p a1 a2), .int .i64 (sbV5 p a1 a2), .int .i64 (sbV6 p a1 a2)], .int .i64 (sbC p a1 a2)]) (by simp [results, Try.results34, go_sem, HV.out.1, HV.out.2.1, HV.out.2.2.1, HV.out.2.2.2.1, HV.out.2.2.2.2.1, HV.out.2.2.2.2.2.1, HV.out.2.2.2.2.2.2, *]) rfl ⟨?_, ?_⟩)
      · rfl
      · (repeat (first | with_reducible exact Below.refl _ _ | with_reducible refine balloc ?_ _ | with_reducible refine bdrewN ?_ _ | with_reducible refine Below.drew ?_ | with_reducible refine bthen ?_ (by with_reducible assumption) | with_reducible refine Below.setCell ?_ (by first | (simp; done) | (simp; omega)) _))

end Go.Proofs.Ythfckpfiechloaa
