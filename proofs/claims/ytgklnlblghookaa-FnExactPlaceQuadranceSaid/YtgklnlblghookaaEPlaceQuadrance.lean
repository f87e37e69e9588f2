/-
  PlaceQuadrance: the program's and the model's.
-/
import Derived.Test.YtgklnlblghookaaSpecPlq
import Derived.Test.YtgklnlblghookaaSpecNull
import Derived.Test.YtgklnlblghookaaImplPlq
import Derived.Test.YtgklnlblghookaaImplPlaces2
import Derived.Test.YtgklnlblghookaaSpecPlCode
import Derived.Test.YtgklnlblghookaaCode
import Derived.Test.YtgklnlblghookaaLast
import Derived.Deep.RegionHeld3
import Derived.Deep.DeepCutAuto
import Derived.Test.YtgklnlblghookaaBaseMath
namespace Go.Proofs.Ytgklnlblghookaa
open Go.RowKit

set_option linter.unusedVariables false in
def pqB (p a1 a2 a3 b1 b2 b3 : Int) : Bool := plB p a1 a2 a3 && plB p b1 b2 b3
set_option linter.unusedVariables false in
def pqS (p a1 a2 a3 b1 b2 b3 : Int) : Int := if quZ p a1 a2 a3 b1 b2 b3 = true then 5 else 0
set_option linter.unusedVariables false in
def pqC (p a1 a2 a3 b1 b2 b3 : Int) : Int := if isP p = true then (if pqB p a1 a2 a3 b1 b2 b3 = true then pqS p a1 a2 a3 b1 b2 b3 else 2) else 1
set_option linter.unusedVariables false in
def pqV1 (p a1 a2 a3 b1 b2 b3 : Int) : Int := if pqC p a1 a2 a3 b1 b2 b3 = 0 then plq p a1 a2 a3 b1 b2 b3 else 0
theorem pq_zero {p a1 a2 a3 b1 b2 b3 k : Int} (h : pqC p a1 a2 a3 b1 b2 b3 = k) (hk : k ≠ 0) : pqV1 p a1 a2 a3 b1 b2 b3 = 0 ∧ pqC p a1 a2 a3 b1 b2 b3 = k := by
  have hn : ¬ (pqC p a1 a2 a3 b1 b2 b3 = 0) := fun e => hk (h.symm.trans e)
  exact ⟨if_neg hn, h⟩
theorem pq_no {p a1 a2 a3 b1 b2 b3 : Int} (h : isP p = false) : pqV1 p a1 a2 a3 b1 b2 b3 = 0 ∧ pqC p a1 a2 a3 b1 b2 b3 = 1 := pq_zero (by simp [pqC, h]) (by decide)
theorem pq_out {p a1 a2 a3 b1 b2 b3 : Int} (hp : isP p = true) (h : pqB p a1 a2 a3 b1 b2 b3 = false) : pqV1 p a1 a2 a3 b1 b2 b3 = 0 ∧ pqC p a1 a2 a3 b1 b2 b3 = 2 := pq_zero (by simp [pqC, hp, h]) (by decide)
theorem pq_st {p a1 a2 a3 b1 b2 b3 k : Int} (hp : isP p = true) (h : pqB p a1 a2 a3 b1 b2 b3 = true) (hs : pqS p a1 a2 a3 b1 b2 b3 = k) (hk : k ≠ 0) : pqV1 p a1 a2 a3 b1 b2 b3 = 0 ∧ pqC p a1 a2 a3 b1 b2 b3 = k := pq_zero (by simp [pqC, hp, h, hs]) hk
theorem pq_good {p a1 a2 a3 b1 b2 b3 : Int} (hp : isP p = true) (h : pqB p a1 a2 a3 b1 b2 b3 = true) (hs : pqS p a1 a2 a3 b1 b2 b3 = 0) : pqV1 p a1 a2 a3 b1 b2 b3 = plq p a1 a2 a3 b1 b2 b3 ∧ pqC p a1 a2 a3 b1 b2 b3 = 0 := by
  have h' : pqC p a1 a2 a3 b1 b2 b3 = 0 := by simp [pqC, hp, h, hs]
  exact ⟨if_pos h', h'⟩

set_option linter.unusedVariables false in
set_option linter.unusedSimpArgs false in
set_option maxRecDepth 20000 in
set_option maxHeartbeats 4000000 in
theorem specPlaceQuadrance_any (p a1 a2 a3 b1 b2 b3 : Int)  (w : World) :
    Calls Try.prog 27 #[.int .i64 p, .agg #[.int .i64 a1, .int .i64 a2, .int .i64 a3], .agg #[.int .i64 b1, .int .i64 b2, .int .i64 b3]] w fun e w' =>
      e = .returned (.tuple #[.int .i64 (pqV1 p a1 a2 a3 b1 b2 b3), .int .i64 (pqC p a1 a2 a3 b1 b2 b3)]) ∧ Below w.heap.size w w' := by
  go_enter Try.func27, Try.ntmps27
  rcases bool_ways (isP p) with hd1 | hd1
  · skip
    have c_1 : codeOf p (plB p a1 a2 a3 && plB p b1 b2 b3) = 1 := codeOf_no hd1
    have cN : ∀ b, codeOf p b = 1 := fun b => codeOf_no hd1
    go_wp2_with fail
    refine Calls.mono (specPlCode2 _ _ _ _ _ _ _ _ _ (by first | rfl | (simp; done))) ?_
    rintro e w1 ⟨rfl, hB1⟩
    (obtain ⟨hB1c, hB1f⟩ := bcell hB1; have hB1s := hB1.size; (try simp at hB1s); (try have hB1q1 := Nat.lt_of_succ_le hB1s); (try have hB1q2 := Nat.lt_of_succ_lt hB1q1); (try have hB1q3 := Nat.lt_of_succ_lt hB1q2); (try have hB1zw0 : w.heap.size < w1.heap.size := (by omega)); (try have hB1zw1 : w.heap.size + 1 < w1.heap.size := (by omega)); (try have hB1zw2 : w.heap.size + 1 + 1 < w1.heap.size := (by omega)); (try have hB1zw3 : w.heap.size + 1 + 1 + 1 < w1.heap.size := (by omega)); (try have hB1zw4 : w.heap.size + 1 + 1 + 1 + 1 < w1.heap.size := (by omega)))
    have HV := Lib.hid (pq_no (a1 := a1) (a2 := a2) (a3 := a3) (b1 := b1) (b2 := b2) (b3 := b3) hd1)
    go_wp2
    (refine bodyPost_ret (v := .tuple #[.int .i64 (pqV1 p a1 a2 a3 b1 b2 b3), .int .i64 (pqC p a1 a2 a3 b1 b2 b3)]) (by simp [results, Try.results27, go_sem, HV.out.1, HV.out.2, *]) rfl ⟨?_, ?_⟩)
    · rfl
    · (repeat (first | with_reducible exact Below.refl _ _ | with_reducible refine balloc ?_ _ | with_reducible refine bdrewN ?_ _ | with_reducible refine Below.drew ?_ | with_reducible refine bthen ?_ (by with_reducible assumption) | with_reducible refine Below.setCell ?_ (by first | (simp; done) | (simp; omega)) _))
  · have hp := hd1
    have hr := isP_range hp
    rcases bool_ways (plB p a1 a2 a3) with hd2 | hd2
    · skip
      have c_1 : codeOf p (plB p a1 a2 a3 && plB p b1 b2 b3) = 2 := codeOf_out hp (by simp [hd2])
      have cT : codeOf p true = 0 := codeOf_in hp rfl
      have cF : codeOf p false = 2 := codeOf_out hp rfl
      go_wp2_with fail
      refine Calls.mono (specPlCode2 _ _ _ _ _ _ _ _ _ (by first | rfl | (simp; done))) ?_
      rintro e w1 ⟨rfl, hB1⟩
      (obtain ⟨hB1c, hB1f⟩ := bcell hB1; have hB1s := hB1.size; (try simp at hB1s); (try have hB1q1 := Nat.lt_of_succ_le hB1s); (try have hB1q2 := Nat.lt_of_succ_lt hB1q1); (try have hB1q3 := Nat.lt_of_succ_lt hB1q2); (try have hB1zw0 : w.heap.size < w1.heap.size := (by omega)); (try have hB1zw1 : w.heap.size + 1 < w1.heap.size := (by omega)); (try have hB1zw2 : w.heap.size + 1 + 1 < w1.heap.size := (by omega)); (try have hB1zw3 : w.heap.size + 1 + 1 + 1 < w1.heap.size := (by omega)); (try have hB1zw4 : w.heap.size + 1 + 1 + 1 + 1 < w1.heap.size := (by omega)))
      have HV := Lib.hid (pq_out (a1 := a1) (a2 := a2) (a3 := a3) (b1 := b1) (b2 := b2) (b3 := b3) hp (by simp [pqB, hd1, hd2]))
      go_wp2
      (refine bodyPost_ret (v := .tuple #[.int .i64 (pqV1 p a1 a2 a3 b1 b2 b3), .int .i64 (pqC p a1 a2 a3 b1 b2 b3)]) (by simp [results, Try.results27, go_sem, HV.out.1, HV.out.2, *]) rfl ⟨?_, ?_⟩)
      · rfl
      · (repeat (first | with_reducible exact Below.refl _ _ | with_reducible refine balloc ?_ _ | with_reducible refine bdrewN ?_ _ | with_reducible refine Below.drew ?_ | with_reducible refine bthen ?_ (by with_reducible assumption) | with_reducible refine Below.setCell ?_ (by first | (simp; done) | (simp; omega)) _))
    · have hd2q := nums3 (plB_nums hd2)
      rcases bool_ways (plB p b1 b2 b3) with hd3 | hd3
      · skip
        have c_1 : codeOf p (plB p a1 a2 a3 && plB p b1 b2 b3) = 2 := codeOf_out hp (by simp [hd2, hd3])
        have cT : codeOf p true = 0 := codeOf_in hp rfl
        have cF : codeOf p false = 2 := codeOf_out hp rfl
        go_wp2_with fail
        refine Calls.mono (specPlCode2 _ _ _ _ _ _ _ _ _ (by first | rfl | (simp; done))) ?_
        rintro e w1 ⟨rfl, hB1⟩
        (obtain ⟨hB1c, hB1f⟩ := bcell hB1; have hB1s := hB1.size; (try simp at hB1s); (try have hB1q1 := Nat.lt_of_succ_le hB1s); (try have hB1q2 := Nat.lt_of_succ_lt hB1q1); (try have hB1q3 := Nat.lt_of_succ_lt hB1q2); (try have hB1zw0 : w.heap.size < w1.heap.size := (by omega)); (try have hB1zw1 : w.heap.size + 1 < w1.heap.size := (by omega)); (try have hB1zw2 : w.heap.size + 1 + 1 < w1.heap.size := (by omega)); (try have hB1zw3 : w.heap.size + 1 + 1 + 1 < w1.heap.size := (by omega)); (try have hB1zw4 : w.heap.size + 1 + 1 + 1 + 1 < w1.heap.size := (by omega)))
        have HV := Lib.hid (pq_out (a1 := a1) (a2 := a2) (a3 := a3) (b1 := b1) (b2 := b2) (b3 := b3) hp (by simp [pqB, hd1, hd2, hd3]))
        go_wp2
        (refine bodyPost_ret (v := .tuple #[.int .i64 (pqV1 p a1 a2 a3 b1 b2 b3), .int .i64 (pqC p a1 a2 a3 b1 b2 b3)]) (by simp [results, Try.results27, go_sem, HV.out.1, HV.out.2, *]) rfl ⟨?_, ?_⟩)
        · rfl
        · (repeat (first | with_reducible exact Below.refl _ _ | with_reducible refine balloc ?_ _ | with_reducible refine bdrewN ?_ _ | with_reducible refine Below.drew ?_ | with_reducible refine bthen ?_ (by with_reducible assumption) | with_reducible refine Below.setCell ?_ (by first | (simp; done) | (simp; omega)) _))
      · have hd3q := nums3 (plB_nums hd3)
        have c_1 : codeOf p (plB p a1 a2 a3 && plB p b1 b2 b3) = 0 := codeOf_in hp (by simp [hd2, hd3])
        have cT : codeOf p true = 0 := codeOf_in hp rfl
        go_wp2_with fail
        refine Calls.mono (specPlCode2 _ _ _ _ _ _ _ _ _ (by first | rfl | (simp; done))) ?_
        rintro e w1 ⟨rfl, hB1⟩
        (obtain ⟨hB1c, hB1f⟩ := bcell hB1; have hB1s := hB1.size; (try simp at hB1s); (try have hB1q1 := Nat.lt_of_succ_le hB1s); (try have hB1q2 := Nat.lt_of_succ_lt hB1q1); (try have hB1q3 := Nat.lt_of_succ_lt hB1q2); (try have hB1zw0 : w.heap.size < w1.heap.size := (by omega)); (try have hB1zw1 : w.heap.size + 1 < w1.heap.size := (by omega)); (try have hB1zw2 : w.heap.size + 1 + 1 < w1.heap.size := (by omega)); (try have hB1zw3 : w.heap.size + 1 + 1 + 1 < w1.heap.size := (by omega)); (try have hB1zw4 : w.heap.size + 1 + 1 + 1 + 1 < w1.heap.size := (by omega)))
        rcases bool_ways (ppd p a1 a2 a3 a1 a2 a3 == 0) with hd4 | hd4
        · have hd4n : (ppd p a1 a2 a3 a1 a2 a3 != 0) = true := by rw [bne, hd4]; rfl
          have Hhd4p := Lib.hid (beq_eq_false_iff_ne.1 hd4)
          go_wp2_with fail
          refine Calls.mono (specNull_any _ _ _ _ _ hp (by omega) (by omega) (by omega)) ?_
          rintro e w2 ⟨rfl, hB2⟩
          (obtain ⟨hB2c, hB2f⟩ := bcell hB2; have hB2s := hB2.size; (try simp at hB2s); (try have hB2q1 := Nat.lt_of_succ_le hB2s); (try have hB2q2 := Nat.lt_of_succ_lt hB2q1); (try have hB2q3 := Nat.lt_of_succ_lt hB2q2); (try have hB2zw0 : w.heap.size < w2.heap.size := (by omega)); (try have hB2zw1 : w.heap.size + 1 < w2.heap.size := (by omega)); (try have hB2zw2 : w.heap.size + 1 + 1 < w2.heap.size := (by omega)); (try have hB2zw3 : w.heap.size + 1 + 1 + 1 < w2.heap.size := (by omega)); (try have hB2zw4 : w.heap.size + 1 + 1 + 1 + 1 < w2.heap.size := (by omega)); (try have hB2zw10 : w1.heap.size < w2.heap.size := (by omega)); (try have hB2zw11 : w1.heap.size + 1 < w2.heap.size := (by omega)); (try have hB2zw12 : w1.heap.size + 1 + 1 < w2.heap.size := (by omega)); (try have hB2zw13 : w1.heap.size + 1 + 1 + 1 < w2.heap.size := (by omega)); (try have hB2zw14 : w1.heap.size + 1 + 1 + 1 + 1 < w2.heap.size := (by omega)))
          go_wp2_with fail
          refine Calls.mono (specNull_any _ _ _ _ _ hp (by omega) (by omega) (by omega)) ?_
          rintro e w3 ⟨rfl, hB3⟩
          (obtain ⟨hB3c, hB3f⟩ := bcell hB3; have hB3s := hB3.size; (try simp at hB3s); (try have hB3q1 := Nat.lt_of_succ_le hB3s); (try have hB3q2 := Nat.lt_of_succ_lt hB3q1); (try have hB3q3 := Nat.lt_of_succ_lt hB3q2); (try have hB3zw0 : w.heap.size < w3.heap.size := (by omega)); (try have hB3zw1 : w.heap.size + 1 < w3.heap.size := (by omega)); (try have hB3zw2 : w.heap.size + 1 + 1 < w3.heap.size := (by omega)); (try have hB3zw3 : w.heap.size + 1 + 1 + 1 < w3.heap.size := (by omega)); (try have hB3zw4 : w.heap.size + 1 + 1 + 1 + 1 < w3.heap.size := (by omega)); (try have hB3zw20 : w2.heap.size < w3.heap.size := (by omega)); (try have hB3zw21 : w2.heap.size + 1 < w3.heap.size := (by omega)); (try have hB3zw22 : w2.heap.size + 1 + 1 < w3.heap.size := (by omega)); (try have hB3zw23 : w2.heap.size + 1 + 1 + 1 < w3.heap.size := (by omega)); (try have hB3zw24 : w2.heap.size + 1 + 1 + 1 + 1 < w3.heap.size := (by omega)); (try have hB3zw10 : w1.heap.size < w3.heap.size := (by omega)); (try have hB3zw11 : w1.heap.size + 1 < w3.heap.size := (by omega)); (try have hB3zw12 : w1.heap.size + 1 + 1 < w3.heap.size := (by omega)); (try have hB3zw13 : w1.heap.size + 1 + 1 + 1 < w3.heap.size := (by omega)); (try have hB3zw14 : w1.heap.size + 1 + 1 + 1 + 1 < w3.heap.size := (by omega)))
          rcases bool_ways (ppd p b1 b2 b3 b1 b2 b3 == 0) with hd5 | hd5
          · have hd5n : (ppd p b1 b2 b3 b1 b2 b3 != 0) = true := by rw [bne, hd5]; rfl
            have Hhd5p := Lib.hid (beq_eq_false_iff_ne.1 hd5)
            obtain ⟨v1, hv1⟩ : ∃ v : Int, v = plq p a1 a2 a3 b1 b2 b3 := ⟨_, rfl⟩
            have rv1 := plq_r a1 a2 a3 b1 b2 b3 hp
            rw [← hv1] at rv1
            have Hv1 := Lib.hid hv1
            clear hv1
            go_wp2_with fail
            refine Calls.mono (specPlq_any _ _ _ _ _ _ _ _ hp (by omega) (by omega) (by omega) (by omega) (by omega) (by omega)) ?_
            rw [← Hv1.out]
            rintro e w4 ⟨rfl, hB4⟩
            (obtain ⟨hB4c, hB4f⟩ := bcell hB4; have hB4s := hB4.size; (try simp at hB4s); (try have hB4q1 := Nat.lt_of_succ_le hB4s); (try have hB4q2 := Nat.lt_of_succ_lt hB4q1); (try have hB4q3 := Nat.lt_of_succ_lt hB4q2); (try have hB4zw0 : w.heap.size < w4.heap.size := (by omega)); (try have hB4zw1 : w.heap.size + 1 < w4.heap.size := (by omega)); (try have hB4zw2 : w.heap.size + 1 + 1 < w4.heap.size := (by omega)); (try have hB4zw3 : w.heap.size + 1 + 1 + 1 < w4.heap.size := (by omega)); (try have hB4zw4 : w.heap.size + 1 + 1 + 1 + 1 < w4.heap.size := (by omega)); (try have hB4zw30 : w3.heap.size < w4.heap.size := (by omega)); (try have hB4zw31 : w3.heap.size + 1 < w4.heap.size := (by omega)); (try have hB4zw32 : w3.heap.size + 1 + 1 < w4.heap.size := (by omega)); (try have hB4zw33 : w3.heap.size + 1 + 1 + 1 < w4.heap.size := (by omega)); (try have hB4zw34 : w3.heap.size + 1 + 1 + 1 + 1 < w4.heap.size := (by omega)); (try have hB4zw20 : w2.heap.size < w4.heap.size := (by omega)); (try have hB4zw21 : w2.heap.size + 1 < w4.heap.size := (by omega)); (try have hB4zw22 : w2.heap.size + 1 + 1 < w4.heap.size := (by omega)); (try have hB4zw23 : w2.heap.size + 1 + 1 + 1 < w4.heap.size := (by omega)); (try have hB4zw24 : w2.heap.size + 1 + 1 + 1 + 1 < w4.heap.size := (by omega)); (try have hB4zw10 : w1.heap.size < w4.heap.size := (by omega)); (try have hB4zw11 : w1.heap.size + 1 < w4.heap.size := (by omega)); (try have hB4zw12 : w1.heap.size + 1 + 1 < w4.heap.size := (by omega)); (try have hB4zw13 : w1.heap.size + 1 + 1 + 1 < w4.heap.size := (by omega)); (try have hB4zw14 : w1.heap.size + 1 + 1 + 1 + 1 < w4.heap.size := (by omega)))
            have HB : pqB p a1 a2 a3 b1 b2 b3 = true := by simp [pqB, hd1, hd2, hd3, hd4, hd5]
            have HS : pqS p a1 a2 a3 b1 b2 b3 = 0 := by (unfold pqS; simp only [quZ]; simp [hd1, hd2, hd3, hd4, hd5])
            have HV := Lib.hid (show pqV1 p a1 a2 a3 b1 b2 b3 = v1 ∧ pqC p a1 a2 a3 b1 b2 b3 = 0 from by
              have HG := pq_good (a1 := a1) (a2 := a2) (a3 := a3) (b1 := b1) (b2 := b2) (b3 := b3) hp HB HS
              refine ⟨(HG.1).trans ?_, HG.2⟩
              all_goals (simp only [Hv1.out]))
            clear HB HS
            go_wp2
            (refine bodyPost_ret (v := .tuple #[.int .i64 (pqV1 p a1 a2 a3 b1 b2 b3), .int .i64 (pqC p a1 a2 a3 b1 b2 b3)]) (by simp [results, Try.results27, go_sem, HV.out.1, HV.out.2, *]) rfl ⟨?_, ?_⟩)
            · rfl
            · (repeat (first | with_reducible exact Below.refl _ _ | with_reducible refine balloc ?_ _ | with_reducible refine bdrewN ?_ _ | with_reducible refine Below.drew ?_ | with_reducible refine bthen ?_ (by with_reducible assumption) | with_reducible refine Below.setCell ?_ (by first | (simp; done) | (simp; omega)) _))
          · have hd5n : (ppd p b1 b2 b3 b1 b2 b3 != 0) = false := by rw [bne, hd5]; rfl
            have Hhd5p := Lib.hid (beq_iff_eq.1 hd5)
            have HB : pqB p a1 a2 a3 b1 b2 b3 = true := by simp [pqB, hd1, hd2, hd3, hd4, hd5]
            have HS : pqS p a1 a2 a3 b1 b2 b3 = 5 := by (unfold pqS; simp only [quZ]; simp [hd1, hd2, hd3, hd4, hd5])
            have HV := Lib.hid (pq_st (a1 := a1) (a2 := a2) (a3 := a3) (b1 := b1) (b2 := b2) (b3 := b3) hp HB HS (by decide))
            clear HB HS
            go_wp2
            (refine bodyPost_ret (v := .tuple #[.int .i64 (pqV1 p a1 a2 a3 b1 b2 b3), .int .i64 (pqC p a1 a2 a3 b1 b2 b3)]) (by simp [results, Try.results27, go_sem, HV.out.1, HV.out.2, *]) rfl ⟨?_, ?_⟩)
            · rfl
            · (repeat (first | with_reducible exact Below.refl _ _ | with_reducible refine balloc ?_ _ | with_reducible refine bdrewN ?_ _ | with_reducible refine Below.drew ?_ | with_reducible refine bthen ?_ (by with_reducible assumption) | with_reducible refine Below.setCell ?_ (by first | (simp; done) | (simp; omega)) _))
        · have hd4n : (ppd p a1 a2 a3 a1 a2 a3 != 0) = false := by rw [bne, hd4]; rfl
          have Hhd4p := Lib.hid (beq_iff_eq.1 hd4)
          go_wp2_with fail
          refine Calls.mono (specNull_any _ _ _ _ _ hp (by omega) (by omega) (by omega)) ?_
          rintro e w2 ⟨rfl, hB2⟩
          (obtain ⟨hB2c, hB2f⟩ := bcell hB2; have hB2s := hB2.size; (try simp at hB2s); (try have hB2q1 := Nat.lt_of_succ_le hB2s); (try have hB2q2 := Nat.lt_of_succ_lt hB2q1); (try have hB2q3 := Nat.lt_of_succ_lt hB2q2); (try have hB2zw0 : w.heap.size < w2.heap.size := (by omega)); (try have hB2zw1 : w.heap.size + 1 < w2.heap.size := (by omega)); (try have hB2zw2 : w.heap.size + 1 + 1 < w2.heap.size := (by omega)); (try have hB2zw3 : w.heap.size + 1 + 1 + 1 < w2.heap.size := (by omega)); (try have hB2zw4 : w.heap.size + 1 + 1 + 1 + 1 < w2.heap.size := (by omega)); (try have hB2zw10 : w1.heap.size < w2.heap.size := (by omega)); (try have hB2zw11 : w1.heap.size + 1 < w2.heap.size := (by omega)); (try have hB2zw12 : w1.heap.size + 1 + 1 < w2.heap.size := (by omega)); (try have hB2zw13 : w1.heap.size + 1 + 1 + 1 < w2.heap.size := (by omega)); (try have hB2zw14 : w1.heap.size + 1 + 1 + 1 + 1 < w2.heap.size := (by omega)))
          have HB : pqB p a1 a2 a3 b1 b2 b3 = true := by simp [pqB, hd1, hd2, hd3, hd4]
          have HS : pqS p a1 a2 a3 b1 b2 b3 = 5 := by (unfold pqS; simp only [quZ]; simp [hd1, hd2, hd3, hd4])
          have HV := Lib.hid (pq_st (a1 := a1) (a2 := a2) (a3 := a3) (b1 := b1) (b2 := b2) (b3 := b3) hp HB HS (by decide))
          clear HB HS
          go_wp2
          (refine bodyPost_ret (v := .tuple #[.int .i64 (pqV1 p a1 a2 a3 b1 b2 b3), .int .i64 (pqC p a1 a2 a3 b1 b2 b3)]) (by simp [results, Try.results27, go_sem, HV.out.1, HV.out.2, *]) rfl ⟨?_, ?_⟩)
          · rfl
          · (repeat (first | with_reducible exact Below.refl _ _ | with_reducible refine balloc ?_ _ | with_reducible refine bdrewN ?_ _ | with_reducible refine Below.drew ?_ | with_reducible refine bthen ?_ (by with_reducible assumption) | with_reducible refine Below.setCell ?_ (by first | (simp; done) | (simp; omega)) _))

set_option linter.unusedVariables false in
set_option linter.unusedSimpArgs false in
set_option maxRecDepth 20000 in
set_option maxHeartbeats 4000000 in
theorem implPlaceQuadrance_any (p a1 a2 a3 b1 b2 b3 : Int)  (w : World) :
    Calls Try.prog 28 #[.int .i64 p, .agg #[.int .i64 a1, .int .i64 a2, .int .i64 a3], .agg #[.int .i64 b1, .int .i64 b2, .int .i64 b3]] w fun e w' =>
      e = .returned (.tuple #[.int .i64 (pqV1 p a1 a2 a3 b1 b2 b3), .int .i64 (pqC p a1 a2 a3 b1 b2 b3)]) ∧ Below w.heap.size w w' := by
  go_enter Try.func28, Try.ntmps28
  rcases bool_ways (plB p a1 a2 a3) with hd1 | hd1
  · skip
    rcases bool_ways (plB p b1 b2 b3) with hd2 | hd2
    · skip
      rcases bool_ways (isP p) with hd3 | hd3
      · skip
        have c_1 : codeOf p false = 1 := codeOf_no hd3
        have cN : ∀ b, codeOf p b = 1 := fun b => codeOf_no hd3
        go_wp2_with fail
        refine Calls.mono (implPlaces2 _ _ _ _ _ _ _ _ _ (by first | rfl | (simp; done))) ?_
        rintro e w1 ⟨rfl, hB1⟩
        (obtain ⟨hB1c, hB1f⟩ := bcell hB1; have hB1s := hB1.size; (try simp at hB1s); (try have hB1q1 := Nat.lt_of_succ_le hB1s); (try have hB1q2 := Nat.lt_of_succ_lt hB1q1); (try have hB1q3 := Nat.lt_of_succ_lt hB1q2); (try have hB1zw0 : w.heap.size < w1.heap.size := (by omega)); (try have hB1zw1 : w.heap.size + 1 < w1.heap.size := (by omega)); (try have hB1zw2 : w.heap.size + 1 + 1 < w1.heap.size := (by omega)); (try have hB1zw3 : w.heap.size + 1 + 1 + 1 < w1.heap.size := (by omega)); (try have hB1zw4 : w.heap.size + 1 + 1 + 1 + 1 < w1.heap.size := (by omega)))
        go_wp2_with fail
        refine Calls.mono (codeFor_any _ _ _) ?_
        rintro e w' ⟨rfl, rfl⟩
        have HV := Lib.hid (pq_no (a1 := a1) (a2 := a2) (a3 := a3) (b1 := b1) (b2 := b2) (b3 := b3) hd3)
        go_wp2
        (refine bodyPost_ret (v := .tuple #[.int .i64 (pqV1 p a1 a2 a3 b1 b2 b3), .int .i64 (pqC p a1 a2 a3 b1 b2 b3)]) (by simp [results, Try.results28, go_sem, HV.out.1, HV.out.2, *]) rfl ⟨?_, ?_⟩)
        · rfl
        · (repeat (first | with_reducible exact Below.refl _ _ | with_reducible refine balloc ?_ _ | with_reducible refine bdrewN ?_ _ | with_reducible refine Below.drew ?_ | with_reducible refine bthen ?_ (by with_reducible assumption) | with_reducible refine Below.setCell ?_ (by first | (simp; done) | (simp; omega)) _))
      · have hp := hd3
        have hr := isP_range hp
        have c_1 : codeOf p false = 2 := codeOf_out hp (by simp)
        have cT : codeOf p true = 0 := codeOf_in hp rfl
        have cF : codeOf p false = 2 := codeOf_out hp rfl
        go_wp2_with fail
        refine Calls.mono (implPlaces2 _ _ _ _ _ _ _ _ _ (by first | rfl | (simp; done))) ?_
        rintro e w1 ⟨rfl, hB1⟩
        (obtain ⟨hB1c, hB1f⟩ := bcell hB1; have hB1s := hB1.size; (try simp at hB1s); (try have hB1q1 := Nat.lt_of_succ_le hB1s); (try have hB1q2 := Nat.lt_of_succ_lt hB1q1); (try have hB1q3 := Nat.lt_of_succ_lt hB1q2); (try have hB1zw0 : w.heap.size < w1.heap.size := (by omega)); (try have hB1zw1 : w.heap.size + 1 < w1.heap.size := (by omega)); (try have hB1zw2 : w.heap.size + 1 + 1 < w1.heap.size := (by omega)); (try have hB1zw3 : w.heap.size + 1 + 1 + 1 < w1.heap.size := (by omega)); (try have hB1zw4 : w.heap.size + 1 + 1 + 1 + 1 < w1.heap.size := (by omega)))
        go_wp2_with fail
        refine Calls.mono (codeFor_any _ _ _) ?_
        rintro e w' ⟨rfl, rfl⟩
        have HV := Lib.hid (pq_out (a1 := a1) (a2 := a2) (a3 := a3) (b1 := b1) (b2 := b2) (b3 := b3) hp (by simp [pqB, hd1, hd2, hd3]))
        go_wp2
        (refine bodyPost_ret (v := .tuple #[.int .i64 (pqV1 p a1 a2 a3 b1 b2 b3), .int .i64 (pqC p a1 a2 a3 b1 b2 b3)]) (by simp [results, Try.results28, go_sem, HV.out.1, HV.out.2, *]) rfl ⟨?_, ?_⟩)
        · rfl
        · (repeat (first | with_reducible exact Below.refl _ _ | with_reducible refine balloc ?_ _ | with_reducible refine bdrewN ?_ _ | with_reducible refine Below.drew ?_ | with_reducible refine bthen ?_ (by with_reducible assumption) | with_reducible refine Below.setCell ?_ (by first | (simp; done) | (simp; omega)) _))
    · have hd2q := nums3 (plB_nums hd2)
      rcases bool_ways (isP p) with hd3 | hd3
      · skip
        have c_1 : codeOf p false = 1 := codeOf_no hd3
        have cN : ∀ b, codeOf p b = 1 := fun b => codeOf_no hd3
        go_wp2_with fail
        refine Calls.mono (implPlaces2 _ _ _ _ _ _ _ _ _ (by first | rfl | (simp; done))) ?_
        rintro e w1 ⟨rfl, hB1⟩
        (obtain ⟨hB1c, hB1f⟩ := bcell hB1; have hB1s := hB1.size; (try simp at hB1s); (try have hB1q1 := Nat.lt_of_succ_le hB1s); (try have hB1q2 := Nat.lt_of_succ_lt hB1q1); (try have hB1q3 := Nat.lt_of_succ_lt hB1q2); (try have hB1zw0 : w.heap.size < w1.heap.size := (by omega)); (try have hB1zw1 : w.heap.size + 1 < w1.heap.size := (by omega)); (try have hB1zw2 : w.heap.size + 1 + 1 < w1.heap.size := (by omega)); (try have hB1zw3 : w.heap.size + 1 + 1 + 1 < w1.heap.size := (by omega)); (try have hB1zw4 : w.heap.size + 1 + 1 + 1 + 1 < w1.heap.size := (by omega)))
        go_wp2_with fail
        refine Calls.mono (codeFor_any _ _ _) ?_
        rintro e w' ⟨rfl, rfl⟩
        have HV := Lib.hid (pq_no (a1 := a1) (a2 := a2) (a3 := a3) (b1 := b1) (b2 := b2) (b3 := b3) hd3)
        go_wp2
        (refine bodyPost_ret (v := .tuple #[.int .i64 (pqV1 p a1 a2 a3 b1 b2 b3), .int .i64 (pqC p a1 a2 a3 b1 b2 b3)]) (by simp [results, Try.results28, go_sem, HV.out.1, HV.out.2, *]) rfl ⟨?_, ?_⟩)
        · rfl
        · (repeat (first | with_reducible exact Below.refl _ _ | with_reducible refine balloc ?_ _ | with_reducible refine bdrewN ?_ _ | with_reducible refine Below.drew ?_ | with_reducible refine bthen ?_ (by with_reducible assumption) | with_reducible refine Below.setCell ?_ (by first | (simp; done) | (simp; omega)) _))
      · have hp := hd3
        have hr := isP_range hp
        have c_1 : codeOf p false = 2 := codeOf_out hp (by simp)
        have cT : codeOf p true = 0 := codeOf_in hp rfl
        have cF : codeOf p false = 2 := codeOf_out hp rfl
        go_wp2_with fail
        refine Calls.mono (implPlaces2 _ _ _ _ _ _ _ _ _ (by first | rfl | (simp; done))) ?_
        rintro e w1 ⟨rfl, hB1⟩
        (obtain ⟨hB1c, hB1f⟩ := bcell hB1; have hB1s := hB1.size; (try simp at hB1s); (try have hB1q1 := Nat.lt_of_succ_le hB1s); (try have hB1q2 := Nat.lt_of_succ_lt hB1q1); (try have hB1q3 := Nat.lt_of_succ_lt hB1q2); (try have hB1zw0 : w.heap.size < w1.heap.size := (by omega)); (try have hB1zw1 : w.heap.size + 1 < w1.heap.size := (by omega)); (try have hB1zw2 : w.heap.size + 1 + 1 < w1.heap.size := (by omega)); (try have hB1zw3 : w.heap.size + 1 + 1 + 1 < w1.heap.size := (by omega)); (try have hB1zw4 : w.heap.size + 1 + 1 + 1 + 1 < w1.heap.size := (by omega)))
        go_wp2_with fail
        refine Calls.mono (codeFor_any _ _ _) ?_
        rintro e w' ⟨rfl, rfl⟩
        have HV := Lib.hid (pq_out (a1 := a1) (a2 := a2) (a3 := a3) (b1 := b1) (b2 := b2) (b3 := b3) hp (by simp [pqB, hd1, hd2, hd3]))
        go_wp2
        (refine bodyPost_ret (v := .tuple #[.int .i64 (pqV1 p a1 a2 a3 b1 b2 b3), .int .i64 (pqC p a1 a2 a3 b1 b2 b3)]) (by simp [results, Try.results28, go_sem, HV.out.1, HV.out.2, *]) rfl ⟨?_, ?_⟩)
        · rfl
        · (repeat (first | with_reducible exact Below.refl _ _ | with_reducible refine balloc ?_ _ | with_reducible refine bdrewN ?_ _ | with_reducible refine Below.drew ?_ | with_reducible refine bthen ?_ (by with_reducible assumption) | with_reducible refine Below.setCell ?_ (by first | (simp; done) | (simp; omega)) _))
  · have hd1q := nums3 (plB_nums hd1)
    rcases bool_ways (plB p b1 b2 b3) with hd2 | hd2
    · skip
      rcases bool_ways (isP p) with hd3 | hd3
      · skip
        have c_1 : codeOf p false = 1 := codeOf_no hd3
        have cN : ∀ b, codeOf p b = 1 := fun b => codeOf_no hd3
        go_wp2_with fail
        refine Calls.mono (implPlaces2 _ _ _ _ _ _ _ _ _ (by first | rfl | (simp; done))) ?_
        rintro e w1 ⟨rfl, hB1⟩
        (obtain ⟨hB1c, hB1f⟩ := bcell hB1; have hB1s := hB1.size; (try simp at hB1s); (try have hB1q1 := Nat.lt_of_succ_le hB1s); (try have hB1q2 := Nat.lt_of_succ_lt hB1q1); (try have hB1q3 := Nat.lt_of_succ_lt hB1q2); (try have hB1zw0 : w.heap.size < w1.heap.size := (by omega)); (try have hB1zw1 : w.heap.size + 1 < w1.heap.size := (by omega)); (try have hB1zw2 : w.heap.size + 1 + 1 < w1.heap.size := (by omega)); (try have hB1zw3 : w.heap.size + 1 + 1 + 1 < w1.heap.size := (by omega)); (try have hB1zw4 : w.heap.size + 1 + 1 + 1 + 1 < w1.heap.size := (by omega)))
        go_wp2_with fail
        refine Calls.mono (codeFor_any _ _ _) ?_
        rintro e w' ⟨rfl, rfl⟩
        have HV := Lib.hid (pq_no (a1 := a1) (a2 := a2) (a3 := a3) (b1 := b1) (b2 := b2) (b3 := b3) hd3)
        go_wp2
        (refine bodyPost_ret (v := .tuple #[.int .i64 (pqV1 p a1 a2 a3 b1 b2 b3), .int .i64 (pqC p a1 a2 a3 b1 b2 b3)]) (by simp [results, Try.results28, go_sem, HV.out.1, HV.out.2, *]) rfl ⟨?_, ?_⟩)
        · rfl
        · (repeat (first | with_reducible exact Below.refl _ _ | with_reducible refine balloc ?_ _ | with_reducible refine bdrewN ?_ _ | with_reducible refine Below.drew ?_ | with_reducible refine bthen ?_ (by with_reducible assumption) | with_reducible refine Below.setCell ?_ (by first | (simp; done) | (simp; omega)) _))
      · have hp := hd3
        have hr := isP_range hp
        have c_1 : codeOf p false = 2 := codeOf_out hp (by simp)
        have cT : codeOf p true = 0 := codeOf_in hp rfl
        have cF : codeOf p false = 2 := codeOf_out hp rfl
        go_wp2_with fail
        refine Calls.mono (implPlaces2 _ _ _ _ _ _ _ _ _ (by first | rfl | (simp; done))) ?_
        rintro e w1 ⟨rfl, hB1⟩
        (obtain ⟨hB1c, hB1f⟩ := bcell hB1; have hB1s := hB1.size; (try simp at hB1s); (try have hB1q1 := Nat.lt_of_succ_le hB1s); (try have hB1q2 := Nat.lt_of_succ_lt hB1q1); (try have hB1q3 := Nat.lt_of_succ_lt hB1q2); (try have hB1zw0 : w.heap.size < w1.heap.size := (by omega)); (try have hB1zw1 : w.heap.size + 1 < w1.heap.size := (by omega)); (try have hB1zw2 : w.heap.size + 1 + 1 < w1.heap.size := (by omega)); (try have hB1zw3 : w.heap.size + 1 + 1 + 1 < w1.heap.size := (by omega)); (try have hB1zw4 : w.heap.size + 1 + 1 + 1 + 1 < w1.heap.size := (by omega)))
        go_wp2_with fail
        refine Calls.mono (codeFor_any _ _ _) ?_
        rintro e w' ⟨rfl, rfl⟩
        have HV := Lib.hid (pq_out (a1 := a1) (a2 := a2) (a3 := a3) (b1 := b1) (b2 := b2) (b3 := b3) hp (by simp [pqB, hd1, hd2, hd3]))
        go_wp2
        (refine bodyPost_ret (v := .tuple #[.int .i64 (pqV1 p a1 a2 a3 b1 b2 b3), .int .i64 (pqC p a1 a2 a3 b1 b2 b3)]) (by simp [results, Try.results28, go_sem, HV.out.1, HV.out.2, *]) rfl ⟨?_, ?_⟩)
        · rfl
        · (repeat (first | with_reducible exact Below.refl _ _ | with_reducible refine balloc ?_ _ | with_reducible refine bdrewN ?_ _ | with_reducible refine Below.drew ?_ | with_reducible refine bthen ?_ (by with_reducible assumption) | with_reducible refine Below.setCell ?_ (by first | (simp; done) | (simp; omega)) _))
    · have hd2q := nums3 (plB_nums hd2)
      rcases bool_ways (isP p) with hd3 | hd3
      · skip
        have c_1 : codeOf p true = 1 := codeOf_no hd3
        have cN : ∀ b, codeOf p b = 1 := fun b => codeOf_no hd3
        go_wp2_with fail
        refine Calls.mono (implPlaces2 _ _ _ _ _ _ _ _ _ (by first | rfl | (simp; done))) ?_
        rintro e w1 ⟨rfl, hB1⟩
        (obtain ⟨hB1c, hB1f⟩ := bcell hB1; have hB1s := hB1.size; (try simp at hB1s); (try have hB1q1 := Nat.lt_of_succ_le hB1s); (try have hB1q2 := Nat.lt_of_succ_lt hB1q1); (try have hB1q3 := Nat.lt_of_succ_lt hB1q2); (try have hB1zw0 : w.heap.size < w1.heap.size := (by omega)); (try have hB1zw1 : w.heap.size + 1 < w1.heap.size := (by omega)); (try have hB1zw2 : w.heap.size + 1 + 1 < w1.heap.size := (by omega)); (try have hB1zw3 : w.heap.size + 1 + 1 + 1 < w1.heap.size := (by omega)); (try have hB1zw4 : w.heap.size + 1 + 1 + 1 + 1 < w1.heap.size := (by omega)))
        go_wp2_with fail
        refine Calls.mono (codeFor_any _ _ _) ?_
        rintro e w' ⟨rfl, rfl⟩
        have HV := Lib.hid (pq_no (a1 := a1) (a2 := a2) (a3 := a3) (b1 := b1) (b2 := b2) (b3 := b3) hd3)
        go_wp2
        (refine bodyPost_ret (v := .tuple #[.int .i64 (pqV1 p a1 a2 a3 b1 b2 b3), .int .i64 (pqC p a1 a2 a3 b1 b2 b3)]) (by simp [results, Try.results28, go_sem, HV.out.1, HV.out.2, *]) rfl ⟨?_, ?_⟩)
        · rfl
        · (repeat (first | with_reducible exact Below.refl _ _ | with_reducible refine balloc ?_ _ | with_reducible refine bdrewN ?_ _ | with_reducible refine Below.drew ?_ | with_reducible refine bthen ?_ (by with_reducible assumption) | with_reducible refine Below.setCell ?_ (by first | (simp; done) | (simp; omega)) _))
      · have hp := hd3
        have hr := isP_range hp
        have c_1 : codeOf p true = 0 := codeOf_in hp (by simp)
        have cT : codeOf p true = 0 := codeOf_in hp rfl
        go_wp2_with fail
        refine Calls.mono (implPlaces2 _ _ _ _ _ _ _ _ _ (by first | rfl | (simp; done))) ?_
        rintro e w1 ⟨rfl, hB1⟩
        (obtain ⟨hB1c, hB1f⟩ := bcell hB1; have hB1s := hB1.size; (try simp at hB1s); (try have hB1q1 := Nat.lt_of_succ_le hB1s); (try have hB1q2 := Nat.lt_of_succ_lt hB1q1); (try have hB1q3 := Nat.lt_of_succ_lt hB1q2); (try have hB1zw0 : w.heap.size < w1.heap.size := (by omega)); (try have hB1zw1 : w.heap.size + 1 < w1.heap.size := (by omega)); (try have hB1zw2 : w.heap.size + 1 + 1 < w1.heap.size := (by omega)); (try have hB1zw3 : w.heap.size + 1 + 1 + 1 < w1.heap.size := (by omega)); (try have hB1zw4 : w.heap.size + 1 + 1 + 1 + 1 < w1.heap.size := (by omega)))
        go_wp2_with fail
        refine Calls.mono (codeFor_any _ _ _) ?_
        rintro e w' ⟨rfl, rfl⟩
        rcases bool_ways (quZ p a1 a2 a3 b1 b2 b3) with hd4 | hd4
        · skip
          have c_2 : quC p a1 a2 a3 b1 b2 b3 = 0 := by simp [quC, quV, hd4]
          obtain ⟨v1, hv1⟩ : ∃ v : Int, v = plq p a1 a2 a3 b1 b2 b3 := ⟨_, rfl⟩
          have rv1 := plq_r a1 a2 a3 b1 b2 b3 hp
          rw [← hv1] at rv1
          have Hv1 := Lib.hid hv1
          clear hv1
          have c_3 : quV p a1 a2 a3 b1 b2 b3 = v1 := by rw [Hv1.out]; simp [quC, quV, hd4]
          go_wp2_with fail
          refine Calls.mono (implPlq_any _ _ _ _ _ _ _ _ hp (by omega) (by omega) (by omega) (by omega) (by omega) (by omega)) ?_
          rintro e w2 ⟨rfl, hB2⟩
          (obtain ⟨hB2c, hB2f⟩ := bcell hB2; have hB2s := hB2.size; (try simp at hB2s); (try have hB2q1 := Nat.lt_of_succ_le hB2s); (try have hB2q2 := Nat.lt_of_succ_lt hB2q1); (try have hB2q3 := Nat.lt_of_succ_lt hB2q2); (try have hB2zw0 : w.heap.size < w2.heap.size := (by omega)); (try have hB2zw1 : w.heap.size + 1 < w2.heap.size := (by omega)); (try have hB2zw2 : w.heap.size + 1 + 1 < w2.heap.size := (by omega)); (try have hB2zw3 : w.heap.size + 1 + 1 + 1 < w2.heap.size := (by omega)); (try have hB2zw4 : w.heap.size + 1 + 1 + 1 + 1 < w2.heap.size := (by omega)); (try have hB2zw10 : w1.heap.size < w2.heap.size := (by omega)); (try have hB2zw11 : w1.heap.size + 1 < w2.heap.size := (by omega)); (try have hB2zw12 : w1.heap.size + 1 + 1 < w2.heap.size := (by omega)); (try have hB2zw13 : w1.heap.size + 1 + 1 + 1 < w2.heap.size := (by omega)); (try have hB2zw14 : w1.heap.size + 1 + 1 + 1 + 1 < w2.heap.size := (by omega)))
          have HB : pqB p a1 a2 a3 b1 b2 b3 = true := by simp [pqB, hd1, hd2, hd3, hd4]
          have HS : pqS p a1 a2 a3 b1 b2 b3 = 0 := by (unfold pqS; simp [hd1, hd2, hd3, hd4])
          have HV := Lib.hid (show pqV1 p a1 a2 a3 b1 b2 b3 = v1 ∧ pqC p a1 a2 a3 b1 b2 b3 = 0 from by
            have HG := pq_good (a1 := a1) (a2 := a2) (a3 := a3) (b1 := b1) (b2 := b2) (b3 := b3) hp HB HS
            refine ⟨(HG.1).trans ?_, HG.2⟩
            all_goals (simp only [Hv1.out]))
          clear HB HS
          go_wp2
          (refine bodyPost_ret (v := .tuple #[.int .i64 (pqV1 p a1 a2 a3 b1 b2 b3), .int .i64 (pqC p a1 a2 a3 b1 b2 b3)]) (by simp [results, Try.results28, go_sem, HV.out.1, HV.out.2, *]) rfl ⟨?_, ?_⟩)
          · rfl
          · (repeat (first | with_reducible exact Below.refl _ _ | with_reducible refine balloc ?_ _ | with_reducible refine bdrewN ?_ _ | with_reducible refine Below.drew ?_ | with_reducible refine bthen ?_ (by with_reducible assumption) | with_reducible refine Below.setCell ?_ (by first | (simp; done) | (simp; omega)) _))
        · skip
          have c_2 : quC p a1 a2 a3 b1 b2 b3 = 5 := by simp [quC, quV, hd4]
          have c_3 : quV p a1 a2 a3 b1 b2 b3 = 0 := by simp [quC, quV, hd4]
          go_wp2_with fail
          refine Calls.mono (implPlq_any _ _ _ _ _ _ _ _ hp (by omega) (by omega) (by omega) (by omega) (by omega) (by omega)) ?_
          rintro e w2 ⟨rfl, hB2⟩
          (obtain ⟨hB2c, hB2f⟩ := bcell hB2; have hB2s := hB2.size; (try simp at hB2s); (try have hB2q1 := Nat.lt_of_succ_le hB2s); (try have hB2q2 := Nat.lt_of_succ_lt hB2q1); (try have hB2q3 := Nat.lt_of_succ_lt hB2q2); (try have hB2zw0 : w.heap.size < w2.heap.size := (by omega)); (try have hB2zw1 : w.heap.size + 1 < w2.heap.size := (by omega)); (try have hB2zw2 : w.heap.size + 1 + 1 < w2.heap.size := (by omega)); (try have hB2zw3 : w.heap.size + 1 + 1 + 1 < w2.heap.size := (by omega)); (try have hB2zw4 : w.heap.size + 1 + 1 + 1 + 1 < w2.heap.size := (by omega)); (try have hB2zw10 : w1.heap.size < w2.heap.size := (by omega)); (try have hB2zw11 : w1.heap.size + 1 < w2.heap.size := (by omega)); (try have hB2zw12 : w1.heap.size + 1 + 1 < w2.heap.size := (by omega)); (try have hB2zw13 : w1.heap.size + 1 + 1 + 1 < w2.heap.size := (by omega)); (try have hB2zw14 : w1.heap.size + 1 + 1 + 1 + 1 < w2.heap.size := (by omega)))
          have HB : pqB p a1 a2 a3 b1 b2 b3 = true := by simp [pqB, hd1, hd2, hd3, hd4]
          have HS : pqS p a1 a2 a3 b1 b2 b3 = 5 := by (unfold pqS; simp [hd1, hd2, hd3, hd4])
          have HV := Lib.hid (pq_st (a1 := a1) (a2 := a2) (a3 := a3) (b1 := b1) (b2 := b2) (b3 := b3) hp HB HS (by decide))
          clear HB HS
          go_wp2
          (refine bodyPost_ret (v := .tuple #[.int .i64 (pqV1 p a1 a2 a3 b1 b2 b3), .int .i64 (pqC p a1 a2 a3 b1 b2 b3)]) (by simp [results, Try.results28, go_sem, HV.out.1, HV.out.2, *]) rfl ⟨?_, ?_⟩)
          · rfl
          · (repeat (first | with_reducible exact Below.refl _ _ | with_reducible refine balloc ?_ _ | with_reducible refine bdrewN ?_ _ | with_reducible refine Below.drew ?_ | with_reducible refine bthen ?_ (by with_reducible assumption) | with_reducible refine Below.setCell ?_ (by first | (simp; done) | (simp; omega)) _))

end Go.Proofs.Ytgklnlblghookaa
