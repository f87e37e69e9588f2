/-
  MovePoint: the program's and the model's.
-/
import Derived.Test.YthfckpfiechloaaSpecMaps
import Derived.Test.YthfckpfiechloaaSpecMoved
import Derived.Test.YthfckpfiechloaaImplMaps
import Derived.Test.YthfckpfiechloaaImplMoved
import Derived.Test.YthfckpfiechloaaSpecPts
import Derived.Test.YthfckpfiechloaaImplPts
import Derived.Test.YthfckpfiechloaaCode
import Derived.Deep.RegionHeld3
import Derived.Deep.DeepCutAuto
import Derived.Test.YthfckpfiechloaaBaseMath
namespace Go.Proofs.Ythfckpfiechloaa
open Go.RowKit

set_option linter.unusedVariables false in
def mpB (p m1 m2 m3 m4 m5 m6 a1 a2 : Int) : Bool := numsIn p [m1, m2, m3, m4, m5, m6] && numsIn p [a1, a2]
set_option linter.unusedVariables false in
def mpS (p m1 m2 m3 m4 m5 m6 a1 a2 : Int) : Int := 0
set_option linter.unusedVariables false in
def mpC (p m1 m2 m3 m4 m5 m6 a1 a2 : Int) : Int := if isP p = true then (if mpB p m1 m2 m3 m4 m5 m6 a1 a2 = true then mpS p m1 m2 m3 m4 m5 m6 a1 a2 else 2) else 1
set_option linter.unusedVariables false in
def mpV1 (p m1 m2 m3 m4 m5 m6 a1 a2 : Int) : Int := if mpC p m1 m2 m3 m4 m5 m6 a1 a2 = 0 then mv p m1 m2 m5 a1 a2 else 0
set_option linter.unusedVariables false in
def mpV2 (p m1 m2 m3 m4 m5 m6 a1 a2 : Int) : Int := if mpC p m1 m2 m3 m4 m5 m6 a1 a2 = 0 then mv p m3 m4 m6 a1 a2 else 0
theorem mp_zero {p m1 m2 m3 m4 m5 m6 a1 a2 k : Int} (h : mpC p m1 m2 m3 m4 m5 m6 a1 a2 = k) (hk : k ≠ 0) : mpV1 p m1 m2 m3 m4 m5 m6 a1 a2 = 0 ∧ mpV2 p m1 m2 m3 m4 m5 m6 a1 a2 = 0 ∧ mpC p m1 m2 m3 m4 m5 m6 a1 a2 = k := by
  have hn : ¬ (mpC p m1 m2 m3 m4 m5 m6 a1 a2 = 0) := fun e => hk (h.symm.trans e)
  exact ⟨if_neg hn, if_neg hn, h⟩
theorem mp_no {p m1 m2 m3 m4 m5 m6 a1 a2 : Int} (h : isP p = false) : mpV1 p m1 m2 m3 m4 m5 m6 a1 a2 = 0 ∧ mpV2 p m1 m2 m3 m4 m5 m6 a1 a2 = 0 ∧ mpC p m1 m2 m3 m4 m5 m6 a1 a2 = 1 := mp_zero (by simp [mpC, h]) (by decide)
theorem mp_out {p m1 m2 m3 m4 m5 m6 a1 a2 : Int} (hp : isP p = true) (h : mpB p m1 m2 m3 m4 m5 m6 a1 a2 = false) : mpV1 p m1 m2 m3 m4 m5 m6 a1 a2 = 0 ∧ mpV2 p m1 m2 m3 m4 m5 m6 a1 a2 = 0 ∧ mpC p m1 m2 m3 m4 m5 m6 a1 a2 = 2 := mp_zero (by simp [mpC, hp, h]) (by decide)
theorem mp_st {p m1 m2 m3 m4 m5 m6 a1 a2 k : Int} (hp : isP p = true) (h : mpB p m1 m2 m3 m4 m5 m6 a1 a2 = true) (hs : mpS p m1 m2 m3 m4 m5 m6 a1 a2 = k) (hk : k ≠ 0) : mpV1 p m1 m2 m3 m4 m5 m6 a1 a2 = 0 ∧ mpV2 p m1 m2 m3 m4 m5 m6 a1 a2 = 0 ∧ mpC p m1 m2 m3 m4 m5 m6 a1 a2 = k := mp_zero (by simp [mpC, hp, h, hs]) hk
theorem mp_good {p m1 m2 m3 m4 m5 m6 a1 a2 : Int} (hp : isP p = true) (h : mpB p m1 m2 m3 m4 m5 m6 a1 a2 = true) (hs : mpS p m1 m2 m3 m4 m5 m6 a1 a2 = 0) : mpV1 p m1 m2 m3 m4 m5 m6 a1 a2 = mv p m1 m2 m5 a1 a2 ∧ mpV2 p m1 m2 m3 m4 m5 m6 a1 a2 = mv p m3 m4 m6 a1 a2 ∧ mpC p m1 m2 m3 m4 m5 m6 a1 a2 = 0 := by
  have h' : mpC p m1 m2 m3 m4 m5 m6 a1 a2 = 0 := by simp [mpC, hp, h, hs]
  exact ⟨if_pos h', if_pos h', h'⟩

set_option linter.unusedVariables false in
set_option linter.unusedSimpArgs false in
set_option maxRecDepth 20000 in
set_option maxHeartbeats 4000000 in
theorem specMovePoint_any (p m1 m2 m3 m4 m5 m6 a1 a2 : Int)  (w : World) :
    Calls Try.prog 18 #[.int .i64 p, .agg #[.int .i64 m1, .int .i64 m2, .int .i64 m3, .int .i64 m4, .int .i64 m5, .int .i64 m6], .agg #[.int .i64 a1, .int .i64 a2]] w fun e w' =>
      e = .returned (.tuple #[.agg #[.int .i64 (mpV1 p m1 m2 m3 m4 m5 m6 a1 a2), .int .i64 (mpV2 p m1 m2 m3 m4 m5 m6 a1 a2)], .int .i64 (mpC p m1 m2 m3 m4 m5 m6 a1 a2)]) ∧ Below w.heap.size w w' := by
  go_enter Try.func18, Try.ntmps18
  rcases bool_ways (isP p) with hd1 | hd1
  · skip
    have c_1 : codeOf p (numsIn p [m1, m2, m3, m4, m5, m6]) = 1 := codeOf_no hd1
    have cN : ∀ b, codeOf p b = 1 := fun b => codeOf_no hd1
    go_wp2_with fail
    refine Calls.mono (specMaps1 _ _ _ _ _ _ _ _ _ (by first | rfl | (simp; done))) ?_
    rintro e w1 ⟨rfl, hB1⟩
    (obtain ⟨hB1c, hB1f⟩ := bcell hB1; have hB1s := hB1.size; (try simp at hB1s); (try have hB1q1 := Nat.lt_of_succ_le hB1s); (try have hB1q2 := Nat.lt_of_succ_lt hB1q1); (try have hB1q3 := Nat.lt_of_succ_lt hB1q2); (try have hB1zw0 : w.heap.size < w1.heap.size := (by omega)); (try have hB1zw1 : w.heap.size + 1 < w1.heap.size := (by omega)); (try have hB1zw2 : w.heap.size + 1 + 1 < w1.heap.size := (by omega)); (try have hB1zw3 : w.heap.size + 1 + 1 + 1 < w1.heap.size := (by omega)); (try have hB1zw4 : w.heap.size + 1 + 1 + 1 + 1 < w1.heap.size := (by omega)))
    have HV := Lib.hid (mp_no (m1 := m1) (m2 := m2) (m3 := m3) (m4 := m4) (m5 := m5) (m6 := m6) (a1 := a1) (a2 := a2) hd1)
    go_wp2
    (refine bodyPost_ret (v := .tuple #[.agg #[.int .i64 (mpV1 p m1 m2 m3 m4 m5 m6 a1 a2), .int .i64 (mpV2 p m1 m2 m3 m4 m5 m6 a1 a2)], .int .i64 (mpC p m1 m2 m3 m4 m5 m6 a1 a2)]) (by simp [results, Try.results18, go_sem, HV.out.1, HV.out.2.1, HV.out.2.2, *]) rfl ⟨?_, ?_⟩)
    · rfl
    · (repeat (first | with_reducible exact Below.refl _ _ | with_reducible refine balloc ?_ _ | with_reducible refine bdrewN ?_ _ | with_reducible refine Below.drew ?_ | with_reducible refine bthen ?_ (by with_reducible assumption) | with_reducible refine Below.setCell ?_ (by first | (simp; done) | (simp; omega)) _))
  · have hp := hd1
    have hr := isP_range hp
    rcases bool_ways (numsIn p [m1, m2, m3, m4, m5, m6]) with hd2 | hd2
    · skip
      have c_1 : codeOf p (numsIn p [m1, m2, m3, m4, m5, m6]) = 2 := codeOf_out hp (by simp [hd2])
      have cT : codeOf p true = 0 := codeOf_in hp rfl
      have cF : codeOf p false = 2 := codeOf_out hp rfl
      go_wp2_with fail
      refine Calls.mono (specMaps1 _ _ _ _ _ _ _ _ _ (by first | rfl | (simp; done))) ?_
      rintro e w1 ⟨rfl, hB1⟩
      (obtain ⟨hB1c, hB1f⟩ := bcell hB1; have hB1s := hB1.size; (try simp at hB1s); (try have hB1q1 := Nat.lt_of_succ_le hB1s); (try have hB1q2 := Nat.lt_of_succ_lt hB1q1); (try have hB1q3 := Nat.lt_of_succ_lt hB1q2); (try have hB1zw0 : w.heap.size < w1.heap.size := (by omega)); (try have hB1zw1 : w.heap.size + 1 < w1.heap.size := (by omega)); (try have hB1zw2 : w.heap.size + 1 + 1 < w1.heap.size := (by omega)); (try have hB1zw3 : w.heap.size + 1 + 1 + 1 < w1.heap.size := (by omega)); (try have hB1zw4 : w.heap.size + 1 + 1 + 1 + 1 < w1.heap.size := (by omega)))
      have HV := Lib.hid (mp_out (m1 := m1) (m2 := m2) (m3 := m3) (m4 := m4) (m5 := m5) (m6 := m6) (a1 := a1) (a2 := a2) hp (by simp [mpB, hd1, hd2]))
      go_wp2
      (refine bodyPost_ret (v := .tuple #[.agg #[.int .i64 (mpV1 p m1 m2 m3 m4 m5 m6 a1 a2), .int .i64 (mpV2 p m1 m2 m3 m4 m5 m6 a1 a2)], .int .i64 (mpC p m1 m2 m3 m4 m5 m6 a1 a2)]) (by simp [results, Try.results18, go_sem, HV.out.1, HV.out.2.1, HV.out.2.2, *]) rfl ⟨?_, ?_⟩)
      · rfl
      · (repeat (first | with_reducible exact Below.refl _ _ | with_reducible refine balloc ?_ _ | with_reducible refine bdrewN ?_ _ | with_reducible refine Below.drew ?_ | with_reducible refine bthen ?_ (by with_reducible assumption) | with_reducible refine Below.setCell ?_ (by first | (simp; done) | (simp; omega)) _))
    · have hd2q := nums6 hd2
      have c_1 : codeOf p (numsIn p [m1, m2, m3, m4, m5, m6]) = 0 := codeOf_in hp (by simp [hd2])
      have cT : codeOf p true = 0 := codeOf_in hp rfl
      go_wp2_with fail
      refine Calls.mono (specMaps1 _ _ _ _ _ _ _ _ _ (by first | rfl | (simp; done))) ?_
      rintro e w1 ⟨rfl, hB1⟩
      (obtain ⟨hB1c, hB1f⟩ := bcell hB1; have hB1s := hB1.size; (try simp at hB1s); (try have hB1q1 := Nat.lt_of_succ_le hB1s); (try have hB1q2 := Nat.lt_of_succ_lt hB1q1); (try have hB1q3 := Nat.lt_of_succ_lt hB1q2); (try have hB1zw0 : w.heap.size < w1.heap.size := (by omega)); (try have hB1zw1 : w.heap.size + 1 < w1.heap.size := (by omega)); (try have hB1zw2 : w.heap.size + 1 + 1 < w1.heap.size := (by omega)); (try have hB1zw3 : w.heap.size + 1 + 1 + 1 < w1.heap.size := (by omega)); (try have hB1zw4 : w.heap.size + 1 + 1 + 1 + 1 < w1.heap.size := (by omega)))
      rcases bool_ways (numsIn p [a1, a2]) with hd3 | hd3
      · skip
        have c_2 : codeOf p (numsIn p [a1, a2]) = 2 := codeOf_out hp (by simp [hd3])
        have cF : codeOf p false = 2 := codeOf_out hp rfl
        go_wp2_with fail
        refine Calls.mono (specCode1 _ _ _ _ _ (by first | rfl | (simp; done))) ?_
        rintro e w2 ⟨rfl, hB2⟩
        (obtain ⟨hB2c, hB2f⟩ := bcell hB2; have hB2s := hB2.size; (try simp at hB2s); (try have hB2q1 := Nat.lt_of_succ_le hB2s); (try have hB2q2 := Nat.lt_of_succ_lt hB2q1); (try have hB2q3 := Nat.lt_of_succ_lt hB2q2); (try have hB2zw0 : w.heap.size < w2.heap.size := (by omega)); (try have hB2zw1 : w.heap.size + 1 < w2.heap.size := (by omega)); (try have hB2zw2 : w.heap.size + 1 + 1 < w2.heap.size := (by omega)); (try have hB2zw3 : w.heap.size + 1 + 1 + 1 < w2.heap.size := (by omega)); (try have hB2zw4 : w.heap.size + 1 + 1 + 1 + 1 < w2.heap.size := (by omega)); (try have hB2zw10 : w1.heap.size < w2.heap.size := (by omega)); (try have hB2zw11 : w1.heap.size + 1 < w2.heap.size := (by omega)); (try have hB2zw12 : w1.heap.size + 1 + 1 < w2.heap.size := (by omega)); (try have hB2zw13 : w1.heap.size + 1 + 1 + 1 < w2.heap.size := (by omega)); (try have hB2zw14 : w1.heap.size + 1 + 1 + 1 + 1 < w2.heap.size := (by omega)))
        have HV := Lib.hid (mp_out (m1 := m1) (m2 := m2) (m3 := m3) (m4 := m4) (m5 := m5) (m6 := m6) (a1 := a1) (a2 := a2) hp (by simp [mpB, hd1, hd2, hd3]))
        go_wp2
        (refine bodyPost_ret (v := .tuple #[.agg #[.int .i64 (mpV1 p m1 m2 m3 m4 m5 m6 a1 a2), .int .i64 (mpV2 p m1 m2 m3 m4 m5 m6 a1 a2)], .int .i64 (mpC p m1 m2 m3 m4 m5 m6 a1 a2)]) (by simp [results, Try.results18, go_sem, HV.out.1, HV.out.2.1, HV.out.2.2, *]) rfl ⟨?_, ?_⟩)
        · rfl
        · (repeat (first | with_reducible exact Below.refl _ _ | with_reducible refine balloc ?_ _ | with_reducible refine bdrewN ?_ _ | with_reducible refine Below.drew ?_ | with_reducible refine bthen ?_ (by with_reducible assumption) | with_reducible refine Below.setCell ?_ (by first | (simp; done) | (simp; omega)) _))
      · have hd3q := nums2 hd3
        have c_2 : codeOf p (numsIn p [a1, a2]) = 0 := codeOf_in hp (by simp [hd3])
        obtain ⟨v1, hv1⟩ : ∃ v : Int, v = mv p m1 m2 m5 a1 a2 := ⟨_, rfl⟩
        have rv1 := mv_r m1 m2 m5 a1 a2 hp
        rw [← hv1] at rv1
        have Hv1 := Lib.hid hv1
        clear hv1
        obtain ⟨v2, hv2⟩ : ∃ v : Int, v = mv p m3 m4 m6 a1 a2 := ⟨_, rfl⟩
        have rv2 := mv_r m3 m4 m6 a1 a2 hp
        rw [← hv2] at rv2
        have Hv2 := Lib.hid hv2
        clear hv2
        go_wp2_with fail
        refine Calls.mono (specCode1 _ _ _ _ _ (by first | rfl | (simp; done))) ?_
        rintro e w2 ⟨rfl, hB2⟩
        (obtain ⟨hB2c, hB2f⟩ := bcell hB2; have hB2s := hB2.size; (try simp at hB2s); (try have hB2q1 := Nat.lt_of_succ_le hB2s); (try have hB2q2 := Nat.lt_of_succ_lt hB2q1); (try have hB2q3 := Nat.lt_of_succ_lt hB2q2); (try have hB2zw0 : w.heap.size < w2.heap.size := (by omega)); (try have hB2zw1 : w.heap.size + 1 < w2.heap.size := (by omega)); (try have hB2zw2 : w.heap.size + 1 + 1 < w2.heap.size := (by omega)); (try have hB2zw3 : w.heap.size + 1 + 1 + 1 < w2.heap.size := (by omega)); (try have hB2zw4 : w.heap.size + 1 + 1 + 1 + 1 < w2.heap.size := (by omega)); (try have hB2zw10 : w1.heap.size < w2.heap.size := (by omega)); (try have hB2zw11 : w1.heap.size + 1 < w2.heap.size := (by omega)); (try have hB2zw12 : w1.heap.size + 1 + 1 < w2.heap.size := (by omega)); (try have hB2zw13 : w1.heap.size + 1 + 1 + 1 < w2.heap.size := (by omega)); (try have hB2zw14 : w1.heap.size + 1 + 1 + 1 + 1 < w2.heap.size := (by omega)))
        go_wp2_with fail
        refine Calls.mono (specMoved_any _ _ _ _ _ _ _ _ _ _ hp (by omega) (by omega) (by omega) (by omega) (by omega) (by omega) (by omega) (by omega)) ?_
        rw [← Hv1.out, ← Hv2.out]
        rintro e w3 ⟨rfl, hB3⟩
        (obtain ⟨hB3c, hB3f⟩ := bcell hB3; have hB3s := hB3.size; (try simp at hB3s); (try have hB3q1 := Nat.lt_of_succ_le hB3s); (try have hB3q2 := Nat.lt_of_succ_lt hB3q1); (try have hB3q3 := Nat.lt_of_succ_lt hB3q2); (try have hB3zw0 : w.heap.size < w3.heap.size := (by omega)); (try have hB3zw1 : w.heap.size + 1 < w3.heap.size := (by omega)); (try have hB3zw2 : w.heap.size + 1 + 1 < w3.heap.size := (by omega)); (try have hB3zw3 : w.heap.size + 1 + 1 + 1 < w3.heap.size := (by omega)); (try have hB3zw4 : w.heap.size + 1 + 1 + 1 + 1 < w3.heap.size := (by omega)); (try have hB3zw20 : w2.heap.size < w3.heap.size := (by omega)); (try have hB3zw21 : w2.heap.size + 1 < w3.heap.size := (by omega)); (try have hB3zw22 : w2.heap.size + 1 + 1 < w3.heap.size := (by omega)); (try have hB3zw23 : w2.heap.size + 1 + 1 + 1 < w3.heap.size := (by omega)); (try have hB3zw24 : w2.heap.size + 1 + 1 + 1 + 1 < w3.heap.size := (by omega)); (try have hB3zw10 : w1.heap.size < w3.heap.size := (by omega)); (try have hB3zw11 : w1.heap.size + 1 < w3.heap.size := (by omega)); (try have hB3zw12 : w1.heap.size + 1 + 1 < w3.heap.size := (by omega)); (try have hB3zw13 : w1.heap.size + 1 + 1 + 1 < w3.heap.size := (by omega)); (try have hB3zw14 : w1.heap.size + 1 + 1 + 1 + 1 < w3.heap.size := (by omega)))
        have HB : mpB p m1 m2 m3 m4 m5 m6 a1 a2 = true := by simp [mpB, hd1, hd2, hd3]
        have HS : mpS p m1 m2 m3 m4 m5 m6 a1 a2 = 0 := by rfl
        have HV := Lib.hid (show mpV1 p m1 m2 m3 m4 m5 m6 a1 a2 = v1 ∧ mpV2 p m1 m2 m3 m4 m5 m6 a1 a2 = v2 ∧ mpC p m1 m2 m3 m4 m5 m6 a1 a2 = 0 from by
          have HG := mp_good (m1 := m1) (m2 := m2) (m3 := m3) (m4 := m4) (m5 := m5) (m6 := m6) (a1 := a1) (a2 := a2) hp HB HS
          refine ⟨(HG.1).trans ?_, (HG.2.1).trans ?_, HG.2.2⟩
          all_goals (simp only [← Hv1.out, ← Hv2.out] <;> simp [hd1, hd2, hd3]))
        clear HB HS
        go_wp2
        (refine bodyPost_ret (v := .tuple #[.agg #[.int .i64 (mpV1 p m1 m2 m3 m4 m5 m6 a1 a2), .int .i64 (mpV2 p m1 m2 m3 m4 m5 m6 a1 a2)], .int .i64 (mpC p m1 m2 m3 m4 m5 m6 a1 a2)]) (by simp [results, Try.results18, go_sem, HV.out.1, HV.out.2.1, HV.out.2.2, *]) rfl ⟨?_, ?_⟩)
        · rfl
        · (repeat (first | with_reducible exact Below.refl _ _ | with_reducible refine balloc ?_ _ | with_reducible refine bdrewN ?_ _ | with_reducible refine Below.drew ?_ | with_reducible refine bthen ?_ (by with_reducible assumption) | with_reducible refine Below.setCell ?_ (by first | (simp; done) | (simp; omega)) _))

set_option linter.unusedVariables false in
set_option linter.unusedSimpArgs false in
set_option maxRecDepth 20000 in
set_option maxHeartbeats 4000000 in
theorem implMovePoint_any (p m1 m2 m3 m4 m5 m6 a1 a2 : Int)  (w : World) :
    Calls Try.prog 20 #[.int .i64 p, .agg #[.int .i64 m1, .int .i64 m2, .int .i64 m3, .int .i64 m4, .int .i64 m5, .int .i64 m6], .agg #[.int .i64 a1, .int .i64 a2]] w fun e w' =>
      e = .returned (.tuple #[.agg #[.int .i64 (mpV1 p m1 m2 m3 m4 m5 m6 a1 a2), .int .i64 (mpV2 p m1 m2 m3 m4 m5 m6 a1 a2)], .int .i64 (mpC p m1 m2 m3 m4 m5 m6 a1 a2)]) ∧ Below w.heap.size w w' := by
  go_enter Try.func20, Try.ntmps20
  rcases bool_ways (numsIn p [m1, m2, m3, m4, m5, m6]) with hd1 | hd1
  · skip
    rcases bool_ways (isP p) with hd2 | hd2
    · skip
      have c_1 : codeOf p false = 1 := codeOf_no hd2
      have cN : ∀ b, codeOf p b = 1 := fun b => codeOf_no hd2
      go_wp2_with fail
      refine Calls.mono (implMaps1 _ _ _ _ _ _ _ _ _ (by first | rfl | (simp; done))) ?_
      rintro e w1 ⟨rfl, hB1⟩
      (obtain ⟨hB1c, hB1f⟩ := bcell hB1; have hB1s := hB1.size; (try simp at hB1s); (try have hB1q1 := Nat.lt_of_succ_le hB1s); (try have hB1q2 := Nat.lt_of_succ_lt hB1q1); (try have hB1q3 := Nat.lt_of_succ_lt hB1q2); (try have hB1zw0 : w.heap.size < w1.heap.size := (by omega)); (try have hB1zw1 : w.heap.size + 1 < w1.heap.size := (by omega)); (try have hB1zw2 : w.heap.size + 1 + 1 < w1.heap.size := (by omega)); (try have hB1zw3 : w.heap.size + 1 + 1 + 1 < w1.heap.size := (by omega)); (try have hB1zw4 : w.heap.size + 1 + 1 + 1 + 1 < w1.heap.size := (by omega)))
      go_wp2_with fail
      refine Calls.mono (codeFor_any _ _ _) ?_
      rintro e w' ⟨rfl, rfl⟩
      have HV := Lib.hid (mp_no (m1 := m1) (m2 := m2) (m3 := m3) (m4 := m4) (m5 := m5) (m6 := m6) (a1 := a1) (a2 := a2) hd2)
      go_wp2
      (refine bodyPost_ret (v := .tuple #[.agg #[.int .i64 (mpV1 p m1 m2 m3 m4 m5 m6 a1 a2), .int .i64 (mpV2 p m1 m2 m3 m4 m5 m6 a1 a2)], .int .i64 (mpC p m1 m2 m3 m4 m5 m6 a1 a2)]) (by simp [results, Try.results20, go_sem, HV.out.1, HV.out.2.1, HV.out.2.2, *]) rfl ⟨?_, ?_⟩)
      · rfl
      · (repeat (first | with_reducible exact Below.refl _ _ | with_reducible refine balloc ?_ _ | with_reducible refine bdrewN ?_ _ | with_reducible refine Below.drew ?_ | with_reducible refine bthen ?_ (by with_reducible assumption) | with_reducible refine Below.setCell ?_ (by first | (simp; done) | (simp; omega)) _))
    · have hp := hd2
      have hr := isP_range hp
      have c_1 : codeOf p false = 2 := codeOf_out hp (by simp)
      have cT : codeOf p true = 0 := codeOf_in hp rfl
      have cF : codeOf p false = 2 := codeOf_out hp rfl
      go_wp2_with fail
      refine Calls.mono (implMaps1 _ _ _ _ _ _ _ _ _ (by first | rfl | (simp; done))) ?_
      rintro e w1 ⟨rfl, hB1⟩
      (obtain ⟨hB1c, hB1f⟩ := bcell hB1; have hB1s := hB1.size; (try simp at hB1s); (try have hB1q1 := Nat.lt_of_succ_le hB1s); (try have hB1q2 := Nat.lt_of_succ_lt hB1q1); (try have hB1q3 := Nat.lt_of_succ_lt hB1q2); (try have hB1zw0 : w.heap.size < w1.heap.size := (by omega)); (try have hB1zw1 : w.heap.size + 1 < w1.heap.size := (by omega)); (try have hB1zw2 : w.heap.size + 1 + 1 < w1.heap.size := (by omega)); (try have hB1zw3 : w.heap.size + 1 + 1 + 1 < w1.heap.size := (by omega)); (try have hB1zw4 : w.heap.size + 1 + 1 + 1 + 1 < w1.heap.size := (by omega)))
      go_wp2_with fail
      refine Calls.mono (codeFor_any _ _ _) ?_
      rintro e w' ⟨rfl, rfl⟩
      have HV := Lib.hid (mp_out (m1 := m1) (m2 := m2) (m3 := m3) (m4 := m4) (m5 := m5) (m6 := m6) (a1 := a1) (a2 := a2) hp (by simp [mpB, hd1, hd2]))
      go_wp2
      (refine bodyPost_ret (v := .tuple #[.agg #[.int .i64 (mpV1 p m1 m2 m3 m4 m5 m6 a1 a2), .int .i64 (mpV2 p m1 m2 m3 m4 m5 m6 a1 a2)], .int .i64 (mpC p m1 m2 m3 m4 m5 m6 a1 a2)]) (by simp [results, Try.results20, go_sem, HV.out.1, HV.out.2.1, HV.out.2.2, *]) rfl ⟨?_, ?_⟩)
      · rfl
      · (repeat (first | with_reducible exact Below.refl _ _ | with_reducible refine balloc ?_ _ | with_reducible refine bdrewN ?_ _ | with_reducible refine Below.drew ?_ | with_reducible refine bthen ?_ (by with_reducible assumption) | with_reducible refine Below.setCell ?_ (by first | (simp; done) | (simp; omega)) _))
  · have hd1q := nums6 hd1
    rcases bool_ways (isP p) with hd2 | hd2
    · skip
      have c_1 : codeOf p (numsIn p [a1, a2]) = 1 := codeOf_no hd2
      have cN : ∀ b, codeOf p b = 1 := fun b => codeOf_no hd2
      go_wp2_with fail
      refine Calls.mono (implMaps1 _ _ _ _ _ _ _ _ _ (by first | rfl | (simp; done))) ?_
      rintro e w1 ⟨rfl, hB1⟩
      (obtain ⟨hB1c, hB1f⟩ := bcell hB1; have hB1s := hB1.size; (try simp at hB1s); (try have hB1q1 := Nat.lt_of_succ_le hB1s); (try have hB1q2 := Nat.lt_of_succ_lt hB1q1); (try have hB1q3 := Nat.lt_of_succ_lt hB1q2); (try have hB1zw0 : w.heap.size < w1.heap.size := (by omega)); (try have hB1zw1 : w.heap.size + 1 < w1.heap.size := (by omega)); (try have hB1zw2 : w.heap.size + 1 + 1 < w1.heap.size := (by omega)); (try have hB1zw3 : w.heap.size + 1 + 1 + 1 < w1.heap.size := (by omega)); (try have hB1zw4 : w.heap.size + 1 + 1 + 1 + 1 < w1.heap.size := (by omega)))
      go_wp2_with fail
      refine Calls.mono (implPoints1 _ _ _ _ _ (by first | rfl | (simp; done))) ?_
      rintro e w2 ⟨rfl, hB2⟩
      (obtain ⟨hB2c, hB2f⟩ := bcell hB2; have hB2s := hB2.size; (try simp at hB2s); (try have hB2q1 := Nat.lt_of_succ_le hB2s); (try have hB2q2 := Nat.lt_of_succ_lt hB2q1); (try have hB2q3 := Nat.lt_of_succ_lt hB2q2); (try have hB2zw0 : w.heap.size < w2.heap.size := (by omega)); (try have hB2zw1 : w.heap.size + 1 < w2.heap.size := (by omega)); (try have hB2zw2 : w.heap.size + 1 + 1 < w2.heap.size := (by omega)); (try have hB2zw3 : w.heap.size + 1 + 1 + 1 < w2.heap.size := (by omega)); (try have hB2zw4 : w.heap.size + 1 + 1 + 1 + 1 < w2.heap.size := (by omega)); (try have hB2zw10 : w1.heap.size < w2.heap.size := (by omega)); (try have hB2zw11 : w1.heap.size + 1 < w2.heap.size := (by omega)); (try have hB2zw12 : w1.heap.size + 1 + 1 < w2.heap.size := (by omega)); (try have hB2zw13 : w1.heap.size + 1 + 1 + 1 < w2.heap.size := (by omega)); (try have hB2zw14 : w1.heap.size + 1 + 1 + 1 + 1 < w2.heap.size := (by omega)))
      go_wp2_with fail
      refine Calls.mono (codeFor_any _ _ _) ?_
      rintro e w' ⟨rfl, rfl⟩
      have HV := Lib.hid (mp_no (m1 := m1) (m2 := m2) (m3 := m3) (m4 := m4) (m5 := m5) (m6 := m6) (a1 := a1) (a2 := a2) hd2)
      go_wp2
      (refine bodyPost_ret (v := .tuple #[.agg #[.int .i64 (mpV1 p m1 m2 m3 m4 m5 m6 a1 a2), .int .i64 (mpV2 p m1 m2 m3 m4 m5 m6 a1 a2)], .int .i64 (mpC p m1 m2 m3 m4 m5 m6 a1 a2)]) (by simp [results, Try.results20, go_sem, HV.out.1, HV.out.2.1, HV.out.2.2, *]) rfl ⟨?_, ?_⟩)
      · rfl
      · (repeat (first | with_reducible exact Below.refl _ _ | with_reducible refine balloc ?_ _ | with_reducible refine bdrewN ?_ _ | with_reducible refine Below.drew ?_ | with_reducible refine bthen ?_ (by with_reducible assumption) | with_reducible refine Below.setCell ?_ (by first | (simp; done) | (simp; omega)) _))
    · have hp := hd2
      have hr := isP_range hp
      rcases bool_ways (numsIn p [a1, a2]) with hd3 | hd3
      · skip
        have c_1 : codeOf p (numsIn p [a1, a2]) = 2 := codeOf_out hp (by simp [hd3])
        have cT : codeOf p true = 0 := codeOf_in hp rfl
        have cF : codeOf p false = 2 := codeOf_out hp rfl
        go_wp2_with fail
        refine Calls.mono (implMaps1 _ _ _ _ _ _ _ _ _ (by first | rfl | (simp; done))) ?_
        rintro e w1 ⟨rfl, hB1⟩
        (obtain ⟨hB1c, hB1f⟩ := bcell hB1; have hB1s := hB1.size; (try simp at hB1s); (try have hB1q1 := Nat.lt_of_succ_le hB1s); (try have hB1q2 := Nat.lt_of_succ_lt hB1q1); (try have hB1q3 := Nat.lt_of_succ_lt hB1q2); (try have hB1zw0 : w.heap.size < w1.heap.size := (by omega)); (try have hB1zw1 : w.heap.size + 1 < w1.heap.size := (by omega)); (try have hB1zw2 : w.heap.size + 1 + 1 < w1.heap.size := (by omega)); (try have hB1zw3 : w.heap.size + 1 + 1 + 1 < w1.heap.size := (by omega)); (try have hB1zw4 : w.heap.size + 1 + 1 + 1 + 1 < w1.heap.size := (by omega)))
        go_wp2_with fail
        refine Calls.mono (implPoints1 _ _ _ _ _ (by first | rfl | (simp; done))) ?_
        rintro e w2 ⟨rfl, hB2⟩
        (obtain ⟨hB2c, hB2f⟩ := bcell hB2; have hB2s := hB2.size; (try simp at hB2s); (try have hB2q1 := Nat.lt_of_succ_le hB2s); (try have hB2q2 := Nat.lt_of_succ_lt hB2q1); (try have hB2q3 := Nat.lt_of_succ_lt hB2q2); (try have hB2zw0 : w.heap.size < w2.heap.size := (by omega)); (try have hB2zw1 : w.heap.size + 1 < w2.heap.size := (by omega)); (try have hB2zw2 : w.heap.size + 1 + 1 < w2.heap.size := (by omega)); (try have hB2zw3 : w.heap.size + 1 + 1 + 1 < w2.heap.size := (by omega)); (try have hB2zw4 : w.heap.size + 1 + 1 + 1 + 1 < w2.heap.size := (by omega)); (try have hB2zw10 : w1.heap.size < w2.heap.size := (by omega)); (try have hB2zw11 : w1.heap.size + 1 < w2.heap.size := (by omega)); (try have hB2zw12 : w1.heap.size + 1 + 1 < w2.heap.size := (by omega)); (try have hB2zw13 : w1.heap.size + 1 + 1 + 1 < w2.heap.size := (by omega)); (try have hB2zw14 : w1.heap.size + 1 + 1 + 1 + 1 < w2.heap.size := (by omega)))
        go_wp2_with fail
        refine Calls.mono (codeFor_any _ _ _) ?_
        rintro e w' ⟨rfl, rfl⟩
        have HV := Lib.hid (mp_out (m1 := m1) (m2 := m2) (m3 := m3) (m4 := m4) (m5 := m5) (m6 := m6) (a1 := a1) (a2 := a2) hp (by simp [mpB, hd1, hd2, hd3]))
        go_wp2
        (refine bodyPost_ret (v := .tuple #[.agg #[.int .i64 (mpV1 p m1 m2 m3 m4 m5 m6 a1 a2), .int .i64 (mpV2 p m1 m2 m3 m4 m5 m6 a1 a2)], .int .i64 (mpC p m1 m2 m3 m4 m5 m6 a1 a2)]) (by simp [results, Try.results20, go_sem, HV.out.1, HV.out.2.1, HV.out.2.2, *]) rfl ⟨?_, ?_⟩)
        · rfl
        · (repeat (first | with_reducible exact Below.refl _ _ | with_reducible refine balloc ?_ _ | with_reducible refine bdrewN ?_ _ | with_reducible refine Below.drew ?_ | with_reducible refine bthen ?_ (by with_reducible assumption) | with_reducible refine Below.setCell ?_ (by first | (simp; done) | (simp; omega)) _))
      · have hd3q := nums2 hd3
        have c_1 : codeOf p (numsIn p [a1, a2]) = 0 := codeOf_in hp (by simp [hd3])
        have cT : codeOf p true = 0 := codeOf_in hp rfl
        obtain ⟨v1, hv1⟩ : ∃ v : Int, v = mv p m1 m2 m5 a1 a2 := ⟨_, rfl⟩
        have rv1 := mv_r m1 m2 m5 a1 a2 hp
        rw [← hv1] at rv1
        have Hv1 := Lib.hid hv1
        clear hv1
        obtain ⟨v2, hv2⟩ : ∃ v : Int, v = mv p m3 m4 m6 a1 a2 := ⟨_, rfl⟩
        have rv2 := mv_r m3 m4 m6 a1 a2 hp
        rw [← hv2] at rv2
        have Hv2 := Lib.hid hv2
        clear hv2
        go_wp2_with fail
        refine Calls.mono (implMaps1 _ _ _ _ _ _ _ _ _ (by first | rfl | (simp; done))) ?_
        rintro e w1 ⟨rfl, hB1⟩
        (obtain ⟨hB1c, hB1f⟩ := bcell hB1; have hB1s := hB1.size; (try simp at hB1s); (try have hB1q1 := Nat.lt_of_succ_le hB1s); (try have hB1q2 := Nat.lt_of_succ_lt hB1q1); (try have hB1q3 := Nat.lt_of_succ_lt hB1q2); (try have hB1zw0 : w.heap.size < w1.heap.size := (by omega)); (try have hB1zw1 : w.heap.size + 1 < w1.heap.size := (by omega)); (try have hB1zw2 : w.heap.size + 1 + 1 < w1.heap.size := (by omega)); (try have hB1zw3 : w.heap.size + 1 + 1 + 1 < w1.heap.size := (by omega)); (try have hB1zw4 : w.heap.size + 1 + 1 + 1 + 1 < w1.heap.size := (by omega)))
        go_wp2_with fail
        refine Calls.mono (implPoints1 _ _ _ _ _ (by first | rfl | (simp; done))) ?_
        rintro e w2 ⟨rfl, hB2⟩
        (obtain ⟨hB2c, hB2f⟩ := bcell hB2; have hB2s := hB2.size; (try simp at hB2s); (try have hB2q1 := Nat.lt_of_succ_le hB2s); (try have hB2q2 := Nat.lt_of_succ_lt hB2q1); (try have hB2q3 := Nat.lt_of_succ_lt hB2q2); (try have hB2zw0 : w.heap.size < w2.heap.size := (by omega)); (try have hB2zw1 : w.heap.size + 1 < w2.heap.size := (by omega)); (try have hB2zw2 : w.heap.size + 1 + 1 < w2.heap.size := (by omega)); (try have hB2zw3 : w.heap.size + 1 + 1 + 1 < w2.heap.size := (by omega)); (try have hB2zw4 : w.heap.size + 1 + 1 + 1 + 1 < w2.heap.size := (by omega)); (try have hB2zw10 : w1.heap.size < w2.heap.size := (by omega)); (try have hB2zw11 : w1.heap.size + 1 < w2.heap.size := (by omega)); (try have hB2zw12 : w1.heap.size + 1 + 1 < w2.heap.size := (by omega)); (try have hB2zw13 : w1.heap.size + 1 + 1 + 1 < w2.heap.size := (by omega)); (try have hB2zw14 : w1.heap.size + 1 + 1 + 1 + 1 < w2.heap.size := (by omega)))
        go_wp2_with fail
        refine Calls.mono (codeFor_any _ _ _) ?_
        rintro e w' ⟨rfl, rfl⟩
        go_wp2_with fail
        refine Calls.mono (implMoved_any _ _ _ _ _ _ _ _ _ _ hp (by omega) (by omega) (by omega) (by omega) (by omega) (by omega) (by omega) (by omega)) ?_
        rw [← Hv1.out, ← Hv2.out]
        rintro e w3 ⟨rfl, hB3⟩
        (obtain ⟨hB3c, hB3f⟩ := bcell hB3; have hB3s := hB3.size; (try simp at hB3s); (try have hB3q1 := Nat.lt_of_succ_le hB3s); (try have hB3q2 := Nat.lt_of_succ_lt hB3q1); (try have hB3q3 := Nat.lt_of_succ_lt hB3q2); (try have hB3zw0 : w.heap.size < w3.heap.size := (by omega)); (try have hB3zw1 : w.heap.size + 1 < w3.heap.size := (by omega)); (try have hB3zw2 : w.heap.size + 1 + 1 < w3.heap.size := (by omega)); (try have hB3zw3 : w.heap.size + 1 + 1 + 1 < w3.heap.size := (by omega)); (try have hB3zw4 : w.heap.size + 1 + 1 + 1 + 1 < w3.heap.size := (by omega)); (try have hB3zw20 : w2.heap.size < w3.heap.size := (by omega)); (try have hB3zw21 : w2.heap.size + 1 < w3.heap.size := (by omega)); (try have hB3zw22 : w2.heap.size + 1 + 1 < w3.heap.size := (by omega)); (try have hB3zw23 : w2.heap.size + 1 + 1 + 1 < w3.heap.size := (by omega)); (try have hB3zw24 : w2.heap.size + 1 + 1 + 1 + 1 < w3.heap.size := (by omega)); (try have hB3zw10 : w1.heap.size < w3.heap.size := (by omega)); (try have hB3zw11 : w1.heap.size + 1 < w3.heap.size := (by omega)); (try have hB3zw12 : w1.heap.size + 1 + 1 < w3.heap.size := (by omega)); (try have hB3zw13 : w1.heap.size + 1 + 1 + 1 < w3.heap.size := (by omega)); (try have hB3zw14 : w1.heap.size + 1 + 1 + 1 + 1 < w3.heap.size := (by omega)))
        have HB : mpB p m1 m2 m3 m4 m5 m6 a1 a2 = true := by simp [mpB, hd1, hd2, hd3]
        have HS : mpS p m1 m2 m3 m4 m5 m6 a1 a2 = 0 := by rfl
        have HV := Lib.hid (show mpV1 p m1 m2 m3 m4 m5 m6 a1 a2 = v1 ∧ mpV2 p m1 m2 m3 m4 m5 m6 a1 a2 = v2 ∧ mpC p m1 m2 m3 m4 m5 m6 a1 a2 = 0 from by
          have HG := mp_good (m1 := m1) (m2 := m2) (m3 := m3) (m4 := m4) (m5 := m5) (m6 := m6) (a1 := a1) (a2 := a2) hp HB HS
          refine ⟨(HG.1).trans ?_, (HG.2.1).trans ?_, HG.2.2⟩
          all_goals (simp only [← Hv1.out, ← Hv2.out] <;> simp [hd1, hd2, hd3]))
        clear HB HS
        go_wp2
        (refine bodyPost_ret (v := .tuple #[.agg #[.int .i64 (mpV1 p m1 m2 m3 m4 m5 m6 a1 a2), .int .i64 (mpV2 p m1 m2 m3 m4 m5 m6 a1 a2)], .int .i64 (mpC p m1 m2 m3 m4 m5 m6 a1 a2)]) (by simp [results, Try.results20, go_sem, HV.out.1, HV.out.2.1, HV.out.2.2, *]) rfl ⟨?_, ?_⟩)
        · rfl
        · (repeat (first | with_reducible exact Below.refl _ _ | with_reducible refine balloc ?_ _ | with_reducible refine bdrewN ?_ _ | with_reducible refine Below.drew ?_ | with_reducible refine bthen ?_ (by with_reducible assumption) | with_reducible refine Below.setCell ?_ (by first | (simp; done) | (simp; omega)) _))

end Go.Proofs.Ythfckpfiechloaa
