/-
  FixedPoints: the program's and the model's.
-/
import Derived.Test.YthfckpfiechloaaSpecFixed
import Derived.Test.YthfckpfiechloaaImplFixed
import Derived.Test.YthfckpfiechloaaSpecMaps
import Derived.Test.YthfckpfiechloaaImplMaps
import Derived.Test.YthfckpfiechloaaCode
import Derived.Test.YthfckpfiechloaaSlice
import Derived.Deep.RegionHeld3
import Derived.Deep.DeepCutAuto
import Derived.Test.YthfckpfiechloaaBaseMath
namespace Go.Proofs.Ythfckpfiechloaa
open Go.RowKit

set_option linter.unusedVariables false in
def fpB (p m1 m2 m3 m4 m5 m6 : Int) : Bool := numsIn p [m1, m2, m3, m4, m5, m6]
set_option linter.unusedVariables false in
def fpS (p m1 m2 m3 m4 m5 m6 : Int) : Int := 0
set_option linter.unusedVariables false in
def fpC (p m1 m2 m3 m4 m5 m6 : Int) : Int := if isP p = true then (if fpB p m1 m2 m3 m4 m5 m6 = true then fpS p m1 m2 m3 m4 m5 m6 else 2) else 1
set_option linter.unusedVariables false in
def fpL (p m1 m2 m3 m4 m5 m6 : Int) : List Int := if fpC p m1 m2 m3 m4 m5 m6 = 0 then flat (fxL p m1 m2 m3 m4 m5 m6) else []
theorem fp_zero {p m1 m2 m3 m4 m5 m6 k : Int} (h : fpC p m1 m2 m3 m4 m5 m6 = k) (hk : k ≠ 0) : fpL p m1 m2 m3 m4 m5 m6 = [] ∧ fpC p m1 m2 m3 m4 m5 m6 = k := ⟨if_neg fun e => hk (h.symm.trans e), h⟩
theorem fp_no {p m1 m2 m3 m4 m5 m6 : Int} (h : isP p = false) : fpL p m1 m2 m3 m4 m5 m6 = [] ∧ fpC p m1 m2 m3 m4 m5 m6 = 1 := fp_zero (by simp [fpC, h]) (by decide)
theorem fp_out {p m1 m2 m3 m4 m5 m6 : Int} (hp : isP p = true) (h : fpB p m1 m2 m3 m4 m5 m6 = false) : fpL p m1 m2 m3 m4 m5 m6 = [] ∧ fpC p m1 m2 m3 m4 m5 m6 = 2 := fp_zero (by simp [fpC, hp, h]) (by decide)
theorem fp_st {p m1 m2 m3 m4 m5 m6 k : Int} (hp : isP p = true) (h : fpB p m1 m2 m3 m4 m5 m6 = true) (hs : fpS p m1 m2 m3 m4 m5 m6 = k) (hk : k ≠ 0) : fpL p m1 m2 m3 m4 m5 m6 = [] ∧ fpC p m1 m2 m3 m4 m5 m6 = k := fp_zero (by simp [fpC, hp, h, hs]) hk
theorem fp_good {p m1 m2 m3 m4 m5 m6 : Int} (hp : isP p = true) (h : fpB p m1 m2 m3 m4 m5 m6 = true) (hs : fpS p m1 m2 m3 m4 m5 m6 = 0) : fpL p m1 m2 m3 m4 m5 m6 = flat (fxL p m1 m2 m3 m4 m5 m6) ∧ fpC p m1 m2 m3 m4 m5 m6 = 0 := by
  have h' : fpC p m1 m2 m3 m4 m5 m6 = 0 := by simp [fpC, hp, h, hs]
  exact ⟨if_pos h', h'⟩

set_option linter.unusedVariables false in
set_option linter.unusedSimpArgs false in
set_option maxRecDepth 20000 in
set_option maxHeartbeats 4000000 in
theorem specFixedPoints_any (p m1 m2 m3 m4 m5 m6 : Int)  (w : World) :
    Calls Try.prog 35 #[.int .i64 p, .agg #[.int .i64 m1, .int .i64 m2, .int .i64 m3, .int .i64 m4, .int .i64 m5, .int .i64 m6]] w fun e w' =>
      SlicePost 28 2 (fpL p m1 m2 m3 m4 m5 m6) (fpC p m1 m2 m3 m4 m5 m6) w e w' := by
  go_enter Try.func35, Try.ntmps35
  rcases bool_ways (isP p) with hd1 | hd1
  · skip
    have c_1 : codeOf p (numsIn p [m1, m2, m3, m4, m5, m6]) = 1 := codeOf_no hd1
    have cN : ∀ b, codeOf p b = 1 := fun b => codeOf_no hd1
    go_wp2_with fail
    refine Calls.mono (specMaps1 _ _ _ _ _ _ _ _ _ (by first | rfl | (simp; done))) ?_
    rintro e w1 ⟨rfl, hB1⟩
    (obtain ⟨hB1c, hB1f⟩ := bcell hB1; have hB1s := hB1.size; (try simp at hB1s); (try have hB1q1 := Nat.lt_of_succ_le hB1s); (try have hB1q2 := Nat.lt_of_succ_lt hB1q1); (try have hB1q3 := Nat.lt_of_succ_lt hB1q2); (try have hB1zw0 : w.heap.size < w1.heap.size := (by omega)); (try have hB1zw1 : w.heap.size + 1 < w1.heap.size := (by omega)); (try have hB1zw2 : w.heap.size + 1 + 1 < w1.heap.size := (by omega)); (try have hB1zw3 : w.heap.size + 1 + 1 + 1 < w1.heap.size := (by omega)); (try have hB1zw4 : w.heap.size + 1 + 1 + 1 + 1 < w1.heap.size := (by omega)))
    have HV := Lib.hid (fp_no (m1 := m1) (m2 := m2) (m3 := m3) (m4 := m4) (m5 := m5) (m6 := m6) hd1)
    go_wp2
    (refine bodyPost_ret (v := .tuple #[.slice none 0 0, .int .i64 (fpC p m1 m2 m3 m4 m5 m6)]) (by simp [results, Try.results35, go_sem, HV.out.2]) rfl (slicePost_nil HV.out.1 ?_))
    (repeat (first | with_reducible exact Below.refl _ _ | with_reducible refine balloc ?_ _ | with_reducible refine bdrewN ?_ _ | with_reducible refine Below.drew ?_ | with_reducible refine bthen ?_ (by with_reducible assumption) | with_reducible refine Below.setCell ?_ (by first | (simp; done) | (simp; omega)) _))
  · have hp := hd1
    have hr := isP_range hp
    rcases bool_ways (numsIn p [m1, m2, m3, m4, m5, m6]) with hd2 | hd2
    · skip
      have c_1 : codeOf p (numsIn p [m1, m2, m3, m4, m5, m6]) = 2 := codeOf_out hp (by simp [hd2])
      have cT : codeOf p true = 0 := codeOf_in hp rfl
      have cF : codeOf p false = 2 := codeOf_out hp rfl
      go_wp2_with fail
      refine Calls.mono (specMaps1 _ _ _ _ _ _ _ _ _ (by first | rfl | (simp; done))) ?_
      rintro e w1 ⟨rfl, hB1⟩
      (obtain ⟨hB1c, hB1f⟩ := bcell hB1; have hB1s := hB1.size; (try simp at hB1s); (try have hB1q1 := Nat.lt_of_succ_le hB1s); (try have hB1q2 := Nat.lt_of_succ_lt hB1q1); (try have hB1q3 := Nat.lt_of_succ_lt hB1q2); (try have hB1zw0 : w.heap.size < w1.heap.size := (by omega)); (try have hB1zw1 : w.heap.size + 1 < w1.heap.size := (by omega)); (try have hB1zw2 : w.heap.size + 1 + 1 < w1.heap.size := (by omega)); (try have hB1zw3 : w.heap.size + 1 + 1 + 1 < w1.heap.size := (by omega)); (try have hB1zw4 : w.heap.size + 1 + 1 + 1 + 1 < w1.heap.size := (by omega)))
      have HV := Lib.hid (fp_out (m1 := m1) (m2 := m2) (m3 := m3) (m4 := m4) (m5 := m5) (m6 := m6) hp (by simp [fpB, hd1, hd2]))
      go_wp2
      (refine bodyPost_ret (v := .tuple #[.slice none 0 0, .int .i64 (fpC p m1 m2 m3 m4 m5 m6)]) (by simp [results, Try.results35, go_sem, HV.out.2]) rfl (slicePost_nil HV.out.1 ?_))
      (repeat (first | with_reducible exact Below.refl _ _ | with_reducible refine balloc ?_ _ | with_reducible refine bdrewN ?_ _ | with_reducible refine Below.drew ?_ | with_reducible refine bthen ?_ (by with_reducible assumption) | with_reducible refine Below.setCell ?_ (by first | (simp; done) | (simp; omega)) _))
    · have hd2q := nums6 hd2
      have c_1 : codeOf p (numsIn p [m1, m2, m3, m4, m5, m6]) = 0 := codeOf_in hp (by simp [hd2])
      have cT : codeOf p true = 0 := codeOf_in hp rfl
      go_wp2_with fail
      refine Calls.mono (specMaps1 _ _ _ _ _ _ _ _ _ (by first | rfl | (simp; done))) ?_
      rintro e w1 ⟨rfl, hB1⟩
      (obtain ⟨hB1c, hB1f⟩ := bcell hB1; have hB1s := hB1.size; (try simp at hB1s); (try have hB1q1 := Nat.lt_of_succ_le hB1s); (try have hB1q2 := Nat.lt_of_succ_lt hB1q1); (try have hB1q3 := Nat.lt_of_succ_lt hB1q2); (try have hB1zw0 : w.heap.size < w1.heap.size := (by omega)); (try have hB1zw1 : w.heap.size + 1 < w1.heap.size := (by omega)); (try have hB1zw2 : w.heap.size + 1 + 1 < w1.heap.size := (by omega)); (try have hB1zw3 : w.heap.size + 1 + 1 + 1 < w1.heap.size := (by omega)); (try have hB1zw4 : w.heap.size + 1 + 1 + 1 + 1 < w1.heap.size := (by omega)))
      have HB : fpB p m1 m2 m3 m4 m5 m6 = true := by simp [fpB, hd1, hd2]
      have HS : fpS p m1 m2 m3 m4 m5 m6 = 0 := by rfl
      have HV := Lib.hid (fp_good (m1 := m1) (m2 := m2) (m3 := m3) (m4 := m4) (m5 := m5) (m6 := m6) hp HB HS)
      clear HB HS
      have rm := nums6 hd2
      have hW0 : Below w.heap.size w w1 := by (repeat (first | with_reducible exact Below.refl _ _ | with_reducible refine balloc ?_ _ | with_reducible refine bdrewN ?_ _ | with_reducible refine Below.drew ?_ | with_reducible refine bthen ?_ (by with_reducible assumption) | with_reducible refine Below.setCell ?_ (by first | (simp; done) | (simp; omega)) _))
      (go_wp2_with fail; refine Calls.mono (specFixed_any p m1 m2 m3 m4 m5 m6 _ hp (by omega) (by omega) (by omega) (by omega) (by omega) (by omega)) ?_; rintro e wz ⟨vz, rfl, hoz, hBz⟩)
      go_wp2
      (refine bodyPost_ret (v := .tuple #[vz, .int .i64 (fpC p m1 m2 m3 m4 m5 m6)]) (by simp [results, Try.results35, go_sem, HV.out.2]) rfl (slicePost_mk (by rw [HV.out.1]; exact own_base hoz (by have := hW0.size; simp; omega)) (by (repeat (first | with_reducible exact Below.refl _ _ | with_reducible exact hW0 | with_reducible refine balloc ?_ _ | with_reducible refine bdrewN ?_ _ | with_reducible refine Below.drew ?_ | with_reducible refine bthen ?_ (by with_reducible assumption) | with_reducible refine Below.setCell ?_ (by first | (simp; done) | (simp; omega)) _)))))

set_option linter.unusedVariables false in
set_option linter.unusedSimpArgs false in
set_option maxRecDepth 20000 in
set_option maxHeartbeats 4000000 in
theorem implFixedPoints_any (p m1 m2 m3 m4 m5 m6 : Int)  (w : World) :
    Calls Try.prog 36 #[.int .i64 p, .agg #[.int .i64 m1, .int .i64 m2, .int .i64 m3, .int .i64 m4, .int .i64 m5, .int .i64 m6]] w fun e w' =>
      SlicePost 28 2 (fpL p m1 m2 m3 m4 m5 m6) (fpC p m1 m2 m3 m4 m5 m6) w e w' := by
  go_enter Try.func36, Try.ntmps36
  rcases bool_ways (isP p) with hd1 | hd1
  · skip
    have c_1 : codeOf p (numsIn p [m1, m2, m3, m4, m5, m6]) = 1 := codeOf_no hd1
    have cN : ∀ b, codeOf p b = 1 := fun b => codeOf_no hd1
    go_wp2_with fail
    refine Calls.mono (implMaps1 _ _ _ _ _ _ _ _ _ (by first | rfl | (simp; done))) ?_
    rintro e w1 ⟨rfl, hB1⟩
    (obtain ⟨hB1c, hB1f⟩ := bcell hB1; have hB1s := hB1.size; (try simp at hB1s); (try have hB1q1 := Nat.lt_of_succ_le hB1s); (try have hB1q2 := Nat.lt_of_succ_lt hB1q1); (try have hB1q3 := Nat.lt_of_succ_lt hB1q2); (try have hB1zw0 : w.heap.size < w1.heap.size := (by omega)); (try have hB1zw1 : w.heap.size + 1 < w1.heap.size := (by omega)); (try have hB1zw2 : w.heap.size + 1 + 1 < w1.heap.size := (by omega)); (try have hB1zw3 : w.heap.size + 1 + 1 + 1 < w1.heap.size := (by omega)); (try have hB1zw4 : w.heap.size + 1 + 1 + 1 + 1 < w1.heap.size := (by omega)))
    go_wp2_with fail
    refine Calls.mono (codeFor_any _ _ _) ?_
    rintro e w' ⟨rfl, rfl⟩
    have HV := Lib.hid (fp_no (m1 := m1) (m2 := m2) (m3 := m3) (m4 := m4) (m5 := m5) (m6 := m6) hd1)
    go_wp2
    (refine bodyPost_ret (v := .tuple #[.slice none 0 0, .int .i64 (fpC p m1 m2 m3 m4 m5 m6)]) (by simp [results, Try.results36, go_sem, HV.out.2]) rfl (slicePost_nil HV.out.1 ?_))
    (repeat (first | with_reducible exact Below.refl _ _ | with_reducible refine balloc ?_ _ | with_reducible refine bdrewN ?_ _ | with_reducible refine Below.drew ?_ | with_reducible refine bthen ?_ (by with_reducible assumption) | with_reducible refine Below.setCell ?_ (by first | (simp; done) | (simp; omega)) _))
  · have hp := hd1
    have hr := isP_range hp
    rcases bool_ways (numsIn p [m1, m2, m3, m4, m5, m6]) with hd2 | hd2
    · skip
      have c_1 : codeOf p (numsIn p [m1, m2, m3, m4, m5, m6]) = 2 := codeOf_out hp (by simp [hd2])
      have cT : codeOf p true = 0 := codeOf_in hp rfl
      have cF : codeOf p false = 2 := codeOf_out hp rfl
      go_wp2_with fail
      refine Calls.mono (implMaps1 _ _ _ _ _ _ _ _ _ (by first | rfl | (simp; done))) ?_
      rintro e w1 ⟨rfl, hB1⟩
      (obtain ⟨hB1c, hB1f⟩ := bcell hB1; have hB1s := hB1.size; (try simp at hB1s); (try have hB1q1 := Nat.lt_of_succ_le hB1s); (try have hB1q2 := Nat.lt_of_succ_lt hB1q1); (try have hB1q3 := Nat.lt_of_succ_lt hB1q2); (try have hB1zw0 : w.heap.size < w1.heap.size := (by omega)); (try have hB1zw1 : w.heap.size + 1 < w1.heap.size := (by omega)); (try have hB1zw2 : w.heap.size + 1 + 1 < w1.heap.size := (by omega)); (try have hB1zw3 : w.heap.size + 1 + 1 + 1 < w1.heap.size := (by omega)); (try have hB1zw4 : w.heap.size + 1 + 1 + 1 + 1 < w1.heap.size := (by omega)))
      go_wp2_with fail
      refine Calls.mono (codeFor_any _ _ _) ?_
      rintro e w' ⟨rfl, rfl⟩
      have HV := Lib.hid (fp_out (m1 := m1) (m2 := m2) (m3 := m3) (m4 := m4) (m5 := m5) (m6 := m6) hp (by simp [fpB, hd1, hd2]))
      go_wp2
      (refine bodyPost_ret (v := .tuple #[.slice none 0 0, .int .i64 (fpC p m1 m2 m3 m4 m5 m6)]) (by simp [results, Try.results36, go_sem, HV.out.2]) rfl (slicePost_nil HV.out.1 ?_))
      (repeat (first | with_reducible exact Below.refl _ _ | with_reducible refine balloc ?_ _ | with_reducible refine bdrewN ?_ _ | with_reducible refine Below.drew ?_ | with_reducible refine bthen ?_ (by with_reducible assumption) | with_reducible refine Below.setCell ?_ (by first | (simp; done) | (simp; omega)) _))
    · have hd2q := nums6 hd2
      have c_1 : codeOf p (numsIn p [m1, m2, m3, m4, m5, m6]) = 0 := codeOf_in hp (by simp [hd2])
      have cT : codeOf p true = 0 := codeOf_in hp rfl
      go_wp2_with fail
      refine Calls.mono (implMaps1 _ _ _ _ _ _ _ _ _ (by first | rfl | (simp; done))) ?_
      rintro e w1 ⟨rfl, hB1⟩
      (obtain ⟨hB1c, hB1f⟩ := bcell hB1; have hB1s := hB1.size; (try simp at hB1s); (try have hB1q1 := Nat.lt_of_succ_le hB1s); (try have hB1q2 := Nat.lt_of_succ_lt hB1q1); (try have hB1q3 := Nat.lt_of_succ_lt hB1q2); (try have hB1zw0 : w.heap.size < w1.heap.size := (by omega)); (try have hB1zw1 : w.heap.size + 1 < w1.heap.size := (by omega)); (try have hB1zw2 : w.heap.size + 1 + 1 < w1.heap.size := (by omega)); (try have hB1zw3 : w.heap.size + 1 + 1 + 1 < w1.heap.size := (by omega)); (try have hB1zw4 : w.heap.size + 1 + 1 + 1 + 1 < w1.heap.size := (by omega)))
      go_wp2_with fail
      refine Calls.mono (codeFor_any _ _ _) ?_
      rintro e w' ⟨rfl, rfl⟩
      have HB : fpB p m1 m2 m3 m4 m5 m6 = true := by simp [fpB, hd1, hd2]
      have HS : fpS p m1 m2 m3 m4 m5 m6 = 0 := by rfl
      have HV := Lib.hid (fp_good (m1 := m1) (m2 := m2) (m3 := m3) (m4 := m4) (m5 := m5) (m6 := m6) hp HB HS)
      clear HB HS
      have rm := nums6 hd2
      have hW0 : Below w.heap.size w w1 := by (repeat (first | with_reducible exact Below.refl _ _ | with_reducible refine balloc ?_ _ | with_reducible refine bdrewN ?_ _ | with_reducible refine Below.drew ?_ | with_reducible refine bthen ?_ (by with_reducible assumption) | with_reducible refine Below.setCell ?_ (by first | (simp; done) | (simp; omega)) _))
      (go_wp2_with fail; refine Calls.mono (implFixed_any p m1 m2 m3 m4 m5 m6 _ hp (by omega) (by omega) (by omega) (by omega) (by omega) (by omega)) ?_; rintro e wz ⟨vz, rfl, hoz, hBz⟩)
      go_wp2
      (refine bodyPost_ret (v := .tuple #[vz, .int .i64 (fpC p m1 m2 m3 m4 m5 m6)]) (by simp [results, Try.results36, go_sem, HV.out.2]) rfl (slicePost_mk (by rw [HV.out.1]; exact own_base hoz (by have := hW0.size; simp; omega)) (by (repeat (first | with_reducible exact Below.refl _ _ | with_reducible exact hW0 | with_reducible refine balloc ?_ _ | with_reducible refine bdrewN ?_ _ | with_reducible refine Below.drew ?_ | with_reducible refine bthen ?_ (by with_reducible assumption) | with_reducible refine Below.setCell ?_ (by first | (simp; done) | (simp; omega)) _)))))

theorem fp_len (p m1 m2 m3 m4 m5 m6 : Int) : (fpL p m1 m2 m3 m4 m5 m6).length ≤ 4096 := by
  unfold fpL
  split
  · rename_i h
    have hp : isP p = true := by
      cases hh : isP p
      · simp [fpC, hh] at h
      · rfl
    have hr := isP_range hp
    have h2 : (fxL p m1 m2 m3 m4 m5 m6).length ≤ 961 := Nat.le_trans (gridL_le _ _ _) (Nat.le_trans (Nat.mul_le_mul (by omega : p.toNat ≤ 31) (by omega : p.toNat ≤ 31)) (by decide))
    rw [flat_length]
    omega
  · simp

end Go.Proofs.Ythfckpfiechloaa
