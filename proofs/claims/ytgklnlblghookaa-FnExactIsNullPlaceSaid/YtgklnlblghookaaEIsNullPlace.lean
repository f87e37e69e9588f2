/-
  IsNullPlace: the program's and the model's.
-/
import Derived.Test.YtgklnlblghookaaSpecNull
import Derived.Test.YtgklnlblghookaaImplNull
import Derived.Test.YtgklnlblghookaaImplPlaces1
import Derived.Test.YtgklnlblghookaaSpecPlCode
import Derived.Test.YtgklnlblghookaaCode
import Derived.Test.YtgklnlblghookaaLast
import Derived.Deep.RegionHeld3
import Derived.Deep.DeepCutAuto
import Derived.Test.YtgklnlblghookaaBaseMath
namespace Go.Proofs.Ytgklnlblghookaa
open Go.RowKit

set_option linter.unusedVariables false in
def ipB (p a1 a2 a3 : Int) : Bool := plB p a1 a2 a3
set_option linter.unusedVariables false in
def ipS (p a1 a2 a3 : Int) : Int := 0
set_option linter.unusedVariables false in
def ipC (p a1 a2 a3 : Int) : Int := if isP p = true then (if ipB p a1 a2 a3 = true then ipS p a1 a2 a3 else 2) else 1
set_option linter.unusedVariables false in
def ipV1 (p a1 a2 a3 : Int) : Bool := if ipC p a1 a2 a3 = 0 then (ppd p a1 a2 a3 a1 a2 a3 == 0) else false
theorem ip_zero {p a1 a2 a3 k : Int} (h : ipC p a1 a2 a3 = k) (hk : k ≠ 0) : ipV1 p a1 a2 a3 = false ∧ ipC p a1 a2 a3 = k := by
  have hn : ¬ (ipC p a1 a2 a3 = 0) := fun e => hk (h.symm.trans e)
  exact ⟨if_neg hn, h⟩
theorem ip_no {p a1 a2 a3 : Int} (h : isP p = false) : ipV1 p a1 a2 a3 = false ∧ ipC p a1 a2 a3 = 1 := ip_zero (by simp [ipC, h]) (by decide)
theorem ip_out {p a1 a2 a3 : Int} (hp : isP p = true) (h : ipB p a1 a2 a3 = false) : ipV1 p a1 a2 a3 = false ∧ ipC p a1 a2 a3 = 2 := ip_zero (by simp [ipC, hp, h]) (by decide)
theorem ip_st {p a1 a2 a3 k : Int} (hp : isP p = true) (h : ipB p a1 a2 a3 = true) (hs : ipS p a1 a2 a3 = k) (hk : k ≠ 0) : ipV1 p a1 a2 a3 = false ∧ ipC p a1 a2 a3 = k := ip_zero (by simp [ipC, hp, h, hs]) hk
theorem ip_good {p a1 a2 a3 : Int} (hp : isP p = true) (h : ipB p a1 a2 a3 = true) (hs : ipS p a1 a2 a3 = 0) : ipV1 p a1 a2 a3 = (ppd p a1 a2 a3 a1 a2 a3 == 0) ∧ ipC p a1 a2 a3 = 0 := by
  have h' : ipC p a1 a2 a3 = 0 := by simp [ipC, hp, h, hs]
  exact ⟨if_pos h', h'⟩

set_option linter.unusedVariables false in
set_option linter.unusedSimpArgs false in
set_option maxRecDepth 20000 in
set_option maxHeartbeats 4000000 in
theorem specIsNullPlace_any (p a1 a2 a3 : Int)  (w : World) :
    Calls Try.prog 18 #[.int .i64 p, .agg #[.int .i64 a1, .int .i64 a2, .int .i64 a3]] w fun e w' =>
      e = .returned (.tuple #[.bool (ipV1 p a1 a2 a3), .int .i64 (ipC p a1 a2 a3)]) ∧ Below w.heap.size w w' := by
  go_enter Try.func18, Try.ntmps18
  rcases bool_ways (isP p) with hd1 | hd1
  · skip
    have c_1 : codeOf p (plB p a1 a2 a3) = 1 := codeOf_no hd1
    have cN : ∀ b, codeOf p b = 1 := fun b => codeOf_no hd1
    go_wp2_with fail
    refine Calls.mono (specPlCode1 _ _ _ _ _ _ (by first | rfl | (simp; done))) ?_
    rintro e w1 ⟨rfl, hB1⟩
    (obtain ⟨hB1c, hB1f⟩ := bcell hB1; have hB1s := hB1.size; (try simp at hB1s); (try have hB1q1 := Nat.lt_of_succ_le hB1s); (try have hB1q2 := Nat.lt_of_succ_lt hB1q1); (try have hB1q3 := Nat.lt_of_succ_lt hB1q2); (try have hB1zw0 : w.heap.size < w1.heap.size := (by omega)); (try have hB1zw1 : w.heap.size + 1 < w1.heap.size := (by omega)); (try have hB1zw2 : w.heap.size + 1 + 1 < w1.heap.size := (by omega)); (try have hB1zw3 : w.heap.size + 1 + 1 + 1 < w1.heap.size := (by omega)); (try have hB1zw4 : w.heap.size + 1 + 1 + 1 + 1 < w1.heap.size := (by omega)))
    have HV := Lib.hid (ip_no (a1 := a1) (a2 := a2) (a3 := a3) hd1)
    go_wp2
    (refine bodyPost_ret (v := .tuple #[.bool (ipV1 p a1 a2 a3), .int .i64 (ipC p a1 a2 a3)]) (by simp [results, Try.results18, go_sem, HV.out.1, HV.out.2, *]) rfl ⟨?_, ?_⟩)
    · rfl
    · (repeat (first | with_reducible exact Below.refl _ _ | with_reducible refine balloc ?_ _ | with_reducible refine bdrewN ?_ _ | with_reducible refine Below.drew ?_ | with_reducible refine bthen ?_ (by with_reducible assumption) | with_reducible refine Below.setCell ?_ (by first | (simp; done) | (simp; omega)) _))
  · have hp := hd1
    have hr := isP_range hp
    rcases bool_ways (plB p a1 a2 a3) with hd2 | hd2
    · skip
      have c_1 : codeOf p (plB p a1 a2 a3) = 2 := codeOf_out hp (by simp [hd2])
      have cT : codeOf p true = 0 := codeOf_in hp rfl
      have cF : codeOf p false = 2 := codeOf_out hp rfl
      go_wp2_with fail
      refine Calls.mono (specPlCode1 _ _ _ _ _ _ (by first | rfl | (simp; done))) ?_
      rintro e w1 ⟨rfl, hB1⟩
      (obtain ⟨hB1c, hB1f⟩ := bcell hB1; have hB1s := hB1.size; (try simp at hB1s); (try have hB1q1 := Nat.lt_of_succ_le hB1s); (try have hB1q2 := Nat.lt_of_succ_lt hB1q1); (try have hB1q3 := Nat.lt_of_succ_lt hB1q2); (try have hB1zw0 : w.heap.size < w1.heap.size := (by omega)); (try have hB1zw1 : w.heap.size + 1 < w1.heap.size := (by omega)); (try have hB1zw2 : w.heap.size + 1 + 1 < w1.heap.size := (by omega)); (try have hB1zw3 : w.heap.size + 1 + 1 + 1 < w1.heap.size := (by omega)); (try have hB1zw4 : w.heap.size + 1 + 1 + 1 + 1 < w1.heap.size := (by omega)))
      have HV := Lib.hid (ip_out (a1 := a1) (a2 := a2) (a3 := a3) hp (by simp [ipB, hd1, hd2]))
      go_wp2
      (refine bodyPost_ret (v := .tuple #[.bool (ipV1 p a1 a2 a3), .int .i64 (ipC p a1 a2 a3)]) (by simp [results, Try.results18, go_sem, HV.out.1, HV.out.2, *]) rfl ⟨?_, ?_⟩)
      · rfl
      · (repeat (first | with_reducible exact Below.refl _ _ | with_reducible refine balloc ?_ _ | with_reducible refine bdrewN ?_ _ | with_reducible refine Below.drew ?_ | with_reducible refine bthen ?_ (by with_reducible assumption) | with_reducible refine Below.setCell ?_ (by first | (simp; done) | (simp; omega)) _))
    · have hd2q := nums3 (plB_nums hd2)
      have c_1 : codeOf p (plB p a1 a2 a3) = 0 := codeOf_in hp (by simp [hd2])
      have cT : codeOf p true = 0 := codeOf_in hp rfl
      go_wp2_with fail
      refine Calls.mono (specPlCode1 _ _ _ _ _ _ (by first | rfl | (simp; done))) ?_
      rintro e w1 ⟨rfl, hB1⟩
      (obtain ⟨hB1c, hB1f⟩ := bcell hB1; have hB1s := hB1.size; (try simp at hB1s); (try have hB1q1 := Nat.lt_of_succ_le hB1s); (try have hB1q2 := Nat.lt_of_succ_lt hB1q1); (try have hB1q3 := Nat.lt_of_succ_lt hB1q2); (try have hB1zw0 : w.heap.size < w1.heap.size := (by omega)); (try have hB1zw1 : w.heap.size + 1 < w1.heap.size := (by omega)); (try have hB1zw2 : w.heap.size + 1 + 1 < w1.heap.size := (by omega)); (try have hB1zw3 : w.heap.size + 1 + 1 + 1 < w1.heap.size := (by omega)); (try have hB1zw4 : w.heap.size + 1 + 1 + 1 + 1 < w1.heap.size := (by omega)))
      go_wp2_with fail
      refine Calls.mono (specNull_any _ _ _ _ _ hp (by omega) (by omega) (by omega)) ?_
      rintro e w2 ⟨rfl, hB2⟩
      (obtain ⟨hB2c, hB2f⟩ := bcell hB2; have hB2s := hB2.size; (try simp at hB2s); (try have hB2q1 := Nat.lt_of_succ_le hB2s); (try have hB2q2 := Nat.lt_of_succ_lt hB2q1); (try have hB2q3 := Nat.lt_of_succ_lt hB2q2); (try have hB2zw0 : w.heap.size < w2.heap.size := (by omega)); (try have hB2zw1 : w.heap.size + 1 < w2.heap.size := (by omega)); (try have hB2zw2 : w.heap.size + 1 + 1 < w2.heap.size := (by omega)); (try have hB2zw3 : w.heap.size + 1 + 1 + 1 < w2.heap.size := (by omega)); (try have hB2zw4 : w.heap.size + 1 + 1 + 1 + 1 < w2.heap.size := (by omega)); (try have hB2zw10 : w1.heap.size < w2.heap.size := (by omega)); (try have hB2zw11 : w1.heap.size + 1 < w2.heap.size := (by omega)); (try have hB2zw12 : w1.heap.size + 1 + 1 < w2.heap.size := (by omega)); (try have hB2zw13 : w1.heap.size + 1 + 1 + 1 < w2.heap.size := (by omega)); (try have hB2zw14 : w1.heap.size + 1 + 1 + 1 + 1 < w2.heap.size := (by omega)))
      have HB : ipB p a1 a2 a3 = true := by simp [ipB, hd1, hd2]
      have HS : ipS p a1 a2 a3 = 0 := by rfl
      have HV := Lib.hid (show ipV1 p a1 a2 a3 = (ppd p a1 a2 a3 a1 a2 a3 == 0) ∧ ipC p a1 a2 a3 = 0 from by
        have HG := ip_good (a1 := a1) (a2 := a2) (a3 := a3) hp HB HS
        refine ⟨(HG.1).trans ?_, HG.2⟩
        all_goals (simp only [] <;> simp [hd1, hd2]))
      clear HB HS
      go_wp2
      (refine bodyPost_ret (v := .tuple #[.bool (ipV1 p a1 a2 a3), .int .i64 (ipC p a1 a2 a3)]) (by simp [results, Try.results18, go_sem, HV.out.1, HV.out.2, *]) rfl ⟨?_, ?_⟩)
      · rfl
      · (repeat (first | with_reducible exact Below.refl _ _ | with_reducible refine balloc ?_ _ | with_reducible refine bdrewN ?_ _ | with_reducible refine Below.drew ?_ | with_reducible refine bthen ?_ (by with_reducible assumption) | with_reducible refine Below.setCell ?_ (by first | (simp; done) | (simp; omega)) _))

set_option linter.unusedVariables false in
set_option linter.unusedSimpArgs false in
set_option maxRecDepth 20000 in
set_option maxHeartbeats 4000000 in
theorem implIsNullPlace_any (p a1 a2 a3 : Int)  (w : World) :
    Calls Try.prog 19 #[.int .i64 p, .agg #[.int .i64 a1, .int .i64 a2, .int .i64 a3]] w fun e w' =>
      e = .returned (.tuple #[.bool (ipV1 p a1 a2 a3), .int .i64 (ipC p a1 a2 a3)]) ∧ Below w.heap.size w w' := by
  go_enter Try.func19, Try.ntmps19
  rcases bool_ways (isP p) with hd1 | hd1
  · skip
    have c_1 : codeOf p (plB p a1 a2 a3) = 1 := codeOf_no hd1
    have cN : ∀ b, codeOf p b = 1 := fun b => codeOf_no hd1
    go_wp2_with fail
    refine Calls.mono (implPlaces1 _ _ _ _ _ _ (by first | rfl | (simp; done))) ?_
    rintro e w1 ⟨rfl, hB1⟩
    (obtain ⟨hB1c, hB1f⟩ := bcell hB1; have hB1s := hB1.size; (try simp at hB1s); (try have hB1q1 := Nat.lt_of_succ_le hB1s); (try have hB1q2 := Nat.lt_of_succ_lt hB1q1); (try have hB1q3 := Nat.lt_of_succ_lt hB1q2); (try have hB1zw0 : w.heap.size < w1.heap.size := (by omega)); (try have hB1zw1 : w.heap.size + 1 < w1.heap.size := (by omega)); (try have hB1zw2 : w.heap.size + 1 + 1 < w1.heap.size := (by omega)); (try have hB1zw3 : w.heap.size + 1 + 1 + 1 < w1.heap.size := (by omega)); (try have hB1zw4 : w.heap.size + 1 + 1 + 1 + 1 < w1.heap.size := (by omega)))
    go_wp2_with fail
    refine Calls.mono (codeFor_any _ _ _) ?_
    rintro e w' ⟨rfl, rfl⟩
    have HV := Lib.hid (ip_no (a1 := a1) (a2 := a2) (a3 := a3) hd1)
    go_wp2
    (refine bodyPost_ret (v := .tuple #[.bool (ipV1 p a1 a2 a3), .int .i64 (ipC p a1 a2 a3)]) (by simp [results, Try.results19, go_sem, HV.out.1, HV.out.2, *]) rfl ⟨?_, ?_⟩)
    · rfl
    · (repeat (first | with_reducible exact Below.refl _ _ | with_reducible refine balloc ?_ _ | with_reducible refine bdrewN ?_ _ | with_reducible refine Below.drew ?_ | with_reducible refine bthen ?_ (by with_reducible assumption) | with_reducible refine Below.setCell ?_ (by first | (simp; done) | (simp; omega)) _))
  · have hp := hd1
    have hr := isP_range hp
    rcases bool_ways (plB p a1 a2 a3) with hd2 | hd2
    · skip
      have c_1 : codeOf p (plB p a1 a2 a3) = 2 := codeOf_out hp (by simp [hd2])
      have cT : codeOf p true = 0 := codeOf_in hp rfl
      have cF : codeOf p false = 2 := codeOf_out hp rfl
      go_wp2_with fail
      refine Calls.mono (implPlaces1 _ _ _ _ _ _ (by first | rfl | (simp; done))) ?_
      rintro e w1 ⟨rfl, hB1⟩
      (obtain ⟨hB1c, hB1f⟩ := bcell hB1; have hB1s := hB1.size; (try simp at hB1s); (try have hB1q1 := Nat.lt_of_succ_le hB1s); (try have hB1q2 := Nat.lt_of_succ_lt hB1q1); (try have hB1q3 := Nat.lt_of_succ_lt hB1q2); (try have hB1zw0 : w.heap.size < w1.heap.size := (by omega)); (try have hB1zw1 : w.heap.size + 1 < w1.heap.size := (by omega)); (try have hB1zw2 : w.heap.size + 1 + 1 < w1.heap.size := (by omega)); (try have hB1zw3 : w.heap.size + 1 + 1 + 1 < w1.heap.size := (by omega)); (try have hB1zw4 : w.heap.size + 1 + 1 + 1 + 1 < w1.heap.size := (by omega)))
      go_wp2_with fail
      refine Calls.mono (codeFor_any _ _ _) ?_
      rintro e w' ⟨rfl, rfl⟩
      have HV := Lib.hid (ip_out (a1 := a1) (a2 := a2) (a3 := a3) hp (by simp [ipB, hd1, hd2]))
      go_wp2
      (refine bodyPost_ret (v := .tuple #[.bool (ipV1 p a1 a2 a3), .int .i64 (ipC p a1 a2 a3)]) (by simp [results, Try.results19, go_sem, HV.out.1, HV.out.2, *]) rfl ⟨?_, ?_⟩)
      · rfl
      · (repeat (first | with_reducible exact Below.refl _ _ | with_reducible refine balloc ?_ _ | with_reducible refine bdrewN ?_ _ | with_reducible refine Below.drew ?_ | with_reducible refine bthen ?_ (by with_reducible assumption) | with_reducible refine Below.setCell ?_ (by first | (simp; done) | (simp; omega)) _))
    · have hd2q := nums3 (plB_nums hd2)
      have c_1 : codeOf p (plB p a1 a2 a3) = 0 := codeOf_in hp (by simp [hd2])
      have cT : codeOf p true = 0 := codeOf_in hp rfl
      go_wp2_with fail
      refine Calls.mono (implPlaces1 _ _ _ _ _ _ (by first | rfl | (simp; done))) ?_
      rintro e w1 ⟨rfl, hB1⟩
      (obtain ⟨hB1c, hB1f⟩ := bcell hB1; have hB1s := hB1.size; (try simp at hB1s); (try have hB1q1 := Nat.lt_of_succ_le hB1s); (try have hB1q2 := Nat.lt_of_succ_lt hB1q1); (try have hB1q3 := Nat.lt_of_succ_lt hB1q2); (try have hB1zw0 : w.heap.size < w1.heap.size := (by omega)); (try have hB1zw1 : w.heap.size + 1 < w1.heap.size := (by omega)); (try have hB1zw2 : w.heap.size + 1 + 1 < w1.heap.size := (by omega)); (try have hB1zw3 : w.heap.size + 1 + 1 + 1 < w1.heap.size := (by omega)); (try have hB1zw4 : w.heap.size + 1 + 1 + 1 + 1 < w1.heap.size := (by omega)))
      go_wp2_with fail
      refine Calls.mono (codeFor_any _ _ _) ?_
      rintro e w' ⟨rfl, rfl⟩
      go_wp2_with fail
      refine Calls.mono (implNull_any _ _ _ _ _ hp (by omega) (by omega) (by omega)) ?_
      rintro e w2 ⟨rfl, hB2⟩
      (obtain ⟨hB2c, hB2f⟩ := bcell hB2; have hB2s := hB2.size; (try simp at hB2s); (try have hB2q1 := Nat.lt_of_succ_le hB2s); (try have hB2q2 := Nat.lt_of_succ_lt hB2q1); (try have hB2q3 := Nat.lt_of_succ_lt hB2q2); (try have hB2zw0 : w.heap.size < w2.heap.size := (by omega)); (try have hB2zw1 : w.heap.size + 1 < w2.heap.size := (by omega)); (try have hB2zw2 : w.heap.size + 1 + 1 < w2.heap.size := (by omega)); (try have hB2zw3 : w.heap.size + 1 + 1 + 1 < w2.heap.size := (by omega)); (try have hB2zw4 : w.heap.size + 1 + 1 + 1 + 1 < w2.heap.size := (by omega)); (try have hB2zw10 : w1.heap.size < w2.heap.size := (by omega)); (try have hB2zw11 : w1.heap.size + 1 < w2.heap.size := (by omega)); (try have hB2zw12 : w1.heap.size + 1 + 1 < w2.heap.size := (by omega)); (try have hB2zw13 : w1.heap.size + 1 + 1 + 1 < w2.heap.size := (by omega)); (try have hB2zw14 : w1.heap.size + 1 + 1 + 1 + 1 < w2.heap.size := (by omega)))
      have HB : ipB p a1 a2 a3 = true := by simp [ipB, hd1, hd2]
      have HS : ipS p a1 a2 a3 = 0 := by rfl
      have HV := Lib.hid (show ipV1 p a1 a2 a3 = (ppd p a1 a2 a3 a1 a2 a3 == 0) ∧ ipC p a1 a2 a3 = 0 from by
        have HG := ip_good (a1 := a1) (a2 := a2) (a3 := a3) hp HB HS
        refine ⟨(HG.1).trans ?_, HG.2⟩
        all_goals (simp only [] <;> simp [hd1, hd2]))
      clear HB HS
      go_wp2
      (refine bodyPost_ret (v := .tuple #[.bool (ipV1 p a1 a2 a3), .int .i64 (ipC p a1 a2 a3)]) (by simp [results, Try.results19, go_sem, HV.out.1, HV.out.2, *]) rfl ⟨?_, ?_⟩)
      · rfl
      · (repeat (first | with_reducible exact Below.refl _ _ | with_reducible refine balloc ?_ _ | with_reducible refine bdrewN ?_ _ | with_reducible refine Below.drew ?_ | with_reducible refine bthen ?_ (by with_reducible assumption) | with_reducible refine Below.setCell ?_ (by first | (simp; done) | (simp; omega)) _))

end Go.Proofs.Ytgklnlblghookaa
