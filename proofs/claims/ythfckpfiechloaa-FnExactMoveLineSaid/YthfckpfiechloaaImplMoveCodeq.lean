/-
  impl.codeForMove.
-/
import Derived.Test.YthfckpfiechloaaMgq0
import Derived.Test.YthfckpfiechloaaImplMapsq
import Derived.Test.YthfckpfiechloaaImplIsMoveq
import Derived.Test.YthfckpfiechloaaMgq1
import Derived.Deep.RegionHeld3
import Derived.Deep.DeepCutAuto

namespace Go.Proofs.Ythfckpfiechloaa
open Go.RowKit

set_option linter.unusedVariables false in
set_option linter.unusedSimpArgs false in
set_option maxRecDepth 20000 in
set_option maxHeartbeats 4000000 in
theorem implMoveCode_any (p c m1 m2 m3 m4 m5 m6 : Int) (b : Bool)  (w : World) :
    Calls Try.prog 68 #[.int .i64 p, .int .i64 c, .agg #[.int .i64 m1, .int .i64 m2, .int .i64 m3, .int .i64 m4, .int .i64 m5, .int .i64 m6], .bool b] w fun e w' =>
      e = .returned (.int .i64 (mvCb b p c m1 m2 m3 m4 m5 m6)) ∧ Below w.heap.size w w' := by
  go_enter Try.func68, Try.ntmps68
  rcases bool_ways b with hd1 | hd1
  · skip
    rcases bool_ways (isP p) with hd2 | hd2
    · skip
      have c_1 : codeOf p false = 1 := codeOf_no hd2
      have cN : ∀ b, codeOf p b = 1 := fun b => codeOf_no hd2
      go_wp2_with fail
      refine Calls.mono (codeFor_any _ _ _) ?_
      rintro e w' ⟨rfl, rfl⟩
      have HB2 : mvCb false p c m1 m2 m3 m4 m5 m6 = 1 := by simp [mvCb, hd1, hd2]
      have HV := Lib.hid (show mvCb b p c m1 m2 m3 m4 m5 m6 = 1 from by simp [mvCb, hd1, hd2])
      go_wp2
      (refine bodyPost_ret (v := .int .i64 (mvCb b p c m1 m2 m3 m4 m5 m6)) (by simp [results, Try.results68, go_sem, HV.out, *]) rfl ⟨?_, ?_⟩)
      · rfl
      · (repeat (first | with_reducible exact Below.refl _ _ | with_reducible refine balloc ?_ _ | with_reducible refine bdrewN ?_ _ | with_reducible refine Below.drew ?_ | with_reducible refine bthen ?_ (by with_reducible assumption) | with_reducible refine Below.setCell ?_ (by first | (simp; done) | (simp; omega)) _))
    · have hp := hd2
      have hr := isP_range hp
      have c_1 : codeOf p false = 2 := codeOf_out hp (by simp)
      have cT : codeOf p true = 0 := codeOf_in hp rfl
      have cF : codeOf p false = 2 := codeOf_out hp rfl
      go_wp2_with fail
      refine Calls.mono (codeFor_any _ _ _) ?_
      rintro e w' ⟨rfl, rfl⟩
      have cT : codeOf p true = 0 := codeOf_in hp rfl
      have cF : codeOf p false = 2 := codeOf_out hp rfl
      have HB2 : mvCb false p c m1 m2 m3 m4 m5 m6 = 2 := by simp [mvCb, hd1, hd2]
      have HV := Lib.hid (show mvCb b p c m1 m2 m3 m4 m5 m6 = 2 from by simp [mvCb, hd1, hd2])
      go_wp2
      (refine bodyPost_ret (v := .int .i64 (mvCb b p c m1 m2 m3 m4 m5 m6)) (by simp [results, Try.results68, go_sem, HV.out, *]) rfl ⟨?_, ?_⟩)
      · rfl
      · (repeat (first | with_reducible exact Below.refl _ _ | with_reducible refine balloc ?_ _ | with_reducible refine bdrewN ?_ _ | with_reducible refine Below.drew ?_ | with_reducible refine bthen ?_ (by with_reducible assumption) | with_reducible refine Below.setCell ?_ (by first | (simp; done) | (simp; omega)) _))
  · skip
    rcases bool_ways (colB c) with hd2 | hd2
    · skip
      rcases bool_ways (isP p) with hd3 | hd3
      · skip
        have c_1 : codeOf p false = 1 := codeOf_no hd3
        have cN : ∀ b, codeOf p b = 1 := fun b => codeOf_no hd3
        go_wp2_with fail
        refine Calls.mono (isColour_any _ _) ?_
        rintro e w' ⟨rfl, rfl⟩
        go_wp2_with fail
        refine Calls.mono (codeFor_any _ _ _) ?_
        rintro e w' ⟨rfl, rfl⟩
        have HB2 : mvCb true p c m1 m2 m3 m4 m5 m6 = 1 := by simp [mvCb, hd1, hd2, hd3]
        have HV := Lib.hid (show mvCb b p c m1 m2 m3 m4 m5 m6 = 1 from by simp [mvCb, hd1, hd2, hd3])
        go_wp2
        (refine bodyPost_ret (v := .int .i64 (mvCb b p c m1 m2 m3 m4 m5 m6)) (by simp [results, Try.results68, go_sem, HV.out, *]) rfl ⟨?_, ?_⟩)
        · rfl
        · (repeat (first | with_reducible exact Below.refl _ _ | with_reducible refine balloc ?_ _ | with_reducible refine bdrewN ?_ _ | with_reducible refine Below.drew ?_ | with_reducible refine bthen ?_ (by with_reducible assumption) | with_reducible refine Below.setCell ?_ (by first | (simp; done) | (simp; omega)) _))
      · have hp := hd3
        have hr := isP_range hp
        have c_1 : codeOf p false = 2 := codeOf_out hp (by simp)
        have cT : codeOf p true = 0 := codeOf_in hp rfl
        have cF : codeOf p false = 2 := codeOf_out hp rfl
        go_wp2_with fail
        refine Calls.mono (isColour_any _ _) ?_
        rintro e w' ⟨rfl, rfl⟩
        go_wp2_with fail
        refine Calls.mono (codeFor_any _ _ _) ?_
        rintro e w' ⟨rfl, rfl⟩
        have cT : codeOf p true = 0 := codeOf_in hp rfl
        have cF : codeOf p false = 2 := codeOf_out hp rfl
        have HB2 : mvCb true p c m1 m2 m3 m4 m5 m6 = 2 := by simp [mvCb, hd1, hd2, hd3]
        have HV := Lib.hid (show mvCb b p c m1 m2 m3 m4 m5 m6 = 2 from by simp [mvCb, hd1, hd2, hd3])
        go_wp2
        (refine bodyPost_ret (v := .int .i64 (mvCb b p c m1 m2 m3 m4 m5 m6)) (by simp [results, Try.results68, go_sem, HV.out, *]) rfl ⟨?_, ?_⟩)
        · rfl
        · (repeat (first | with_reducible exact Below.refl _ _ | with_reducible refine balloc ?_ _ | with_reducible refine bdrewN ?_ _ | with_reducible refine Below.drew ?_ | with_reducible refine bthen ?_ (by with_reducible assumption) | with_reducible refine Below.setCell ?_ (by first | (simp; done) | (simp; omega)) _))
    · have hc := hd2
      have hcr := colB_range hc
      rcases bool_ways (isP p) with hd3 | hd3
      · skip
        have c_1 : codeOf p (numsIn p [m1, m2, m3, m4, m5, m6]) = 1 := codeOf_no hd3
        have cN : ∀ b, codeOf p b = 1 := fun b => codeOf_no hd3
        go_wp2_with fail
        refine Calls.mono (isColour_any _ _) ?_
        rintro e w' ⟨rfl, rfl⟩
        go_wp2_with fail
        refine Calls.mono (implMaps1 _ _ _ _ _ _ _ _ _ (by first | rfl | (simp; done))) ?_
        rintro e w1 ⟨rfl, hB1⟩
        (obtain ⟨hB1c, hB1f⟩ := bcell hB1; have hB1s := hB1.size; (try simp at hB1s); (try have hB1q1 := Nat.lt_of_succ_le hB1s); (try have hB1q2 := Nat.lt_of_succ_lt hB1q1); (try have hB1q3 := Nat.lt_of_succ_lt hB1q2); (try have hB1zw0 : w.heap.size < w1.heap.size := (by omega)); (try have hB1zw1 : w.heap.size + 1 < w1.heap.size := (by omega)); (try have hB1zw2 : w.heap.size + 1 + 1 < w1.heap.size := (by omega)); (try have hB1zw3 : w.heap.size + 1 + 1 + 1 < w1.heap.size := (by omega)); (try have hB1zw4 : w.heap.size + 1 + 1 + 1 + 1 < w1.heap.size := (by omega)))
        go_wp2_with fail
        refine Calls.mono (codeFor_any _ _ _) ?_
        rintro e w' ⟨rfl, rfl⟩
        have HB2 : mvCb true p c m1 m2 m3 m4 m5 m6 = 1 := by simp [mvCb, hd1, hd2, hd3]
        have HV := Lib.hid (show mvCb b p c m1 m2 m3 m4 m5 m6 = 1 from by simp [mvCb, hd1, hd2, hd3])
        go_wp2
        (refine bodyPost_ret (v := .int .i64 (mvCb b p c m1 m2 m3 m4 m5 m6)) (by simp [results, Try.results68, go_sem, HV.out, *]) rfl ⟨?_, ?_⟩)
        · rfl
        · (repeat (first | with_reducible exact Below.refl _ _ | with_reducible refine balloc ?_ _ | with_reducible refine bdrewN ?_ _ | with_reducible refine Below.drew ?_ | with_reducible refine bthen ?_ (by with_reducible assumption) | with_reducible refine Below.setCell ?_ (by first | (simp; done) | (simp; omega)) _))
      · have hp := hd3
        have hr := isP_range hp
        rcases bool_ways (numsIn p [m1, m2, m3, m4, m5, m6]) with hd4 | hd4
        · skip
          have c_1 : codeOf p (numsIn p [m1, m2, m3, m4, m5, m6]) = 2 := codeOf_out hp (by simp [hd4])
          have cT : codeOf p true = 0 := codeOf_in hp rfl
          have cF : codeOf p false = 2 := codeOf_out hp rfl
          go_wp2_with fail
          refine Calls.mono (isColour_any _ _) ?_
          rintro e w' ⟨rfl, rfl⟩
          go_wp2_with fail
          refine Calls.mono (implMaps1 _ _ _ _ _ _ _ _ _ (by first | rfl | (simp; done))) ?_
          rintro e w1 ⟨rfl, hB1⟩
          (obtain ⟨hB1c, hB1f⟩ := bcell hB1; have hB1s := hB1.size; (try simp at hB1s); (try have hB1q1 := Nat.lt_of_succ_le hB1s); (try have hB1q2 := Nat.lt_of_succ_lt hB1q1); (try have hB1q3 := Nat.lt_of_succ_lt hB1q2); (try have hB1zw0 : w.heap.size < w1.heap.size := (by omega)); (try have hB1zw1 : w.heap.size + 1 < w1.heap.size := (by omega)); (try have hB1zw2 : w.heap.size + 1 + 1 < w1.heap.size := (by omega)); (try have hB1zw3 : w.heap.size + 1 + 1 + 1 < w1.heap.size := (by omega)); (try have hB1zw4 : w.heap.size + 1 + 1 + 1 + 1 < w1.heap.size := (by omega)))
          go_wp2_with fail
          refine Calls.mono (codeFor_any _ _ _) ?_
          rintro e w' ⟨rfl, rfl⟩
          have cT : codeOf p true = 0 := codeOf_in hp rfl
          have cF : codeOf p false = 2 := codeOf_out hp rfl
          have HB2 : mvCb true p c m1 m2 m3 m4 m5 m6 = 2 := by simp [mvCb, hd1, hd2, hd3, hd4]
          have HV := Lib.hid (show mvCb b p c m1 m2 m3 m4 m5 m6 = 2 from by simp [mvCb, hd1, hd2, hd3, hd4])
          go_wp2
          (refine bodyPost_ret (v := .int .i64 (mvCb b p c m1 m2 m3 m4 m5 m6)) (by simp [results, Try.results68, go_sem, HV.out, *]) rfl ⟨?_, ?_⟩)
          · rfl
          · (repeat (first | with_reducible exact Below.refl _ _ | with_reducible refine balloc ?_ _ | with_reducible refine bdrewN ?_ _ | with_reducible refine Below.drew ?_ | with_reducible refine bthen ?_ (by with_reducible assumption) | with_reducible refine Below.setCell ?_ (by first | (simp; done) | (simp; omega)) _))
        · have hd4q := nums6 hd4
          have c_1 : codeOf p (numsIn p [m1, m2, m3, m4, m5, m6]) = 0 := codeOf_in hp (by simp [hd4])
          have cT : codeOf p true = 0 := codeOf_in hp rfl
          go_wp2_with fail
          refine Calls.mono (isColour_any _ _) ?_
          rintro e w' ⟨rfl, rfl⟩
          go_wp2_with fail
          refine Calls.mono (implMaps1 _ _ _ _ _ _ _ _ _ (by first | rfl | (simp; done))) ?_
          rintro e w1 ⟨rfl, hB1⟩
          (obtain ⟨hB1c, hB1f⟩ := bcell hB1; have hB1s := hB1.size; (try simp at hB1s); (try have hB1q1 := Nat.lt_of_succ_le hB1s); (try have hB1q2 := Nat.lt_of_succ_lt hB1q1); (try have hB1q3 := Nat.lt_of_succ_lt hB1q2); (try have hB1zw0 : w.heap.size < w1.heap.size := (by omega)); (try have hB1zw1 : w.heap.size + 1 < w1.heap.size := (by omega)); (try have hB1zw2 : w.heap.size + 1 + 1 < w1.heap.size := (by omega)); (try have hB1zw3 : w.heap.size + 1 + 1 + 1 < w1.heap.size := (by omega)); (try have hB1zw4 : w.heap.size + 1 + 1 + 1 + 1 < w1.heap.size := (by omega)))
          go_wp2_with fail
          refine Calls.mono (codeFor_any _ _ _) ?_
          rintro e w' ⟨rfl, rfl⟩
          go_wp2_with fail
          refine Calls.mono (isMove_any _ _ _ _ _ _ _ _ _ hp hc (by omega) (by omega) (by omega) (by omega) (by omega) (by omega)) ?_
          rintro e w2 ⟨rfl, hB2⟩
          (obtain ⟨hB2c, hB2f⟩ := bcell hB2; have hB2s := hB2.size; (try simp at hB2s); (try have hB2q1 := Nat.lt_of_succ_le hB2s); (try have hB2q2 := Nat.lt_of_succ_lt hB2q1); (try have hB2q3 := Nat.lt_of_succ_lt hB2q2); (try have hB2zw0 : w.heap.size < w2.heap.size := (by omega)); (try have hB2zw1 : w.heap.size + 1 < w2.heap.size := (by omega)); (try have hB2zw2 : w.heap.size + 1 + 1 < w2.heap.size := (by omega)); (try have hB2zw3 : w.heap.size + 1 + 1 + 1 < w2.heap.size := (by omega)); (try have hB2zw4 : w.heap.size + 1 + 1 + 1 + 1 < w2.heap.size := (by omega)); (try have hB2zw10 : w1.heap.size < w2.heap.size := (by omega)); (try have hB2zw11 : w1.heap.size + 1 < w2.heap.size := (by omega)); (try have hB2zw12 : w1.heap.size + 1 + 1 < w2.heap.size := (by omega)); (try have hB2zw13 : w1.heap.size + 1 + 1 + 1 < w2.heap.size := (by omega)); (try have hB2zw14 : w1.heap.size + 1 + 1 + 1 + 1 < w2.heap.size := (by omega)))
          rcases bool_ways (mvB p c m1 m2 m3 m4) with hd5 | hd5
          · skip
            have cT : codeOf p true = 0 := codeOf_in hp rfl
            have cF : codeOf p false = 2 := codeOf_out hp rfl
            have HB2 : mvCb true p c m1 m2 m3 m4 m5 m6 = 5 := by simp [mvCb, hd1, hd2, hd3, hd4, hd5]
            have HV := Lib.hid (show mvCb b p c m1 m2 m3 m4 m5 m6 = 5 from by simp [mvCb, hd1, hd2, hd3, hd4, hd5])
            go_wp2
            (refine bodyPost_ret (v := .int .i64 (mvCb b p c m1 m2 m3 m4 m5 m6)) (by simp [results, Try.results68, go_sem, HV.out, *]) rfl ⟨?_, ?_⟩)
            · rfl
            · (repeat (first | with_reducible exact Below.refl _ _ | with_reducible refine balloc ?_ _ | with_reducible refine bdrewN ?_ _ | with_reducible refine Below.drew ?_ | with_reducible refine bthen ?_ (by with_reducible assumption) | with_reducible refine Below.setCell ?_ (by first | (simp; done) | (simp; omega)) _))
          · skip
            have cT : codeOf p true = 0 := codeOf_in hp rfl
            have cF : codeOf p false = 2 := codeOf_out hp rfl
            have HB2 : mvCb true p c m1 m2 m3 m4 m5 m6 = 0 := by simp [mvCb, hd1, hd2, hd3, hd4, hd5]
            have HV := Lib.hid (show mvCb b p c m1 m2 m3 m4 m5 m6 = 0 from by simp [mvCb, hd1, hd2, hd3, hd4, hd5])
            go_wp2
            (refine bodyPost_ret (v := .int .i64 (mvCb b p c m1 m2 m3 m4 m5 m6)) (by simp [results, Try.results68, go_sem, HV.out, *]) rfl ⟨?_, ?_⟩)
            · rfl
            · (repeat (first | with_reducible exact Below.refl _ _ | with_reducible refine balloc ?_ _ | with_reducible refine bdrewN ?_ _ | with_reducible refine Below.drew ?_ | with_reducible refine bthen ?_ (by with_reducible assumption) | with_reducible refine Below.setCell ?_ (by first | (simp; done) | (simp; omega)) _))

end Go.Proofs.Ythfckpfiechloaa
