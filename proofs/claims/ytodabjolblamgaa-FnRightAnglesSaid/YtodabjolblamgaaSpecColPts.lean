/-
  spec.l02Code of one, two and three points.
-/
import Derived.Test.YtodabjolblamgaaSpecPts
import Derived.Test.YtodabjolblamgaaSpecCol
namespace Go.Proofs.Ytodabjolblamgaa
open Go.RowKit

set_option maxRecDepth 20000 in
set_option maxHeartbeats 1000000 in
theorem specColCode1 (p col a1 a2 : Int) (b : Nat) (w : World) (hb : b = w.heap.size) :
    Calls Try.prog 61 #[.int .i64 p, .int .i64 col, .slice (some ⟨b, 0, none⟩) 1 1] (w.alloc (.cells #[.int .i64 a1, .int .i64 a2] 25)) fun e w' => e = .returned (.int .i64 (codeOf p (colB col && numsIn p [a1, a2]))) ∧ Below w.heap.size w w' := by
  subst hb
  rcases code_cases p (numsIn p [a1, a2]) with ⟨h0, hp, hn⟩ | h0 | h0
  · cases hc : colB col
    · have HV := Lib.hid (show codeOf p (false && numsIn p [a1, a2]) = 2 by rw [Bool.false_and]; exact codeOf_out hp rfl)
      clear hn
      go_enter Try.func61, Try.ntmps61
      (go_wp2_with fail; refine Calls.mono (specCode1 _ _ _ _ _ (by first | rfl | (simp; done))) ?_; rintro e w1 ⟨rfl, hB1⟩; obtain ⟨hB1c, hB1f⟩ := bcell hB1; have hB1s := hB1.size; (try simp at hB1s); (try have hB1q1 := Nat.lt_of_succ_le hB1s); (try have hB1q2 := Nat.lt_of_succ_lt hB1q1); (try have hB1q3 := Nat.lt_of_succ_lt hB1q2); (try have hB1zw0 : w.heap.size < w1.heap.size := (by omega)); (try have hB1zw1 : w.heap.size + 1 < w1.heap.size := (by omega)); (try have hB1zw2 : w.heap.size + 1 + 1 < w1.heap.size := (by omega)); (try have hB1zw3 : w.heap.size + 1 + 1 + 1 < w1.heap.size := (by omega)); (try have hB1zw4 : w.heap.size + 1 + 1 + 1 + 1 < w1.heap.size := (by omega)))
      (go_wp2_with fail; refine Calls.mono (specColour_any _ _) ?_; rintro e w' ⟨rfl, rfl⟩)
      go_wp2
      go_ret
      exact ⟨ret_int HV.out.symm, hB1⟩
    · have HV := Lib.hid (show codeOf p (true && numsIn p [a1, a2]) = 0 by rw [hn]; exact codeOf_in hp rfl)
      clear hn
      go_enter Try.func61, Try.ntmps61
      (go_wp2_with fail; refine Calls.mono (specCode1 _ _ _ _ _ (by first | rfl | (simp; done))) ?_; rintro e w1 ⟨rfl, hB1⟩; obtain ⟨hB1c, hB1f⟩ := bcell hB1; have hB1s := hB1.size; (try simp at hB1s); (try have hB1q1 := Nat.lt_of_succ_le hB1s); (try have hB1q2 := Nat.lt_of_succ_lt hB1q1); (try have hB1q3 := Nat.lt_of_succ_lt hB1q2); (try have hB1zw0 : w.heap.size < w1.heap.size := (by omega)); (try have hB1zw1 : w.heap.size + 1 < w1.heap.size := (by omega)); (try have hB1zw2 : w.heap.size + 1 + 1 < w1.heap.size := (by omega)); (try have hB1zw3 : w.heap.size + 1 + 1 + 1 < w1.heap.size := (by omega)); (try have hB1zw4 : w.heap.size + 1 + 1 + 1 + 1 < w1.heap.size := (by omega)))
      (go_wp2_with fail; refine Calls.mono (specColour_any _ _) ?_; rintro e w' ⟨rfl, rfl⟩)
      go_wp2
      go_ret
      exact ⟨ret_int HV.out.symm, hB1⟩
  all_goals
    have HV := Lib.hid (show codeOf p (colB col && numsIn p [a1, a2]) = _ from by first | exact code_col_1 h0 | exact code_col_2 h0)
    go_enter Try.func61, Try.ntmps61
    (go_wp2_with fail; refine Calls.mono (specCode1 _ _ _ _ _ (by first | rfl | (simp; done))) ?_; rintro e w1 ⟨rfl, hB1⟩; obtain ⟨hB1c, hB1f⟩ := bcell hB1; have hB1s := hB1.size; (try simp at hB1s); (try have hB1q1 := Nat.lt_of_succ_le hB1s); (try have hB1q2 := Nat.lt_of_succ_lt hB1q1); (try have hB1q3 := Nat.lt_of_succ_lt hB1q2); (try have hB1zw0 : w.heap.size < w1.heap.size := (by omega)); (try have hB1zw1 : w.heap.size + 1 < w1.heap.size := (by omega)); (try have hB1zw2 : w.heap.size + 1 + 1 < w1.heap.size := (by omega)); (try have hB1zw3 : w.heap.size + 1 + 1 + 1 < w1.heap.size := (by omega)); (try have hB1zw4 : w.heap.size + 1 + 1 + 1 + 1 < w1.heap.size := (by omega)))
    go_wp2
    go_ret
    exact ⟨ret_int HV.out.symm, hB1⟩

set_option maxRecDepth 20000 in
set_option maxHeartbeats 1000000 in
theorem specColCode2 (p col a1 a2 b1 b2 : Int) (b : Nat) (w : World) (hb : b = w.heap.size) :
    Calls Try.prog 61 #[.int .i64 p, .int .i64 col, .slice (some ⟨b, 0, none⟩) 2 2] (w.alloc (.cells #[.int .i64 a1, .int .i64 a2, .int .i64 b1, .int .i64 b2] 25)) fun e w' => e = .returned (.int .i64 (codeOf p (colB col && numsIn p [a1, a2, b1, b2]))) ∧ Below w.heap.size w w' := by
  subst hb
  rcases code_cases p (numsIn p [a1, a2, b1, b2]) with ⟨h0, hp, hn⟩ | h0 | h0
  · cases hc : colB col
    · have HV := Lib.hid (show codeOf p (false && numsIn p [a1, a2, b1, b2]) = 2 by rw [Bool.false_and]; exact codeOf_out hp rfl)
      clear hn
      go_enter Try.func61, Try.ntmps61
      (go_wp2_with fail; refine Calls.mono (specCode2 _ _ _ _ _ _ _ (by first | rfl | (simp; done))) ?_; rintro e w1 ⟨rfl, hB1⟩; obtain ⟨hB1c, hB1f⟩ := bcell hB1; have hB1s := hB1.size; (try simp at hB1s); (try have hB1q1 := Nat.lt_of_succ_le hB1s); (try have hB1q2 := Nat.lt_of_succ_lt hB1q1); (try have hB1q3 := Nat.lt_of_succ_lt hB1q2); (try have hB1zw0 : w.heap.size < w1.heap.size := (by omega)); (try have hB1zw1 : w.heap.size + 1 < w1.heap.size := (by omega)); (try have hB1zw2 : w.heap.size + 1 + 1 < w1.heap.size := (by omega)); (try have hB1zw3 : w.heap.size + 1 + 1 + 1 < w1.heap.size := (by omega)); (try have hB1zw4 : w.heap.size + 1 + 1 + 1 + 1 < w1.heap.size := (by omega)))
      (go_wp2_with fail; refine Calls.mono (specColour_any _ _) ?_; rintro e w' ⟨rfl, rfl⟩)
      go_wp2
      go_ret
      exact ⟨ret_int HV.out.symm, hB1⟩
    · have HV := Lib.hid (show codeOf p (true && numsIn p [a1, a2, b1, b2]) = 0 by rw [hn]; exact codeOf_in hp rfl)
      clear hn
      go_enter Try.func61, Try.ntmps61
      (go_wp2_with fail; refine Calls.mono (specCode2 _ _ _ _ _ _ _ (by first | rfl | (simp; done))) ?_; rintro e w1 ⟨rfl, hB1⟩; obtain ⟨hB1c, hB1f⟩ := bcell hB1; have hB1s := hB1.size; (try simp at hB1s); (try have hB1q1 := Nat.lt_of_succ_le hB1s); (try have hB1q2 := Nat.lt_of_succ_lt hB1q1); (try have hB1q3 := Nat.lt_of_succ_lt hB1q2); (try have hB1zw0 : w.heap.size < w1.heap.size := (by omega)); (try have hB1zw1 : w.heap.size + 1 < w1.heap.size := (by omega)); (try have hB1zw2 : w.heap.size + 1 + 1 < w1.heap.size := (by omega)); (try have hB1zw3 : w.heap.size + 1 + 1 + 1 < w1.heap.size := (by omega)); (try have hB1zw4 : w.heap.size + 1 + 1 + 1 + 1 < w1.heap.size := (by omega)))
      (go_wp2_with fail; refine Calls.mono (specColour_any _ _) ?_; rintro e w' ⟨rfl, rfl⟩)
      go_wp2
      go_ret
      exact ⟨ret_int HV.out.symm, hB1⟩
  all_goals
    have HV := Lib.hid (show codeOf p (colB col && numsIn p [a1, a2, b1, b2]) = _ from by first | exact code_col_1 h0 | exact code_col_2 h0)
    go_enter Try.func61, Try.ntmps61
    (go_wp2_with fail; refine Calls.mono (specCode2 _ _ _ _ _ _ _ (by first | rfl | (simp; done))) ?_; rintro e w1 ⟨rfl, hB1⟩; obtain ⟨hB1c, hB1f⟩ := bcell hB1; have hB1s := hB1.size; (try simp at hB1s); (try have hB1q1 := Nat.lt_of_succ_le hB1s); (try have hB1q2 := Nat.lt_of_succ_lt hB1q1); (try have hB1q3 := Nat.lt_of_succ_lt hB1q2); (try have hB1zw0 : w.heap.size < w1.heap.size := (by omega)); (try have hB1zw1 : w.heap.size + 1 < w1.heap.size := (by omega)); (try have hB1zw2 : w.heap.size + 1 + 1 < w1.heap.size := (by omega)); (try have hB1zw3 : w.heap.size + 1 + 1 + 1 < w1.heap.size := (by omega)); (try have hB1zw4 : w.heap.size + 1 + 1 + 1 + 1 < w1.heap.size := (by omega)))
    go_wp2
    go_ret
    exact ⟨ret_int HV.out.symm, hB1⟩

set_option maxRecDepth 20000 in
set_option maxHeartbeats 1000000 in
theorem specColCode3 (p col a1 a2 b1 b2 c1 c2 : Int) (b : Nat) (w : World) (hb : b = w.heap.size) :
    Calls Try.prog 61 #[.int .i64 p, .int .i64 col, .slice (some ⟨b, 0, none⟩) 3 3] (w.alloc (.cells #[.int .i64 a1, .int .i64 a2, .int .i64 b1, .int .i64 b2, .int .i64 c1, .int .i64 c2] 25)) fun e w' => e = .returned (.int .i64 (codeOf p (colB col && numsIn p [a1, a2, b1, b2, c1, c2]))) ∧ Below w.heap.size w w' := by
  subst hb
  rcases code_cases p (numsIn p [a1, a2, b1, b2, c1, c2]) with ⟨h0, hp, hn⟩ | h0 | h0
  · cases hc : colB col
    · have HV := Lib.hid (show codeOf p (false && numsIn p [a1, a2, b1, b2, c1, c2]) = 2 by rw [Bool.false_and]; exact codeOf_out hp rfl)
      clear hn
      go_enter Try.func61, Try.ntmps61
      (go_wp2_with fail; refine Calls.mono (specCode3 _ _ _ _ _ _ _ _ _ (by first | rfl | (simp; done))) ?_; rintro e w1 ⟨rfl, hB1⟩; obtain ⟨hB1c, hB1f⟩ := bcell hB1; have hB1s := hB1.size; (try simp at hB1s); (try have hB1q1 := Nat.lt_of_succ_le hB1s); (try have hB1q2 := Nat.lt_of_succ_lt hB1q1); (try have hB1q3 := Nat.lt_of_succ_lt hB1q2); (try have hB1zw0 : w.heap.size < w1.heap.size := (by omega)); (try have hB1zw1 : w.heap.size + 1 < w1.heap.size := (by omega)); (try have hB1zw2 : w.heap.size + 1 + 1 < w1.heap.size := (by omega)); (try have hB1zw3 : w.heap.size + 1 + 1 + 1 < w1.heap.size := (by omega)); (try have hB1zw4 : w.heap.size + 1 + 1 + 1 + 1 < w1.heap.size := (by omega)))
      (go_wp2_with fail; refine Calls.mono (specColour_any _ _) ?_; rintro e w' ⟨rfl, rfl⟩)
      go_wp2
      go_ret
      exact ⟨ret_int HV.out.symm, hB1⟩
    · have HV := Lib.hid (show codeOf p (true && numsIn p [a1, a2, b1, b2, c1, c2]) = 0 by rw [hn]; exact codeOf_in hp rfl)
      clear hn
      go_enter Try.func61, Try.ntmps61
      (go_wp2_with fail; refine Calls.mono (specCode3 _ _ _ _ _ _ _ _ _ (by first | rfl | (simp; done))) ?_; rintro e w1 ⟨rfl, hB1⟩; obtain ⟨hB1c, hB1f⟩ := bcell hB1; have hB1s := hB1.size; (try simp at hB1s); (try have hB1q1 := Nat.lt_of_succ_le hB1s); (try have hB1q2 := Nat.lt_of_succ_lt hB1q1); (try have hB1q3 := Nat.lt_of_succ_lt hB1q2); (try have hB1zw0 : w.heap.size < w1.heap.size := (by omega)); (try have hB1zw1 : w.heap.size + 1 < w1.heap.size := (by omega)); (try have hB1zw2 : w.heap.size + 1 + 1 < w1.heap.size := (by omega)); (try have hB1zw3 : w.heap.size + 1 + 1 + 1 < w1.heap.size := (by omega)); (try have hB1zw4 : w.heap.size + 1 + 1 + 1 + 1 < w1.heap.size := (by omega)))
      (go_wp2_with fail; refine Calls.mono (specColour_any _ _) ?_; rintro e w' ⟨rfl, rfl⟩)
      go_wp2
      go_ret
      exact ⟨ret_int HV.out.symm, hB1⟩
  all_goals
    have HV := Lib.hid (show codeOf p (colB col && numsIn p [a1, a2, b1, b2, c1, c2]) = _ from by first | exact code_col_1 h0 | exact code_col_2 h0)
    go_enter Try.func61, Try.ntmps61
    (go_wp2_with fail; refine Calls.mono (specCode3 _ _ _ _ _ _ _ _ _ (by first | rfl | (simp; done))) ?_; rintro e w1 ⟨rfl, hB1⟩; obtain ⟨hB1c, hB1f⟩ := bcell hB1; have hB1s := hB1.size; (try simp at hB1s); (try have hB1q1 := Nat.lt_of_succ_le hB1s); (try have hB1q2 := Nat.lt_of_succ_lt hB1q1); (try have hB1q3 := Nat.lt_of_succ_lt hB1q2); (try have hB1zw0 : w.heap.size < w1.heap.size := (by omega)); (try have hB1zw1 : w.heap.size + 1 < w1.heap.size := (by omega)); (try have hB1zw2 : w.heap.size + 1 + 1 < w1.heap.size := (by omega)); (try have hB1zw3 : w.heap.size + 1 + 1 + 1 < w1.heap.size := (by omega)); (try have hB1zw4 : w.heap.size + 1 + 1 + 1 + 1 < w1.heap.size := (by omega)))
    go_wp2
    go_ret
    exact ⟨ret_int HV.out.symm, hB1⟩

end Go.Proofs.Ytodabjolblamgaa
