/-
  spec.l09Code.
-/
import Derived.Test.YtkkaicneabkkdaaSpecIsPlq
import Derived.Test.YtkkaicneabkkdaaCodeq
import Derived.Deep.RegionHeld3
import Derived.Deep.DeepCutAuto
import Derived.LoopN
import Derived.Test.YtkkaicneabkkdaaMgq0

namespace Go.Proofs.Ytkkaicneabkkdaa
open Go.RowKit

set_option linter.unusedVariables false in
set_option linter.unusedSimpArgs false in
set_option maxRecDepth 20000 in
set_option maxHeartbeats 4000000 in
theorem specPlCode1 (p a1 a2 a3 : Int)  (b : Nat) (w : World) (hb : b = w.heap.size) :
    Calls Try.prog 33 #[.int .i64 p, .slice (some ⟨b, 0, none⟩) 1 1] (w.alloc (.cells #[.int .i64 a1, .int .i64 a2, .int .i64 a3] 23)) fun e w' =>
      e = .returned (.int .i64 (codeOf p (plB p a1 a2 a3))) ∧ Below w.heap.size w w' := by
  subst hb
  go_enter Try.func33, Try.ntmps33
  go_wp2_with fail
  refine Calls.mono (field_any _ _ ) ?_
  rintro e w' ⟨rfl, rfl⟩
  rcases bool_ways (isP p) with hd1 | hd1
  · skip
    have HV := Lib.hid (show codeOf p (plB p a1 a2 a3) = 1 from by simp [codeOf, hd1])
    go_wp2
    (refine bodyPost_ret (v := .int .i64 (codeOf p (plB p a1 a2 a3))) (by simp [results, Try.results33, go_sem, HV.out, *]) rfl ⟨?_, ?_⟩)
    · rfl
    · (repeat (first | with_reducible exact Below.refl _ _ | with_reducible refine balloc ?_ _ | with_reducible refine bdrewN ?_ _ | with_reducible refine Below.drew ?_ | with_reducible refine bthen ?_ (by with_reducible assumption) | with_reducible refine Below.setCell ?_ (by first | (simp; done) | (simp; omega)) _))
  · have hp := hd1
    have hr := isP_range hp
    go_wp2
    refine wp_loop_rounds 8 ?_
    rw [rounds_succ]
    go_wp2_with fail
    refine Calls.mono (specIsPl_any _ _ _ _ _ hp) ?_
    rintro e w1 ⟨rfl, hB1⟩
    (obtain ⟨hB1c, hB1f⟩ := bcell hB1; have hB1s := hB1.size; (try simp at hB1s); (try have hB1q1 := Nat.lt_of_succ_le hB1s); (try have hB1q2 := Nat.lt_of_succ_lt hB1q1); (try have hB1q3 := Nat.lt_of_succ_lt hB1q2); (try have hB1zw0 : w.heap.size < w1.heap.size := (by omega)); (try have hB1zw1 : w.heap.size + 1 < w1.heap.size := (by omega)); (try have hB1zw2 : w.heap.size + 1 + 1 < w1.heap.size := (by omega)); (try have hB1zw3 : w.heap.size + 1 + 1 + 1 < w1.heap.size := (by omega)); (try have hB1zw4 : w.heap.size + 1 + 1 + 1 + 1 < w1.heap.size := (by omega)))
    rcases bool_ways (plB p a1 a2 a3) with hd2 | hd2
    · skip
      have cT : codeOf p true = 0 := codeOf_in hp rfl
      have cF : codeOf p false = 2 := codeOf_out hp rfl
      have HV := Lib.hid (show codeOf p (plB p a1 a2 a3) = 2 from by simp [codeOf, hd1, hd2])
      go_wp2
      (refine bodyPost_ret (v := .int .i64 (codeOf p (plB p a1 a2 a3))) (by simp [results, Try.results33, go_sem, HV.out, *]) rfl ⟨?_, ?_⟩)
      · rfl
      · (repeat (first | with_reducible exact Below.refl _ _ | with_reducible refine balloc ?_ _ | with_reducible refine bdrewN ?_ _ | with_reducible refine Below.drew ?_ | with_reducible refine bthen ?_ (by with_reducible assumption) | with_reducible refine Below.setCell ?_ (by first | (simp; done) | (simp; omega)) _))
    · have hd2q := nums3 (plB_nums hd2)
      go_wp2
      rw [rounds_succ]
      have cT : codeOf p true = 0 := codeOf_in hp rfl
      have cF : codeOf p false = 2 := codeOf_out hp rfl
      have HV := Lib.hid (show codeOf p (plB p a1 a2 a3) = 0 from by simp [codeOf, hd1, hd2])
      go_wp2
      (refine bodyPost_ret (v := .int .i64 (codeOf p (plB p a1 a2 a3))) (by simp [results, Try.results33, go_sem, HV.out, *]) rfl ⟨?_, ?_⟩)
      · rfl
      · (repeat (first | with_reducible exact Below.refl _ _ | with_reducible refine balloc ?_ _ | with_reducible refine bdrewN ?_ _ | with_reducible refine Below.drew ?_ | with_reducible refine bthen ?_ (by with_reducible assumption) | with_reducible refine Below.setCell ?_ (by first | (simp; done) | (simp; omega)) _))

set_option linter.unusedVariables false in
set_option linter.unusedSimpArgs false in
set_option maxRecDepth 20000 in
set_option maxHeartbeats 4000000 in
theorem specPlCode2 (p a1 a2 a3 b1 b2 b3 : Int)  (b : Nat) (w : World) (hb : b = w.heap.size) :
    Calls Try.prog 33 #[.int .i64 p, .slice (some ⟨b, 0, none⟩) 2 2] (w.alloc (.cells #[.int .i64 a1, .int .i64 a2, .int .i64 a3, .int .i64 b1, .int .i64 b2, .int .i64 b3] 23)) fun e w' =>
      e = .returned (.int .i64 (codeOf p (plB p a1 a2 a3 && plB p b1 b2 b3))) ∧ Below w.heap.size w w' := by
  subst hb
  go_enter Try.func33, Try.ntmps33
  go_wp2_with fail
  refine Calls.mono (field_any _ _ ) ?_
  rintro e w' ⟨rfl, rfl⟩
  rcases bool_ways (isP p) with hd1 | hd1
  · skip
    have HV := Lib.hid (show codeOf p (plB p a1 a2 a3 && plB p b1 b2 b3) = 1 from by simp [codeOf, hd1])
    go_wp2
    (refine bodyPost_ret (v := .int .i64 (codeOf p (plB p a1 a2 a3 && plB p b1 b2 b3))) (by simp [results, Try.results33, go_sem, HV.out, *]) rfl ⟨?_, ?_⟩)
    · rfl
    · (repeat (first | with_reducible exact Below.refl _ _ | with_reducible refine balloc ?_ _ | with_reducible refine bdrewN ?_ _ | with_reducible refine Below.drew ?_ | with_reducible refine bthen ?_ (by with_reducible assumption) | with_reducible refine Below.setCell ?_ (by first | (simp; done) | (simp; omega)) _))
  · have hp := hd1
    have hr := isP_range hp
    go_wp2
    refine wp_loop_rounds 8 ?_
    rw [rounds_succ]
    go_wp2_with fail
    refine Calls.mono (specIsPl_any _ _ _ _ _ hp) ?_
    rintro e w1 ⟨rfl, hB1⟩
    (obtain ⟨hB1c, hB1f⟩ := bcell hB1; have hB1s := hB1.size; (try simp at hB1s); (try have hB1q1 := Nat.lt_of_succ_le hB1s); (try have hB1q2 := Nat.lt_of_succ_lt hB1q1); (try have hB1q3 := Nat.lt_of_succ_lt hB1q2); (try have hB1zw0 : w.heap.size < w1.heap.size := (by omega)); (try have hB1zw1 : w.heap.size + 1 < w1.heap.size := (by omega)); (try have hB1zw2 : w.heap.size + 1 + 1 < w1.heap.size := (by omega)); (try have hB1zw3 : w.heap.size + 1 + 1 + 1 < w1.heap.size := (by omega)); (try have hB1zw4 : w.heap.size + 1 + 1 + 1 + 1 < w1.heap.size := (by omega)))
    rcases bool_ways (plB p a1 a2 a3) with hd2 | hd2
    · skip
      have cT : codeOf p true = 0 := codeOf_in hp rfl
      have cF : codeOf p false = 2 := codeOf_out hp rfl
      have HV := Lib.hid (show codeOf p (plB p a1 a2 a3 && plB p b1 b2 b3) = 2 from by simp [codeOf, hd1, hd2])
      go_wp2
      (refine bodyPost_ret (v := .int .i64 (codeOf p (plB p a1 a2 a3 && plB p b1 b2 b3))) (by simp [results, Try.results33, go_sem, HV.out, *]) rfl ⟨?_, ?_⟩)
      · rfl
      · (repeat (first | with_reducible exact Below.refl _ _ | with_reducible refine balloc ?_ _ | with_reducible refine bdrewN ?_ _ | with_reducible refine Below.drew ?_ | with_reducible refine bthen ?_ (by with_reducible assumption) | with_reducible refine Below.setCell ?_ (by first | (simp; done) | (simp; omega)) _))
    · have hd2q := nums3 (plB_nums hd2)
      go_wp2
      rw [rounds_succ]
      go_wp2_with fail
      refine Calls.mono (specIsPl_any _ _ _ _ _ hp) ?_
      rintro e w2 ⟨rfl, hB2⟩
      (obtain ⟨hB2c, hB2f⟩ := bcell hB2; have hB2s := hB2.size; (try simp at hB2s); (try have hB2q1 := Nat.lt_of_succ_le hB2s); (try have hB2q2 := Nat.lt_of_succ_lt hB2q1); (try have hB2q3 := Nat.lt_of_succ_lt hB2q2); (try have hB2zw0 : w.heap.size < w2.heap.size := (by omega)); (try have hB2zw1 : w.heap.size + 1 < w2.heap.size := (by omega)); (try have hB2zw2 : w.heap.size + 1 + 1 < w2.heap.size := (by omega)); (try have hB2zw3 : w.heap.size + 1 + 1 + 1 < w2.heap.size := (by omega)); (try have hB2zw4 : w.heap.size + 1 + 1 + 1 + 1 < w2.heap.size := (by omega)); (try have hB2zw10 : w1.heap.size < w2.heap.size := (by omega)); (try have hB2zw11 : w1.heap.size + 1 < w2.heap.size := (by omega)); (try have hB2zw12 : w1.heap.size + 1 + 1 < w2.heap.size := (by omega)); (try have hB2zw13 : w1.heap.size + 1 + 1 + 1 < w2.heap.size := (by omega)); (try have hB2zw14 : w1.heap.size + 1 + 1 + 1 + 1 < w2.heap.size := (by omega)))
      rcases bool_ways (plB p b1 b2 b3) with hd3 | hd3
      · skip
        have cT : codeOf p true = 0 := codeOf_in hp rfl
        have cF : codeOf p false = 2 := codeOf_out hp rfl
        have HV := Lib.hid (show codeOf p (plB p a1 a2 a3 && plB p b1 b2 b3) = 2 from by simp [codeOf, hd1, hd2, hd3])
        go_wp2
        (refine bodyPost_ret (v := .int .i64 (codeOf p (plB p a1 a2 a3 && plB p b1 b2 b3))) (by simp [results, Try.results33, go_sem, HV.out, *]) rfl ⟨?_, ?_⟩)
        · rfl
        · (repeat (first | with_reducible exact Below.refl _ _ | with_reducible refine balloc ?_ _ | with_reducible refine bdrewN ?_ _ | with_reducible refine Below.drew ?_ | with_reducible refine bthen ?_ (by with_reducible assumption) | with_reducible refine Below.setCell ?_ (by first | (simp; done) | (simp; omega)) _))
      · have hd3q := nums3 (plB_nums hd3)
        go_wp2
        rw [rounds_succ]
        have cT : codeOf p true = 0 := codeOf_in hp rfl
        have cF : codeOf p false = 2 := codeOf_out hp rfl
        have HV := Lib.hid (show codeOf p (plB p a1 a2 a3 && plB p b1 b2 b3) = 0 from by simp [codeOf, hd1, hd2, hd3])
        go_wp2
        (refine bodyPost_ret (v := .int .i64 (codeOf p (plB p a1 a2 a3 && plB p b1 b2 b3))) (by simp [results, Try.results33, go_sem, HV.out, *]) rfl ⟨?_, ?_⟩)
        · rfl
        · (repeat (first | with_reducible exact Below.refl _ _ | with_reducible refine balloc ?_ _ | with_reducible refine bdrewN ?_ _ | with_reducible refine Below.drew ?_ | with_reducible refine bthen ?_ (by with_reducible assumption) | with_reducible refine Below.setCell ?_ (by first | (simp; done) | (simp; omega)) _))

set_option linter.unusedVariables false in
set_option linter.unusedSimpArgs false in
set_option maxRecDepth 20000 in
set_option maxHeartbeats 4000000 in
theorem specPlCode3 (p a1 a2 a3 b1 b2 b3 c1 c2 c3 : Int)  (b : Nat) (w : World) (hb : b = w.heap.size) :
    Calls Try.prog 33 #[.int .i64 p, .slice (some ⟨b, 0, none⟩) 3 3] (w.alloc (.cells #[.int .i64 a1, .int .i64 a2, .int .i64 a3, .int .i64 b1, .int .i64 b2, .int .i64 b3, .int .i64 c1, .int .i64 c2, .int .i64 c3] 23)) fun e w' =>
      e = .returned (.int .i64 (codeOf p (plB p a1 a2 a3 && plB p b1 b2 b3 && plB p c1 c2 c3))) ∧ Below w.heap.size w w' := by
  subst hb
  go_enter Try.func33, Try.ntmps33
  go_wp2_with fail
  refine Calls.mono (field_any _ _ ) ?_
  rintro e w' ⟨rfl, rfl⟩
  rcases bool_ways (isP p) with hd1 | hd1
  · skip
    have HV := Lib.hid (show codeOf p (plB p a1 a2 a3 && plB p b1 b2 b3 && plB p c1 c2 c3) = 1 from by simp [codeOf, hd1])
    go_wp2
    (refine bodyPost_ret (v := .int .i64 (codeOf p (plB p a1 a2 a3 && plB p b1 b2 b3 && plB p c1 c2 c3))) (by simp [results, Try.results33, go_sem, HV.out, *]) rfl ⟨?_, ?_⟩)
    · rfl
    · (repeat (first | with_reducible exact Below.refl _ _ | with_reducible refine balloc ?_ _ | with_reducible refine bdrewN ?_ _ | with_reducible refine Below.drew ?_ | with_reducible refine bthen ?_ (by with_reducible assumption) | with_reducible refine Below.setCell ?_ (by first | (simp; done) | (simp; omega)) _))
  · have hp := hd1
    have hr := isP_range hp
    go_wp2
    refine wp_loop_rounds 8 ?_
    rw [rounds_succ]
    go_wp2_with fail
    refine Calls.mono (specIsPl_any _ _ _ _ _ hp) ?_
    rintro e w1 ⟨rfl, hB1⟩
    (obtain ⟨hB1c, hB1f⟩ := bcell hB1; have hB1s := hB1.size; (try simp at hB1s); (try have hB1q1 := Nat.lt_of_succ_le hB1s); (try have hB1q2 := Nat.lt_of_succ_lt hB1q1); (try have hB1q3 := Nat.lt_of_succ_lt hB1q2); (try have hB1zw0 : w.heap.size < w1.heap.size := (by omega)); (try have hB1zw1 : w.heap.size + 1 < w1.heap.size := (by omega)); (try have hB1zw2 : w.heap.size + 1 + 1 < w1.heap.size := (by omega)); (try have hB1zw3 : w.heap.size + 1 + 1 + 1 < w1.heap.size := (by omega)); (try have hB1zw4 : w.heap.size + 1 + 1 + 1 + 1 < w1.heap.size := (by omega)))
    rcases bool_ways (plB p a1 a2 a3) with hd2 | hd2
    · skip
      have cT : codeOf p true = 0 := codeOf_in hp rfl
      have cF : codeOf p false = 2 := codeOf_out hp rfl
      have HV := Lib.hid (show codeOf p (plB p a1 a2 a3 && plB p b1 b2 b3 && plB p c1 c2 c3) = 2 from by simp [codeOf, hd1, hd2])
      go_wp2
      (refine bodyPost_ret (v := .int .i64 (codeOf p (plB p a1 a2 a3 && plB p b1 b2 b3 && plB p c1 c2 c3))) (by simp [results, Try.results33, go_sem, HV.out, *]) rfl ⟨?_, ?_⟩)
      · rfl
      · (repeat (first | with_reducible exact Below.refl _ _ | with_reducible refine balloc ?_ _ | with_reducible refine bdrewN ?_ _ | with_reducible refine Below.drew ?_ | with_reducible refine bthen ?_ (by with_reducible assumption) | with_reducible refine Below.setCell ?_ (by first | (simp; done) | (simp; omega)) _))
    · have hd2q := nums3 (plB_nums hd2)
      go_wp2
      rw [rounds_succ]
      go_wp2_with fail
      refine Calls.mono (specIsPl_any _ _ _ _ _ hp) ?_
      rintro e w2 ⟨rfl, hB2⟩
      (obtain ⟨hB2c, hB2f⟩ := bcell hB2; have hB2s := hB2.size; (try simp at hB2s); (try have hB2q1 := Nat.lt_of_succ_le hB2s); (try have hB2q2 := Nat.lt_of_succ_lt hB2q1); (try have hB2q3 := Nat.lt_of_succ_lt hB2q2); (try have hB2zw0 : w.heap.size < w2.heap.size := (by omega)); (try have hB2zw1 : w.heap.size + 1 < w2.heap.size := (by omega)); (try have hB2zw2 : w.heap.size + 1 + 1 < w2.heap.size := (by omega)); (try have hB2zw3 : w.heap.size + 1 + 1 + 1 < w2.heap.size := (by omega)); (try have hB2zw4 : w.heap.size + 1 + 1 + 1 + 1 < w2.heap.size := (by omega)); (try have hB2zw10 : w1.heap.size < w2.heap.size := (by omega)); (try have hB2zw11 : w1.heap.size + 1 < w2.heap.size := (by omega)); (try have hB2zw12 : w1.heap.size + 1 + 1 < w2.heap.size := (by omega)); (try have hB2zw13 : w1.heap.size + 1 + 1 + 1 < w2.heap.size := (by omega)); (try have hB2zw14 : w1.heap.size + 1 + 1 + 1 + 1 < w2.heap.size := (by omega)))
      rcases bool_ways (plB p b1 b2 b3) with hd3 | hd3
      · skip
        have cT : codeOf p true = 0 := codeOf_in hp rfl
        have cF : codeOf p false = 2 := codeOf_out hp rfl
        have HV := Lib.hid (show codeOf p (plB p a1 a2 a3 && plB p b1 b2 b3 && plB p c1 c2 c3) = 2 from by simp [codeOf, hd1, hd2, hd3])
        go_wp2
        (refine bodyPost_ret (v := .int .i64 (codeOf p (plB p a1 a2 a3 && plB p b1 b2 b3 && plB p c1 c2 c3))) (by simp [results, Try.results33, go_sem, HV.out, *]) rfl ⟨?_, ?_⟩)
        · rfl
        · (repeat (first | with_reducible exact Below.refl _ _ | with_reducible refine balloc ?_ _ | with_reducible refine bdrewN ?_ _ | with_reducible refine Below.drew ?_ | with_reducible refine bthen ?_ (by with_reducible assumption) | with_reducible refine Below.setCell ?_ (by first | (simp; done) | (simp; omega)) _))
      · have hd3q := nums3 (plB_nums hd3)
        go_wp2
        rw [rounds_succ]
        go_wp2_with fail
        refine Calls.mono (specIsPl_any _ _ _ _ _ hp) ?_
        rintro e w3 ⟨rfl, hB3⟩
        (obtain ⟨hB3c, hB3f⟩ := bcell hB3; have hB3s := hB3.size; (try simp at hB3s); (try have hB3q1 := Nat.lt_of_succ_le hB3s); (try have hB3q2 := Nat.lt_of_succ_lt hB3q1); (try have hB3q3 := Nat.lt_of_succ_lt hB3q2); (try have hB3zw0 : w.heap.size < w3.heap.size := (by omega)); (try have hB3zw1 : w.heap.size + 1 < w3.heap.size := (by omega)); (try have hB3zw2 : w.heap.size + 1 + 1 < w3.heap.size := (by omega)); (try have hB3zw3 : w.heap.size + 1 + 1 + 1 < w3.heap.size := (by omega)); (try have hB3zw4 : w.heap.size + 1 + 1 + 1 + 1 < w3.heap.size := (by omega)); (try have hB3zw20 : w2.heap.size < w3.heap.size := (by omega)); (try have hB3zw21 : w2.heap.size + 1 < w3.heap.size := (by omega)); (try have hB3zw22 : w2.heap.size + 1 + 1 < w3.heap.size := (by omega)); (try have hB3zw23 : w2.heap.size + 1 + 1 + 1 < w3.heap.size := (by omega)); (try have hB3zw24 : w2.heap.size + 1 + 1 + 1 + 1 < w3.heap.size := (by omega)); (try have hB3zw10 : w1.heap.size < w3.heap.size := (by omega)); (try have hB3zw11 : w1.heap.size + 1 < w3.heap.size := (by omega)); (try have hB3zw12 : w1.heap.size + 1 + 1 < w3.heap.size := (by omega)); (try have hB3zw13 : w1.heap.size + 1 + 1 + 1 < w3.heap.size := (by omega)); (try have hB3zw14 : w1.heap.size + 1 + 1 + 1 + 1 < w3.heap.size := (by omega)))
        rcases bool_ways (plB p c1 c2 c3) with hd4 | hd4
        · skip
          have cT : codeOf p true = 0 := codeOf_in hp rfl
          have cF : codeOf p false = 2 := codeOf_out hp rfl
          have HV := Lib.hid (show codeOf p (plB p a1 a2 a3 && plB p b1 b2 b3 && plB p c1 c2 c3) = 2 from by simp [codeOf, hd1, hd2, hd3, hd4])
          go_wp2
          (refine bodyPost_ret (v := .int .i64 (codeOf p (plB p a1 a2 a3 && plB p b1 b2 b3 && plB p c1 c2 c3))) (by simp [results, Try.results33, go_sem, HV.out, *]) rfl ⟨?_, ?_⟩)
          · rfl
          · (repeat (first | with_reducible exact Below.refl _ _ | with_reducible refine balloc ?_ _ | with_reducible refine bdrewN ?_ _ | with_reducible refine Below.drew ?_ | with_reducible refine bthen ?_ (by with_reducible assumption) | with_reducible refine Below.setCell ?_ (by first | (simp; done) | (simp; omega)) _))
        · have hd4q := nums3 (plB_nums hd4)
          go_wp2
          rw [rounds_succ]
          have cT : codeOf p true = 0 := codeOf_in hp rfl
          have cF : codeOf p false = 2 := codeOf_out hp rfl
          have HV := Lib.hid (show codeOf p (plB p a1 a2 a3 && plB p b1 b2 b3 && plB p c1 c2 c3) = 0 from by simp [codeOf, hd1, hd2, hd3, hd4])
          go_wp2
          (refine bodyPost_ret (v := .int .i64 (codeOf p (plB p a1 a2 a3 && plB p b1 b2 b3 && plB p c1 c2 c3))) (by simp [results, Try.results33, go_sem, HV.out, *]) rfl ⟨?_, ?_⟩)
          · rfl
          · (repeat (first | with_reducible exact Below.refl _ _ | with_reducible refine balloc ?_ _ | with_reducible refine bdrewN ?_ _ | with_reducible refine Below.drew ?_ | with_reducible refine bthen ?_ (by with_reducible assumption) | with_reducible refine Below.setCell ?_ (by first | (simp; done) | (simp; omega)) _))

end Go.Proofs.Ytkkaicneabkkdaa
