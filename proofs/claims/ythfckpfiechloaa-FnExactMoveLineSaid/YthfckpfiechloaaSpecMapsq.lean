/-
  spec.l07Maps.
-/
import Derived.Test.YthfckpfiechloaaMgq0
import Derived.Deep.RegionHeld3
import Derived.Deep.DeepCutAuto
import Derived.LoopN

namespace Go.Proofs.Ythfckpfiechloaa
open Go.RowKit

set_option linter.unusedVariables false in
set_option linter.unusedSimpArgs false in
set_option maxRecDepth 20000 in
set_option maxHeartbeats 4000000 in
theorem specMaps1 (p m1 m2 m3 m4 m5 m6 : Int)  (b : Nat) (w : World) (hb : b = w.heap.size) :
    Calls Try.prog 57 #[.int .i64 p, .slice (some ⟨b, 0, none⟩) 1 1] (w.alloc (.cells #[.int .i64 m1, .int .i64 m2, .int .i64 m3, .int .i64 m4, .int .i64 m5, .int .i64 m6] 30)) fun e w' =>
      e = .returned (.int .i64 (codeOf p (numsIn p [m1, m2, m3, m4, m5, m6]))) ∧ Below w.heap.size w w' := by
  subst hb
  go_enter Try.func57, Try.ntmps57
  go_wp2_with fail
  refine Calls.mono (field_any _ _ ) ?_
  rintro e w' ⟨rfl, rfl⟩
  rcases bool_ways (isP p) with hd1 | hd1
  · skip
    have HV := Lib.hid (show codeOf p (numsIn p [m1, m2, m3, m4, m5, m6]) = 1 from by simp [codeOf, hd1])
    go_wp2
    (refine bodyPost_ret (v := .int .i64 (codeOf p (numsIn p [m1, m2, m3, m4, m5, m6]))) (by simp [results, Try.results57, go_sem, HV.out, *]) rfl ⟨?_, ?_⟩)
    · rfl
    · (repeat (first | with_reducible exact Below.refl _ _ | with_reducible refine balloc ?_ _ | with_reducible refine bdrewN ?_ _ | with_reducible refine Below.drew ?_ | with_reducible refine bthen ?_ (by with_reducible assumption) | with_reducible refine Below.setCell ?_ (by first | (simp; done) | (simp; omega)) _))
  · have hp := hd1
    have hr := isP_range hp
    go_wp2
    refine wp_loop_rounds 8 ?_
    rw [rounds_succ]
    go_wp2_with fail
    refine Calls.mono (specIsM_any _ _ _ _ _ _ _ _ hp) ?_
    rintro e w1 ⟨rfl, hB1⟩
    (obtain ⟨hB1c, hB1f⟩ := bcell hB1; have hB1s := hB1.size; (try simp at hB1s); (try have hB1q1 := Nat.lt_of_succ_le hB1s); (try have hB1q2 := Nat.lt_of_succ_lt hB1q1); (try have hB1q3 := Nat.lt_of_succ_lt hB1q2); (try have hB1zw0 : w.heap.size < w1.heap.size := (by omega)); (try have hB1zw1 : w.heap.size + 1 < w1.heap.size := (by omega)); (try have hB1zw2 : w.heap.size + 1 + 1 < w1.heap.size := (by omega)); (try have hB1zw3 : w.heap.size + 1 + 1 + 1 < w1.heap.size := (by omega)); (try have hB1zw4 : w.heap.size + 1 + 1 + 1 + 1 < w1.heap.size := (by omega)))
    rcases bool_ways (numsIn p [m1, m2, m3, m4, m5, m6]) with hd2 | hd2
    · skip
      have cT : codeOf p true = 0 := codeOf_in hp rfl
      have cF : codeOf p false = 2 := codeOf_out hp rfl
      have HV := Lib.hid (show codeOf p (numsIn p [m1, m2, m3, m4, m5, m6]) = 2 from by simp [codeOf, hd1, hd2])
      go_wp2
      (refine bodyPost_ret (v := .int .i64 (codeOf p (numsIn p [m1, m2, m3, m4, m5, m6]))) (by simp [results, Try.results57, go_sem, HV.out, *]) rfl ⟨?_, ?_⟩)
      · rfl
      · (repeat (first | with_reducible exact Below.refl _ _ | with_reducible refine balloc ?_ _ | with_reducible refine bdrewN ?_ _ | with_reducible refine Below.drew ?_ | with_reducible refine bthen ?_ (by with_reducible assumption) | with_reducible refine Below.setCell ?_ (by first | (simp; done) | (simp; omega)) _))
    · have hd2q := nums6 hd2
      go_wp2
      rw [rounds_succ]
      have cT : codeOf p true = 0 := codeOf_in hp rfl
      have cF : codeOf p false = 2 := codeOf_out hp rfl
      have HV := Lib.hid (show codeOf p (numsIn p [m1, m2, m3, m4, m5, m6]) = 0 from by simp [codeOf, hd1, hd2])
      go_wp2
      (refine bodyPost_ret (v := .int .i64 (codeOf p (numsIn p [m1, m2, m3, m4, m5, m6]))) (by simp [results, Try.results57, go_sem, HV.out, *]) rfl ⟨?_, ?_⟩)
      · rfl
      · (repeat (first | with_reducible exact Below.refl _ _ | with_reducible refine balloc ?_ _ | with_reducible refine bdrewN ?_ _ | with_reducible refine Below.drew ?_ | with_reducible refine bthen ?_ (by with_reducible assumption) | with_reducible refine Below.setCell ?_ (by first | (simp; done) | (simp; omega)) _))

set_option linter.unusedVariables false in
set_option linter.unusedSimpArgs false in
set_option maxRecDepth 20000 in
set_option maxHeartbeats 4000000 in
theorem specMaps2 (p m1 m2 m3 m4 m5 m6 n1 n2 n3 n4 n5 n6 : Int)  (b : Nat) (w : World) (hb : b = w.heap.size) :
    Calls Try.prog 57 #[.int .i64 p, .slice (some ⟨b, 0, none⟩) 2 2] (w.alloc (.cells #[.int .i64 m1, .int .i64 m2, .int .i64 m3, .int .i64 m4, .int .i64 m5, .int .i64 m6, .int .i64 n1, .int .i64 n2, .int .i64 n3, .int .i64 n4, .int .i64 n5, .int .i64 n6] 30)) fun e w' =>
      e = .returned (.int .i64 (codeOf p (numsIn p [m1, m2, m3, m4, m5, m6] && numsIn p [n1, n2, n3, n4, n5, n6]))) ∧ Below w.heap.size w w' := by
  subst hb
  go_enter Try.func57, Try.ntmps57
  go_wp2_with fail
  refine Calls.mono (field_any _ _ ) ?_
  rintro e w' ⟨rfl, rfl⟩
  rcases bool_ways (isP p) with hd1 | hd1
  · skip
    have HV := Lib.hid (show codeOf p (numsIn p [m1, m2, m3, m4, m5, m6] && numsIn p [n1, n2, n3, n4, n5, n6]) = 1 from by simp [codeOf, hd1])
    go_wp2
    (refine bodyPost_ret (v := .int .i64 (codeOf p (numsIn p [m1, m2, m3, m4, m5, m6] && numsIn p [n1, n2, n3, n4, n5, n6]))) (by simp [results, Try.results57, go_sem, HV.out, *]) rfl ⟨?_, ?_⟩)
    · rfl
    · (repeat (first | with_reducible exact Below.refl _ _ | with_reducible refine balloc ?_ _ | with_reducible refine bdrewN ?_ _ | with_reducible refine Below.drew ?_ | with_reducible refine bthen ?_ (by with_reducible assumption) | with_reducible refine Below.setCell ?_ (by first | (simp; done) | (simp; omega)) _))
  · have hp := hd1
    have hr := isP_range hp
    go_wp2
    refine wp_loop_rounds 8 ?_
    rw [rounds_succ]
    go_wp2_with fail
    refine Calls.mono (specIsM_any _ _ _ _ _ _ _ _ hp) ?_
    rintro e w1 ⟨rfl, hB1⟩
    (obtain ⟨hB1c, hB1f⟩ := bcell hB1; have hB1s := hB1.size; (try simp at hB1s); (try have hB1q1 := Nat.lt_of_succ_le hB1s); (try have hB1q2 := Nat.lt_of_succ_lt hB1q1); (try have hB1q3 := Nat.lt_of_succ_lt hB1q2); (try have hB1zw0 : w.heap.size < w1.heap.size := (by omega)); (try have hB1zw1 : w.heap.size + 1 < w1.heap.size := (by omega)); (try have hB1zw2 : w.heap.size + 1 + 1 < w1.heap.size := (by omega)); (try have hB1zw3 : w.heap.size + 1 + 1 + 1 < w1.heap.size := (by omega)); (try have hB1zw4 : w.heap.size + 1 + 1 + 1 + 1 < w1.heap.size := (by omega)))
    rcases bool_ways (numsIn p [m1, m2, m3, m4, m5, m6]) with hd2 | hd2
    · skip
      have cT : codeOf p true = 0 := codeOf_in hp rfl
      have cF : codeOf p false = 2 := codeOf_out hp rfl
      have HV := Lib.hid (show codeOf p (numsIn p [m1, m2, m3, m4, m5, m6] && numsIn p [n1, n2, n3, n4, n5, n6]) = 2 from by simp [codeOf, hd1, hd2])
      go_wp2
      (refine bodyPost_ret (v := .int .i64 (codeOf p (numsIn p [m1, m2, m3, m4, m5, m6] && numsIn p [n1, n2, n3, n4, n5, n6]))) (by simp [results, Try.results57, go_sem, HV.out, *]) rfl ⟨?_, ?_⟩)
      · rfl
      · (repeat (first | with_reducible exact Below.refl _ _ | with_reducible refine balloc ?_ _ | with_reducible refine bdrewN ?_ _ | with_reducible refine Below.drew ?_ | with_reducible refine bthen ?_ (by with_reducible assumption) | with_reducible refine Below.setCell ?_ (by first | (simp; done) | (simp; omega)) _))
    · have hd2q := nums6 hd2
      go_wp2
      rw [rounds_succ]
      go_wp2_with fail
      refine Calls.mono (specIsM_any _ _ _ _ _ _ _ _ hp) ?_
      rintro e w2 ⟨rfl, hB2⟩
      (obtain ⟨hB2c, hB2f⟩ := bcell hB2; have hB2s := hB2.size; (try simp at hB2s); (try have hB2q1 := Nat.lt_of_succ_le hB2s); (try have hB2q2 := Nat.lt_of_succ_lt hB2q1); (try have hB2q3 := Nat.lt_of_succ_lt hB2q2); (try have hB2zw0 : w.heap.size < w2.heap.size := (by omega)); (try have hB2zw1 : w.heap.size + 1 < w2.heap.size := (by omega)); (try have hB2zw2 : w.heap.size + 1 + 1 < w2.heap.size := (by omega)); (try have hB2zw3 : w.heap.size + 1 + 1 + 1 < w2.heap.size := (by omega)); (try have hB2zw4 : w.heap.size + 1 + 1 + 1 + 1 < w2.heap.size := (by omega)); (try have hB2zw10 : w1.heap.size < w2.heap.size := (by omega)); (try have hB2zw11 : w1.heap.size + 1 < w2.heap.size := (by omega)); (try have hB2zw12 : w1.heap.size + 1 + 1 < w2.heap.size := (by omega)); (try have hB2zw13 : w1.heap.size + 1 + 1 + 1 < w2.heap.size := (by omega)); (try have hB2zw14 : w1.heap.size + 1 + 1 + 1 + 1 < w2.heap.size := (by omega)))
      rcases bool_ways (numsIn p [n1, n2, n3, n4, n5, n6]) with hd3 | hd3
      · skip
        have cT : codeOf p true = 0 := codeOf_in hp rfl
        have cF : codeOf p false = 2 := codeOf_out hp rfl
        have HV := Lib.hid (show codeOf p (numsIn p [m1, m2, m3, m4, m5, m6] && numsIn p [n1, n2, n3, n4, n5, n6]) = 2 from by simp [codeOf, hd1, hd2, hd3])
        go_wp2
        (refine bodyPost_ret (v := .int .i64 (codeOf p (numsIn p [m1, m2, m3, m4, m5, m6] && numsIn p [n1, n2, n3, n4, n5, n6]))) (by simp [results, Try.results57, go_sem, HV.out, *]) rfl ⟨?_, ?_⟩)
        · rfl
        · (repeat (first | with_reducible exact Below.refl _ _ | with_reducible refine balloc ?_ _ | with_reducible refine bdrewN ?_ _ | with_reducible refine Below.drew ?_ | with_reducible refine bthen ?_ (by with_reducible assumption) | with_reducible refine Below.setCell ?_ (by first | (simp; done) | (simp; omega)) _))
      · have hd3q := nums6 hd3
        go_wp2
        rw [rounds_succ]
        have cT : codeOf p true = 0 := codeOf_in hp rfl
        have cF : codeOf p false = 2 := codeOf_out hp rfl
        have HV := Lib.hid (show codeOf p (numsIn p [m1, m2, m3, m4, m5, m6] && numsIn p [n1, n2, n3, n4, n5, n6]) = 0 from by simp [codeOf, hd1, hd2, hd3])
        go_wp2
        (refine bodyPost_ret (v := .int .i64 (codeOf p (numsIn p [m1, m2, m3, m4, m5, m6] && numsIn p [n1, n2, n3, n4, n5, n6]))) (by simp [results, Try.results57, go_sem, HV.out, *]) rfl ⟨?_, ?_⟩)
        · rfl
        · (repeat (first | with_reducible exact Below.refl _ _ | with_reducible refine balloc ?_ _ | with_reducible refine bdrewN ?_ _ | with_reducible refine Below.drew ?_ | with_reducible refine bthen ?_ (by with_reducible assumption) | with_reducible refine Below.setCell ?_ (by first | (simp; done) | (simp; omega)) _))

end Go.Proofs.Ythfckpfiechloaa
