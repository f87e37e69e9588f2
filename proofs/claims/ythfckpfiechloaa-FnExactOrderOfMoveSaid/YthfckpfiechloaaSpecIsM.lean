/-
  spec.l07Is.
-/
import Derived.Test.YthfckpfiechloaaMoveMath
import Derived.Test.YthfckpfiechloaaSpecPts
import Derived.Test.YthfckpfiechloaaField
import Derived.Deep.RegionHeld3
import Derived.Deep.DeepCutAuto
import Derived.LoopN
import Derived.Test.YthfckpfiechloaaBaseMath
namespace Go.Proofs.Ythfckpfiechloaa
open Go.RowKit

theorem colIn_any (c : Int) (w : World) : Calls Try.prog 65 #[.int .i64 c, .int .i64 0, .int .i64 2] w fun e w' => e = .returned (.bool (colB c)) ∧ w = w' := in_any c 0 2 w

set_option linter.unusedVariables false in
set_option linter.unusedSimpArgs false in
set_option maxRecDepth 20000 in
set_option maxHeartbeats 4000000 in
theorem specIsM_any (p m1 m2 m3 m4 m5 m6 : Int)  (w : World) (hp : isP p = true) :
    Calls Try.prog 64 #[.int .i64 p, .agg #[.int .i64 m1, .int .i64 m2, .int .i64 m3, .int .i64 m4, .int .i64 m5, .int .i64 m6]] w fun e w' =>
      e = .returned (.bool (numsIn p [m1, m2, m3, m4, m5, m6])) ∧ Below w.heap.size w w' := by
  have hr := isP_range hp
  go_enter Try.func64, Try.ntmps64
  go_wp2
  refine wp_loop_rounds 8 ?_
  rw [rounds_succ]
  go_wp2_with fail
  refine Calls.mono (in_any _ _ _ _) ?_
  rintro e w' ⟨rfl, rfl⟩
  rcases bool_ways (inB m1 0 (p - 1)) with hd1 | hd1
  · skip
    have HV := Lib.hid (show numsIn p [m1, m2, m3, m4, m5, m6] = false from by rw [nums6_in]; simp [hd1])
    go_wp2
    (refine bodyPost_ret (v := .bool (numsIn p [m1, m2, m3, m4, m5, m6])) (by simp [results, Try.results64, go_sem, HV.out, *]) rfl ⟨?_, ?_⟩)
    · rfl
    · (repeat (first | with_reducible exact Below.refl _ _ | with_reducible refine balloc ?_ _ | with_reducible refine bdrewN ?_ _ | with_reducible refine Below.drew ?_ | with_reducible refine bthen ?_ (by with_reducible assumption) | with_reducible refine Below.setCell ?_ (by first | (simp; done) | (simp; omega)) _))
  · skip
    go_wp2
    rw [rounds_succ]
    go_wp2_with fail
    refine Calls.mono (in_any _ _ _ _) ?_
    rintro e w' ⟨rfl, rfl⟩
    rcases bool_ways (inB m2 0 (p - 1)) with hd2 | hd2
    · skip
      have HV := Lib.hid (show numsIn p [m1, m2, m3, m4, m5, m6] = false from by rw [nums6_in]; simp [hd1, hd2])
      go_wp2
      (refine bodyPost_ret (v := .bool (numsIn p [m1, m2, m3, m4, m5, m6])) (by simp [results, Try.results64, go_sem, HV.out, *]) rfl ⟨?_, ?_⟩)
      · rfl
      · (repeat (first | with_reducible exact Below.refl _ _ | with_reducible refine balloc ?_ _ | with_reducible refine bdrewN ?_ _ | with_reducible refine Below.drew ?_ | with_reducible refine bthen ?_ (by with_reducible assumption) | with_reducible refine Below.setCell ?_ (by first | (simp; done) | (simp; omega)) _))
    · skip
      go_wp2
      rw [rounds_succ]
      go_wp2_with fail
      refine Calls.mono (in_any _ _ _ _) ?_
      rintro e w' ⟨rfl, rfl⟩
      rcases bool_ways (inB m3 0 (p - 1)) with hd3 | hd3
      · skip
        have HV := Lib.hid (show numsIn p [m1, m2, m3, m4, m5, m6] = false from by rw [nums6_in]; simp [hd1, hd2, hd3])
        go_wp2
        (refine bodyPost_ret (v := .bool (numsIn p [m1, m2, m3, m4, m5, m6])) (by simp [results, Try.results64, go_sem, HV.out, *]) rfl ⟨?_, ?_⟩)
        · rfl
        · (repeat (first | with_reducible exact Below.refl _ _ | with_reducible refine balloc ?_ _ | with_reducible refine bdrewN ?_ _ | with_reducible refine Below.drew ?_ | with_reducible refine bthen ?_ (by with_reducible assumption) | with_reducible refine Below.setCell ?_ (by first | (simp; done) | (simp; omega)) _))
      · skip
        go_wp2
        rw [rounds_succ]
        go_wp2_with fail
        refine Calls.mono (in_any _ _ _ _) ?_
        rintro e w' ⟨rfl, rfl⟩
        rcases bool_ways (inB m4 0 (p - 1)) with hd4 | hd4
        · skip
          have HV := Lib.hid (show numsIn p [m1, m2, m3, m4, m5, m6] = false from by rw [nums6_in]; simp [hd1, hd2, hd3, hd4])
          go_wp2
          (refine bodyPost_ret (v := .bool (numsIn p [m1, m2, m3, m4, m5, m6])) (by simp [results, Try.results64, go_sem, HV.out, *]) rfl ⟨?_, ?_⟩)
          · rfl
          · (repeat (first | with_reducible exact Below.refl _ _ | with_reducible refine balloc ?_ _ | with_reducible refine bdrewN ?_ _ | with_reducible refine Below.drew ?_ | with_reducible refine bthen ?_ (by with_reducible assumption) | with_reducible refine Below.setCell ?_ (by first | (simp; done) | (simp; omega)) _))
        · skip
          go_wp2
          rw [rounds_succ]
          go_wp2_with fail
          refine Calls.mono (specPoint_any _ _ _ _ hp) ?_
          rintro e w1 ⟨rfl, hB1⟩
          (obtain ⟨hB1c, hB1f⟩ := bcell hB1; have hB1s := hB1.size; (try simp at hB1s); (try have hB1q1 := Nat.lt_of_succ_le hB1s); (try have hB1q2 := Nat.lt_of_succ_lt hB1q1); (try have hB1q3 := Nat.lt_of_succ_lt hB1q2); (try have hB1zw0 : w.heap.size < w1.heap.size := (by omega)); (try have hB1zw1 : w.heap.size + 1 < w1.heap.size := (by omega)); (try have hB1zw2 : w.heap.size + 1 + 1 < w1.heap.size := (by omega)); (try have hB1zw3 : w.heap.size + 1 + 1 + 1 < w1.heap.size := (by omega)); (try have hB1zw4 : w.heap.size + 1 + 1 + 1 + 1 < w1.heap.size := (by omega)))
          have HV := Lib.hid (show numsIn p [m1, m2, m3, m4, m5, m6] = numsIn p [m5, m6] from by rw [nums6_in]; simp [hd1, hd2, hd3, hd4])
          go_wp2
          (refine bodyPost_ret (v := .bool (numsIn p [m1, m2, m3, m4, m5, m6])) (by simp [results, Try.results64, go_sem, HV.out, *]) rfl ⟨?_, ?_⟩)
          · rfl
          · (repeat (first | with_reducible exact Below.refl _ _ | with_reducible refine balloc ?_ _ | with_reducible refine bdrewN ?_ _ | with_reducible refine Below.drew ?_ | with_reducible refine bthen ?_ (by with_reducible assumption) | with_reducible refine Below.setCell ?_ (by first | (simp; done) | (simp; omega)) _))

end Go.Proofs.Ythfckpfiechloaa
