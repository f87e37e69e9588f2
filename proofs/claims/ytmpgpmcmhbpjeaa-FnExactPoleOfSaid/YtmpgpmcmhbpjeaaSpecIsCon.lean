/-
  spec.l08Is.
-/
import Derived.Test.YtmpgpmcmhbpjeaaConMath
import Derived.Test.YtmpgpmcmhbpjeaaField
import Derived.Deep.RegionHeld3
import Derived.Deep.DeepCutAuto
import Derived.LoopN
import Derived.Test.YtmpgpmcmhbpjeaaBaseMath
namespace Go.Proofs.Ytmpgpmcmhbpjeaa
open Go.RowKit

set_option linter.unusedVariables false in
set_option linter.unusedSimpArgs false in
set_option maxRecDepth 20000 in
set_option maxHeartbeats 4000000 in
theorem specIsCon_any (p k1 k2 k3 k4 k5 k6 : Int)  (w : World) (hp : isP p = true) :
    Calls Try.prog 70 #[.int .i64 p, .agg #[.int .i64 k1, .int .i64 k2, .int .i64 k3, .int .i64 k4, .int .i64 k5, .int .i64 k6]] w fun e w' =>
      e = .returned (.bool (cnB p k1 k2 k3 k4 k5 k6)) ∧ Below w.heap.size w w' := by
  have hr := isP_range hp
  go_enter Try.func70, Try.ntmps70
  go_wp2
  refine wp_loop_rounds 8 ?_
  rw [rounds_succ]
  go_wp2_with fail
  refine Calls.mono (in_any _ _ _ _) ?_
  rintro e w' ⟨rfl, rfl⟩
  rcases bool_ways (inB k1 0 (p - 1)) with hd1 | hd1
  · skip
    have HV := Lib.hid (show cnB p k1 k2 k3 k4 k5 k6 = false from by
      first | ((have hn : numsIn p [k1, k2, k3, k4, k5, k6] = true := by simp [nums6_of, hd1]); rw [cnB, hn, Bool.and_true]; simp [ld3, hd1]; done) | simp [cnB, nums6_of, hd1])
    go_wp2
    (refine bodyPost_ret (v := .bool (cnB p k1 k2 k3 k4 k5 k6)) (by simp [results, Try.results70, go_sem, HV.out, *]) rfl ⟨?_, ?_⟩)
    · rfl
    · (repeat (first | with_reducible exact Below.refl _ _ | with_reducible refine balloc ?_ _ | with_reducible refine bdrewN ?_ _ | with_reducible refine Below.drew ?_ | with_reducible refine bthen ?_ (by with_reducible assumption) | with_reducible refine Below.setCell ?_ (by first | (simp; done) | (simp; omega)) _))
  · skip
    go_wp2
    rw [rounds_succ]
    go_wp2_with fail
    refine Calls.mono (in_any _ _ _ _) ?_
    rintro e w' ⟨rfl, rfl⟩
    rcases bool_ways (inB k2 0 (p - 1)) with hd2 | hd2
    · skip
      have HV := Lib.hid (show cnB p k1 k2 k3 k4 k5 k6 = false from by
        first | ((have hn : numsIn p [k1, k2, k3, k4, k5, k6] = true := by simp [nums6_of, hd1, hd2]); rw [cnB, hn, Bool.and_true]; simp [ld3, hd1, hd2]; done) | simp [cnB, nums6_of, hd1, hd2])
      go_wp2
      (refine bodyPost_ret (v := .bool (cnB p k1 k2 k3 k4 k5 k6)) (by simp [results, Try.results70, go_sem, HV.out, *]) rfl ⟨?_, ?_⟩)
      · rfl
      · (repeat (first | with_reducible exact Below.refl _ _ | with_reducible refine balloc ?_ _ | with_reducible refine bdrewN ?_ _ | with_reducible refine Below.drew ?_ | with_reducible refine bthen ?_ (by with_reducible assumption) | with_reducible refine Below.setCell ?_ (by first | (simp; done) | (simp; omega)) _))
    · skip
      go_wp2
      rw [rounds_succ]
      go_wp2_with fail
      refine Calls.mono (in_any _ _ _ _) ?_
      rintro e w' ⟨rfl, rfl⟩
      rcases bool_ways (inB k3 0 (p - 1)) with hd3 | hd3
      · skip
        have HV := Lib.hid (show cnB p k1 k2 k3 k4 k5 k6 = false from by
          first | ((have hn : numsIn p [k1, k2, k3, k4, k5, k6] = true := by simp [nums6_of, hd1, hd2, hd3]); rw [cnB, hn, Bool.and_true]; simp [ld3, hd1, hd2, hd3]; done) | simp [cnB, nums6_of, hd1, hd2, hd3])
        go_wp2
        (refine bodyPost_ret (v := .bool (cnB p k1 k2 k3 k4 k5 k6)) (by simp [results, Try.results70, go_sem, HV.out, *]) rfl ⟨?_, ?_⟩)
        · rfl
        · (repeat (first | with_reducible exact Below.refl _ _ | with_reducible refine balloc ?_ _ | with_reducible refine bdrewN ?_ _ | with_reducible refine Below.drew ?_ | with_reducible refine bthen ?_ (by with_reducible assumption) | with_reducible refine Below.setCell ?_ (by first | (simp; done) | (simp; omega)) _))
      · skip
        go_wp2
        rw [rounds_succ]
        go_wp2_with fail
        refine Calls.mono (in_any _ _ _ _) ?_
        rintro e w' ⟨rfl, rfl⟩
        rcases bool_ways (inB k4 0 (p - 1)) with hd4 | hd4
        · skip
          have HV := Lib.hid (show cnB p k1 k2 k3 k4 k5 k6 = false from by
            first | ((have hn : numsIn p [k1, k2, k3, k4, k5, k6] = true := by simp [nums6_of, hd1, hd2, hd3, hd4]); rw [cnB, hn, Bool.and_true]; simp [ld3, hd1, hd2, hd3, hd4]; done) | simp [cnB, nums6_of, hd1, hd2, hd3, hd4])
          go_wp2
          (refine bodyPost_ret (v := .bool (cnB p k1 k2 k3 k4 k5 k6)) (by simp [results, Try.results70, go_sem, HV.out, *]) rfl ⟨?_, ?_⟩)
          · rfl
          · (repeat (first | with_reducible exact Below.refl _ _ | with_reducible refine balloc ?_ _ | with_reducible refine bdrewN ?_ _ | with_reducible refine Below.drew ?_ | with_reducible refine bthen ?_ (by with_reducible assumption) | with_reducible refine Below.setCell ?_ (by first | (simp; done) | (simp; omega)) _))
        · skip
          go_wp2
          rw [rounds_succ]
          go_wp2_with fail
          refine Calls.mono (in_any _ _ _ _) ?_
          rintro e w' ⟨rfl, rfl⟩
          rcases bool_ways (inB k5 0 (p - 1)) with hd5 | hd5
          · skip
            have HV := Lib.hid (show cnB p k1 k2 k3 k4 k5 k6 = false from by
              first | ((have hn : numsIn p [k1, k2, k3, k4, k5, k6] = true := by simp [nums6_of, hd1, hd2, hd3, hd4, hd5]); rw [cnB, hn, Bool.and_true]; simp [ld3, hd1, hd2, hd3, hd4, hd5]; done) | simp [cnB, nums6_of, hd1, hd2, hd3, hd4, hd5])
            go_wp2
            (refine bodyPost_ret (v := .bool (cnB p k1 k2 k3 k4 k5 k6)) (by simp [results, Try.results70, go_sem, HV.out, *]) rfl ⟨?_, ?_⟩)
            · rfl
            · (repeat (first | with_reducible exact Below.refl _ _ | with_reducible refine balloc ?_ _ | with_reducible refine bdrewN ?_ _ | with_reducible refine Below.drew ?_ | with_reducible refine bthen ?_ (by with_reducible assumption) | with_reducible refine Below.setCell ?_ (by first | (simp; done) | (simp; omega)) _))
          · skip
            go_wp2
            rw [rounds_succ]
            go_wp2_with fail
            refine Calls.mono (in_any _ _ _ _) ?_
            rintro e w' ⟨rfl, rfl⟩
            rcases bool_ways (inB k6 0 (p - 1)) with hd6 | hd6
            · skip
              have HV := Lib.hid (show cnB p k1 k2 k3 k4 k5 k6 = false from by
                first | ((have hn : numsIn p [k1, k2, k3, k4, k5, k6] = true := by simp [nums6_of, hd1, hd2, hd3, hd4, hd5, hd6]); rw [cnB, hn, Bool.and_true]; simp [ld3, hd1, hd2, hd3, hd4, hd5, hd6]; done) | simp [cnB, nums6_of, hd1, hd2, hd3, hd4, hd5, hd6])
              go_wp2
              (refine bodyPost_ret (v := .bool (cnB p k1 k2 k3 k4 k5 k6)) (by simp [results, Try.results70, go_sem, HV.out, *]) rfl ⟨?_, ?_⟩)
              · rfl
              · (repeat (first | with_reducible exact Below.refl _ _ | with_reducible refine balloc ?_ _ | with_reducible refine bdrewN ?_ _ | with_reducible refine Below.drew ?_ | with_reducible refine bthen ?_ (by with_reducible assumption) | with_reducible refine Below.setCell ?_ (by first | (simp; done) | (simp; omega)) _))
            · skip
              go_wp2
              rw [rounds_succ]
              go_wp2
              refine wp_loop_rounds 8 ?_
              rw [rounds_succ]
              rcases bool_ways (k1 == 0) with hd7 | hd7
              · have hd7n : (k1 != 0) = true := by rw [bne, hd7]; rfl
                have Hhd7p := Lib.hid (beq_eq_false_iff_ne.1 hd7)
                have HV := Lib.hid (show cnB p k1 k2 k3 k4 k5 k6 = (k1 == 1) from by
                  first | ((have hn : numsIn p [k1, k2, k3, k4, k5, k6] = true := by simp [nums6_of, hd1, hd2, hd3, hd4, hd5, hd6, hd7]); rw [cnB, hn, Bool.and_true]; simp [ld3, hd1, hd2, hd3, hd4, hd5, hd6, hd7]; done) | simp [cnB, nums6_of, hd1, hd2, hd3, hd4, hd5, hd6, hd7])
                go_wp2
                (refine bodyPost_ret (v := .bool (cnB p k1 k2 k3 k4 k5 k6)) (by simp [results, Try.results70, go_sem, HV.out, *]) rfl ⟨?_, ?_⟩)
                · rfl
                · (repeat (first | with_reducible exact Below.refl _ _ | with_reducible refine balloc ?_ _ | with_reducible refine bdrewN ?_ _ | with_reducible refine Below.drew ?_ | with_reducible refine bthen ?_ (by with_reducible assumption) | with_reducible refine Below.setCell ?_ (by first | (simp; done) | (simp; omega)) _))
              · have hd7n : (k1 != 0) = false := by rw [bne, hd7]; rfl
                have Hhd7p := Lib.hid (beq_iff_eq.1 hd7)
                go_wp2
                rw [rounds_succ]
                rcases bool_ways (k2 == 0) with hd8 | hd8
                · have hd8n : (k2 != 0) = true := by rw [bne, hd8]; rfl
                  have Hhd8p := Lib.hid (beq_eq_false_iff_ne.1 hd8)
                  have HV := Lib.hid (show cnB p k1 k2 k3 k4 k5 k6 = (k2 == 1) from by
                    first | ((have hn : numsIn p [k1, k2, k3, k4, k5, k6] = true := by simp [nums6_of, hd1, hd2, hd3, hd4, hd5, hd6, hd7, hd8]); rw [cnB, hn, Bool.and_true]; simp [ld3, hd1, hd2, hd3, hd4, hd5, hd6, hd7, hd8, beq_iff_eq.1 hd7]; done) | simp [cnB, nums6_of, hd1, hd2, hd3, hd4, hd5, hd6, hd7, hd8])
                  go_wp2
                  (refine bodyPost_ret (v := .bool (cnB p k1 k2 k3 k4 k5 k6)) (by simp [results, Try.results70, go_sem, HV.out, *]) rfl ⟨?_, ?_⟩)
                  · rfl
                  · (repeat (first | with_reducible exact Below.refl _ _ | with_reducible refine balloc ?_ _ | with_reducible refine bdrewN ?_ _ | with_reducible refine Below.drew ?_ | with_reducible refine bthen ?_ (by with_reducible assumption) | with_reducible refine Below.setCell ?_ (by first | (simp; done) | (simp; omega)) _))
                · have hd8n : (k2 != 0) = false := by rw [bne, hd8]; rfl
                  have Hhd8p := Lib.hid (beq_iff_eq.1 hd8)
                  go_wp2
                  rw [rounds_succ]
                  rcases bool_ways (k3 == 0) with hd9 | hd9
                  · have hd9n : (k3 != 0) = true := by rw [bne, hd9]; rfl
                    have Hhd9p := Lib.hid (beq_eq_false_iff_ne.1 hd9)
                    have HV := Lib.hid (show cnB p k1 k2 k3 k4 k5 k6 = (k3 == 1) from by
                      first | ((have hn : numsIn p [k1, k2, k3, k4, k5, k6] = true := by simp [nums6_of, hd1, hd2, hd3, hd4, hd5, hd6, hd7, hd8, hd9]); rw [cnB, hn, Bool.and_true]; simp [ld3, hd1, hd2, hd3, hd4, hd5, hd6, hd7, hd8, hd9, beq_iff_eq.1 hd7, beq_iff_eq.1 hd8]; done) | simp [cnB, nums6_of, hd1, hd2, hd3, hd4, hd5, hd6, hd7, hd8, hd9])
                    go_wp2
                    (refine bodyPost_ret (v := .bool (cnB p k1 k2 k3 k4 k5 k6)) (by simp [results, Try.results70, go_sem, HV.out, *]) rfl ⟨?_, ?_⟩)
                    · rfl
                    · (repeat (first | with_reducible exact Below.refl _ _ | with_reducible refine balloc ?_ _ | with_reducible refine bdrewN ?_ _ | with_reducible refine Below.drew ?_ | with_reducible refine bthen ?_ (by with_reducible assumption) | with_reducible refine Below.setCell ?_ (by first | (simp; done) | (simp; omega)) _))
                  · have hd9n : (k3 != 0) = false := by rw [bne, hd9]; rfl
                    have Hhd9p := Lib.hid (beq_iff_eq.1 hd9)
                    go_wp2
                    rw [rounds_succ]
                    have HV := Lib.hid (show cnB p k1 k2 k3 k4 k5 k6 = false from by
                      first | ((have hn : numsIn p [k1, k2, k3, k4, k5, k6] = true := by simp [nums6_of, hd1, hd2, hd3, hd4, hd5, hd6, hd7, hd8, hd9]); rw [cnB, hn, Bool.and_true]; simp [ld3, hd1, hd2, hd3, hd4, hd5, hd6, hd7, hd8, hd9, beq_iff_eq.1 hd7, beq_iff_eq.1 hd8, beq_iff_eq.1 hd9]; done) | simp [cnB, nums6_of, hd1, hd2, hd3, hd4, hd5, hd6, hd7, hd8, hd9])
                    go_wp2
                    (refine bodyPost_ret (v := .bool (cnB p k1 k2 k3 k4 k5 k6)) (by simp [results, Try.results70, go_sem, HV.out, *]) rfl ⟨?_, ?_⟩)
                    · rfl
                    · (repeat (first | with_reducible exact Below.refl _ _ | with_reducible refine balloc ?_ _ | with_reducible refine bdrewN ?_ _ | with_reducible refine Below.drew ?_ | with_reducible refine bthen ?_ (by with_reducible assumption) | with_reducible refine Below.setCell ?_ (by first | (simp; done) | (simp; omega)) _))

end Go.Proofs.Ytmpgpmcmhbpjeaa
