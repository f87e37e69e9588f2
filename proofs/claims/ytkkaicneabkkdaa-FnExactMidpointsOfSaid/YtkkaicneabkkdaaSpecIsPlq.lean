/-
  spec.l09Is.
-/
import Derived.Test.YtkkaicneabkkdaaMgq0
import Derived.Deep.RegionHeld3
import Derived.Deep.DeepCutAuto
import Derived.LoopN

namespace Go.Proofs.Ytkkaicneabkkdaa
open Go.RowKit

set_option linter.unusedVariables false in
set_option linter.unusedSimpArgs false in
set_option maxRecDepth 20000 in
set_option maxHeartbeats 4000000 in
theorem specIsPl_any (p a1 a2 a3 : Int)  (w : World) (hp : isP p = true) :
    Calls Try.prog 71 #[.int .i64 p, .agg #[.int .i64 a1, .int .i64 a2, .int .i64 a3]] w fun e w' =>
      e = .returned (.bool (plB p a1 a2 a3)) ∧ Below w.heap.size w w' := by
  have hr := isP_range hp
  go_enter Try.func71, Try.ntmps71
  go_wp2
  refine wp_loop_rounds 8 ?_
  rw [rounds_succ]
  go_wp2_with fail
  refine Calls.mono (in_any _ _ _ _) ?_
  rintro e w' ⟨rfl, rfl⟩
  rcases bool_ways (inB a1 0 (p - 1)) with hd1 | hd1
  · skip
    have HV := Lib.hid (show plB p a1 a2 a3 = false from by
      first | ((have hn : numsIn p [a1, a2, a3] = true := by simp [numsIn3, hd1]); rw [plB, hn, Bool.and_true]; simp [ld3, hd1]; done) | simp [plB, numsIn3, hd1])
    go_wp2
    (refine bodyPost_ret (v := .bool (plB p a1 a2 a3)) (by simp [results, Try.results71, go_sem, HV.out, *]) rfl ⟨?_, ?_⟩)
    · rfl
    · (repeat (first | with_reducible exact Below.refl _ _ | with_reducible refine balloc ?_ _ | with_reducible refine bdrewN ?_ _ | with_reducible refine Below.drew ?_ | with_reducible refine bthen ?_ (by with_reducible assumption) | with_reducible refine Below.setCell ?_ (by first | (simp; done) | (simp; omega)) _))
  · skip
    go_wp2
    rw [rounds_succ]
    go_wp2_with fail
    refine Calls.mono (in_any _ _ _ _) ?_
    rintro e w' ⟨rfl, rfl⟩
    rcases bool_ways (inB a2 0 (p - 1)) with hd2 | hd2
    · skip
      have HV := Lib.hid (show plB p a1 a2 a3 = false from by
        first | ((have hn : numsIn p [a1, a2, a3] = true := by simp [numsIn3, hd1, hd2]); rw [plB, hn, Bool.and_true]; simp [ld3, hd1, hd2]; done) | simp [plB, numsIn3, hd1, hd2])
      go_wp2
      (refine bodyPost_ret (v := .bool (plB p a1 a2 a3)) (by simp [results, Try.results71, go_sem, HV.out, *]) rfl ⟨?_, ?_⟩)
      · rfl
      · (repeat (first | with_reducible exact Below.refl _ _ | with_reducible refine balloc ?_ _ | with_reducible refine bdrewN ?_ _ | with_reducible refine Below.drew ?_ | with_reducible refine bthen ?_ (by with_reducible assumption) | with_reducible refine Below.setCell ?_ (by first | (simp; done) | (simp; omega)) _))
    · skip
      rcases bool_ways (a1 == 0) with hd3 | hd3
      · have hd3n : (a1 != 0) = true := by rw [bne, hd3]; rfl
        have Hhd3p := Lib.hid (beq_eq_false_iff_ne.1 hd3)
        go_wp2
        rw [rounds_succ]
        go_wp2_with fail
        refine Calls.mono (in_any _ _ _ _) ?_
        rintro e w' ⟨rfl, rfl⟩
        rcases bool_ways (inB a3 0 (p - 1)) with hd4 | hd4
        · skip
          have HV := Lib.hid (show plB p a1 a2 a3 = false from by
            first | ((have hn : numsIn p [a1, a2, a3] = true := by simp [numsIn3, hd1, hd2, hd3, hd4]); rw [plB, hn, Bool.and_true]; simp [ld3, hd1, hd2, hd3, hd4]; done) | simp [plB, numsIn3, hd1, hd2, hd3, hd4])
          go_wp2
          (refine bodyPost_ret (v := .bool (plB p a1 a2 a3)) (by simp [results, Try.results71, go_sem, HV.out, *]) rfl ⟨?_, ?_⟩)
          · rfl
          · (repeat (first | with_reducible exact Below.refl _ _ | with_reducible refine balloc ?_ _ | with_reducible refine bdrewN ?_ _ | with_reducible refine Below.drew ?_ | with_reducible refine bthen ?_ (by with_reducible assumption) | with_reducible refine Below.setCell ?_ (by first | (simp; done) | (simp; omega)) _))
        · skip
          go_wp2
          rw [rounds_succ]
          have HV := Lib.hid (show plB p a1 a2 a3 = (a1 == 1) from by
            first | ((have hn : numsIn p [a1, a2, a3] = true := by simp [numsIn3, hd1, hd2, hd3, hd4]); rw [plB, hn, Bool.and_true]; simp [ld3, hd1, hd2, hd3, hd4]; done) | simp [plB, numsIn3, hd1, hd2, hd3, hd4])
          go_wp2
          (refine bodyPost_ret (v := .bool (plB p a1 a2 a3)) (by simp [results, Try.results71, go_sem, HV.out, *]) rfl ⟨?_, ?_⟩)
          · rfl
          · (repeat (first | with_reducible exact Below.refl _ _ | with_reducible refine balloc ?_ _ | with_reducible refine bdrewN ?_ _ | with_reducible refine Below.drew ?_ | with_reducible refine bthen ?_ (by with_reducible assumption) | with_reducible refine Below.setCell ?_ (by first | (simp; done) | (simp; omega)) _))
      · have hd3n : (a1 != 0) = false := by rw [bne, hd3]; rfl
        have Hhd3p := Lib.hid (beq_iff_eq.1 hd3)
        go_wp2
        rw [rounds_succ]
        go_wp2_with fail
        refine Calls.mono (in_any _ _ _ _) ?_
        rintro e w' ⟨rfl, rfl⟩
        rcases bool_ways (inB a3 0 (p - 1)) with hd4 | hd4
        · skip
          have HV := Lib.hid (show plB p a1 a2 a3 = false from by
            first | ((have hn : numsIn p [a1, a2, a3] = true := by simp [numsIn3, hd1, hd2, hd3, hd4]); rw [plB, hn, Bool.and_true]; simp [ld3, hd1, hd2, hd3, hd4, beq_iff_eq.1 hd3]; done) | simp [plB, numsIn3, hd1, hd2, hd3, hd4])
          go_wp2
          (refine bodyPost_ret (v := .bool (plB p a1 a2 a3)) (by simp [results, Try.results71, go_sem, HV.out, *]) rfl ⟨?_, ?_⟩)
          · rfl
          · (repeat (first | with_reducible exact Below.refl _ _ | with_reducible refine balloc ?_ _ | with_reducible refine bdrewN ?_ _ | with_reducible refine Below.drew ?_ | with_reducible refine bthen ?_ (by with_reducible assumption) | with_reducible refine Below.setCell ?_ (by first | (simp; done) | (simp; omega)) _))
        · skip
          rcases bool_ways (a2 == 0) with hd5 | hd5
          · have hd5n : (a2 != 0) = true := by rw [bne, hd5]; rfl
            have Hhd5p := Lib.hid (beq_eq_false_iff_ne.1 hd5)
            go_wp2
            rw [rounds_succ]
            have HV := Lib.hid (show plB p a1 a2 a3 = (a2 == 1) from by
              first | ((have hn : numsIn p [a1, a2, a3] = true := by simp [numsIn3, hd1, hd2, hd3, hd4, hd5]); rw [plB, hn, Bool.and_true]; simp [ld3, hd1, hd2, hd3, hd4, hd5, beq_iff_eq.1 hd3]; done) | simp [plB, numsIn3, hd1, hd2, hd3, hd4, hd5])
            go_wp2
            (refine bodyPost_ret (v := .bool (plB p a1 a2 a3)) (by simp [results, Try.results71, go_sem, HV.out, *]) rfl ⟨?_, ?_⟩)
            · rfl
            · (repeat (first | with_reducible exact Below.refl _ _ | with_reducible refine balloc ?_ _ | with_reducible refine bdrewN ?_ _ | with_reducible refine Below.drew ?_ | with_reducible refine bthen ?_ (by with_reducible assumption) | with_reducible refine Below.setCell ?_ (by first | (simp; done) | (simp; omega)) _))
          · have hd5n : (a2 != 0) = false := by rw [bne, hd5]; rfl
            have Hhd5p := Lib.hid (beq_iff_eq.1 hd5)
            go_wp2
            rw [rounds_succ]
            have HV := Lib.hid (show plB p a1 a2 a3 = (a3 == 1) from by
              first | ((have hn : numsIn p [a1, a2, a3] = true := by simp [numsIn3, hd1, hd2, hd3, hd4, hd5]); rw [plB, hn, Bool.and_true]; simp [ld3, hd1, hd2, hd3, hd4, hd5, beq_iff_eq.1 hd3, beq_iff_eq.1 hd5]; done) | simp [plB, numsIn3, hd1, hd2, hd3, hd4, hd5])
            go_wp2
            (refine bodyPost_ret (v := .bool (plB p a1 a2 a3)) (by simp [results, Try.results71, go_sem, HV.out, *]) rfl ⟨?_, ?_⟩)
            · rfl
            · (repeat (first | with_reducible exact Below.refl _ _ | with_reducible refine balloc ?_ _ | with_reducible refine bdrewN ?_ _ | with_reducible refine Below.drew ?_ | with_reducible refine bthen ?_ (by with_reducible assumption) | with_reducible refine Below.setCell ?_ (by first | (simp; done) | (simp; omega)) _))

end Go.Proofs.Ytkkaicneabkkdaa
