/-
  impl.leadOf.
-/
import Derived.Test.YtmpgpmcmhbpjeaaConMath
import Derived.Test.YtmpgpmcmhbpjeaaMod
import Derived.Deep.RegionHeld3
import Derived.Deep.DeepCutAuto
import Derived.LoopN
import Derived.Test.YtmpgpmcmhbpjeaaBaseMath
namespace Go.Proofs.Ytmpgpmcmhbpjeaa
open Go.RowKit

set_option linter.unusedVariables false in
set_option linter.unusedSimpArgs false in
set_option maxRecDepth 20000 in
set_option maxHeartbeats 4000000 in
theorem or3_any (x1 x2 x3 : Int) (b0 : Nat)  (w : World) (kb0_0 : w.cell? ⟨b0, 0, none⟩ = some (.int .i64 x1)) (kb0_1 : w.cell? ⟨b0, 1, none⟩ = some (.int .i64 x2)) (kb0_2 : w.cell? ⟨b0, 2, none⟩ = some (.int .i64 x3)) :
    Calls Try.prog 100 #[.slice (some ⟨b0, 0, none⟩) 3 6] w fun e w' =>
      e = .returned (.int .i64 (ld3 x1 x2 x3)) ∧ Below w.heap.size w w' := by
  have lb0 := World.block_lt_of_cell? w ⟨b0, 0, none⟩ kb0_0
  simp only at lb0
  go_enter Try.func100, Try.ntmps100
  go_wp2
  refine wp_loop_rounds 8 ?_
  rw [rounds_succ]
  rcases bool_ways (x1 == 0) with hd1 | hd1
  · have hd1n : (x1 != 0) = true := by rw [bne, hd1]; rfl
    have Hhd1p := Lib.hid (beq_eq_false_iff_ne.1 hd1)
    have HV := Lib.hid (show ld3 x1 x2 x3 = x1 from by simp [ld3, hd1])
    go_wp2
    (refine bodyPost_ret (v := .int .i64 (ld3 x1 x2 x3)) (by simp [results, Try.results100, go_sem, HV.out, *]) rfl ⟨?_, ?_⟩)
    · rfl
    · (repeat (first | with_reducible exact Below.refl _ _ | with_reducible refine balloc ?_ _ | with_reducible refine bdrewN ?_ _ | with_reducible refine Below.drew ?_ | with_reducible refine bthen ?_ (by with_reducible assumption) | with_reducible refine Below.setCell ?_ (by first | (simp; done) | (simp; omega)) _))
  · have hd1n : (x1 != 0) = false := by rw [bne, hd1]; rfl
    have Hhd1p := Lib.hid (beq_iff_eq.1 hd1)
    go_wp2
    rw [rounds_succ]
    rcases bool_ways (x2 == 0) with hd2 | hd2
    · have hd2n : (x2 != 0) = true := by rw [bne, hd2]; rfl
      have Hhd2p := Lib.hid (beq_eq_false_iff_ne.1 hd2)
      have HV := Lib.hid (show ld3 x1 x2 x3 = x2 from by simp [ld3, hd1, hd2, beq_iff_eq.1 hd1])
      go_wp2
      (refine bodyPost_ret (v := .int .i64 (ld3 x1 x2 x3)) (by simp [results, Try.results100, go_sem, HV.out, *]) rfl ⟨?_, ?_⟩)
      · rfl
      · (repeat (first | with_reducible exact Below.refl _ _ | with_reducible refine balloc ?_ _ | with_reducible refine bdrewN ?_ _ | with_reducible refine Below.drew ?_ | with_reducible refine bthen ?_ (by with_reducible assumption) | with_reducible refine Below.setCell ?_ (by first | (simp; done) | (simp; omega)) _))
    · have hd2n : (x2 != 0) = false := by rw [bne, hd2]; rfl
      have Hhd2p := Lib.hid (beq_iff_eq.1 hd2)
      go_wp2
      rw [rounds_succ]
      rcases bool_ways (x3 == 0) with hd3 | hd3
      · have hd3n : (x3 != 0) = true := by rw [bne, hd3]; rfl
        have Hhd3p := Lib.hid (beq_eq_false_iff_ne.1 hd3)
        have HV := Lib.hid (show ld3 x1 x2 x3 = x3 from by simp [ld3, hd1, hd2, hd3, beq_iff_eq.1 hd1, beq_iff_eq.1 hd2])
        go_wp2
        (refine bodyPost_ret (v := .int .i64 (ld3 x1 x2 x3)) (by simp [results, Try.results100, go_sem, HV.out, *]) rfl ⟨?_, ?_⟩)
        · rfl
        · (repeat (first | with_reducible exact Below.refl _ _ | with_reducible refine balloc ?_ _ | with_reducible refine bdrewN ?_ _ | with_reducible refine Below.drew ?_ | with_reducible refine bthen ?_ (by with_reducible assumption) | with_reducible refine Below.setCell ?_ (by first | (simp; done) | (simp; omega)) _))
      · have hd3n : (x3 != 0) = false := by rw [bne, hd3]; rfl
        have Hhd3p := Lib.hid (beq_iff_eq.1 hd3)
        go_wp2
        rw [rounds_succ]
        have HV := Lib.hid (show ld3 x1 x2 x3 = 0 from by simp [ld3, hd1, hd2, hd3, beq_iff_eq.1 hd1, beq_iff_eq.1 hd2, beq_iff_eq.1 hd3])
        go_wp2
        (refine bodyPost_ret (v := .int .i64 (ld3 x1 x2 x3)) (by simp [results, Try.results100, go_sem, HV.out, *]) rfl ⟨?_, ?_⟩)
        · rfl
        · (repeat (first | with_reducible exact Below.refl _ _ | with_reducible refine balloc ?_ _ | with_reducible refine bdrewN ?_ _ | with_reducible refine Below.drew ?_ | with_reducible refine bthen ?_ (by with_reducible assumption) | with_reducible refine Below.setCell ?_ (by first | (simp; done) | (simp; omega)) _))

set_option linter.unusedVariables false in
set_option linter.unusedSimpArgs false in
set_option maxRecDepth 20000 in
set_option maxHeartbeats 4000000 in
theorem leadOf_any (k1 k2 k3 k4 k5 k6 : Int)  (w : World) :
    Calls Try.prog 74 #[.agg #[.int .i64 k1, .int .i64 k2, .int .i64 k3, .int .i64 k4, .int .i64 k5, .int .i64 k6]] w fun e w' =>
      e = .returned (.int .i64 (ld3 k1 k2 k3)) ∧ Below w.heap.size w w' := by
  obtain ⟨v1, hv1⟩ : ∃ v : Int, v = ld3 k1 k2 k3 := ⟨_, rfl⟩
  have Hv1 := Lib.hid hv1
  clear hv1
  go_enter Try.func74, Try.ntmps74
  go_wp2_with fail
  refine Calls.mono (or3_any k1 k2 k3 _ _ (by first | with_reducible assumption | (repeat (first | with_reducible assumption | ((with_reducible refine kfresh ?_ ?_) <;> (first | with_reducible rfl | (simp; done))) | ((with_reducible refine ksameS ?_); focus ((repeat (first | with_reducible exact kis_of (by with_reducible assumption) | with_reducible refine kis_set ?_ | ((with_reducible refine kis_new ?_ ?_) <;> (first | with_reducible rfl | rfl | (simp; done))) | with_reducible refine kis_alloc _ ?_ | with_reducible refine kis_drew ?_ | with_reducible refine kis_call (by with_reducible assumption) ?_ | with_reducible exact kis_of (kcall (by with_reducible assumption) (by with_reducible assumption)))); done)) | with_reducible refine kother (by decide) ?_ | with_reducible refine kset (by first | omega | (simp; done) | (simp; omega)) ?_ | with_reducible refine kalloc _ ?_ | with_reducible refine kdrew ?_ | with_reducible refine kdrewN ?_ | with_reducible refine kcall (by with_reducible assumption) ?_))) (by first | with_reducible assumption | (repeat (first | with_reducible assumption | ((with_reducible refine kfresh ?_ ?_) <;> (first | with_reducible rfl | (simp; done))) | ((with_reducible refine ksameS ?_); focus ((repeat (first | with_reducible exact kis_of (by with_reducible assumption) | with_reducible refine kis_set ?_ | ((with_reducible refine kis_new ?_ ?_) <;> (first | with_reducible rfl | rfl | (simp; done))) | with_reducible refine kis_alloc _ ?_ | with_reducible refine kis_drew ?_ | with_reducible refine kis_call (by with_reducible assumption) ?_ | with_reducible exact kis_of (kcall (by with_reducible assumption) (by with_reducible assumption)))); done)) | with_reducible refine kother (by decide) ?_ | with_reducible refine kset (by first | omega | (simp; done) | (simp; omega)) ?_ | with_reducible refine kalloc _ ?_ | with_reducible refine kdrew ?_ | with_reducible refine kdrewN ?_ | with_reducible refine kcall (by with_reducible assumption) ?_))) (by first | with_reducible assumption | (repeat (first | with_reducible assumption | ((with_reducible refine kfresh ?_ ?_) <;> (first | with_reducible rfl | (simp; done))) | ((with_reducible refine ksameS ?_); focus ((repeat (first | with_reducible exact kis_of (by with_reducible assumption) | with_reducible refine kis_set ?_ | ((with_reducible refine kis_new ?_ ?_) <;> (first | with_reducible rfl | rfl | (simp; done))) | with_reducible refine kis_alloc _ ?_ | with_reducible refine kis_drew ?_ | with_reducible refine kis_call (by with_reducible assumption) ?_ | with_reducible exact kis_of (kcall (by with_reducible assumption) (by with_reducible assumption)))); done)) | with_reducible refine kother (by decide) ?_ | with_reducible refine kset (by first | omega | (simp; done) | (simp; omega)) ?_ | with_reducible refine kalloc _ ?_ | with_reducible refine kdrew ?_ | with_reducible refine kdrewN ?_ | with_reducible refine kcall (by with_reducible assumption) ?_)))) ?_
  rw [← Hv1.out]
  rintro e w1 ⟨rfl, hB1⟩
  (obtain ⟨hB1c, hB1f⟩ := bcell hB1; have hB1s := hB1.size; (try simp at hB1s); (try have hB1q1 := Nat.lt_of_succ_le hB1s); (try have hB1q2 := Nat.lt_of_succ_lt hB1q1); (try have hB1q3 := Nat.lt_of_succ_lt hB1q2); (try have hB1zw0 : w.heap.size < w1.heap.size := (by omega)); (try have hB1zw1 : w.heap.size + 1 < w1.heap.size := (by omega)); (try have hB1zw2 : w.heap.size + 1 + 1 < w1.heap.size := (by omega)); (try have hB1zw3 : w.heap.size + 1 + 1 + 1 < w1.heap.size := (by omega)); (try have hB1zw4 : w.heap.size + 1 + 1 + 1 + 1 < w1.heap.size := (by omega)))
  have HV := Lib.hid (show ld3 k1 k2 k3 = v1 from by
    try rw [Hv1.out]
    all_goals (rfl))
  go_wp2
  (refine bodyPost_ret (v := .int .i64 (ld3 k1 k2 k3)) (by simp [results, Try.results74, go_sem, HV.out, *]) rfl ⟨?_, ?_⟩)
  · rfl
  · (repeat (first | with_reducible exact Below.refl _ _ | with_reducible refine balloc ?_ _ | with_reducible refine bdrewN ?_ _ | with_reducible refine Below.drew ?_ | with_reducible refine bthen ?_ (by with_reducible assumption) | with_reducible refine Below.setCell ?_ (by first | (simp; done) | (simp; omega)) _))

end Go.Proofs.Ytmpgpmcmhbpjeaa
