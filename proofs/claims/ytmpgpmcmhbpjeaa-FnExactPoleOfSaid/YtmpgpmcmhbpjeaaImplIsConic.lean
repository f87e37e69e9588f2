/-
  impl.isConic.
-/
import Derived.Test.YtmpgpmcmhbpjeaaImplLead
import Derived.Test.YtmpgpmcmhbpjeaaImplNums
import Derived.Deep.RegionHeld3
import Derived.Deep.DeepCutAuto
import Derived.Test.YtmpgpmcmhbpjeaaBaseMath
namespace Go.Proofs.Ytmpgpmcmhbpjeaa
open Go.RowKit

set_option linter.unusedVariables false in
set_option linter.unusedSimpArgs false in
set_option maxRecDepth 20000 in
set_option maxHeartbeats 4000000 in
theorem isConic_any (p k1 k2 k3 k4 k5 k6 : Int)  (w : World) :
    Calls Try.prog 37 #[.int .i64 p, .agg #[.int .i64 k1, .int .i64 k2, .int .i64 k3, .int .i64 k4, .int .i64 k5, .int .i64 k6]] w fun e w' =>
      e = .returned (.bool (cnB p k1 k2 k3 k4 k5 k6)) ∧ Below w.heap.size w w' := by
  obtain ⟨v1, hv1⟩ : ∃ v : Int, v = ld3 k1 k2 k3 := ⟨_, rfl⟩
  have Hv1 := Lib.hid hv1
  clear hv1
  go_enter Try.func37, Try.ntmps37
  rcases bool_ways (v1 == 1) with hd1 | hd1
  · have hd1n : (v1 != 1) = true := by rw [bne, hd1]; rfl
    have Hhd1p := Lib.hid (beq_eq_false_iff_ne.1 hd1)
    go_wp2_with fail
    refine Calls.mono (leadOf_any _ _ _ _ _ _ _ ) ?_
    rw [← Hv1.out]
    rintro e w1 ⟨rfl, hB1⟩
    (obtain ⟨hB1c, hB1f⟩ := bcell hB1; have hB1s := hB1.size; (try simp at hB1s); (try have hB1q1 := Nat.lt_of_succ_le hB1s); (try have hB1q2 := Nat.lt_of_succ_lt hB1q1); (try have hB1q3 := Nat.lt_of_succ_lt hB1q2); (try have hB1zw0 : w.heap.size < w1.heap.size := (by omega)); (try have hB1zw1 : w.heap.size + 1 < w1.heap.size := (by omega)); (try have hB1zw2 : w.heap.size + 1 + 1 < w1.heap.size := (by omega)); (try have hB1zw3 : w.heap.size + 1 + 1 + 1 < w1.heap.size := (by omega)); (try have hB1zw4 : w.heap.size + 1 + 1 + 1 + 1 < w1.heap.size := (by omega)))
    have HV := Lib.hid (show cnB p k1 k2 k3 k4 k5 k6 = false from by
      simp only [cnB, ← Hv1.out] <;> simp [hd1])
    go_wp2
    (refine bodyPost_ret (v := .bool (cnB p k1 k2 k3 k4 k5 k6)) (by simp [results, Try.results37, go_sem, HV.out, *]) rfl ⟨?_, ?_⟩)
    · rfl
    · (repeat (first | with_reducible exact Below.refl _ _ | with_reducible refine balloc ?_ _ | with_reducible refine bdrewN ?_ _ | with_reducible refine Below.drew ?_ | with_reducible refine bthen ?_ (by with_reducible assumption) | with_reducible refine Below.setCell ?_ (by first | (simp; done) | (simp; omega)) _))
  · have hd1n : (v1 != 1) = false := by rw [bne, hd1]; rfl
    have Hhd1p := Lib.hid (beq_iff_eq.1 hd1)
    go_wp2_with fail
    refine Calls.mono (leadOf_any _ _ _ _ _ _ _ ) ?_
    rw [← Hv1.out]
    rintro e w1 ⟨rfl, hB1⟩
    (obtain ⟨hB1c, hB1f⟩ := bcell hB1; have hB1s := hB1.size; (try simp at hB1s); (try have hB1q1 := Nat.lt_of_succ_le hB1s); (try have hB1q2 := Nat.lt_of_succ_lt hB1q1); (try have hB1q3 := Nat.lt_of_succ_lt hB1q2); (try have hB1zw0 : w.heap.size < w1.heap.size := (by omega)); (try have hB1zw1 : w.heap.size + 1 < w1.heap.size := (by omega)); (try have hB1zw2 : w.heap.size + 1 + 1 < w1.heap.size := (by omega)); (try have hB1zw3 : w.heap.size + 1 + 1 + 1 < w1.heap.size := (by omega)); (try have hB1zw4 : w.heap.size + 1 + 1 + 1 + 1 < w1.heap.size := (by omega)))
    go_wp2_with fail
    refine Calls.mono (areNums_any _ _ _ _ _ [k1, k2, k3, k4, k5, k6] _ rfl (by simp) (cells6 (by first | with_reducible assumption | (repeat (first | with_reducible assumption | ((with_reducible refine kfresh ?_ ?_) <;> (first | with_reducible rfl | (simp; done))) | ((with_reducible refine ksameS ?_); focus ((repeat (first | with_reducible exact kis_of (by with_reducible assumption) | with_reducible refine kis_set ?_ | ((with_reducible refine kis_new ?_ ?_) <;> (first | with_reducible rfl | rfl | (simp; done))) | with_reducible refine kis_alloc _ ?_ | with_reducible refine kis_drew ?_ | with_reducible refine kis_call (by with_reducible assumption) ?_ | with_reducible exact kis_of (kcall (by with_reducible assumption) (by with_reducible assumption)))); done)) | with_reducible refine kother (by decide) ?_ | with_reducible refine kset (by first | omega | (simp; done) | (simp; omega)) ?_ | with_reducible refine kalloc _ ?_ | with_reducible refine kdrew ?_ | with_reducible refine kdrewN ?_ | with_reducible refine kcall (by with_reducible assumption) ?_))) (by first | with_reducible assumption | (repeat (first | with_reducible assumption | ((with_reducible refine kfresh ?_ ?_) <;> (first | with_reducible rfl | (simp; done))) | ((with_reducible refine ksameS ?_); focus ((repeat (first | with_reducible exact kis_of (by with_reducible assumption) | with_reducible refine kis_set ?_ | ((with_reducible refine kis_new ?_ ?_) <;> (first | with_reducible rfl | rfl | (simp; done))) | with_reducible refine kis_alloc _ ?_ | with_reducible refine kis_drew ?_ | with_reducible refine kis_call (by with_reducible assumption) ?_ | with_reducible exact kis_of (kcall (by with_reducible assumption) (by with_reducible assumption)))); done)) | with_reducible refine kother (by decide) ?_ | with_reducible refine kset (by first | omega | (simp; done) | (simp; omega)) ?_ | with_reducible refine kalloc _ ?_ | with_reducible refine kdrew ?_ | with_reducible refine kdrewN ?_ | with_reducible refine kcall (by with_reducible assumption) ?_))) (by first | with_reducible assumption | (repeat (first | with_reducible assumption | ((with_reducible refine kfresh ?_ ?_) <;> (first | with_reducible rfl | (simp; done))) | ((with_reducible refine ksameS ?_); focus ((repeat (first | with_reducible exact kis_of (by with_reducible assumption) | with_reducible refine kis_set ?_ | ((with_reducible refine kis_new ?_ ?_) <;> (first | with_reducible rfl | rfl | (simp; done))) | with_reducible refine kis_alloc _ ?_ | with_reducible refine kis_drew ?_ | with_reducible refine kis_call (by with_reducible assumption) ?_ | with_reducible exact kis_of (kcall (by with_reducible assumption) (by with_reducible assumption)))); done)) | with_reducible refine kother (by decide) ?_ | with_reducible refine kset (by first | omega | (simp; done) | (simp; omega)) ?_ | with_reducible refine kalloc _ ?_ | with_reducible refine kdrew ?_ | with_reducible refine kdrewN ?_ | with_reducible refine kcall (by with_reducible assumption) ?_))) (by first | with_reducible assumption | (repeat (first | with_reducible assumption | ((with_reducible refine kfresh ?_ ?_) <;> (first | with_reducible rfl | (simp; done))) | ((with_reducible refine ksameS ?_); focus ((repeat (first | with_reducible exact kis_of (by with_reducible assumption) | with_reducible refine kis_set ?_ | ((with_reducible refine kis_new ?_ ?_) <;> (first | with_reducible rfl | rfl | (simp; done))) | with_reducible refine kis_alloc _ ?_ | with_reducible refine kis_drew ?_ | with_reducible refine kis_call (by with_reducible assumption) ?_ | with_reducible exact kis_of (kcall (by with_reducible assumption) (by with_reducible assumption)))); done)) | with_reducible refine kother (by decide) ?_ | with_reducible refine kset (by first | omega | (simp; done) | (simp; omega)) ?_ | with_reducible refine kalloc _ ?_ | with_reducible refine kdrew ?_ | with_reducible refine kdrewN ?_ | with_reducible refine kcall (by with_reducible assumption) ?_))) (by first | with_reducible assumption | (repeat (first | with_reducible assumption | ((with_reducible refine kfresh ?_ ?_) <;> (first | with_reducible rfl | (simp; done))) | ((with_reducible refine ksameS ?_); focus ((repeat (first | with_reducible exact kis_of (by with_reducible assumption) | with_reducible refine kis_set ?_ | ((with_reducible refine kis_new ?_ ?_) <;> (first | with_reducible rfl | rfl | (simp; done))) | with_reducible refine kis_alloc _ ?_ | with_reducible refine kis_drew ?_ | with_reducible refine kis_call (by with_reducible assumption) ?_ | with_reducible exact kis_of (kcall (by with_reducible assumption) (by with_reducible assumption)))); done)) | with_reducible refine kother (by decide) ?_ | with_reducible refine kset (by first | omega | (simp; done) | (simp; omega)) ?_ | with_reducible refine kalloc _ ?_ | with_reducible refine kdrew ?_ | with_reducible refine kdrewN ?_ | with_reducible refine kcall (by with_reducible assumption) ?_))) (by first | with_reducible assumption | (repeat (first | with_reducible assumption | ((with_reducible refine kfresh ?_ ?_) <;> (first | with_reducible rfl | (simp; done))) | ((with_reducible refine ksameS ?_); focus ((repeat (first | with_reducible exact kis_of (by with_reducible assumption) | with_reducible refine kis_set ?_ | ((with_reducible refine kis_new ?_ ?_) <;> (first | with_reducible rfl | rfl | (simp; done))) | with_reducible refine kis_alloc _ ?_ | with_reducible refine kis_drew ?_ | with_reducible refine kis_call (by with_reducible assumption) ?_ | with_reducible exact kis_of (kcall (by with_reducible assumption) (by with_reducible assumption)))); done)) | with_reducible refine kother (by decide) ?_ | with_reducible refine kset (by first | omega | (simp; done) | (simp; omega)) ?_ | with_reducible refine kalloc _ ?_ | with_reducible refine kdrew ?_ | with_reducible refine kdrewN ?_ | with_reducible refine kcall (by with_reducible assumption) ?_))))) ?_
    rintro e w' ⟨rfl, rfl⟩
    have HV := Lib.hid (show cnB p k1 k2 k3 k4 k5 k6 = numsIn p [k1, k2, k3, k4, k5, k6] from by
      simp only [cnB, ← Hv1.out] <;> simp [hd1])
    go_wp2
    (refine bodyPost_ret (v := .bool (cnB p k1 k2 k3 k4 k5 k6)) (by simp [results, Try.results37, go_sem, HV.out, *]) rfl ⟨?_, ?_⟩)
    · rfl
    · (repeat (first | with_reducible exact Below.refl _ _ | with_reducible refine balloc ?_ _ | with_reducible refine bdrewN ?_ _ | with_reducible refine Below.drew ?_ | with_reducible refine bthen ?_ (by with_reducible assumption) | with_reducible refine Below.setCell ?_ (by first | (simp; done) | (simp; omega)) _))

end Go.Proofs.Ytmpgpmcmhbpjeaa
