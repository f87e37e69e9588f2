/-
  spec.l03Null.
-/
import Derived.Test.YtijmmagdkbnhdaaMgq0
import Derived.Deep.RegionHeld3
import Derived.Deep.DeepCutAuto

namespace Go.Proofs.Ytijmmagdkbnhdaa
open Go.RowKit

set_option linter.unusedSimpArgs false in
set_option maxRecDepth 20000 in
set_option maxHeartbeats 4000000 in
theorem specNull_any (p c l1 l2 l3 : Int) (w : World) (hp : isP p = true) (hc : colB c = true) (hl1 : 0 ≤ l1 ∧ l1 < p) (hl2 : 0 ≤ l2 ∧ l2 < p) :
    Calls Try.prog 54 #[.int .i64 p, .int .i64 c, .agg #[.int .i64 l1, .int .i64 l2, .int .i64 l3]] w fun e w' =>
      e = .returned (.bool (nullB p c l1 l2)) ∧ Below w.heap.size w w' := by
  have hr := isP_range hp
  have hcr := colB_range hc
  obtain ⟨v1, hv1⟩ : ∃ v : Int, v = (-l2) % p := ⟨_, rfl⟩
  have rv1 := modR (-l2) hp
  rw [← hv1] at rv1
  have Hv1 := Lib.hid hv1
  clear hv1
  obtain ⟨v2, hv2⟩ : ∃ v : Int, v = prd p c v1 l1 v1 l1 := ⟨_, rfl⟩
  have rv2 := prd_lt c v1 l1 v1 l1 hp
  rw [← hv2] at rv2
  have Hv2 := Lib.hid hv2
  clear hv2
  go_enter Try.func54, Try.ntmps54
  go_wp2_with fail
  refine Calls.mono (specDir_any _ _ _ _ _ hp (by omega)) ?_
  rw [← Hv1.out]
  rintro e w1 ⟨rfl, hB1⟩
  (obtain ⟨hB1c, hB1f⟩ := bcell hB1; have hB1s := hB1.size; (try simp at hB1s); (try have hB1q1 := Nat.lt_of_succ_le hB1s); (try have hB1q2 := Nat.lt_of_succ_lt hB1q1); (try have hB1q3 := Nat.lt_of_succ_lt hB1q2); (try have hB1zw0 : w.heap.size < w1.heap.size := (by omega)); (try have hB1zw1 : w.heap.size + 1 < w1.heap.size := (by omega)); (try have hB1zw2 : w.heap.size + 1 + 1 < w1.heap.size := (by omega)); (try have hB1zw3 : w.heap.size + 1 + 1 + 1 < w1.heap.size := (by omega)); (try have hB1zw4 : w.heap.size + 1 + 1 + 1 + 1 < w1.heap.size := (by omega)))
  go_wp2_with fail
  refine Calls.mono (specProduct_any _ _ _ _ _ _ _ hp hc (by omega) (by omega) (by omega) (by omega)) ?_
  rw [← Hv2.out]
  rintro e w2 ⟨rfl, hB2⟩
  (obtain ⟨hB2c, hB2f⟩ := bcell hB2; have hB2s := hB2.size; (try simp at hB2s); (try have hB2q1 := Nat.lt_of_succ_le hB2s); (try have hB2q2 := Nat.lt_of_succ_lt hB2q1); (try have hB2q3 := Nat.lt_of_succ_lt hB2q2); (try have hB2zw0 : w.heap.size < w2.heap.size := (by omega)); (try have hB2zw1 : w.heap.size + 1 < w2.heap.size := (by omega)); (try have hB2zw2 : w.heap.size + 1 + 1 < w2.heap.size := (by omega)); (try have hB2zw3 : w.heap.size + 1 + 1 + 1 < w2.heap.size := (by omega)); (try have hB2zw4 : w.heap.size + 1 + 1 + 1 + 1 < w2.heap.size := (by omega)); (try have hB2zw10 : w1.heap.size < w2.heap.size := (by omega)); (try have hB2zw11 : w1.heap.size + 1 < w2.heap.size := (by omega)); (try have hB2zw12 : w1.heap.size + 1 + 1 < w2.heap.size := (by omega)); (try have hB2zw13 : w1.heap.size + 1 + 1 + 1 < w2.heap.size := (by omega)); (try have hB2zw14 : w1.heap.size + 1 + 1 + 1 + 1 < w2.heap.size := (by omega)))
  have HV := Lib.hid (show nullB p c l1 l2 = (v2 == 0) from by
    rw [Hv2.out, Hv1.out]; rfl)
  go_wp2
  (refine bodyPost_ret (v := .bool (nullB p c l1 l2)) (by simp [results, Try.results54, go_sem, HV.out, *]) rfl ⟨?_, ?_⟩)
  · rfl
  · (repeat (first | with_reducible exact Below.refl _ _ | with_reducible refine balloc ?_ _ | with_reducible refine bdrewN ?_ _ | with_reducible refine Below.drew ?_ | with_reducible refine bthen ?_ (by with_reducible assumption) | with_reducible refine Below.setCell ?_ (by first | (simp; done) | (simp; omega)) _))

end Go.Proofs.Ytijmmagdkbnhdaa
