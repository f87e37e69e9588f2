/-
  IsConic: the program's and the model's.
-/
import Derived.Test.YtijmmagdkbnhdaaSpecIsCon
import Derived.Test.YtijmmagdkbnhdaaImplIsConic
import Derived.Test.YtijmmagdkbnhdaaCode
import Derived.Deep.RegionHeld3
import Derived.Deep.DeepCutAuto
import Derived.Test.YtijmmagdkbnhdaaBaseMath
namespace Go.Proofs.Ytijmmagdkbnhdaa
open Go.RowKit

set_option linter.unusedVariables false in
def icB (p k1 k2 k3 k4 k5 k6 : Int) : Bool := true
set_option linter.unusedVariables false in
def icS (p k1 k2 k3 k4 k5 k6 : Int) : Int := 0
set_option linter.unusedVariables false in
def icC (p k1 k2 k3 k4 k5 k6 : Int) : Int := if isP p = true then (if icB p k1 k2 k3 k4 k5 k6 = true then icS p k1 k2 k3 k4 k5 k6 else 2) else 1
set_option linter.unusedVariables false in
def icV1 (p k1 k2 k3 k4 k5 k6 : Int) : Bool := if icC p k1 k2 k3 k4 k5 k6 = 0 then cnB p k1 k2 k3 k4 k5 k6 else false
theorem ic_zero {p k1 k2 k3 k4 k5 k6 k : Int} (h : icC p k1 k2 k3 k4 k5 k6 = k) (hk : k ≠ 0) : icV1 p k1 k2 k3 k4 k5 k6 = false ∧ icC p k1 k2 k3 k4 k5 k6 = k := by
  have hn : ¬ (icC p k1 k2 k3 k4 k5 k6 = 0) := fun e => hk (h.symm.trans e)
  exact ⟨if_neg hn, h⟩
theorem ic_no {p k1 k2 k3 k4 k5 k6 : Int} (h : isP p = false) : icV1 p k1 k2 k3 k4 k5 k6 = false ∧ icC p k1 k2 k3 k4 k5 k6 = 1 := ic_zero (by simp [icC, h]) (by decide)
theorem ic_out {p k1 k2 k3 k4 k5 k6 : Int} (hp : isP p = true) (h : icB p k1 k2 k3 k4 k5 k6 = false) : icV1 p k1 k2 k3 k4 k5 k6 = false ∧ icC p k1 k2 k3 k4 k5 k6 = 2 := ic_zero (by simp [icC, hp, h]) (by decide)
theorem ic_st {p k1 k2 k3 k4 k5 k6 k : Int} (hp : isP p = true) (h : icB p k1 k2 k3 k4 k5 k6 = true) (hs : icS p k1 k2 k3 k4 k5 k6 = k) (hk : k ≠ 0) : icV1 p k1 k2 k3 k4 k5 k6 = false ∧ icC p k1 k2 k3 k4 k5 k6 = k := ic_zero (by simp [icC, hp, h, hs]) hk
theorem ic_good {p k1 k2 k3 k4 k5 k6 : Int} (hp : isP p = true) (h : icB p k1 k2 k3 k4 k5 k6 = true) (hs : icS p k1 k2 k3 k4 k5 k6 = 0) : icV1 p k1 k2 k3 k4 k5 k6 = cnB p k1 k2 k3 k4 k5 k6 ∧ icC p k1 k2 k3 k4 k5 k6 = 0 := by
  have h' : icC p k1 k2 k3 k4 k5 k6 = 0 := by simp [icC, hp, h, hs]
  exact ⟨if_pos h', h'⟩

set_option linter.unusedVariables false in
set_option linter.unusedSimpArgs false in
set_option maxRecDepth 20000 in
set_option maxHeartbeats 4000000 in
theorem specIsConic_any (p k1 k2 k3 k4 k5 k6 : Int)  (w : World) :
    Calls Try.prog 19 #[.int .i64 p, .agg #[.int .i64 k1, .int .i64 k2, .int .i64 k3, .int .i64 k4, .int .i64 k5, .int .i64 k6]] w fun e w' =>
      e = .returned (.tuple #[.bool (icV1 p k1 k2 k3 k4 k5 k6), .int .i64 (icC p k1 k2 k3 k4 k5 k6)]) ∧ Below w.heap.size w w' := by
  go_enter Try.func19, Try.ntmps19
  go_wp2_with fail
  refine Calls.mono (field_any _ _ ) ?_
  rintro e w' ⟨rfl, rfl⟩
  rcases bool_ways (isP p) with hd1 | hd1
  · skip
    have HV := Lib.hid (ic_no (k1 := k1) (k2 := k2) (k3 := k3) (k4 := k4) (k5 := k5) (k6 := k6) hd1)
    go_wp2
    (refine bodyPost_ret (v := .tuple #[.bool (icV1 p k1 k2 k3 k4 k5 k6), .int .i64 (icC p k1 k2 k3 k4 k5 k6)]) (by simp [results, Try.results19, go_sem, HV.out.1, HV.out.2, *]) rfl ⟨?_, ?_⟩)
    · rfl
    · (repeat (first | with_reducible exact Below.refl _ _ | with_reducible refine balloc ?_ _ | with_reducible refine bdrewN ?_ _ | with_reducible refine Below.drew ?_ | with_reducible refine bthen ?_ (by with_reducible assumption) | with_reducible refine Below.setCell ?_ (by first | (simp; done) | (simp; omega)) _))
  · have hp := hd1
    have hr := isP_range hp
    go_wp2_with fail
    refine Calls.mono (specIsCon_any _ _ _ _ _ _ _ _ hp) ?_
    rintro e w1 ⟨rfl, hB1⟩
    (obtain ⟨hB1c, hB1f⟩ := bcell hB1; have hB1s := hB1.size; (try simp at hB1s); (try have hB1q1 := Nat.lt_of_succ_le hB1s); (try have hB1q2 := Nat.lt_of_succ_lt hB1q1); (try have hB1q3 := Nat.lt_of_succ_lt hB1q2); (try have hB1zw0 : w.heap.size < w1.heap.size := (by omega)); (try have hB1zw1 : w.heap.size + 1 < w1.heap.size := (by omega)); (try have hB1zw2 : w.heap.size + 1 + 1 < w1.heap.size := (by omega)); (try have hB1zw3 : w.heap.size + 1 + 1 + 1 < w1.heap.size := (by omega)); (try have hB1zw4 : w.heap.size + 1 + 1 + 1 + 1 < w1.heap.size := (by omega)))
    have HB : icB p k1 k2 k3 k4 k5 k6 = true := by simp [icB, hd1]
    have HS : icS p k1 k2 k3 k4 k5 k6 = 0 := by rfl
    have HV := Lib.hid (show icV1 p k1 k2 k3 k4 k5 k6 = cnB p k1 k2 k3 k4 k5 k6 ∧ icC p k1 k2 k3 k4 k5 k6 = 0 from by
      have HG := ic_good (k1 := k1) (k2 := k2) (k3 := k3) (k4 := k4) (k5 := k5) (k6 := k6) hp HB HS
      refine ⟨(HG.1).trans ?_, HG.2⟩
      all_goals (simp only [] <;> simp [hd1]))
    clear HB HS
    go_wp2
    (refine bodyPost_ret (v := .tuple #[.bool (icV1 p k1 k2 k3 k4 k5 k6), .int .i64 (icC p k1 k2 k3 k4 k5 k6)]) (by simp [results, Try.results19, go_sem, HV.out.1, HV.out.2, *]) rfl ⟨?_, ?_⟩)
    · rfl
    · (repeat (first | with_reducible exact Below.refl _ _ | with_reducible refine balloc ?_ _ | with_reducible refine bdrewN ?_ _ | with_reducible refine Below.drew ?_ | with_reducible refine bthen ?_ (by with_reducible assumption) | with_reducible refine Below.setCell ?_ (by first | (simp; done) | (simp; omega)) _))

set_option linter.unusedVariables false in
set_option linter.unusedSimpArgs false in
set_option maxRecDepth 20000 in
set_option maxHeartbeats 4000000 in
theorem implIsConic_any (p k1 k2 k3 k4 k5 k6 : Int)  (w : World) :
    Calls Try.prog 21 #[.int .i64 p, .agg #[.int .i64 k1, .int .i64 k2, .int .i64 k3, .int .i64 k4, .int .i64 k5, .int .i64 k6]] w fun e w' =>
      e = .returned (.tuple #[.bool (icV1 p k1 k2 k3 k4 k5 k6), .int .i64 (icC p k1 k2 k3 k4 k5 k6)]) ∧ Below w.heap.size w w' := by
  go_enter Try.func21, Try.ntmps21
  go_wp2_with fail
  refine Calls.mono (isField_any _ _ ) ?_
  rintro e w' ⟨rfl, rfl⟩
  rcases bool_ways (isP p) with hd1 | hd1
  · skip
    have HV := Lib.hid (ic_no (k1 := k1) (k2 := k2) (k3 := k3) (k4 := k4) (k5 := k5) (k6 := k6) hd1)
    go_wp2
    (refine bodyPost_ret (v := .tuple #[.bool (icV1 p k1 k2 k3 k4 k5 k6), .int .i64 (icC p k1 k2 k3 k4 k5 k6)]) (by simp [results, Try.results21, go_sem, HV.out.1, HV.out.2, *]) rfl ⟨?_, ?_⟩)
    · rfl
    · (repeat (first | with_reducible exact Below.refl _ _ | with_reducible refine balloc ?_ _ | with_reducible refine bdrewN ?_ _ | with_reducible refine Below.drew ?_ | with_reducible refine bthen ?_ (by with_reducible assumption) | with_reducible refine Below.setCell ?_ (by first | (simp; done) | (simp; omega)) _))
  · have hp := hd1
    have hr := isP_range hp
    go_wp2_with fail
    refine Calls.mono (isConic_any _ _ _ _ _ _ _ _ ) ?_
    rintro e w1 ⟨rfl, hB1⟩
    (obtain ⟨hB1c, hB1f⟩ := bcell hB1; have hB1s := hB1.size; (try simp at hB1s); (try have hB1q1 := Nat.lt_of_succ_le hB1s); (try have hB1q2 := Nat.lt_of_succ_lt hB1q1); (try have hB1q3 := Nat.lt_of_succ_lt hB1q2); (try have hB1zw0 : w.heap.size < w1.heap.size := (by omega)); (try have hB1zw1 : w.heap.size + 1 < w1.heap.size := (by omega)); (try have hB1zw2 : w.heap.size + 1 + 1 < w1.heap.size := (by omega)); (try have hB1zw3 : w.heap.size + 1 + 1 + 1 < w1.heap.size := (by omega)); (try have hB1zw4 : w.heap.size + 1 + 1 + 1 + 1 < w1.heap.size := (by omega)))
    have HB : icB p k1 k2 k3 k4 k5 k6 = true := by simp [icB, hd1]
    have HS : icS p k1 k2 k3 k4 k5 k6 = 0 := by rfl
    have HV := Lib.hid (show icV1 p k1 k2 k3 k4 k5 k6 = cnB p k1 k2 k3 k4 k5 k6 ∧ icC p k1 k2 k3 k4 k5 k6 = 0 from by
      have HG := ic_good (k1 := k1) (k2 := k2) (k3 := k3) (k4 := k4) (k5 := k5) (k6 := k6) hp HB HS
      refine ⟨(HG.1).trans ?_, HG.2⟩
      all_goals (simp only [] <;> simp [hd1]))
    clear HB HS
    go_wp2
    (refine bodyPost_ret (v := .tuple #[.bool (icV1 p k1 k2 k3 k4 k5 k6), .int .i64 (icC p k1 k2 k3 k4 k5 k6)]) (by simp [results, Try.results21, go_sem, HV.out.1, HV.out.2, *]) rfl ⟨?_, ?_⟩)
    · rfl
    · (repeat (first | with_reducible exact Below.refl _ _ | with_reducible refine balloc ?_ _ | with_reducible refine bdrewN ?_ _ | with_reducible refine Below.drew ?_ | with_reducible refine bthen ?_ (by with_reducible assumption) | with_reducible refine Below.setCell ?_ (by first | (simp; done) | (simp; omega)) _))

end Go.Proofs.Ytijmmagdkbnhdaa
