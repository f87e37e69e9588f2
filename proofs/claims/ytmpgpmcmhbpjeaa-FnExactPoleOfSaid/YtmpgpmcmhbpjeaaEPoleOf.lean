/-
  PoleOf: the program's.
-/
import Derived.Test.YtmpgpmcmhbpjeaaSPoleOf
import Derived.Test.YtmpgpmcmhbpjeaaImplPoleIn
import Derived.Test.YtmpgpmcmhbpjeaaImplDtm
import Derived.Test.YtmpgpmcmhbpjeaaImplIsConic
import Derived.Test.YtmpgpmcmhbpjeaaImplLins
import Derived.Test.YtmpgpmcmhbpjeaaCode
import Derived.Deep.RegionHeld3
import Derived.Deep.DeepCutAuto
import Derived.Test.YtmpgpmcmhbpjeaaBaseMath
namespace Go.Proofs.Ytmpgpmcmhbpjeaa
open Go.RowKit

theorem po_r (k1 k2 k3 k4 k5 k6 l1 l2 l3 : Int) {p : Int} (hp : isP p = true) : (0 ≤ poX p k1 k2 k3 k4 k5 k6 l1 l2 l3 ∧ poX p k1 k2 k3 k4 k5 k6 l1 l2 l3 < p) ∧ 0 ≤ poY p k1 k2 k3 k4 k5 k6 l1 l2 l3 ∧ poY p k1 k2 k3 k4 k5 k6 l1 l2 l3 < p := by
  have hr := isP_range hp
  unfold poX poY
  cases h : poF p k1 k2 k3 k4 k5 k6 l1 l2 l3 with
  | none => exact ⟨⟨Int.le_refl _, by show (0 : Int) < p; omega⟩, Int.le_refl _, by show (0 : Int) < p; omega⟩
  | some z =>
    have hm := ((grid_in z).1 (List.mem_of_mem_head? (Option.mem_def.2 h))).1
    have hc : (p.toNat : Int) = p := Int.toNat_of_nonneg (by omega)
    rw [hc] at hm
    exact hm
theorem poX_r (k1 k2 k3 k4 k5 k6 l1 l2 l3 : Int) {p : Int} (hp : isP p = true) : 0 ≤ poX p k1 k2 k3 k4 k5 k6 l1 l2 l3 ∧ poX p k1 k2 k3 k4 k5 k6 l1 l2 l3 < p := (po_r _ _ _ _ _ _ _ _ _ hp).1
theorem poY_r (k1 k2 k3 k4 k5 k6 l1 l2 l3 : Int) {p : Int} (hp : isP p = true) : 0 ≤ poY p k1 k2 k3 k4 k5 k6 l1 l2 l3 ∧ poY p k1 k2 k3 k4 k5 k6 l1 l2 l3 < p := (po_r _ _ _ _ _ _ _ _ _ hp).2
set_option linter.unusedVariables false in
set_option linter.unusedSimpArgs false in
set_option maxRecDepth 20000 in
set_option maxHeartbeats 4000000 in
theorem implPoleOf_any (p k1 k2 k3 k4 k5 k6 l1 l2 l3 : Int)  (w : World) :
    Calls Try.prog 11 #[.int .i64 p, .agg #[.int .i64 k1, .int .i64 k2, .int .i64 k3, .int .i64 k4, .int .i64 k5, .int .i64 k6], .agg #[.int .i64 l1, .int .i64 l2, .int .i64 l3]] w fun e w' =>
      e = .returned (.tuple #[.agg #[.int .i64 (peV1 p k1 k2 k3 k4 k5 k6 l1 l2 l3), .int .i64 (peV2 p k1 k2 k3 k4 k5 k6 l1 l2 l3)], .int .i64 (peC p k1 k2 k3 k4 k5 k6 l1 l2 l3)]) ∧ Below w.heap.size w w' := by
  go_enter Try.func11, Try.ntmps11
  rcases bool_ways (cnB p k1 k2 k3 k4 k5 k6) with hd1 | hd1
  · skip
    rcases bool_ways (isP p) with hd2 | hd2
    · skip
      have c_1 : codeOf p false = 1 := codeOf_no hd2
      have cN : ∀ b, codeOf p b = 1 := fun b => codeOf_no hd2
      go_wp2_with fail
      refine Calls.mono (isConic_any _ _ _ _ _ _ _ _ ) ?_
      rintro e w1 ⟨rfl, hB1⟩
      (obtain ⟨hB1c, hB1f⟩ := bcell hB1; have hB1s := hB1.size; (try simp at hB1s); (try have hB1q1 := Nat.lt_of_succ_le hB1s); (try have hB1q2 := Nat.lt_of_succ_lt hB1q1); (try have hB1q3 := Nat.lt_of_succ_lt hB1q2); (try have hB1zw0 : w.heap.size < w1.heap.size := (by omega)); (try have hB1zw1 : w.heap.size + 1 < w1.heap.size := (by omega)); (try have hB1zw2 : w.heap.size + 1 + 1 < w1.heap.size := (by omega)); (try have hB1zw3 : w.heap.size + 1 + 1 + 1 < w1.heap.size := (by omega)); (try have hB1zw4 : w.heap.size + 1 + 1 + 1 + 1 < w1.heap.size := (by omega)))
      go_wp2_with fail
      refine Calls.mono (codeFor_any _ _ _) ?_
      rintro e w' ⟨rfl, rfl⟩
      have HV := Lib.hid (pe_no (k1 := k1) (k2 := k2) (k3 := k3) (k4 := k4) (k5 := k5) (k6 := k6) (l1 := l1) (l2 := l2) (l3 := l3) hd2)
      go_wp2
      (refine bodyPost_ret (v := .tuple #[.agg #[.int .i64 (peV1 p k1 k2 k3 k4 k5 k6 l1 l2 l3), .int .i64 (peV2 p k1 k2 k3 k4 k5 k6 l1 l2 l3)], .int .i64 (peC p k1 k2 k3 k4 k5 k6 l1 l2 l3)]) (by simp [results, Try.results11, go_sem, HV.out.1, HV.out.2.1, HV.out.2.2, *]) rfl ⟨?_, ?_⟩)
      · rfl
      · (repeat (first | with_reducible exact Below.refl _ _ | with_reducible refine balloc ?_ _ | with_reducible refine bdrewN ?_ _ | with_reducible refine Below.drew ?_ | with_reducible refine bthen ?_ (by with_reducible assumption) | with_reducible refine Below.setCell ?_ (by first | (simp; done) | (simp; omega)) _))
    · have hp := hd2
      have hr := isP_range hp
      have c_1 : codeOf p false = 2 := codeOf_out hp (by simp)
      have cT : codeOf p true = 0 := codeOf_in hp rfl
      have cF : codeOf p false = 2 := codeOf_out hp rfl
      go_wp2_with fail
      refine Calls.mono (isConic_any _ _ _ _ _ _ _ _ ) ?_
      rintro e w1 ⟨rfl, hB1⟩
      (obtain ⟨hB1c, hB1f⟩ := bcell hB1; have hB1s := hB1.size; (try simp at hB1s); (try have hB1q1 := Nat.lt_of_succ_le hB1s); (try have hB1q2 := Nat.lt_of_succ_lt hB1q1); (try have hB1q3 := Nat.lt_of_succ_lt hB1q2); (try have hB1zw0 : w.heap.size < w1.heap.size := (by omega)); (try have hB1zw1 : w.heap.size + 1 < w1.heap.size := (by omega)); (try have hB1zw2 : w.heap.size + 1 + 1 < w1.heap.size := (by omega)); (try have hB1zw3 : w.heap.size + 1 + 1 + 1 < w1.heap.size := (by omega)); (try have hB1zw4 : w.heap.size + 1 + 1 + 1 + 1 < w1.heap.size := (by omega)))
      go_wp2_with fail
      refine Calls.mono (codeFor_any _ _ _) ?_
      rintro e w' ⟨rfl, rfl⟩
      have HV := Lib.hid (pe_out (k1 := k1) (k2 := k2) (k3 := k3) (k4 := k4) (k5 := k5) (k6 := k6) (l1 := l1) (l2 := l2) (l3 := l3) hp (by simp [peB, hd1, hd2]))
      go_wp2
      (refine bodyPost_ret (v := .tuple #[.agg #[.int .i64 (peV1 p k1 k2 k3 k4 k5 k6 l1 l2 l3), .int .i64 (peV2 p k1 k2 k3 k4 k5 k6 l1 l2 l3)], .int .i64 (peC p k1 k2 k3 k4 k5 k6 l1 l2 l3)]) (by simp [results, Try.results11, go_sem, HV.out.1, HV.out.2.1, HV.out.2.2, *]) rfl ⟨?_, ?_⟩)
      · rfl
      · (repeat (first | with_reducible exact Below.refl _ _ | with_reducible refine balloc ?_ _ | with_reducible refine bdrewN ?_ _ | with_reducible refine Below.drew ?_ | with_reducible refine bthen ?_ (by with_reducible assumption) | with_reducible refine Below.setCell ?_ (by first | (simp; done) | (simp; omega)) _))
  · have hd1q := nums6 (cnB_nums hd1)
    rcases bool_ways (isP p) with hd2 | hd2
    · skip
      have c_1 : codeOf p (lineB p l1 l2 l3) = 1 := codeOf_no hd2
      have cN : ∀ b, codeOf p b = 1 := fun b => codeOf_no hd2
      go_wp2_with fail
      refine Calls.mono (isConic_any _ _ _ _ _ _ _ _ ) ?_
      rintro e w1 ⟨rfl, hB1⟩
      (obtain ⟨hB1c, hB1f⟩ := bcell hB1; have hB1s := hB1.size; (try simp at hB1s); (try have hB1q1 := Nat.lt_of_succ_le hB1s); (try have hB1q2 := Nat.lt_of_succ_lt hB1q1); (try have hB1q3 := Nat.lt_of_succ_lt hB1q2); (try have hB1zw0 : w.heap.size < w1.heap.size := (by omega)); (try have hB1zw1 : w.heap.size + 1 < w1.heap.size := (by omega)); (try have hB1zw2 : w.heap.size + 1 + 1 < w1.heap.size := (by omega)); (try have hB1zw3 : w.heap.size + 1 + 1 + 1 < w1.heap.size := (by omega)); (try have hB1zw4 : w.heap.size + 1 + 1 + 1 + 1 < w1.heap.size := (by omega)))
      go_wp2_with fail
      refine Calls.mono (implLines1 _ _ _ _ _ _ (by first | rfl | (simp; done))) ?_
      rintro e w2 ⟨rfl, hB2⟩
      (obtain ⟨hB2c, hB2f⟩ := bcell hB2; have hB2s := hB2.size; (try simp at hB2s); (try have hB2q1 := Nat.lt_of_succ_le hB2s); (try have hB2q2 := Nat.lt_of_succ_lt hB2q1); (try have hB2q3 := Nat.lt_of_succ_lt hB2q2); (try have hB2zw0 : w.heap.size < w2.heap.size := (by omega)); (try have hB2zw1 : w.heap.size + 1 < w2.heap.size := (by omega)); (try have hB2zw2 : w.heap.size + 1 + 1 < w2.heap.size := (by omega)); (try have hB2zw3 : w.heap.size + 1 + 1 + 1 < w2.heap.size := (by omega)); (try have hB2zw4 : w.heap.size + 1 + 1 + 1 + 1 < w2.heap.size := (by omega)); (try have hB2zw10 : w1.heap.size < w2.heap.size := (by omega)); (try have hB2zw11 : w1.heap.size + 1 < w2.heap.size := (by omega)); (try have hB2zw12 : w1.heap.size + 1 + 1 < w2.heap.size := (by omega)); (try have hB2zw13 : w1.heap.size + 1 + 1 + 1 < w2.heap.size := (by omega)); (try have hB2zw14 : w1.heap.size + 1 + 1 + 1 + 1 < w2.heap.size := (by omega)))
      go_wp2_with fail
      refine Calls.mono (codeFor_any _ _ _) ?_
      rintro e w' ⟨rfl, rfl⟩
      have HV := Lib.hid (pe_no (k1 := k1) (k2 := k2) (k3 := k3) (k4 := k4) (k5 := k5) (k6 := k6) (l1 := l1) (l2 := l2) (l3 := l3) hd2)
      go_wp2
      (refine bodyPost_ret (v := .tuple #[.agg #[.int .i64 (peV1 p k1 k2 k3 k4 k5 k6 l1 l2 l3), .int .i64 (peV2 p k1 k2 k3 k4 k5 k6 l1 l2 l3)], .int .i64 (peC p k1 k2 k3 k4 k5 k6 l1 l2 l3)]) (by simp [results, Try.results11, go_sem, HV.out.1, HV.out.2.1, HV.out.2.2, *]) rfl ⟨?_, ?_⟩)
      · rfl
      · (repeat (first | with_reducible exact Below.refl _ _ | with_reducible refine balloc ?_ _ | with_reducible refine bdrewN ?_ _ | with_reducible refine Below.drew ?_ | with_reducible refine bthen ?_ (by with_reducible assumption) | with_reducible refine Below.setCell ?_ (by first | (simp; done) | (simp; omega)) _))
    · have hp := hd2
      have hr := isP_range hp
      rcases bool_ways (lineB p l1 l2 l3) with hd3 | hd3
      · skip
        have c_1 : codeOf p (lineB p l1 l2 l3) = 2 := codeOf_out hp (by simp [hd3])
        have cT : codeOf p true = 0 := codeOf_in hp rfl
        have cF : codeOf p false = 2 := codeOf_out hp rfl
        go_wp2_with fail
        refine Calls.mono (isConic_any _ _ _ _ _ _ _ _ ) ?_
        rintro e w1 ⟨rfl, hB1⟩
        (obtain ⟨hB1c, hB1f⟩ := bcell hB1; have hB1s := hB1.size; (try simp at hB1s); (try have hB1q1 := Nat.lt_of_succ_le hB1s); (try have hB1q2 := Nat.lt_of_succ_lt hB1q1); (try have hB1q3 := Nat.lt_of_succ_lt hB1q2); (try have hB1zw0 : w.heap.size < w1.heap.size := (by omega)); (try have hB1zw1 : w.heap.size + 1 < w1.heap.size := (by omega)); (try have hB1zw2 : w.heap.size + 1 + 1 < w1.heap.size := (by omega)); (try have hB1zw3 : w.heap.size + 1 + 1 + 1 < w1.heap.size := (by omega)); (try have hB1zw4 : w.heap.size + 1 + 1 + 1 + 1 < w1.heap.size := (by omega)))
        go_wp2_with fail
        refine Calls.mono (implLines1 _ _ _ _ _ _ (by first | rfl | (simp; done))) ?_
        rintro e w2 ⟨rfl, hB2⟩
        (obtain ⟨hB2c, hB2f⟩ := bcell hB2; have hB2s := hB2.size; (try simp at hB2s); (try have hB2q1 := Nat.lt_of_succ_le hB2s); (try have hB2q2 := Nat.lt_of_succ_lt hB2q1); (try have hB2q3 := Nat.lt_of_succ_lt hB2q2); (try have hB2zw0 : w.heap.size < w2.heap.size := (by omega)); (try have hB2zw1 : w.heap.size + 1 < w2.heap.size := (by omega)); (try have hB2zw2 : w.heap.size + 1 + 1 < w2.heap.size := (by omega)); (try have hB2zw3 : w.heap.size + 1 + 1 + 1 < w2.heap.size := (by omega)); (try have hB2zw4 : w.heap.size + 1 + 1 + 1 + 1 < w2.heap.size := (by omega)); (try have hB2zw10 : w1.heap.size < w2.heap.size := (by omega)); (try have hB2zw11 : w1.heap.size + 1 < w2.heap.size := (by omega)); (try have hB2zw12 : w1.heap.size + 1 + 1 < w2.heap.size := (by omega)); (try have hB2zw13 : w1.heap.size + 1 + 1 + 1 < w2.heap.size := (by omega)); (try have hB2zw14 : w1.heap.size + 1 + 1 + 1 + 1 < w2.heap.size := (by omega)))
        go_wp2_with fail
        refine Calls.mono (codeFor_any _ _ _) ?_
        rintro e w' ⟨rfl, rfl⟩
        have HV := Lib.hid (pe_out (k1 := k1) (k2 := k2) (k3 := k3) (k4 := k4) (k5 := k5) (k6 := k6) (l1 := l1) (l2 := l2) (l3 := l3) hp (by simp [peB, hd1, hd2, hd3]))
        go_wp2
        (refine bodyPost_ret (v := .tuple #[.agg #[.int .i64 (peV1 p k1 k2 k3 k4 k5 k6 l1 l2 l3), .int .i64 (peV2 p k1 k2 k3 k4 k5 k6 l1 l2 l3)], .int .i64 (peC p k1 k2 k3 k4 k5 k6 l1 l2 l3)]) (by simp [results, Try.results11, go_sem, HV.out.1, HV.out.2.1, HV.out.2.2, *]) rfl ⟨?_, ?_⟩)
        · rfl
        · (repeat (first | with_reducible exact Below.refl _ _ | with_reducible refine balloc ?_ _ | with_reducible refine bdrewN ?_ _ | with_reducible refine Below.drew ?_ | with_reducible refine bthen ?_ (by with_reducible assumption) | with_reducible refine Below.setCell ?_ (by first | (simp; done) | (simp; omega)) _))
      · have hd3q := nums3 (lineB_in hd3).2
        have hd3l := lead_ways (lineB_in hd3).1
        have c_1 : codeOf p (lineB p l1 l2 l3) = 0 := codeOf_in hp (by simp [hd3])
        have cT : codeOf p true = 0 := codeOf_in hp rfl
        obtain ⟨v1, hv1⟩ : ∃ v : Int, v = dtm p k1 k2 k3 k4 k5 k6 := ⟨_, rfl⟩
        have rv1 := dtm_r k1 k2 k3 k4 k5 k6 hp
        rw [← hv1] at rv1
        have Hv1 := Lib.hid hv1
        clear hv1
        go_wp2_with fail
        refine Calls.mono (isConic_any _ _ _ _ _ _ _ _ ) ?_
        rintro e w1 ⟨rfl, hB1⟩
        (obtain ⟨hB1c, hB1f⟩ := bcell hB1; have hB1s := hB1.size; (try simp at hB1s); (try have hB1q1 := Nat.lt_of_succ_le hB1s); (try have hB1q2 := Nat.lt_of_succ_lt hB1q1); (try have hB1q3 := Nat.lt_of_succ_lt hB1q2); (try have hB1zw0 : w.heap.size < w1.heap.size := (by omega)); (try have hB1zw1 : w.heap.size + 1 < w1.heap.size := (by omega)); (try have hB1zw2 : w.heap.size + 1 + 1 < w1.heap.size := (by omega)); (try have hB1zw3 : w.heap.size + 1 + 1 + 1 < w1.heap.size := (by omega)); (try have hB1zw4 : w.heap.size + 1 + 1 + 1 + 1 < w1.heap.size := (by omega)))
        go_wp2_with fail
        refine Calls.mono (implLines1 _ _ _ _ _ _ (by first | rfl | (simp; done))) ?_
        rintro e w2 ⟨rfl, hB2⟩
        (obtain ⟨hB2c, hB2f⟩ := bcell hB2; have hB2s := hB2.size; (try simp at hB2s); (try have hB2q1 := Nat.lt_of_succ_le hB2s); (try have hB2q2 := Nat.lt_of_succ_lt hB2q1); (try have hB2q3 := Nat.lt_of_succ_lt hB2q2); (try have hB2zw0 : w.heap.size < w2.heap.size := (by omega)); (try have hB2zw1 : w.heap.size + 1 < w2.heap.size := (by omega)); (try have hB2zw2 : w.heap.size + 1 + 1 < w2.heap.size := (by omega)); (try have hB2zw3 : w.heap.size + 1 + 1 + 1 < w2.heap.size := (by omega)); (try have hB2zw4 : w.heap.size + 1 + 1 + 1 + 1 < w2.heap.size := (by omega)); (try have hB2zw10 : w1.heap.size < w2.heap.size := (by omega)); (try have hB2zw11 : w1.heap.size + 1 < w2.heap.size := (by omega)); (try have hB2zw12 : w1.heap.size + 1 + 1 < w2.heap.size := (by omega)); (try have hB2zw13 : w1.heap.size + 1 + 1 + 1 < w2.heap.size := (by omega)); (try have hB2zw14 : w1.heap.size + 1 + 1 + 1 + 1 < w2.heap.size := (by omega)))
        go_wp2_with fail
        refine Calls.mono (codeFor_any _ _ _) ?_
        rintro e w' ⟨rfl, rfl⟩
        go_wp2_with fail
        refine Calls.mono (implDtm_any _ _ _ _ _ _ _ _ hp (by omega) (by omega) (by omega) (by omega) (by omega) (by omega)) ?_
        rw [← Hv1.out]
        rintro e w3 ⟨rfl, hB3⟩
        (obtain ⟨hB3c, hB3f⟩ := bcell hB3; have hB3s := hB3.size; (try simp at hB3s); (try have hB3q1 := Nat.lt_of_succ_le hB3s); (try have hB3q2 := Nat.lt_of_succ_lt hB3q1); (try have hB3q3 := Nat.lt_of_succ_lt hB3q2); (try have hB3zw0 : w.heap.size < w3.heap.size := (by omega)); (try have hB3zw1 : w.heap.size + 1 < w3.heap.size := (by omega)); (try have hB3zw2 : w.heap.size + 1 + 1 < w3.heap.size := (by omega)); (try have hB3zw3 : w.heap.size + 1 + 1 + 1 < w3.heap.size := (by omega)); (try have hB3zw4 : w.heap.size + 1 + 1 + 1 + 1 < w3.heap.size := (by omega)); (try have hB3zw20 : w2.heap.size < w3.heap.size := (by omega)); (try have hB3zw21 : w2.heap.size + 1 < w3.heap.size := (by omega)); (try have hB3zw22 : w2.heap.size + 1 + 1 < w3.heap.size := (by omega)); (try have hB3zw23 : w2.heap.size + 1 + 1 + 1 < w3.heap.size := (by omega)); (try have hB3zw24 : w2.heap.size + 1 + 1 + 1 + 1 < w3.heap.size := (by omega)); (try have hB3zw10 : w1.heap.size < w3.heap.size := (by omega)); (try have hB3zw11 : w1.heap.size + 1 < w3.heap.size := (by omega)); (try have hB3zw12 : w1.heap.size + 1 + 1 < w3.heap.size := (by omega)); (try have hB3zw13 : w1.heap.size + 1 + 1 + 1 < w3.heap.size := (by omega)); (try have hB3zw14 : w1.heap.size + 1 + 1 + 1 + 1 < w3.heap.size := (by omega)))
        rcases bool_ways (v1 == 0) with hd4 | hd4
        · have hd4n : (v1 != 0) = true := by rw [bne, hd4]; rfl
          have Hhd4p := Lib.hid (beq_eq_false_iff_ne.1 hd4)
          obtain ⟨v2, hv2⟩ : ∃ v : Int, v = poX p k1 k2 k3 k4 k5 k6 l1 l2 l3 := ⟨_, rfl⟩
          have rv2 := poX_r k1 k2 k3 k4 k5 k6 l1 l2 l3 hp
          rw [← hv2] at rv2
          have Hv2 := Lib.hid hv2
          clear hv2
          obtain ⟨v3, hv3⟩ : ∃ v : Int, v = poY p k1 k2 k3 k4 k5 k6 l1 l2 l3 := ⟨_, rfl⟩
          have rv3 := poY_r k1 k2 k3 k4 k5 k6 l1 l2 l3 hp
          rw [← hv3] at rv3
          have Hv3 := Lib.hid hv3
          clear hv3
          go_wp2_with fail
          refine Calls.mono (implPoleIn _ _ _ _ _ _ _ _ _ _ _ hp hd1 hd3 (by rw [← Hv1.out]; assumption)) ?_
          rw [← Hv2.out, ← Hv3.out]
          rintro e w4 ⟨rfl, hB4⟩
          (obtain ⟨hB4c, hB4f⟩ := bcell hB4; have hB4s := hB4.size; (try simp at hB4s); (try have hB4q1 := Nat.lt_of_succ_le hB4s); (try have hB4q2 := Nat.lt_of_succ_lt hB4q1); (try have hB4q3 := Nat.lt_of_succ_lt hB4q2); (try have hB4zw0 : w.heap.size < w4.heap.size := (by omega)); (try have hB4zw1 : w.heap.size + 1 < w4.heap.size := (by omega)); (try have hB4zw2 : w.heap.size + 1 + 1 < w4.heap.size := (by omega)); (try have hB4zw3 : w.heap.size + 1 + 1 + 1 < w4.heap.size := (by omega)); (try have hB4zw4 : w.heap.size + 1 + 1 + 1 + 1 < w4.heap.size := (by omega)); (try have hB4zw30 : w3.heap.size < w4.heap.size := (by omega)); (try have hB4zw31 : w3.heap.size + 1 < w4.heap.size := (by omega)); (try have hB4zw32 : w3.heap.size + 1 + 1 < w4.heap.size := (by omega)); (try have hB4zw33 : w3.heap.size + 1 + 1 + 1 < w4.heap.size := (by omega)); (try have hB4zw34 : w3.heap.size + 1 + 1 + 1 + 1 < w4.heap.size := (by omega)); (try have hB4zw20 : w2.heap.size < w4.heap.size := (by omega)); (try have hB4zw21 : w2.heap.size + 1 < w4.heap.size := (by omega)); (try have hB4zw22 : w2.heap.size + 1 + 1 < w4.heap.size := (by omega)); (try have hB4zw23 : w2.heap.size + 1 + 1 + 1 < w4.heap.size := (by omega)); (try have hB4zw24 : w2.heap.size + 1 + 1 + 1 + 1 < w4.heap.size := (by omega)); (try have hB4zw10 : w1.heap.size < w4.heap.size := (by omega)); (try have hB4zw11 : w1.heap.size + 1 < w4.heap.size := (by omega)); (try have hB4zw12 : w1.heap.size + 1 + 1 < w4.heap.size := (by omega)); (try have hB4zw13 : w1.heap.size + 1 + 1 + 1 < w4.heap.size := (by omega)); (try have hB4zw14 : w1.heap.size + 1 + 1 + 1 + 1 < w4.heap.size := (by omega)))
          rcases bool_ways ((poF p k1 k2 k3 k4 k5 k6 l1 l2 l3).isSome) with hd5 | hd5
          · skip
            have HB : peB p k1 k2 k3 k4 k5 k6 l1 l2 l3 = true := by simp [peB, hd1, hd2, hd3, hd4, hd5]
            have HS : peS p k1 k2 k3 k4 k5 k6 l1 l2 l3 = 4 := by (simp only [peS, poT, ← Hv1.out, ← Hv2.out, ← Hv3.out] <;> simp [hd1, hd2, hd3, hd4, hd5])
            have HV := Lib.hid (pe_st (k1 := k1) (k2 := k2) (k3 := k3) (k4 := k4) (k5 := k5) (k6 := k6) (l1 := l1) (l2 := l2) (l3 := l3) hp HB HS (by decide))
            clear HB HS
            go_wp2
            (refine bodyPost_ret (v := .tuple #[.agg #[.int .i64 (peV1 p k1 k2 k3 k4 k5 k6 l1 l2 l3), .int .i64 (peV2 p k1 k2 k3 k4 k5 k6 l1 l2 l3)], .int .i64 (peC p k1 k2 k3 k4 k5 k6 l1 l2 l3)]) (by simp [results, Try.results11, go_sem, HV.out.1, HV.out.2.1, HV.out.2.2, *]) rfl ⟨?_, ?_⟩)
            · rfl
            · (repeat (first | with_reducible exact Below.refl _ _ | with_reducible refine balloc ?_ _ | with_reducible refine bdrewN ?_ _ | with_reducible refine Below.drew ?_ | with_reducible refine bthen ?_ (by with_reducible assumption) | with_reducible refine Below.setCell ?_ (by first | (simp; done) | (simp; omega)) _))
          · skip
            have HB : peB p k1 k2 k3 k4 k5 k6 l1 l2 l3 = true := by simp [peB, hd1, hd2, hd3, hd4, hd5]
            have HS : peS p k1 k2 k3 k4 k5 k6 l1 l2 l3 = 0 := by (simp only [peS, poT, ← Hv1.out, ← Hv2.out, ← Hv3.out] <;> simp [hd1, hd2, hd3, hd4, hd5])
            have HV := Lib.hid (show peV1 p k1 k2 k3 k4 k5 k6 l1 l2 l3 = v2 ∧ peV2 p k1 k2 k3 k4 k5 k6 l1 l2 l3 = v3 ∧ peC p k1 k2 k3 k4 k5 k6 l1 l2 l3 = 0 from by
              have HG := pe_good (k1 := k1) (k2 := k2) (k3 := k3) (k4 := k4) (k5 := k5) (k6 := k6) (l1 := l1) (l2 := l2) (l3 := l3) hp HB HS
              refine ⟨(HG.1).trans ?_, (HG.2.1).trans ?_, HG.2.2⟩
              all_goals (simp only [id, ← Hv1.out, ← Hv2.out, ← Hv3.out] <;> simp [hd1, hd2, hd3, hd4, hd5]))
            clear HB HS
            go_wp2
            (refine bodyPost_ret (v := .tuple #[.agg #[.int .i64 (peV1 p k1 k2 k3 k4 k5 k6 l1 l2 l3), .int .i64 (peV2 p k1 k2 k3 k4 k5 k6 l1 l2 l3)], .int .i64 (peC p k1 k2 k3 k4 k5 k6 l1 l2 l3)]) (by simp [results, Try.results11, go_sem, HV.out.1, HV.out.2.1, HV.out.2.2, *]) rfl ⟨?_, ?_⟩)
            · rfl
            · (repeat (first | with_reducible exact Below.refl _ _ | with_reducible refine balloc ?_ _ | with_reducible refine bdrewN ?_ _ | with_reducible refine Below.drew ?_ | with_reducible refine bthen ?_ (by with_reducible assumption) | with_reducible refine Below.setCell ?_ (by first | (simp; done) | (simp; omega)) _))
        · have hd4n : (v1 != 0) = false := by rw [bne, hd4]; rfl
          have Hhd4p := Lib.hid (beq_iff_eq.1 hd4)
          have HB : peB p k1 k2 k3 k4 k5 k6 l1 l2 l3 = true := by simp [peB, hd1, hd2, hd3, hd4]
          have HS : peS p k1 k2 k3 k4 k5 k6 l1 l2 l3 = 5 := by (simp only [peS, poT, ← Hv1.out] <;> simp [hd1, hd2, hd3, hd4])
          have HV := Lib.hid (pe_st (k1 := k1) (k2 := k2) (k3 := k3) (k4 := k4) (k5 := k5) (k6 := k6) (l1 := l1) (l2 := l2) (l3 := l3) hp HB HS (by decide))
          clear HB HS
          go_wp2
          (refine bodyPost_ret (v := .tuple #[.agg #[.int .i64 (peV1 p k1 k2 k3 k4 k5 k6 l1 l2 l3), .int .i64 (peV2 p k1 k2 k3 k4 k5 k6 l1 l2 l3)], .int .i64 (peC p k1 k2 k3 k4 k5 k6 l1 l2 l3)]) (by simp [results, Try.results11, go_sem, HV.out.1, HV.out.2.1, HV.out.2.2, *]) rfl ⟨?_, ?_⟩)
          · rfl
          · (repeat (first | with_reducible exact Below.refl _ _ | with_reducible refine balloc ?_ _ | with_reducible refine bdrewN ?_ _ | with_reducible refine Below.drew ?_ | with_reducible refine bthen ?_ (by with_reducible assumption) | with_reducible refine Below.setCell ?_ (by first | (simp; done) | (simp; omega)) _))

end Go.Proofs.Ytmpgpmcmhbpjeaa
