/-
  InverseMove: the program's and the model's.
-/
import Derived.Test.YthfckpfiechloaaSpecInvM
import Derived.Test.YthfckpfiechloaaImplInvM
import Derived.Test.YthfckpfiechloaaSpecMoveCode
import Derived.Test.YthfckpfiechloaaImplMoveCode
import Derived.Deep.RegionHeld3
import Derived.Deep.DeepCutAuto
import Derived.Test.YthfckpfiechloaaBaseMath
namespace Go.Proofs.Ythfckpfiechloaa
open Go.RowKit

set_option linter.unusedVariables false in
def vmB (p col m1 m2 m3 m4 m5 m6 : Int) : Bool := colB col && numsIn p [m1, m2, m3, m4, m5, m6]
set_option linter.unusedVariables false in
def vmS (p col m1 m2 m3 m4 m5 m6 : Int) : Int := if mvB p col m1 m2 m3 m4 = true then 0 else 5
set_option linter.unusedVariables false in
def vmC (p col m1 m2 m3 m4 m5 m6 : Int) : Int := if isP p = true then (if vmB p col m1 m2 m3 m4 m5 m6 = true then vmS p col m1 m2 m3 m4 m5 m6 else 2) else 1
set_option linter.unusedVariables false in
def vmV1 (p col m1 m2 m3 m4 m5 m6 : Int) : Int := if vmC p col m1 m2 m3 m4 m5 m6 = 0 then im1 p m1 m2 m3 m4 else 0
set_option linter.unusedVariables false in
def vmV2 (p col m1 m2 m3 m4 m5 m6 : Int) : Int := if vmC p col m1 m2 m3 m4 m5 m6 = 0 then im2 p m1 m2 m3 m4 else 0
set_option linter.unusedVariables false in
def vmV3 (p col m1 m2 m3 m4 m5 m6 : Int) : Int := if vmC p col m1 m2 m3 m4 m5 m6 = 0 then im3 p m1 m2 m3 m4 else 0
set_option linter.unusedVariables false in
def vmV4 (p col m1 m2 m3 m4 m5 m6 : Int) : Int := if vmC p col m1 m2 m3 m4 m5 m6 = 0 then im4 p m1 m2 m3 m4 else 0
set_option linter.unusedVariables false in
def vmV5 (p col m1 m2 m3 m4 m5 m6 : Int) : Int := if vmC p col m1 m2 m3 m4 m5 m6 = 0 then im5 p m1 m2 m3 m4 m5 m6 else 0
set_option linter.unusedVariables false in
def vmV6 (p col m1 m2 m3 m4 m5 m6 : Int) : Int := if vmC p col m1 m2 m3 m4 m5 m6 = 0 then im6 p m1 m2 m3 m4 m5 m6 else 0
theorem vm_zero {p col m1 m2 m3 m4 m5 m6 k : Int} (h : vmC p col m1 m2 m3 m4 m5 m6 = k) (hk : k ≠ 0) : vmV1 p col m1 m2 m3 m4 m5 m6 = 0 ∧ vmV2 p col m1 m2 m3 m4 m5 m6 = 0 ∧ vmV3 p col m1 m2 m3 m4 m5 m6 = 0 ∧ vmV4 p col m1 m2 m3 m4 m5 m6 = 0 ∧ vmV5 p col m1 m2 m3 m4 m5 m6 = 0 ∧ vmV6 p col m1 m2 m3 m4 m5 m6 = 0 ∧ vmC p col m1 m2 m3 m4 m5 m6 = k := by
  have hn : ¬ (vmC p col m1 m2 m3 m4 m5 m6 = 0) := fun e => hk (h.symm.trans e)
  exact ⟨if_neg hn, if_neg hn, if_neg hn, if_neg hn, if_neg hn, if_neg hn, h⟩
theorem vm_no {p col m1 m2 m3 m4 m5 m6 : Int} (h : isP p = false) : vmV1 p col m1 m2 m3 m4 m5 m6 = 0 ∧ vmV2 p col m1 m2 m3 m4 m5 m6 = 0 ∧ vmV3 p col m1 m2 m3 m4 m5 m6 = 0 ∧ vmV4 p col m1 m2 m3 m4 m5 m6 = 0 ∧ vmV5 p col m1 m2 m3 m4 m5 m6 = 0 ∧ vmV6 p col m1 m2 m3 m4 m5 m6 = 0 ∧ vmC p col m1 m2 m3 m4 m5 m6 = 1 := vm_zero (by simp [vmC, h]) (by decide)
theorem vm_out {p col m1 m2 m3 m4 m5 m6 : Int} (hp : isP p = true) (h : vmB p col m1 m2 m3 m4 m5 m6 = false) : vmV1 p col m1 m2 m3 m4 m5 m6 = 0 ∧ vmV2 p col m1 m2 m3 m4 m5 m6 = 0 ∧ vmV3 p col m1 m2 m3 m4 m5 m6 = 0 ∧ vmV4 p col m1 m2 m3 m4 m5 m6 = 0 ∧ vmV5 p col m1 m2 m3 m4 m5 m6 = 0 ∧ vmV6 p col m1 m2 m3 m4 m5 m6 = 0 ∧ vmC p col m1 m2 m3 m4 m5 m6 = 2 := vm_zero (by simp [vmC, hp, h]) (by decide)
theorem vm_st {p col m1 m2 m3 m4 m5 m6 k : Int} (hp : isP p = true) (h : vmB p col m1 m2 m3 m4 m5 m6 = true) (hs : vmS p col m1 m2 m3 m4 m5 m6 = k) (hk : k ≠ 0) : vmV1 p col m1 m2 m3 m4 m5 m6 = 0 ∧ vmV2 p col m1 m2 m3 m4 m5 m6 = 0 ∧ vmV3 p col m1 m2 m3 m4 m5 m6 = 0 ∧ vmV4 p col m1 m2 m3 m4 m5 m6 = 0 ∧ vmV5 p col m1 m2 m3 m4 m5 m6 = 0 ∧ vmV6 p col m1 m2 m3 m4 m5 m6 = 0 ∧ vmC p col m1 m2 m3 m4 m5 m6 = k := vm_zero (by simp [vmC, hp, h, hs]) hk
theorem vm_good {p col m1 m2 m3 m4 m5 m6 : Int} (hp : isP p = true) (h : vmB p col m1 m2 m3 m4 m5 m6 = true) (hs : vmS p col m1 m2 m3 m4 m5 m6 = 0) : vmV1 p col m1 m2 m3 m4 m5 m6 = im1 p m1 m2 m3 m4 ∧ vmV2 p col m1 m2 m3 m4 m5 m6 = im2 p m1 m2 m3 m4 ∧ vmV3 p col m1 m2 m3 m4 m5 m6 = im3 p m1 m2 m3 m4 ∧ vmV4 p col m1 m2 m3 m4 m5 m6 = im4 p m1 m2 m3 m4 ∧ vmV5 p col m1 m2 m3 m4 m5 m6 = im5 p m1 m2 m3 m4 m5 m6 ∧ vmV6 p col m1 m2 m3 m4 m5 m6 = im6 p m1 m2 m3 m4 m5 m6 ∧ vmC p col m1 m2 m3 m4 m5 m6 = 0 := by
  have h' : vmC p col m1 m2 m3 m4 m5 m6 = 0 := by simp [vmC, hp, h, hs]
  exact ⟨if_pos h', if_pos h', if_pos h', if_pos h', if_pos h', if_pos h', h'⟩

set_option linter.unusedVariables false in
set_option linter.unusedSimpArgs false in
set_option maxRecDepth 20000 in
set_option maxHeartbeats 4000000 in
theorem specInverseMove_any (p col m1 m2 m3 m4 m5 m6 : Int)  (w : World) :
    Calls Try.prog 29 #[.int .i64 p, .int .i64 col, .agg #[.int .i64 m1, .int .i64 m2, .int .i64 m3, .int .i64 m4, .int .i64 m5, .int .i64 m6]] w fun e w' =>
      e = .returned (.tuple #[.agg #[.int .i64 (vmV1 p col m1 m2 m3 m4 m5 m6), .int .i64 (vmV2 p col m1 m2 m3 m4 m5 m6), .int .i64 (vmV3 p col m1 m2 m3 m4 m5 m6), .int .i64 (vmV4 p col m1 m2 m3 m4 m5 m6), .int .i64 (vmV5 p col m1 m2 m3 m4 m5 m6), .int .i64 (vmV6 p col m1 m2 m3 m4 m5 m6)], .int .i64 (vmC p col m1 m2 m3 m4 m5 m6)]) ∧ Below w.heap.size w w' := by
  go_enter Try.func29, Try.ntmps29
  rcases bool_ways (isP p) with hd1 | hd1
  · skip
    have c_1 : mvCb true p col m1 m2 m3 m4 m5 m6 = 1 := by simp [mvCb, hd1]
    go_wp2_with fail
    refine Calls.mono (specMoveCode_any _ _ _ _ _ _ _ _ _) ?_
    rintro e w1 ⟨rfl, hB1⟩
    (obtain ⟨hB1c, hB1f⟩ := bcell hB1; have hB1s := hB1.size; (try simp at hB1s); (try have hB1q1 := Nat.lt_of_succ_le hB1s); (try have hB1q2 := Nat.lt_of_succ_lt hB1q1); (try have hB1q3 := Nat.lt_of_succ_lt hB1q2); (try have hB1zw0 : w.heap.size < w1.heap.size := (by omega)); (try have hB1zw1 : w.heap.size + 1 < w1.heap.size := (by omega)); (try have hB1zw2 : w.heap.size + 1 + 1 < w1.heap.size := (by omega)); (try have hB1zw3 : w.heap.size + 1 + 1 + 1 < w1.heap.size := (by omega)); (try have hB1zw4 : w.heap.size + 1 + 1 + 1 + 1 < w1.heap.size := (by omega)))
    have HV := Lib.hid (vm_no (col := col) (m1 := m1) (m2 := m2) (m3 := m3) (m4 := m4) (m5 := m5) (m6 := m6) hd1)
    go_wp2
    (refine bodyPost_ret (v := .tuple #[.agg #[.int .i64 (vmV1 p col m1 m2 m3 m4 m5 m6), .int .i64 (vmV2 p col m1 m2 m3 m4 m5 m6), .int .i64 (vmV3 p col m1 m2 m3 m4 m5 m6), .int .i64 (vmV4 p col m1 m2 m3 m4 m5 m6), .int .i64 (vmV5 p col m1 m2 m3 m4 m5 m6), .int .i64 (vmV6 p col m1 m2 m3 m4 m5 m6)], .int .i64 (vmC p col m1 m2 m3 m4 m5 m6)]) (by simp [results, Try.results29, go_sem, HV.out.1, HV.out.2.1, HV.out.2.2.1, HV.out.2.2.2.1, HV.out.2.2.2.2.1, HV.out.2.2.2.2.2.1, HV.out.2.2.2.2.2.2, *]) rfl ⟨?_, ?_⟩)
    · rfl
    · (repeat (first | with_reducible exact Below.refl _ _ | with_reducible refine balloc ?_ _ | with_reducible refine bdrewN ?_ _ | with_reducible refine Below.drew ?_ | with_reducible refine bthen ?_ (by with_reducible assumption) | with_reducible refine Below.setCell ?_ (by first | (simp; done) | (simp; omega)) _))
  · have hp := hd1
    have hr := isP_range hp
    rcases bool_ways (numsIn p [m1, m2, m3, m4, m5, m6]) with hd2 | hd2
    · skip
      have c_1 : mvCb true p col m1 m2 m3 m4 m5 m6 = 2 := by simp [mvCb, hd1, hd2]
      go_wp2_with fail
      refine Calls.mono (specMoveCode_any _ _ _ _ _ _ _ _ _) ?_
      rintro e w1 ⟨rfl, hB1⟩
      (obtain ⟨hB1c, hB1f⟩ := bcell hB1; have hB1s := hB1.size; (try simp at hB1s); (try have hB1q1 := Nat.lt_of_succ_le hB1s); (try have hB1q2 := Nat.lt_of_succ_lt hB1q1); (try have hB1q3 := Nat.lt_of_succ_lt hB1q2); (try have hB1zw0 : w.heap.size < w1.heap.size := (by omega)); (try have hB1zw1 : w.heap.size + 1 < w1.heap.size := (by omega)); (try have hB1zw2 : w.heap.size + 1 + 1 < w1.heap.size := (by omega)); (try have hB1zw3 : w.heap.size + 1 + 1 + 1 < w1.heap.size := (by omega)); (try have hB1zw4 : w.heap.size + 1 + 1 + 1 + 1 < w1.heap.size := (by omega)))
      have HV := Lib.hid (vm_out (col := col) (m1 := m1) (m2 := m2) (m3 := m3) (m4 := m4) (m5 := m5) (m6 := m6) hp (by simp [vmB, hd1, hd2]))
      go_wp2
      (refine bodyPost_ret (v := .tuple #[.agg #[.int .i64 (vmV1 p col m1 m2 m3 m4 m5 m6), .int .i64 (vmV2 p col m1 m2 m3 m4 m5 m6), .int .i64 (vmV3 p col m1 m2 m3 m4 m5 m6), .int .i64 (vmV4 p col m1 m2 m3 m4 m5 m6), .int .i64 (vmV5 p col m1 m2 m3 m4 m5 m6), .int .i64 (vmV6 p col m1 m2 m3 m4 m5 m6)], .int .i64 (vmC p col m1 m2 m3 m4 m5 m6)]) (by simp [results, Try.results29, go_sem, HV.out.1, HV.out.2.1, HV.out.2.2.1, HV.out.2.2.2.1, HV.out.2.2.2.2.1, HV.out.2.2.2.2.2.1, HV.out.2.2.2.2.2.2, *]) rfl ⟨?_, ?_⟩)
      · rfl
      · (repeat (first | with_reducible exact Below.refl _ _ | with_reducible refine balloc ?_ _ | with_reducible refine bdrewN ?_ _ | with_reducible refine Below.drew ?_ | with_reducible refine bthen ?_ (by with_reducible assumption) | with_reducible refine Below.setCell ?_ (by first | (simp; done) | (simp; omega)) _))
    · have hd2q := nums6 hd2
      rcases bool_ways (colB col) with hd3 | hd3
      · skip
        have c_1 : mvCb true p col m1 m2 m3 m4 m5 m6 = 2 := by simp [mvCb, hd1, hd2, hd3]
        go_wp2_with fail
        refine Calls.mono (specMoveCode_any _ _ _ _ _ _ _ _ _) ?_
        rintro e w1 ⟨rfl, hB1⟩
        (obtain ⟨hB1c, hB1f⟩ := bcell hB1; have hB1s := hB1.size; (try simp at hB1s); (try have hB1q1 := Nat.lt_of_succ_le hB1s); (try have hB1q2 := Nat.lt_of_succ_lt hB1q1); (try have hB1q3 := Nat.lt_of_succ_lt hB1q2); (try have hB1zw0 : w.heap.size < w1.heap.size := (by omega)); (try have hB1zw1 : w.heap.size + 1 < w1.heap.size := (by omega)); (try have hB1zw2 : w.heap.size + 1 + 1 < w1.heap.size := (by omega)); (try have hB1zw3 : w.heap.size + 1 + 1 + 1 < w1.heap.size := (by omega)); (try have hB1zw4 : w.heap.size + 1 + 1 + 1 + 1 < w1.heap.size := (by omega)))
        have HV := Lib.hid (vm_out (col := col) (m1 := m1) (m2 := m2) (m3 := m3) (m4 := m4) (m5 := m5) (m6 := m6) hp (by simp [vmB, hd1, hd2, hd3]))
        go_wp2
        (refine bodyPost_ret (v := .tuple #[.agg #[.int .i64 (vmV1 p col m1 m2 m3 m4 m5 m6), .int .i64 (vmV2 p col m1 m2 m3 m4 m5 m6), .int .i64 (vmV3 p col m1 m2 m3 m4 m5 m6), .int .i64 (vmV4 p col m1 m2 m3 m4 m5 m6), .int .i64 (vmV5 p col m1 m2 m3 m4 m5 m6), .int .i64 (vmV6 p col m1 m2 m3 m4 m5 m6)], .int .i64 (vmC p col m1 m2 m3 m4 m5 m6)]) (by simp [results, Try.results29, go_sem, HV.out.1, HV.out.2.1, HV.out.2.2.1, HV.out.2.2.2.1, HV.out.2.2.2.2.1, HV.out.2.2.2.2.2.1, HV.out.2.2.2.2.2.2, *]) rfl ⟨?_, ?_⟩)
        · rfl
        · (repeat (first | with_reducible exact Below.refl _ _ | with_reducible refine balloc ?_ _ | with_reducible refine bdrewN ?_ _ | with_reducible refine Below.drew ?_ | with_reducible refine bthen ?_ (by with_reducible assumption) | with_reducible refine Below.setCell ?_ (by first | (simp; done) | (simp; omega)) _))
      · have hc := hd3
        have hcr := colB_range hc
        rcases bool_ways (mvB p col m1 m2 m3 m4) with hd4 | hd4
        · skip
          have c_1 : mvCb true p col m1 m2 m3 m4 m5 m6 = 5 := by simp [mvCb, hd1, hd2, hd3, hd4]
          go_wp2_with fail
          refine Calls.mono (specMoveCode_any _ _ _ _ _ _ _ _ _) ?_
          rintro e w1 ⟨rfl, hB1⟩
          (obtain ⟨hB1c, hB1f⟩ := bcell hB1; have hB1s := hB1.size; (try simp at hB1s); (try have hB1q1 := Nat.lt_of_succ_le hB1s); (try have hB1q2 := Nat.lt_of_succ_lt hB1q1); (try have hB1q3 := Nat.lt_of_succ_lt hB1q2); (try have hB1zw0 : w.heap.size < w1.heap.size := (by omega)); (try have hB1zw1 : w.heap.size + 1 < w1.heap.size := (by omega)); (try have hB1zw2 : w.heap.size + 1 + 1 < w1.heap.size := (by omega)); (try have hB1zw3 : w.heap.size + 1 + 1 + 1 < w1.heap.size := (by omega)); (try have hB1zw4 : w.heap.size + 1 + 1 + 1 + 1 < w1.heap.size := (by omega)))
          have HB : vmB p col m1 m2 m3 m4 m5 m6 = true := by simp [vmB, hd1, hd2, hd3, hd4]
          have HS : vmS p col m1 m2 m3 m4 m5 m6 = 5 := by (simp only [vmS] <;> simp [hd1, hd2, hd3, hd4])
          have HV := Lib.hid (vm_st (col := col) (m1 := m1) (m2 := m2) (m3 := m3) (m4 := m4) (m5 := m5) (m6 := m6) hp HB HS (by decide))
          clear HB HS
          go_wp2
          (refine bodyPost_ret (v := .tuple #[.agg #[.int .i64 (vmV1 p col m1 m2 m3 m4 m5 m6), .int .i64 (vmV2 p col m1 m2 m3 m4 m5 m6), .int .i64 (vmV3 p col m1 m2 m3 m4 m5 m6), .int .i64 (vmV4 p col m1 m2 m3 m4 m5 m6), .int .i64 (vmV5 p col m1 m2 m3 m4 m5 m6), .int .i64 (vmV6 p col m1 m2 m3 m4 m5 m6)], .int .i64 (vmC p col m1 m2 m3 m4 m5 m6)]) (by simp [results, Try.results29, go_sem, HV.out.1, HV.out.2.1, HV.out.2.2.1, HV.out.2.2.2.1, HV.out.2.2.2.2.1, HV.out.2.2.2.2.2.1, HV.out.2.2.2.2.2.2, *]) rfl ⟨?_, ?_⟩)
          · rfl
          · (repeat (first | with_reducible exact Below.refl _ _ | with_reducible refine balloc ?_ _ | with_reducible refine bdrewN ?_ _ | with_reducible refine Below.drew ?_ | with_reducible refine bthen ?_ (by with_reducible assumption) | with_reducible refine Below.setCell ?_ (by first | (simp; done) | (simp; omega)) _))
        · skip
          have c_1 : mvCb true p col m1 m2 m3 m4 m5 m6 = 0 := by simp [mvCb, hd1, hd2, hd3, hd4]
          obtain ⟨v1, hv1⟩ : ∃ v : Int, v = im1 p m1 m2 m3 m4 := ⟨_, rfl⟩
          have rv1 := (im_r (p := p) (m1 := m1) (m2 := m2) (m3 := m3) (m4 := m4) (m5 := m5) (m6 := m6) hp).1
          rw [← hv1] at rv1
          have Hv1 := Lib.hid hv1
          clear hv1
          obtain ⟨v2, hv2⟩ : ∃ v : Int, v = im2 p m1 m2 m3 m4 := ⟨_, rfl⟩
          have rv2 := (im_r (p := p) (m1 := m1) (m2 := m2) (m3 := m3) (m4 := m4) (m5 := m5) (m6 := m6) hp).2.1
          rw [← hv2] at rv2
          have Hv2 := Lib.hid hv2
          clear hv2
          obtain ⟨v3, hv3⟩ : ∃ v : Int, v = im3 p m1 m2 m3 m4 := ⟨_, rfl⟩
          have rv3 := (im_r (p := p) (m1 := m1) (m2 := m2) (m3 := m3) (m4 := m4) (m5 := m5) (m6 := m6) hp).2.2.1
          rw [← hv3] at rv3
          have Hv3 := Lib.hid hv3
          clear hv3
          obtain ⟨v4, hv4⟩ : ∃ v : Int, v = im4 p m1 m2 m3 m4 := ⟨_, rfl⟩
          have rv4 := (im_r (p := p) (m1 := m1) (m2 := m2) (m3 := m3) (m4 := m4) (m5 := m5) (m6 := m6) hp).2.2.2.1
          rw [← hv4] at rv4
          have Hv4 := Lib.hid hv4
          clear hv4
          obtain ⟨v5, hv5⟩ : ∃ v : Int, v = im5 p m1 m2 m3 m4 m5 m6 := ⟨_, rfl⟩
          have rv5 := (im_r (p := p) (m1 := m1) (m2 := m2) (m3 := m3) (m4 := m4) (m5 := m5) (m6 := m6) hp).2.2.2.2.1
          rw [← hv5] at rv5
          have Hv5 := Lib.hid hv5
          clear hv5
          obtain ⟨v6, hv6⟩ : ∃ v : Int, v = im6 p m1 m2 m3 m4 m5 m6 := ⟨_, rfl⟩
          have rv6 := (im_r (p := p) (m1 := m1) (m2 := m2) (m3 := m3) (m4 := m4) (m5 := m5) (m6 := m6) hp).2.2.2.2.2
          rw [← hv6] at rv6
          have Hv6 := Lib.hid hv6
          clear hv6
          go_wp2_with fail
          refine Calls.mono (specMoveCode_any _ _ _ _ _ _ _ _ _) ?_
          rintro e w1 ⟨rfl, hB1⟩
          (obtain ⟨hB1c, hB1f⟩ := bcell hB1; have hB1s := hB1.size; (try simp at hB1s); (try have hB1q1 := Nat.lt_of_succ_le hB1s); (try have hB1q2 := Nat.lt_of_succ_lt hB1q1); (try have hB1q3 := Nat.lt_of_succ_lt hB1q2); (try have hB1zw0 : w.heap.size < w1.heap.size := (by omega)); (try have hB1zw1 : w.heap.size + 1 < w1.heap.size := (by omega)); (try have hB1zw2 : w.heap.size + 1 + 1 < w1.heap.size := (by omega)); (try have hB1zw3 : w.heap.size + 1 + 1 + 1 < w1.heap.size := (by omega)); (try have hB1zw4 : w.heap.size + 1 + 1 + 1 + 1 < w1.heap.size := (by omega)))
          go_wp2_with fail
          refine Calls.mono (specInvM_any _ _ _ _ _ _ _ _ hp (by omega) (by omega) (by omega) (by omega) (by omega) (by omega)) ?_
          rw [← Hv1.out, ← Hv2.out, ← Hv3.out, ← Hv4.out, ← Hv5.out, ← Hv6.out]
          rintro e w2 ⟨rfl, hB2⟩
          (obtain ⟨hB2c, hB2f⟩ := bcell hB2; have hB2s := hB2.size; (try simp at hB2s); (try have hB2q1 := Nat.lt_of_succ_le hB2s); (try have hB2q2 := Nat.lt_of_succ_lt hB2q1); (try have hB2q3 := Nat.lt_of_succ_lt hB2q2); (try have hB2zw0 : w.heap.size < w2.heap.size := (by omega)); (try have hB2zw1 : w.heap.size + 1 < w2.heap.size := (by omega)); (try have hB2zw2 : w.heap.size + 1 + 1 < w2.heap.size := (by omega)); (try have hB2zw3 : w.heap.size + 1 + 1 + 1 < w2.heap.size := (by omega)); (try have hB2zw4 : w.heap.size + 1 + 1 + 1 + 1 < w2.heap.size := (by omega)); (try have hB2zw10 : w1.heap.size < w2.heap.size := (by omega)); (try have hB2zw11 : w1.heap.size + 1 < w2.heap.size := (by omega)); (try have hB2zw12 : w1.heap.size + 1 + 1 < w2.heap.size := (by omega)); (try have hB2zw13 : w1.heap.size + 1 + 1 + 1 < w2.heap.size := (by omega)); (try have hB2zw14 : w1.heap.size + 1 + 1 + 1 + 1 < w2.heap.size := (by omega)))
          have HB : vmB p col m1 m2 m3 m4 m5 m6 = true := by simp [vmB, hd1, hd2, hd3, hd4]
          have HS : vmS p col m1 m2 m3 m4 m5 m6 = 0 := by (simp only [vmS, ← Hv1.out, ← Hv2.out, ← Hv3.out, ← Hv4.out, ← Hv5.out, ← Hv6.out] <;> simp [hd1, hd2, hd3, hd4])
          have HV := Lib.hid (show vmV1 p col m1 m2 m3 m4 m5 m6 = v1 ∧ vmV2 p col m1 m2 m3 m4 m5 m6 = v2 ∧ vmV3 p col m1 m2 m3 m4 m5 m6 = v3 ∧ vmV4 p col m1 m2 m3 m4 m5 m6 = v4 ∧ vmV5 p col m1 m2 m3 m4 m5 m6 = v5 ∧ vmV6 p col m1 m2 m3 m4 m5 m6 = v6 ∧ vmC p col m1 m2 m3 m4 m5 m6 = 0 from by
            have HG := vm_good (col := col) (m1 := m1) (m2 := m2) (m3 := m3) (m4 := m4) (m5 := m5) (m6 := m6) hp HB HS
            refine ⟨(HG.1).trans ?_, (HG.2.1).trans ?_, (HG.2.2.1).trans ?_, (HG.2.2.2.1).trans ?_, (HG.2.2.2.2.1).trans ?_, (HG.2.2.2.2.2.1).trans ?_, HG.2.2.2.2.2.2⟩
            all_goals (simp only [← Hv1.out, ← Hv2.out, ← Hv3.out, ← Hv4.out, ← Hv5.out, ← Hv6.out] <;> simp [hd1, hd2, hd3, hd4]))
          clear HB HS
          go_wp2
          (refine bodyPost_ret (v := .tuple #[.agg #[.int .i64 (vmV1 p col m1 m2 m3 m4 m5 m6), .int .i64 (vmV2 p col m1 m2 m3 m4 m5 m6), .int .i64 (vmV3 p col m1 m2 m3 m4 m5 m6), .int .i64 (vmV4 p col m1 m2 m3 m4 m5 m6), .int .i64 (vmV5 p col m1 m2 m3 m4 m5 m6), .int .i64 (vmV6 p col m1 m2 m3 m4 m5 m6)], .int .i64 (vmC p col m1 m2 m3 m4 m5 m6)]) (by simp [results, Try.results29, go_sem, HV.out.1, HV.out.2.1, HV.out.2.2.1, HV.out.2.2.2.1, HV.out.2.2.2.2.1, HV.out.2.2.2.2.2.1, HV.out.2.2.2.2.2.2, *]) rfl ⟨?_, ?_⟩)
          · rfl
          · (repeat (first | with_reducible exact Below.refl _ _ | with_reducible refine balloc ?_ _ | with_reducible refine bdrewN ?_ _ | with_reducible refine Below.drew ?_ | with_reducible refine bthen ?_ (by with_reducible assumption) | with_reducible refine Below.setCell ?_ (by first | (simp; done) | (simp; omega)) _))

set_option linter.unusedVariables false in
set_option linter.unusedSimpArgs false in
set_option maxRecDepth 20000 in
set_option maxHeartbeats 4000000 in
theorem implInverseMove_any (p col m1 m2 m3 m4 m5 m6 : Int)  (w : World) :
    Calls Try.prog 30 #[.int .i64 p, .int .i64 col, .agg #[.int .i64 m1, .int .i64 m2, .int .i64 m3, .int .i64 m4, .int .i64 m5, .int .i64 m6]] w fun e w' =>
      e = .returned (.tuple #[.agg #[.int .i64 (vmV1 p col m1 m2 m3 m4 m5 m6), .int .i64 (vmV2 p col m1 m2 m3 m4 m5 m6), .int .i64 (vmV3 p col m1 m2 m3 m4 m5 m6), .int .i64 (vmV4 p col m1 m2 m3 m4 m5 m6), .int .i64 (vmV5 p col m1 m2 m3 m4 m5 m6), .int .i64 (vmV6 p col m1 m2 m3 m4 m5 m6)], .int .i64 (vmC p col m1 m2 m3 m4 m5 m6)]) ∧ Below w.heap.size w w' := by
  go_enter Try.func30, Try.ntmps30
  rcases bool_ways (isP p) with hd1 | hd1
  · skip
    have c_1 : mvCb true p col m1 m2 m3 m4 m5 m6 = 1 := by simp [mvCb, hd1]
    go_wp2_with fail
    refine Calls.mono (implMoveCode_any _ _ _ _ _ _ _ _ _ _) ?_
    rintro e w1 ⟨rfl, hB1⟩
    (obtain ⟨hB1c, hB1f⟩ := bcell hB1; have hB1s := hB1.size; (try simp at hB1s); (try have hB1q1 := Nat.lt_of_succ_le hB1s); (try have hB1q2 := Nat.lt_of_succ_lt hB1q1); (try have hB1q3 := Nat.lt_of_succ_lt hB1q2); (try have hB1zw0 : w.heap.size < w1.heap.size := (by omega)); (try have hB1zw1 : w.heap.size + 1 < w1.heap.size := (by omega)); (try have hB1zw2 : w.heap.size + 1 + 1 < w1.heap.size := (by omega)); (try have hB1zw3 : w.heap.size + 1 + 1 + 1 < w1.heap.size := (by omega)); (try have hB1zw4 : w.heap.size + 1 + 1 + 1 + 1 < w1.heap.size := (by omega)))
    have HV := Lib.hid (vm_no (col := col) (m1 := m1) (m2 := m2) (m3 := m3) (m4 := m4) (m5 := m5) (m6 := m6) hd1)
    go_wp2
    (refine bodyPost_ret (v := .tuple #[.agg #[.int .i64 (vmV1 p col m1 m2 m3 m4 m5 m6), .int .i64 (vmV2 p col m1 m2 m3 m4 m5 m6), .int .i64 (vmV3 p col m1 m2 m3 m4 m5 m6), .int .i64 (vmV4 p col m1 m2 m3 m4 m5 m6), .int .i64 (vmV5 p col m1 m2 m3 m4 m5 m6), .int .i64 (vmV6 p col m1 m2 m3 m4 m5 m6)], .int .i64 (vmC p col m1 m2 m3 m4 m5 m6)]) (by simp [results, Try.results30, go_sem, HV.out.1, HV.out.2.1, HV.out.2.2.1, HV.out.2.2.2.1, HV.out.2.2.2.2.1, HV.out.2.2.2.2.2.1, HV.out.2.2.2.2.2.2, *]) rfl ⟨?_, ?_⟩)
    · rfl
    · (repeat (first | with_reducible exact Below.refl _ _ | with_reducible refine balloc ?_ _ | with_reducible refine bdrewN ?_ _ | with_reducible refine Below.drew ?_ | with_reducible refine bthen ?_ (by with_reducible assumption) | with_reducible refine Below.setCell ?_ (by first | (simp; done) | (simp; omega)) _))
  · have hp := hd1
    have hr := isP_range hp
    rcases bool_ways (colB col) with hd2 | hd2
    · skip
      have c_1 : mvCb true p col m1 m2 m3 m4 m5 m6 = 2 := by simp [mvCb, hd1, hd2]
      go_wp2_with fail
      refine Calls.mono (implMoveCode_any _ _ _ _ _ _ _ _ _ _) ?_
      rintro e w1 ⟨rfl, hB1⟩
      (obtain ⟨hB1c, hB1f⟩ := bcell hB1; have hB1s := hB1.size; (try simp at hB1s); (try have hB1q1 := Nat.lt_of_succ_le hB1s); (try have hB1q2 := Nat.lt_of_succ_lt hB1q1); (try have hB1q3 := Nat.lt_of_succ_lt hB1q2); (try have hB1zw0 : w.heap.size < w1.heap.size := (by omega)); (try have hB1zw1 : w.heap.size + 1 < w1.heap.size := (by omega)); (try have hB1zw2 : w.heap.size + 1 + 1 < w1.heap.size := (by omega)); (try have hB1zw3 : w.heap.size + 1 + 1 + 1 < w1.heap.size := (by omega)); (try have hB1zw4 : w.heap.size + 1 + 1 + 1 + 1 < w1.heap.size := (by omega)))
      have HV := Lib.hid (vm_out (col := col) (m1 := m1) (m2 := m2) (m3 := m3) (m4 := m4) (m5 := m5) (m6 := m6) hp (by simp [vmB, hd1, hd2]))
      go_wp2
      (refine bodyPost_ret (v := .tuple #[.agg #[.int .i64 (vmV1 p col m1 m2 m3 m4 m5 m6), .int .i64 (vmV2 p col m1 m2 m3 m4 m5 m6), .int .i64 (vmV3 p col m1 m2 m3 m4 m5 m6), .int .i64 (vmV4 p col m1 m2 m3 m4 m5 m6), .int .i64 (vmV5 p col m1 m2 m3 m4 m5 m6), .int .i64 (vmV6 p col m1 m2 m3 m4 m5 m6)], .int .i64 (vmC p col m1 m2 m3 m4 m5 m6)]) (by simp [results, Try.results30, go_sem, HV.out.1, HV.out.2.1, HV.out.2.2.1, HV.out.2.2.2.1, HV.out.2.2.2.2.1, HV.out.2.2.2.2.2.1, HV.out.2.2.2.2.2.2, *]) rfl ⟨?_, ?_⟩)
      · rfl
      · (repeat (first | with_reducible exact Below.refl _ _ | with_reducible refine balloc ?_ _ | with_reducible refine bdrewN ?_ _ | with_reducible refine Below.drew ?_ | with_reducible refine bthen ?_ (by with_reducible assumption) | with_reducible refine Below.setCell ?_ (by first | (simp; done) | (simp; omega)) _))
    · have hc := hd2
      have hcr := colB_range hc
      rcases bool_ways (numsIn p [m1, m2, m3, m4, m5, m6]) with hd3 | hd3
      · skip
        have c_1 : mvCb true p col m1 m2 m3 m4 m5 m6 = 2 := by simp [mvCb, hd1, hd2, hd3]
        go_wp2_with fail
        refine Calls.mono (implMoveCode_any _ _ _ _ _ _ _ _ _ _) ?_
        rintro e w1 ⟨rfl, hB1⟩
        (obtain ⟨hB1c, hB1f⟩ := bcell hB1; have hB1s := hB1.size; (try simp at hB1s); (try have hB1q1 := Nat.lt_of_succ_le hB1s); (try have hB1q2 := Nat.lt_of_succ_lt hB1q1); (try have hB1q3 := Nat.lt_of_succ_lt hB1q2); (try have hB1zw0 : w.heap.size < w1.heap.size := (by omega)); (try have hB1zw1 : w.heap.size + 1 < w1.heap.size := (by omega)); (try have hB1zw2 : w.heap.size + 1 + 1 < w1.heap.size := (by omega)); (try have hB1zw3 : w.heap.size + 1 + 1 + 1 < w1.heap.size := (by omega)); (try have hB1zw4 : w.heap.size + 1 + 1 + 1 + 1 < w1.heap.size := (by omega)))
        have HV := Lib.hid (vm_out (col := col) (m1 := m1) (m2 := m2) (m3 := m3) (m4 := m4) (m5 := m5) (m6 := m6) hp (by simp [vmB, hd1, hd2, hd3]))
        go_wp2
        (refine bodyPost_ret (v := .tuple #[.agg #[.int .i64 (vmV1 p col m1 m2 m3 m4 m5 m6), .int .i64 (vmV2 p col m1 m2 m3 m4 m5 m6), .int .i64 (vmV3 p col m1 m2 m3 m4 m5 m6), .int .i64 (vmV4 p col m1 m2 m3 m4 m5 m6), .int .i64 (vmV5 p col m1 m2 m3 m4 m5 m6), .int .i64 (vmV6 p col m1 m2 m3 m4 m5 m6)], .int .i64 (vmC p col m1 m2 m3 m4 m5 m6)]) (by simp [results, Try.results30, go_sem, HV.out.1, HV.out.2.1, HV.out.2.2.1, HV.out.2.2.2.1, HV.out.2.2.2.2.1, HV.out.2.2.2.2.2.1, HV.out.2.2.2.2.2.2, *]) rfl ⟨?_, ?_⟩)
        · rfl
        · (repeat (first | with_reducible exact Below.refl _ _ | with_reducible refine balloc ?_ _ | with_reducible refine bdrewN ?_ _ | with_reducible refine Below.drew ?_ | with_reducible refine bthen ?_ (by with_reducible assumption) | with_reducible refine Below.setCell ?_ (by first | (simp; done) | (simp; omega)) _))
      · have hd3q := nums6 hd3
        rcases bool_ways (mvB p col m1 m2 m3 m4) with hd4 | hd4
        · skip
          have c_1 : mvCb true p col m1 m2 m3 m4 m5 m6 = 5 := by simp [mvCb, hd1, hd2, hd3, hd4]
          go_wp2_with fail
          refine Calls.mono (implMoveCode_any _ _ _ _ _ _ _ _ _ _) ?_
          rintro e w1 ⟨rfl, hB1⟩
          (obtain ⟨hB1c, hB1f⟩ := bcell hB1; have hB1s := hB1.size; (try simp at hB1s); (try have hB1q1 := Nat.lt_of_succ_le hB1s); (try have hB1q2 := Nat.lt_of_succ_lt hB1q1); (try have hB1q3 := Nat.lt_of_succ_lt hB1q2); (try have hB1zw0 : w.heap.size < w1.heap.size := (by omega)); (try have hB1zw1 : w.heap.size + 1 < w1.heap.size := (by omega)); (try have hB1zw2 : w.heap.size + 1 + 1 < w1.heap.size := (by omega)); (try have hB1zw3 : w.heap.size + 1 + 1 + 1 < w1.heap.size := (by omega)); (try have hB1zw4 : w.heap.size + 1 + 1 + 1 + 1 < w1.heap.size := (by omega)))
          have HB : vmB p col m1 m2 m3 m4 m5 m6 = true := by simp [vmB, hd1, hd2, hd3, hd4]
          have HS : vmS p col m1 m2 m3 m4 m5 m6 = 5 := by (simp only [vmS] <;> simp [hd1, hd2, hd3, hd4])
          have HV := Lib.hid (vm_st (col := col) (m1 := m1) (m2 := m2) (m3 := m3) (m4 := m4) (m5 := m5) (m6 := m6) hp HB HS (by decide))
          clear HB HS
          go_wp2
          (refine bodyPost_ret (v := .tuple #[.agg #[.int .i64 (vmV1 p col m1 m2 m3 m4 m5 m6), .int .i64 (vmV2 p col m1 m2 m3 m4 m5 m6), .int .i64 (vmV3 p col m1 m2 m3 m4 m5 m6), .int .i64 (vmV4 p col m1 m2 m3 m4 m5 m6), .int .i64 (vmV5 p col m1 m2 m3 m4 m5 m6), .int .i64 (vmV6 p col m1 m2 m3 m4 m5 m6)], .int .i64 (vmC p col m1 m2 m3 m4 m5 m6)]) (by simp [results, Try.results30, go_sem, HV.out.1, HV.out.2.1, HV.out.2.2.1, HV.out.2.2.2.1, HV.out.2.2.2.2.1, HV.out.2.2.2.2.2.1, HV.out.2.2.2.2.2.2, *]) rfl ⟨?_, ?_⟩)
          · rfl
          · (repeat (first | with_reducible exact Below.refl _ _ | with_reducible refine balloc ?_ _ | with_reducible refine bdrewN ?_ _ | with_reducible refine Below.drew ?_ | with_reducible refine bthen ?_ (by with_reducible assumption) | with_reducible refine Below.setCell ?_ (by first | (simp; done) | (simp; omega)) _))
        · skip
          have c_1 : mvCb true p col m1 m2 m3 m4 m5 m6 = 0 := by simp [mvCb, hd1, hd2, hd3, hd4]
          obtain ⟨v1, hv1⟩ : ∃ v : Int, v = im1 p m1 m2 m3 m4 := ⟨_, rfl⟩
          have rv1 := (im_r (p := p) (m1 := m1) (m2 := m2) (m3 := m3) (m4 := m4) (m5 := m5) (m6 := m6) hp).1
          rw [← hv1] at rv1
          have Hv1 := Lib.hid hv1
          clear hv1
          obtain ⟨v2, hv2⟩ : ∃ v : Int, v = im2 p m1 m2 m3 m4 := ⟨_, rfl⟩
          have rv2 := (im_r (p := p) (m1 := m1) (m2 := m2) (m3 := m3) (m4 := m4) (m5 := m5) (m6 := m6) hp).2.1
          rw [← hv2] at rv2
          have Hv2 := Lib.hid hv2
          clear hv2
          obtain ⟨v3, hv3⟩ : ∃ v : Int, v = im3 p m1 m2 m3 m4 := ⟨_, rfl⟩
          have rv3 := (im_r (p := p) (m1 := m1) (m2 := m2) (m3 := m3) (m4 := m4) (m5 := m5) (m6 := m6) hp).2.2.1
          rw [← hv3] at rv3
          have Hv3 := Lib.hid hv3
          clear hv3
          obtain ⟨v4, hv4⟩ : ∃ v : Int, v = im4 p m1 m2 m3 m4 := ⟨_, rfl⟩
          have rv4 := (im_r (p := p) (m1 := m1) (m2 := m2) (m3 := m3) (m4 := m4) (m5 := m5) (m6 := m6) hp).2.2.2.1
          rw [← hv4] at rv4
          have Hv4 := Lib.hid hv4
          clear hv4
          obtain ⟨v5, hv5⟩ : ∃ v : Int, v = im5 p m1 m2 m3 m4 m5 m6 := ⟨_, rfl⟩
          have rv5 := (im_r (p := p) (m1 := m1) (m2 := m2) (m3 := m3) (m4 := m4) (m5 := m5) (m6 := m6) hp).2.2.2.2.1
          rw [← hv5] at rv5
          have Hv5 := Lib.hid hv5
          clear hv5
          obtain ⟨v6, hv6⟩ : ∃ v : Int, v = im6 p m1 m2 m3 m4 m5 m6 := ⟨_, rfl⟩
          have rv6 := (im_r (p := p) (m1 := m1) (m2 := m2) (m3 := m3) (m4 := m4) (m5 := m5) (m6 := m6) hp).2.2.2.2.2
          rw [← hv6] at rv6
          have Hv6 := Lib.hid hv6
          clear hv6
          go_wp2_with fail
          refine Calls.mono (implMoveCode_any _ _ _ _ _ _ _ _ _ _) ?_
          rintro e w1 ⟨rfl, hB1⟩
          (obtain ⟨hB1c, hB1f⟩ := bcell hB1; have hB1s := hB1.size; (try simp at hB1s); (try have hB1q1 := Nat.lt_of_succ_le hB1s); (try have hB1q2 := Nat.lt_of_succ_lt hB1q1); (try have hB1q3 := Nat.lt_of_succ_lt hB1q2); (try have hB1zw0 : w.heap.size < w1.heap.size := (by omega)); (try have hB1zw1 : w.heap.size + 1 < w1.heap.size := (by omega)); (try have hB1zw2 : w.heap.size + 1 + 1 < w1.heap.size := (by omega)); (try have hB1zw3 : w.heap.size + 1 + 1 + 1 < w1.heap.size := (by omega)); (try have hB1zw4 : w.heap.size + 1 + 1 + 1 + 1 < w1.heap.size := (by omega)))
          go_wp2_with fail
          refine Calls.mono (implInvM_any _ _ _ _ _ _ _ _ hp (by omega) (by omega) (by omega) (by omega) (by omega) (by omega)) ?_
          rw [← Hv1.out, ← Hv2.out, ← Hv3.out, ← Hv4.out, ← Hv5.out, ← Hv6.out]
          rintro e w2 ⟨rfl, hB2⟩
          (obtain ⟨hB2c, hB2f⟩ := bcell hB2; have hB2s := hB2.size; (try simp at hB2s); (try have hB2q1 := Nat.lt_of_succ_le hB2s); (try have hB2q2 := Nat.lt_of_succ_lt hB2q1); (try have hB2q3 := Nat.lt_of_succ_lt hB2q2); (try have hB2zw0 : w.heap.size < w2.heap.size := (by omega)); (try have hB2zw1 : w.heap.size + 1 < w2.heap.size := (by omega)); (try have hB2zw2 : w.heap.size + 1 + 1 < w2.heap.size := (by omega)); (try have hB2zw3 : w.heap.size + 1 + 1 + 1 < w2.heap.size := (by omega)); (try have hB2zw4 : w.heap.size + 1 + 1 + 1 + 1 < w2.heap.size := (by omega)); (try have hB2zw10 : w1.heap.size < w2.heap.size := (by omega)); (try have hB2zw11 : w1.heap.size + 1 < w2.heap.size := (by omega)); (try have hB2zw12 : w1.heap.size + 1 + 1 < w2.heap.size := (by omega)); (try have hB2zw13 : w1.heap.size + 1 + 1 + 1 < w2.heap.size := (by omega)); (try have hB2zw14 : w1.heap.size + 1 + 1 + 1 + 1 < w2.heap.size := (by omega)))
          have HB : vmB p col m1 m2 m3 m4 m5 m6 = true := by simp [vmB, hd1, hd2, hd3, hd4]
          have HS : vmS p col m1 m2 m3 m4 m5 m6 = 0 := by (simp only [vmS, ← Hv1.out, ← Hv2.out, ← Hv3.out, ← Hv4.out, ← Hv5.out, ← Hv6.out] <;> simp [hd1, hd2, hd3, hd4])
          have HV := Lib.hid (show vmV1 p col m1 m2 m3 m4 m5 m6 = v1 ∧ vmV2 p col m1 m2 m3 m4 m5 m6 = v2 ∧ vmV3 p col m1 m2 m3 m4 m5 m6 = v3 ∧ vmV4 p col m1 m2 m3 m4 m5 m6 = v4 ∧ vmV5 p col m1 m2 m3 m4 m5 m6 = v5 ∧ vmV6 p col m1 m2 m3 m4 m5 m6 = v6 ∧ vmC p col m1 m2 m3 m4 m5 m6 = 0 from by
            have HG := vm_good (col := col) (m1 := m1) (m2 := m2) (m3 := m3) (m4 := m4) (m5 := m5) (m6 := m6) hp HB HS
            refine ⟨(HG.1).trans ?_, (HG.2.1).trans ?_, (HG.2.2.1).trans ?_, (HG.2.2.2.1).trans ?_, (HG.2.2.2.2.1).trans ?_, (HG.2.2.2.2.2.1).trans ?_, HG.2.2.2.2.2.2⟩
            all_goals (simp only [← Hv1.out, ← Hv2.out, ← Hv3.out, ← Hv4.out, ← Hv5.out, ← Hv6.out] <;> simp [hd1, hd2, hd3, hd4]))
          clear HB HS
          go_wp2
          (refine bodyPost_ret (v := .tuple #[.agg #[.int .i64 (vmV1 p col m1 m2 m3 m4 m5 m6), .int .i64 (vmV2 p col m1 m2 m3 m4 m5 m6), .int .i64 (vmV3 p col m1 m2 m3 m4 m5 m6), .int .i64 (vmV4 p col m1 m2 m3 m4 m5 m6), .int .i64 (vmV5 p col m1 m2 m3 m4 m5 m6), .int .i64 (vmV6 p col m1 m2 m3 m4 m5 m6)], .int .i64 (vmC p col m1 m2 m3 m4 m5 m6)]) (by simp [results, Try.results30, go_sem, HV.out.1, HV.out.2.1, HV.out.2.2.1, HV.out.2.2.2.1, HV.out.2.2.2.2.1, HV.out.2.2.2.2.2.1, HV.out.2.2.2.2.2.2, *]) rfl ⟨?_, ?_⟩)
          · rfl
          · (repeat (first | with_reducible exact Below.refl _ _ | with_reducible refine balloc ?_ _ | with_reducible refine bdrewN ?_ _ | with_reducible refine Below.drew ?_ | with_reducible refine bthen ?_ (by with_reducible assumption) | with_reducible refine Below.setCell ?_ (by first | (simp; done) | (simp; omega)) _))

end Go.Proofs.Ythfckpfiechloaa
