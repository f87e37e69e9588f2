/-
  ProductOfMoves: the program's and the model's.
-/
import Derived.Test.YthfckpfiechloaaSpecTimesM
import Derived.Test.YthfckpfiechloaaImplTimesM
import Derived.Test.YthfckpfiechloaaSpecMaps
import Derived.Test.YthfckpfiechloaaImplMaps
import Derived.Test.YthfckpfiechloaaCode
import Derived.Deep.RegionHeld3
import Derived.Deep.DeepCutAuto
import Derived.Test.YthfckpfiechloaaBaseMath
namespace Go.Proofs.Ythfckpfiechloaa
open Go.RowKit

set_option linter.unusedVariables false in
def pmB (p m1 m2 m3 m4 m5 m6 n1 n2 n3 n4 n5 n6 : Int) : Bool := numsIn p [m1, m2, m3, m4, m5, m6] && numsIn p [n1, n2, n3, n4, n5, n6]
set_option linter.unusedVariables false in
def pmS (p m1 m2 m3 m4 m5 m6 n1 n2 n3 n4 n5 n6 : Int) : Int := 0
set_option linter.unusedVariables false in
def pmC (p m1 m2 m3 m4 m5 m6 n1 n2 n3 n4 n5 n6 : Int) : Int := if isP p = true then (if pmB p m1 m2 m3 m4 m5 m6 n1 n2 n3 n4 n5 n6 = true then pmS p m1 m2 m3 m4 m5 m6 n1 n2 n3 n4 n5 n6 else 2) else 1
set_option linter.unusedVariables false in
def pmV1 (p m1 m2 m3 m4 m5 m6 n1 n2 n3 n4 n5 n6 : Int) : Int := if pmC p m1 m2 m3 m4 m5 m6 n1 n2 n3 n4 n5 n6 = 0 then pd p n1 n2 m1 m2 m3 m4 1 0 else 0
set_option linter.unusedVariables false in
def pmV2 (p m1 m2 m3 m4 m5 m6 n1 n2 n3 n4 n5 n6 : Int) : Int := if pmC p m1 m2 m3 m4 m5 m6 n1 n2 n3 n4 n5 n6 = 0 then pd p n1 n2 m1 m2 m3 m4 0 1 else 0
set_option linter.unusedVariables false in
def pmV3 (p m1 m2 m3 m4 m5 m6 n1 n2 n3 n4 n5 n6 : Int) : Int := if pmC p m1 m2 m3 m4 m5 m6 n1 n2 n3 n4 n5 n6 = 0 then pd p n3 n4 m1 m2 m3 m4 1 0 else 0
set_option linter.unusedVariables false in
def pmV4 (p m1 m2 m3 m4 m5 m6 n1 n2 n3 n4 n5 n6 : Int) : Int := if pmC p m1 m2 m3 m4 m5 m6 n1 n2 n3 n4 n5 n6 = 0 then pd p n3 n4 m1 m2 m3 m4 0 1 else 0
set_option linter.unusedVariables false in
def pmV5 (p m1 m2 m3 m4 m5 m6 n1 n2 n3 n4 n5 n6 : Int) : Int := if pmC p m1 m2 m3 m4 m5 m6 n1 n2 n3 n4 n5 n6 = 0 then mv p n1 n2 n5 m5 m6 else 0
set_option linter.unusedVariables false in
def pmV6 (p m1 m2 m3 m4 m5 m6 n1 n2 n3 n4 n5 n6 : Int) : Int := if pmC p m1 m2 m3 m4 m5 m6 n1 n2 n3 n4 n5 n6 = 0 then mv p n3 n4 n6 m5 m6 else 0
theorem pm_zero {p m1 m2 m3 m4 m5 m6 n1 n2 n3 n4 n5 n6 k : Int} (h : pmC p m1 m2 m3 m4 m5 m6 n1 n2 n3 n4 n5 n6 = k) (hk : k ≠ 0) : pmV1 p m1 m2 m3 m4 m5 m6 n1 n2 n3 n4 n5 n6 = 0 ∧ pmV2 p m1 m2 m3 m4 m5 m6 n1 n2 n3 n4 n5 n6 = 0 ∧ pmV3 p m1 m2 m3 m4 m5 m6 n1 n2 n3 n4 n5 n6 = 0 ∧ pmV4 p m1 m2 m3 m4 m5 m6 n1 n2 n3 n4 n5 n6 = 0 ∧ pmV5 p m1 m2 m3 m4 m5 m6 n1 n2 n3 n4 n5 n6 = 0 ∧ pmV6 p m1 m2 m3 m4 m5 m6 n1 n2 n3 n4 n5 n6 = 0 ∧ pmC p m1 m2 m3 m4 m5 m6 n1 n2 n3 n4 n5 n6 = k := by
  have hn : ¬ (pmC p m1 m2 m3 m4 m5 m6 n1 n2 n3 n4 n5 n6 = 0) := fun e => hk (h.symm.trans e)
  exact ⟨if_neg hn, if_neg hn, if_neg hn, if_neg hn, if_neg hn, if_neg hn, h⟩
theorem pm_no {p m1 m2 m3 m4 m5 m6 n1 n2 n3 n4 n5 n6 : Int} (h : isP p = false) : pmV1 p m1 m2 m3 m4 m5 m6 n1 n2 n3 n4 n5 n6 = 0 ∧ pmV2 p m1 m2 m3 m4 m5 m6 n1 n2 n3 n4 n5 n6 = 0 ∧ pmV3 p m1 m2 m3 m4 m5 m6 n1 n2 n3 n4 n5 n6 = 0 ∧ pmV4 p m1 m2 m3 m4 m5 m6 n1 n2 n3 n4 n5 n6 = 0 ∧ pmV5 p m1 m2 m3 m4 m5 m6 n1 n2 n3 n4 n5 n6 = 0 ∧ pmV6 p m1 m2 m3 m4 m5 m6 n1 n2 n3 n4 n5 n6 = 0 ∧ pmC p m1 m2 m3 m4 m5 m6 n1 n2 n3 n4 n5 n6 = 1 := pm_zero (by simp [pmC, h]) (by decide)
theorem pm_out {p m1 m2 m3 m4 m5 m6 n1 n2 n3 n4 n5 n6 : Int} (hp : isP p = true) (h : pmB p m1 m2 m3 m4 m5 m6 n1 n2 n3 n4 n5 n6 = false) : pmV1 p m1 m2 m3 m4 m5 m6 n1 n2 n3 n4 n5 n6 = 0 ∧ pmV2 p m1 m2 m3 m4 m5 m6 n1 n2 n3 n4 n5 n6 = 0 ∧ pmV3 p m1 m2 m3 m4 m5 m6 n1 n2 n3 n4 n5 n6 = 0 ∧ pmV4 p m1 m2 m3 m4 m5 m6 n1 n2 n3 n4 n5 n6 = 0 ∧ pmV5 p m1 m2 m3 m4 m5 m6 n1 n2 n3 n4 n5 n6 = 0 ∧ pmV6 p m1 m2 m3 m4 m5 m6 n1 n2 n3 n4 n5 n6 = 0 ∧ pmC p m1 m2 m3 m4 m5 m6 n1 n2 n3 n4 n5 n6 = 2 := pm_zero (by simp [pmC, hp, h]) (by decide)
theorem pm_st {p m1 m2 m3 m4 m5 m6 n1 n2 n3 n4 n5 n6 k : Int} (hp : isP p = true) (h : pmB p m1 m2 m3 m4 m5 m6 n1 n2 n3 n4 n5 n6 = true) (hs : pmS p m1 m2 m3 m4 m5 m6 n1 n2 n3 n4 n5 n6 = k) (hk : k ≠ 0) : pmV1 p m1 m2 m3 m4 m5 m6 n1 n2 n3 n4 n5 n6 = 0 ∧ pmV2 p m1 m2 m3 m4 m5 m6 n1 n2 n3 n4 n5 n6 = 0 ∧ pmV3 p m1 m2 m3 m4 m5 m6 n1 n2 n3 n4 n5 n6 = 0 ∧ pmV4 p m1 m2 m3 m4 m5 m6 n1 n2 n3 n4 n5 n6 = 0 ∧ pmV5 p m1 m2 m3 m4 m5 m6 n1 n2 n3 n4 n5 n6 = 0 ∧ pmV6 p m1 m2 m3 m4 m5 m6 n1 n2 n3 n4 n5 n6 = 0 ∧ pmC p m1 m2 m3 m4 m5 m6 n1 n2 n3 n4 n5 n6 = k := pm_zero (by simp [pmC, hp, h, hs]) hk
theorem pm_good {p m1 m2 m3 m4 m5 m6 n1 n2 n3 n4 n5 n6 : Int} (hp : isP p = true) (h : pmB p m1 m2 m3 m4 m5 m6 n1 n2 n3 n4 n5 n6 = true) (hs : pmS p m1 m2 m3 m4 m5 m6 n1 n2 n3 n4 n5 n6 = 0) : pmV1 p m1 m2 m3 m4 m5 m6 n1 n2 n3 n4 n5 n6 = pd p n1 n2 m1 m2 m3 m4 1 0 ∧ pmV2 p m1 m2 m3 m4 m5 m6 n1 n2 n3 n4 n5 n6 = pd p n1 n2 m1 m2 m3 m4 0 1 ∧ pmV3 p m1 m2 m3 m4 m5 m6 n1 n2 n3 n4 n5 n6 = pd p n3 n4 m1 m2 m3 m4 1 0 ∧ pmV4 p m1 m2 m3 m4 m5 m6 n1 n2 n3 n4 n5 n6 = pd p n3 n4 m1 m2 m3 m4 0 1 ∧ pmV5 p m1 m2 m3 m4 m5 m6 n1 n2 n3 n4 n5 n6 = mv p n1 n2 n5 m5 m6 ∧ pmV6 p m1 m2 m3 m4 m5 m6 n1 n2 n3 n4 n5 n6 = mv p n3 n4 n6 m5 m6 ∧ pmC p m1 m2 m3 m4 m5 m6 n1 n2 n3 n4 n5 n6 = 0 := by
  have h' : pmC p m1 m2 m3 m4 m5 m6 n1 n2 n3 n4 n5 n6 = 0 := by simp [pmC, hp, h, hs]
  exact ⟨if_pos h', if_pos h', if_pos h', if_pos h', if_pos h', if_pos h', h'⟩

set_option linter.unusedVariables false in
set_option linter.unusedSimpArgs false in
set_option maxRecDepth 20000 in
set_option maxHeartbeats 4000000 in
theorem specProductOfMoves_any (p m1 m2 m3 m4 m5 m6 n1 n2 n3 n4 n5 n6 : Int)  (w : World) :
    Calls Try.prog 26 #[.int .i64 p, .agg #[.int .i64 m1, .int .i64 m2, .int .i64 m3, .int .i64 m4, .int .i64 m5, .int .i64 m6], .agg #[.int .i64 n1, .int .i64 n2, .int .i64 n3, .int .i64 n4, .int .i64 n5, .int .i64 n6]] w fun e w' =>
      e = .returned (.tuple #[.agg #[.int .i64 (pmV1 p m1 m2 m3 m4 m5 m6 n1 n2 n3 n4 n5 n6), .int .i64 (pmV2 p m1 m2 m3 m4 m5 m6 n1 n2 n3 n4 n5 n6), .int .i64 (pmV3 p m1 m2 m3 m4 m5 m6 n1 n2 n3 n4 n5 n6), .int .i64 (pmV4 p m1 m2 m3 m4 m5 m6 n1 n2 n3 n4 n5 n6), .int .i64 (pmV5 p m1 m2 m3 m4 m5 m6 n1 n2 n3 n4 n5 n6), .int .i64 (pmV6 p m1 m2 m3 m4 m5 m6 n1 n2 n3 n4 n5 n6)], .int .i64 (pmC p m1 m2 m3 m4 m5 m6 n1 n2 n3 n4 n5 n6)]) ∧ Below w.heap.size w w' := by
  go_enter Try.func26, Try.ntmps26
  rcases bool_ways (isP p) with hd1 | hd1
  · skip
    have c_1 : codeOf p (numsIn p [m1, m2, m3, m4, m5, m6] && numsIn p [n1, n2, n3, n4, n5, n6]) = 1 := codeOf_no hd1
    have cN : ∀ b, codeOf p b = 1 := fun b => codeOf_no hd1
    go_wp2_with fail
    refine Calls.mono (specMaps2 _ _ _ _ _ _ _ _ _ _ _ _ _ _ _ (by first | rfl | (simp; done))) ?_
    rintro e w1 ⟨rfl, hB1⟩
    (obtain ⟨hB1c, hB1f⟩ := bcell hB1; have hB1s := hB1.size; (try simp at hB1s); (try have hB1q1 := Nat.lt_of_succ_le hB1s); (try have hB1q2 := Nat.lt_of_succ_lt hB1q1); (try have hB1q3 := Nat.lt_of_succ_lt hB1q2); (try have hB1zw0 : w.heap.size < w1.heap.size := (by omega)); (try have hB1zw1 : w.heap.size + 1 < w1.heap.size := (by omega)); (try have hB1zw2 : w.heap.size + 1 + 1 < w1.heap.size := (by omega)); (try have hB1zw3 : w.heap.size + 1 + 1 + 1 < w1.heap.size := (by omega)); (try have hB1zw4 : w.heap.size + 1 + 1 + 1 + 1 < w1.heap.size := (by omega)))
    have HV := Lib.hid (pm_no (m1 := m1) (m2 := m2) (m3 := m3) (m4 := m4) (m5 := m5) (m6 := m6) (n1 := n1) (n2 := n2) (n3 := n3) (n4 := n4) (n5 := n5) (n6 := n6) hd1)
    go_wp2
    (refine bodyPost_ret (v := .tuple #[.agg #[.int .i64 (pmV1 p m1 m2 m3 m4 m5 m6 n1 n2 n3 n4 n5 n6), .int .i64 (pmV2 p m1 m2 m3 m4 m5 m6 n1 n2 n3 n4 n5 n6), .int .i64 (pmV3 p m1 m2 m3 m4 m5 m6 n1 n2 n3 n4 n5 n6), .int .i64 (pmV4 p m1 m2 m3 m4 m5 m6 n1 n2 n3 n4 n5 n6), .int .i64 (pmV5 p m1 m2 m3 m4 m5 m6 n1 n2 n3 n4 n5 n6), .int .i64 (pmV6 p m1 m2 m3 m4 m5 m6 n1 n2 n3 n4 n5 n6)], .int .i64 (pmC p m1 m2 m3 m4 m5 m6 n1 n2 n3 n4 n5 n6)]) (by simp [results, Try.results26, go_sem, HV.out.1, HV.out.2.1, HV.out.2.2.1, HV.out.2.2.2.1, HV.out.2.2.2.2.1, HV.out.2.2.2.2.2.1, HV.out.2.2.2.2.2.2, *]) rfl ⟨?_, ?_⟩)
    · rfl
    · (repeat (first | with_reducible exact Below.refl _ _ | with_reducible refine balloc ?_ _ | with_reducible refine bdrewN ?_ _ | with_reducible refine Below.drew ?_ | with_reducible refine bthen ?_ (by with_reducible assumption) | with_reducible refine Below.setCell ?_ (by first | (simp; done) | (simp; omega)) _))
  · have hp := hd1
    have hr := isP_range hp
    rcases bool_ways (numsIn p [m1, m2, m3, m4, m5, m6]) with hd2 | hd2
    · skip
      have c_1 : codeOf p (numsIn p [m1, m2, m3, m4, m5, m6] && numsIn p [n1, n2, n3, n4, n5, n6]) = 2 := codeOf_out hp (by simp [hd2])
      have cT : codeOf p true = 0 := codeOf_in hp rfl
      have cF : codeOf p false = 2 := codeOf_out hp rfl
      go_wp2_with fail
      refine Calls.mono (specMaps2 _ _ _ _ _ _ _ _ _ _ _ _ _ _ _ (by first | rfl | (simp; done))) ?_
      rintro e w1 ⟨rfl, hB1⟩
      (obtain ⟨hB1c, hB1f⟩ := bcell hB1; have hB1s := hB1.size; (try simp at hB1s); (try have hB1q1 := Nat.lt_of_succ_le hB1s); (try have hB1q2 := Nat.lt_of_succ_lt hB1q1); (try have hB1q3 := Nat.lt_of_succ_lt hB1q2); (try have hB1zw0 : w.heap.size < w1.heap.size := (by omega)); (try have hB1zw1 : w.heap.size + 1 < w1.heap.size := (by omega)); (try have hB1zw2 : w.heap.size + 1 + 1 < w1.heap.size := (by omega)); (try have hB1zw3 : w.heap.size + 1 + 1 + 1 < w1.heap.size := (by omega)); (try have hB1zw4 : w.heap.size + 1 + 1 + 1 + 1 < w1.heap.size := (by omega)))
      have HV := Lib.hid (pm_out (m1 := m1) (m2 := m2) (m3 := m3) (m4 := m4) (m5 := m5) (m6 := m6) (n1 := n1) (n2 := n2) (n3 := n3) (n4 := n4) (n5 := n5) (n6 := n6) hp (by simp [pmB, hd1, hd2]))
      go_wp2
      (refine bodyPost_ret (v := .tuple #[.agg #[.int .i64 (pmV1 p m1 m2 m3 m4 m5 m6 n1 n2 n3 n4 n5 n6), .int .i64 (pmV2 p m1 m2 m3 m4 m5 m6 n1 n2 n3 n4 n5 n6), .int .i64 (pmV3 p m1 m2 m3 m4 m5 m6 n1 n2 n3 n4 n5 n6), .int .i64 (pmV4 p m1 m2 m3 m4 m5 m6 n1 n2 n3 n4 n5 n6), .int .i64 (pmV5 p m1 m2 m3 m4 m5 m6 n1 n2 n3 n4 n5 n6), .int .i64 (pmV6 p m1 m2 m3 m4 m5 m6 n1 n2 n3 n4 n5 n6)], .int .i64 (pmC p m1 m2 m3 m4 m5 m6 n1 n2 n3 n4 n5 n6)]) (by simp [results, Try.results26, go_sem, HV.out.1, HV.out.2.1, HV.out.2.2.1, HV.out.2.2.2.1, HV.out.2.2.2.2.1, HV.out.2.2.2.2.2.1, HV.out.2.2.2.2.2.2, *]) rfl ⟨?_, ?_⟩)
      · rfl
      · (repeat (first | with_reducible exact Below.refl _ _ | with_reducible refine balloc ?_ _ | with_reducible refine bdrewN ?_ _ | with_reducible refine Below.drew ?_ | with_reducible refine bthen ?_ (by with_reducible assumption) | with_reducible refine Below.setCell ?_ (by first | (simp; done) | (simp; omega)) _))
    · have hd2q := nums6 hd2
      rcases bool_ways (numsIn p [n1, n2, n3, n4, n5, n6]) with hd3 | hd3
      · skip
        have c_1 : codeOf p (numsIn p [m1, m2, m3, m4, m5, m6] && numsIn p [n1, n2, n3, n4, n5, n6]) = 2 := codeOf_out hp (by simp [hd2, hd3])
        have cT : codeOf p true = 0 := codeOf_in hp rfl
        have cF : codeOf p false = 2 := codeOf_out hp rfl
        go_wp2_with fail
        refine Calls.mono (specMaps2 _ _ _ _ _ _ _ _ _ _ _ _ _ _ _ (by first | rfl | (simp; done))) ?_
        rintro e w1 ⟨rfl, hB1⟩
        (obtain ⟨hB1c, hB1f⟩ := bcell hB1; have hB1s := hB1.size; (try simp at hB1s); (try have hB1q1 := Nat.lt_of_succ_le hB1s); (try have hB1q2 := Nat.lt_of_succ_lt hB1q1); (try have hB1q3 := Nat.lt_of_succ_lt hB1q2); (try have hB1zw0 : w.heap.size < w1.heap.size := (by omega)); (try have hB1zw1 : w.heap.size + 1 < w1.heap.size := (by omega)); (try have hB1zw2 : w.heap.size + 1 + 1 < w1.heap.size := (by omega)); (try have hB1zw3 : w.heap.size + 1 + 1 + 1 < w1.heap.size := (by omega)); (try have hB1zw4 : w.heap.size + 1 + 1 + 1 + 1 < w1.heap.size := (by omega)))
        have HV := Lib.hid (pm_out (m1 := m1) (m2 := m2) (m3 := m3) (m4 := m4) (m5 := m5) (m6 := m6) (n1 := n1) (n2 := n2) (n3 := n3) (n4 := n4) (n5 := n5) (n6 := n6) hp (by simp [pmB, hd1, hd2, hd3]))
        go_wp2
        (refine bodyPost_ret (v := .tuple #[.agg #[.int .i64 (pmV1 p m1 m2 m3 m4 m5 m6 n1 n2 n3 n4 n5 n6), .int .i64 (pmV2 p m1 m2 m3 m4 m5 m6 n1 n2 n3 n4 n5 n6), .int .i64 (pmV3 p m1 m2 m3 m4 m5 m6 n1 n2 n3 n4 n5 n6), .int .i64 (pmV4 p m1 m2 m3 m4 m5 m6 n1 n2 n3 n4 n5 n6), .int .i64 (pmV5 p m1 m2 m3 m4 m5 m6 n1 n2 n3 n4 n5 n6), .int .i64 (pmV6 p m1 m2 m3 m4 m5 m6 n1 n2 n3 n4 n5 n6)], .int .i64 (pmC p m1 m2 m3 m4 m5 m6 n1 n2 n3 n4 n5 n6)]) (by simp [results, Try.results26, go_sem, HV.out.1, HV.out.2.1, HV.out.2.2.1, HV.out.2.2.2.1, HV.out.2.2.2.2.1, HV.out.2.2.2.2.2.1, HV.out.2.2.2.2.2.2, *]) rfl ⟨?_, ?_⟩)
        · rfl
        · (repeat (first | with_reducible exact Below.refl _ _ | with_reducible refine balloc ?_ _ | with_reducible refine bdrewN ?_ _ | with_reducible refine Below.drew ?_ | with_reducible refine bthen ?_ (by with_reducible assumption) | with_reducible refine Below.setCell ?_ (by first | (simp; done) | (simp; omega)) _))
      · have hd3q := nums6 hd3
        have c_1 : codeOf p (numsIn p [m1, m2, m3, m4, m5, m6] && numsIn p [n1, n2, n3, n4, n5, n6]) = 0 := codeOf_in hp (by simp [hd2, hd3])
        have cT : codeOf p true = 0 := codeOf_in hp rfl
        obtain ⟨v1, hv1⟩ : ∃ v : Int, v = pd p n1 n2 m1 m2 m3 m4 1 0 := ⟨_, rfl⟩
        have rv1 := pd_r n1 n2 m1 m2 m3 m4 1 0 hp
        rw [← hv1] at rv1
        have Hv1 := Lib.hid hv1
        clear hv1
        obtain ⟨v2, hv2⟩ : ∃ v : Int, v = pd p n1 n2 m1 m2 m3 m4 0 1 := ⟨_, rfl⟩
        have rv2 := pd_r n1 n2 m1 m2 m3 m4 0 1 hp
        rw [← hv2] at rv2
        have Hv2 := Lib.hid hv2
        clear hv2
        obtain ⟨v3, hv3⟩ : ∃ v : Int, v = pd p n3 n4 m1 m2 m3 m4 1 0 := ⟨_, rfl⟩
        have rv3 := pd_r n3 n4 m1 m2 m3 m4 1 0 hp
        rw [← hv3] at rv3
        have Hv3 := Lib.hid hv3
        clear hv3
        obtain ⟨v4, hv4⟩ : ∃ v : Int, v = pd p n3 n4 m1 m2 m3 m4 0 1 := ⟨_, rfl⟩
        have rv4 := pd_r n3 n4 m1 m2 m3 m4 0 1 hp
        rw [← hv4] at rv4
        have Hv4 := Lib.hid hv4
        clear hv4
        obtain ⟨v5, hv5⟩ : ∃ v : Int, v = mv p n1 n2 n5 m5 m6 := ⟨_, rfl⟩
        have rv5 := mv_r n1 n2 n5 m5 m6 hp
        rw [← hv5] at rv5
        have Hv5 := Lib.hid hv5
        clear hv5
        obtain ⟨v6, hv6⟩ : ∃ v : Int, v = mv p n3 n4 n6 m5 m6 := ⟨_, rfl⟩
        have rv6 := mv_r n3 n4 n6 m5 m6 hp
        rw [← hv6] at rv6
        have Hv6 := Lib.hid hv6
        clear hv6
        go_wp2_with fail
        refine Calls.mono (specMaps2 _ _ _ _ _ _ _ _ _ _ _ _ _ _ _ (by first | rfl | (simp; done))) ?_
        rintro e w1 ⟨rfl, hB1⟩
        (obtain ⟨hB1c, hB1f⟩ := bcell hB1; have hB1s := hB1.size; (try simp at hB1s); (try have hB1q1 := Nat.lt_of_succ_le hB1s); (try have hB1q2 := Nat.lt_of_succ_lt hB1q1); (try have hB1q3 := Nat.lt_of_succ_lt hB1q2); (try have hB1zw0 : w.heap.size < w1.heap.size := (by omega)); (try have hB1zw1 : w.heap.size + 1 < w1.heap.size := (by omega)); (try have hB1zw2 : w.heap.size + 1 + 1 < w1.heap.size := (by omega)); (try have hB1zw3 : w.heap.size + 1 + 1 + 1 < w1.heap.size := (by omega)); (try have hB1zw4 : w.heap.size + 1 + 1 + 1 + 1 < w1.heap.size := (by omega)))
        go_wp2_with fail
        refine Calls.mono (specTimesM_any _ _ _ _ _ _ _ _ _ _ _ _ _ _ hp (by omega) (by omega) (by omega) (by omega) (by omega) (by omega) (by omega) (by omega) (by omega) (by omega) (by omega) (by omega)) ?_
        rw [← Hv1.out, ← Hv2.out, ← Hv3.out, ← Hv4.out, ← Hv5.out, ← Hv6.out]
        rintro e w2 ⟨rfl, hB2⟩
        (obtain ⟨hB2c, hB2f⟩ := bcell hB2; have hB2s := hB2.size; (try simp at hB2s); (try have hB2q1 := Nat.lt_of_succ_le hB2s); (try have hB2q2 := Nat.lt_of_succ_lt hB2q1); (try have hB2q3 := Nat.lt_of_succ_lt hB2q2); (try have hB2zw0 : w.heap.size < w2.heap.size := (by omega)); (try have hB2zw1 : w.heap.size + 1 < w2.heap.size := (by omega)); (try have hB2zw2 : w.heap.size + 1 + 1 < w2.heap.size := (by omega)); (try have hB2zw3 : w.heap.size + 1 + 1 + 1 < w2.heap.size := (by omega)); (try have hB2zw4 : w.heap.size + 1 + 1 + 1 + 1 < w2.heap.size := (by omega)); (try have hB2zw10 : w1.heap.size < w2.heap.size := (by omega)); (try have hB2zw11 : w1.heap.size + 1 < w2.heap.size := (by omega)); (try have hB2zw12 : w1.heap.size + 1 + 1 < w2.heap.size := (by omega)); (try have hB2zw13 : w1.heap.size + 1 + 1 + 1 < w2.heap.size := (by omega)); (try have hB2zw14 : w1.heap.size + 1 + 1 + 1 + 1 < w2.heap.size := (by omega)))
        have HB : pmB p m1 m2 m3 m4 m5 m6 n1 n2 n3 n4 n5 n6 = true := by simp [pmB, hd1, hd2, hd3]
        have HS : pmS p m1 m2 m3 m4 m5 m6 n1 n2 n3 n4 n5 n6 = 0 := by rfl
        have HV := Lib.hid (show pmV1 p m1 m2 m3 m4 m5 m6 n1 n2 n3 n4 n5 n6 = v1 ∧ pmV2 p m1 m2 m3 m4 m5 m6 n1 n2 n3 n4 n5 n6 = v2 ∧ pmV3 p m1 m2 m3 m4 m5 m6 n1 n2 n3 n4 n5 n6 = v3 ∧ pmV4 p m1 m2 m3 m4 m5 m6 n1 n2 n3 n4 n5 n6 = v4 ∧ pmV5 p m1 m2 m3 m4 m5 m6 n1 n2 n3 n4 n5 n6 = v5 ∧ pmV6 p m1 m2 m3 m4 m5 m6 n1 n2 n3 n4 n5 n6 = v6 ∧ pmC p m1 m2 m3 m4 m5 m6 n1 n2 n3 n4 n5 n6 = 0 from by
          have HG := pm_good (m1 := m1) (m2 := m2) (m3 := m3) (m4 := m4) (m5 := m5) (m6 := m6) (n1 := n1) (n2 := n2) (n3 := n3) (n4 := n4) (n5 := n5) (n6 := n6) hp HB HS
          refine ⟨(HG.1).trans ?_, (HG.2.1).trans ?_, (HG.2.2.1).trans ?_, (HG.2.2.2.1).trans ?_, (HG.2.2.2.2.1).trans ?_, (HG.2.2.2.2.2.1).trans ?_, HG.2.2.2.2.2.2⟩
          all_goals (simp only [← Hv1.out, ← Hv2.out, ← Hv3.out, ← Hv4.out, ← Hv5.out, ← Hv6.out] <;> simp [hd1, hd2, hd3]))
        clear HB HS
        go_wp2
        (refine bodyPost_ret (v := .tuple #[.agg #[.int .i64 (pmV1 p m1 m2 m3 m4 m5 m6 n1 n2 n3 n4 n5 n6), .int .i64 (pmV2 p m1 m2 m3 m4 m5 m6 n1 n2 n3 n4 n5 n6), .int .i64 (pmV3 p m1 m2 m3 m4 m5 m6 n1 n2 n3 n4 n5 n6), .int .i64 (pmV4 p m1 m2 m3 m4 m5 m6 n1 n2 n3 n4 n5 n6), .int .i64 (pmV5 p m1 m2 m3 m4 m5 m6 n1 n2 n3 n4 n5 n6), .int .i64 (pmV6 p m1 m2 m3 m4 m5 m6 n1 n2 n3 n4 n5 n6)], .int .i64 (pmC p m1 m2 m3 m4 m5 m6 n1 n2 n3 n4 n5 n6)]) (by simp [results, Try.results26, go_sem, HV.out.1, HV.out.2.1, HV.out.2.2.1, HV.out.2.2.2.1, HV.out.2.2.2.2.1, HV.out.2.2.2.2.2.1, HV.out.2.2.2.2.2.2, *]) rfl ⟨?_, ?_⟩)
        · rfl
        · (repeat (first | with_reducible exact Below.refl _ _ | with_reducible refine balloc ?_ _ | with_reducible refine bdrewN ?_ _ | with_reducible refine Below.drew ?_ | with_reducible refine bthen ?_ (by with_reducible assumption) | with_reducible refine Below.setCell ?_ (by first | (simp; done) | (simp; omega)) _))

set_option linter.unusedVariables false in
set_option linter.unusedSimpArgs false in
set_option maxRecDepth 20000 in
set_option maxHeartbeats 4000000 in
theorem implProductOfMoves_any (p m1 m2 m3 m4 m5 m6 n1 n2 n3 n4 n5 n6 : Int)  (w : World) :
    Calls Try.prog 27 #[.int .i64 p, .agg #[.int .i64 m1, .int .i64 m2, .int .i64 m3, .int .i64 m4, .int .i64 m5, .int .i64 m6], .agg #[.int .i64 n1, .int .i64 n2, .int .i64 n3, .int .i64 n4, .int .i64 n5, .int .i64 n6]] w fun e w' =>
      e = .returned (.tuple #[.agg #[.int .i64 (pmV1 p m1 m2 m3 m4 m5 m6 n1 n2 n3 n4 n5 n6), .int .i64 (pmV2 p m1 m2 m3 m4 m5 m6 n1 n2 n3 n4 n5 n6), .int .i64 (pmV3 p m1 m2 m3 m4 m5 m6 n1 n2 n3 n4 n5 n6), .int .i64 (pmV4 p m1 m2 m3 m4 m5 m6 n1 n2 n3 n4 n5 n6), .int .i64 (pmV5 p m1 m2 m3 m4 m5 m6 n1 n2 n3 n4 n5 n6), .int .i64 (pmV6 p m1 m2 m3 m4 m5 m6 n1 n2 n3 n4 n5 n6)], .int .i64 (pmC p m1 m2 m3 m4 m5 m6 n1 n2 n3 n4 n5 n6)]) ∧ Below w.heap.size w w' := by
  go_enter Try.func27, Try.ntmps27
  rcases bool_ways (numsIn p [m1, m2, m3, m4, m5, m6]) with hd1 | hd1
  · skip
    rcases bool_ways (numsIn p [n1, n2, n3, n4, n5, n6]) with hd2 | hd2
    · skip
      rcases bool_ways (isP p) with hd3 | hd3
      · skip
        have c_1 : codeOf p false = 1 := codeOf_no hd3
        have cN : ∀ b, codeOf p b = 1 := fun b => codeOf_no hd3
        go_wp2_with fail
        refine Calls.mono (implMaps2 _ _ _ _ _ _ _ _ _ _ _ _ _ _ _ (by first | rfl | (simp; done))) ?_
        rintro e w1 ⟨rfl, hB1⟩
        (obtain ⟨hB1c, hB1f⟩ := bcell hB1; have hB1s := hB1.size; (try simp at hB1s); (try have hB1q1 := Nat.lt_of_succ_le hB1s); (try have hB1q2 := Nat.lt_of_succ_lt hB1q1); (try have hB1q3 := Nat.lt_of_succ_lt hB1q2); (try have hB1zw0 : w.heap.size < w1.heap.size := (by omega)); (try have hB1zw1 : w.heap.size + 1 < w1.heap.size := (by omega)); (try have hB1zw2 : w.heap.size + 1 + 1 < w1.heap.size := (by omega)); (try have hB1zw3 : w.heap.size + 1 + 1 + 1 < w1.heap.size := (by omega)); (try have hB1zw4 : w.heap.size + 1 + 1 + 1 + 1 < w1.heap.size := (by omega)))
        go_wp2_with fail
        refine Calls.mono (codeFor_any _ _ _) ?_
        rintro e w' ⟨rfl, rfl⟩
        have HV := Lib.hid (pm_no (m1 := m1) (m2 := m2) (m3 := m3) (m4 := m4) (m5 := m5) (m6 := m6) (n1 := n1) (n2 := n2) (n3 := n3) (n4 := n4) (n5 := n5) (n6 := n6) hd3)
        go_wp2
        (refine bodyPost_ret (v := .tuple #[.agg #[.int .i64 (pmV1 p m1 m2 m3 m4 m5 m6 n1 n2 n3 n4 n5 n6), .int .i64 (pmV2 p m1 m2 m3 m4 m5 m6 n1 n2 n3 n4 n5 n6), .int .i64 (pmV3 p m1 m2 m3 m4 m5 m6 n1 n2 n3 n4 n5 n6), .int .i64 (pmV4 p m1 m2 m3 m4 m5 m6 n1 n2 n3 n4 n5 n6), .int .i64 (pmV5 p m1 m2 m3 m4 m5 m6 n1 n2 n3 n4 n5 n6), .int .i64 (pmV6 p m1 m2 m3 m4 m5 m6 n1 n2 n3 n4 n5 n6)], .int .i64 (pmC p m1 m2 m3 m4 m5 m6 n1 n2 n3 n4 n5 n6)]) (by simp [results, Try.results27, go_sem, HV.out.1, HV.out.2.1, HV.out.2.2.1, HV.out.2.2.2.1, HV.out.2.2.2.2.1, HV.out.2.2.2.2.2.1, HV.out.2.2.2.2.2.2, *]) rfl ⟨?_, ?_⟩)
        · rfl
        · (repeat (first | with_reducible exact Below.refl _ _ | with_reducible refine balloc ?_ _ | with_reducible refine bdrewN ?_ _ | with_reducible refine Below.drew ?_ | with_reducible refine bthen ?_ (by with_reducible assumption) | with_reducible refine Below.setCell ?_ (by first | (simp; done) | (simp; omega)) _))
      · have hp := hd3
        have hr := isP_range hp
        have c_1 : codeOf p false = 2 := codeOf_out hp (by simp)
        have cT : codeOf p true = 0 := codeOf_in hp rfl
        have cF : codeOf p false = 2 := codeOf_out hp rfl
        go_wp2_with fail
        refine Calls.mono (implMaps2 _ _ _ _ _ _ _ _ _ _ _ _ _ _ _ (by first | rfl | (simp; done))) ?_
        rintro e w1 ⟨rfl, hB1⟩
        (obtain ⟨hB1c, hB1f⟩ := bcell hB1; have hB1s := hB1.size; (try simp at hB1s); (try have hB1q1 := Nat.lt_of_succ_le hB1s); (try have hB1q2 := Nat.lt_of_succ_lt hB1q1); (try have hB1q3 := Nat.lt_of_succ_lt hB1q2); (try have hB1zw0 : w.heap.size < w1.heap.size := (by omega)); (try have hB1zw1 : w.heap.size + 1 < w1.heap.size := (by omega)); (try have hB1zw2 : w.heap.size + 1 + 1 < w1.heap.size := (by omega)); (try have hB1zw3 : w.heap.size + 1 + 1 + 1 < w1.heap.size := (by omega)); (try have hB1zw4 : w.heap.size + 1 + 1 + 1 + 1 < w1.heap.size := (by omega)))
        go_wp2_with fail
        refine Calls.mono (codeFor_any _ _ _) ?_
        rintro e w' ⟨rfl, rfl⟩
        have HV := Lib.hid (pm_out (m1 := m1) (m2 := m2) (m3 := m3) (m4 := m4) (m5 := m5) (m6 := m6) (n1 := n1) (n2 := n2) (n3 := n3) (n4 := n4) (n5 := n5) (n6 := n6) hp (by simp [pmB, hd1, hd2, hd3]))
        go_wp2
        (refine bodyPost_ret (v := .tuple #[.agg #[.int .i64 (pmV1 p m1 m2 m3 m4 m5 m6 n1 n2 n3 n4 n5 n6), .int .i64 (pmV2 p m1 m2 m3 m4 m5 m6 n1 n2 n3 n4 n5 n6), .int .i64 (pmV3 p m1 m2 m3 m4 m5 m6 n1 n2 n3 n4 n5 n6), .int .i64 (pmV4 p m1 m2 m3 m4 m5 m6 n1 n2 n3 n4 n5 n6), .int .i64 (pmV5 p m1 m2 m3 m4 m5 m6 n1 n2 n3 n4 n5 n6), .int .i64 (pmV6 p m1 m2 m3 m4 m5 m6 n1 n2 n3 n4 n5 n6)], .int .i64 (pmC p m1 m2 m3 m4 m5 m6 n1 n2 n3 n4 n5 n6)]) (by simp [results, Try.results27, go_sem, HV.out.1, HV.out.2.1, HV.out.2.2.1, HV.out.2.2.2.1, HV.out.2.2.2.2.1, HV.out.2.2.2.2.2.1, HV.out.2.2.2.2.2.2, *]) rfl ⟨?_, ?_⟩)
        · rfl
        · (repeat (first | with_reducible exact Below.refl _ _ | with_reducible refine balloc ?_ _ | with_reducible refine bdrewN ?_ _ | with_reducible refine Below.drew ?_ | with_reducible refine bthen ?_ (by with_reducible assumption) | with_reducible refine Below.setCell ?_ (by first | (simp; done) | (simp; omega)) _))
    · have hd2q := nums6 hd2
      rcases bool_ways (isP p) with hd3 | hd3
      · skip
        have c_1 : codeOf p false = 1 := codeOf_no hd3
        have cN : ∀ b, codeOf p b = 1 := fun b => codeOf_no hd3
        go_wp2_with fail
        refine Calls.mono (implMaps2 _ _ _ _ _ _ _ _ _ _ _ _ _ _ _ (by first | rfl | (simp; done))) ?_
        rintro e w1 ⟨rfl, hB1⟩
        (obtain ⟨hB1c, hB1f⟩ := bcell hB1; have hB1s := hB1.size; (try simp at hB1s); (try have hB1q1 := Nat.lt_of_succ_le hB1s); (try have hB1q2 := Nat.lt_of_succ_lt hB1q1); (try have hB1q3 := Nat.lt_of_succ_lt hB1q2); (try have hB1zw0 : w.heap.size < w1.heap.size := (by omega)); (try have hB1zw1 : w.heap.size + 1 < w1.heap.size := (by omega)); (try have hB1zw2 : w.heap.size + 1 + 1 < w1.heap.size := (by omega)); (try have hB1zw3 : w.heap.size + 1 + 1 + 1 < w1.heap.size := (by omega)); (try have hB1zw4 : w.heap.size + 1 + 1 + 1 + 1 < w1.heap.size := (by omega)))
        go_wp2_with fail
        refine Calls.mono (codeFor_any _ _ _) ?_
        rintro e w' ⟨rfl, rfl⟩
        have HV := Lib.hid (pm_no (m1 := m1) (m2 := m2) (m3 := m3) (m4 := m4) (m5 := m5) (m6 := m6) (n1 := n1) (n2 := n2) (n3 := n3) (n4 := n4) (n5 := n5) (n6 := n6) hd3)
        go_wp2
        (refine bodyPost_ret (v := .tuple #[.agg #[.int .i64 (pmV1 p m1 m2 m3 m4 m5 m6 n1 n2 n3 n4 n5 n6), .int .i64 (pmV2 p m1 m2 m3 m4 m5 m6 n1 n2 n3 n4 n5 n6), .int .i64 (pmV3 p m1 m2 m3 m4 m5 m6 n1 n2 n3 n4 n5 n6), .int .i64 (pmV4 p m1 m2 m3 m4 m5 m6 n1 n2 n3 n4 n5 n6), .int .i64 (pmV5 p m1 m2 m3 m4 m5 m6 n1 n2 n3 n4 n5 n6), .int .i64 (pmV6 p m1 m2 m3 m4 m5 m6 n1 n2 n3 n4 n5 n6)], .int .i64 (pmC p m1 m2 m3 m4 m5 m6 n1 n2 n3 n4 n5 n6)]) (by simp [results, Try.results27, go_sem, HV.out.1, HV.out.2.1, HV.out.2.2.1, HV.out.2.2.2.1, HV.out.2.2.2.2.1, HV.out.2.2.2.2.2.1, HV.out.2.2.2.2.2.2, *]) rfl ⟨?_, ?_⟩)
        · rfl
        · (repeat (first | with_reducible exact Below.refl _ _ | with_reducible refine balloc ?_ _ | with_reducible refine bdrewN ?_ _ | with_reducible refine Below.drew ?_ | with_reducible refine bthen ?_ (by with_reducible assumption) | with_reducible refine Below.setCell ?_ (by first | (simp; done) | (simp; omega)) _))
      · have hp := hd3
        have hr := isP_range hp
        have c_1 : codeOf p false = 2 := codeOf_out hp (by simp)
        have cT : codeOf p true = 0 := codeOf_in hp rfl
        have cF : codeOf p false = 2 := codeOf_out hp rfl
        go_wp2_with fail
        refine Calls.mono (implMaps2 _ _ _ _ _ _ _ _ _ _ _ _ _ _ _ (by first | rfl | (simp; done))) ?_
        rintro e w1 ⟨rfl, hB1⟩
        (obtain ⟨hB1c, hB1f⟩ := bcell hB1; have hB1s := hB1.size; (try simp at hB1s); (try have hB1q1 := Nat.lt_of_succ_le hB1s); (try have hB1q2 := Nat.lt_of_succ_lt hB1q1); (try have hB1q3 := Nat.lt_of_succ_lt hB1q2); (try have hB1zw0 : w.heap.size < w1.heap.size := (by omega)); (try have hB1zw1 : w.heap.size + 1 < w1.heap.size := (by omega)); (try have hB1zw2 : w.heap.size + 1 + 1 < w1.heap.size := (by omega)); (try have hB1zw3 : w.heap.size + 1 + 1 + 1 < w1.heap.size := (by omega)); (try have hB1zw4 : w.heap.size + 1 + 1 + 1 + 1 < w1.heap.size := (by omega)))
        go_wp2_with fail
        refine Calls.mono (codeFor_any _ _ _) ?_
        rintro e w' ⟨rfl, rfl⟩
        have HV := Lib.hid (pm_out (m1 := m1) (m2 := m2) (m3 := m3) (m4 := m4) (m5 := m5) (m6 := m6) (n1 := n1) (n2 := n2) (n3 := n3) (n4 := n4) (n5 := n5) (n6 := n6) hp (by simp [pmB, hd1, hd2, hd3]))
        go_wp2
        (refine bodyPost_ret (v := .tuple #[.agg #[.int .i64 (pmV1 p m1 m2 m3 m4 m5 m6 n1 n2 n3 n4 n5 n6), .int .i64 (pmV2 p m1 m2 m3 m4 m5 m6 n1 n2 n3 n4 n5 n6), .int .i64 (pmV3 p m1 m2 m3 m4 m5 m6 n1 n2 n3 n4 n5 n6), .int .i64 (pmV4 p m1 m2 m3 m4 m5 m6 n1 n2 n3 n4 n5 n6), .int .i64 (pmV5 p m1 m2 m3 m4 m5 m6 n1 n2 n3 n4 n5 n6), .int .i64 (pmV6 p m1 m2 m3 m4 m5 m6 n1 n2 n3 n4 n5 n6)], .int .i64 (pmC p m1 m2 m3 m4 m5 m6 n1 n2 n3 n4 n5 n6)]) (by simp [results, Try.results27, go_sem, HV.out.1, HV.out.2.1, HV.out.2.2.1, HV.out.2.2.2.1, HV.out.2.2.2.2.1, HV.out.2.2.2.2.2.1, HV.out.2.2.2.2.2.2, *]) rfl ⟨?_, ?_⟩)
        · rfl
        · (repeat (first | with_reducible exact Below.refl _ _ | with_reducible refine balloc ?_ _ | with_reducible refine bdrewN ?_ _ | with_reducible refine Below.drew ?_ | with_reducible refine bthen ?_ (by with_reducible assumption) | with_reducible refine Below.setCell ?_ (by first | (simp; done) | (simp; omega)) _))
  · have hd1q := nums6 hd1
    rcases bool_ways (numsIn p [n1, n2, n3, n4, n5, n6]) with hd2 | hd2
    · skip
      rcases bool_ways (isP p) with hd3 | hd3
      · skip
        have c_1 : codeOf p false = 1 := codeOf_no hd3
        have cN : ∀ b, codeOf p b = 1 := fun b => codeOf_no hd3
        go_wp2_with fail
        refine Calls.mono (implMaps2 _ _ _ _ _ _ _ _ _ _ _ _ _ _ _ (by first | rfl | (simp; done))) ?_
        rintro e w1 ⟨rfl, hB1⟩
        (obtain ⟨hB1c, hB1f⟩ := bcell hB1; have hB1s := hB1.size; (try simp at hB1s); (try have hB1q1 := Nat.lt_of_succ_le hB1s); (try have hB1q2 := Nat.lt_of_succ_lt hB1q1); (try have hB1q3 := Nat.lt_of_succ_lt hB1q2); (try have hB1zw0 : w.heap.size < w1.heap.size := (by omega)); (try have hB1zw1 : w.heap.size + 1 < w1.heap.size := (by omega)); (try have hB1zw2 : w.heap.size + 1 + 1 < w1.heap.size := (by omega)); (try have hB1zw3 : w.heap.size + 1 + 1 + 1 < w1.heap.size := (by omega)); (try have hB1zw4 : w.heap.size + 1 + 1 + 1 + 1 < w1.heap.size := (by omega)))
        go_wp2_with fail
        refine Calls.mono (codeFor_any _ _ _) ?_
        rintro e w' ⟨rfl, rfl⟩
        have HV := Lib.hid (pm_no (m1 := m1) (m2 := m2) (m3 := m3) (m4 := m4) (m5 := m5) (m6 := m6) (n1 := n1) (n2 := n2) (n3 := n3) (n4 := n4) (n5 := n5) (n6 := n6) hd3)
        go_wp2
        (refine bodyPost_ret (v := .tuple #[.agg #[.int .i64 (pmV1 p m1 m2 m3 m4 m5 m6 n1 n2 n3 n4 n5 n6), .int .i64 (pmV2 p m1 m2 m3 m4 m5 m6 n1 n2 n3 n4 n5 n6), .int .i64 (pmV3 p m1 m2 m3 m4 m5 m6 n1 n2 n3 n4 n5 n6), .int .i64 (pmV4 p m1 m2 m3 m4 m5 m6 n1 n2 n3 n4 n5 n6), .int .i64 (pmV5 p m1 m2 m3 m4 m5 m6 n1 n2 n3 n4 n5 n6), .int .i64 (pmV6 p m1 m2 m3 m4 m5 m6 n1 n2 n3 n4 n5 n6)], .int .i64 (pmC p m1 m2 m3 m4 m5 m6 n1 n2 n3 n4 n5 n6)]) (by simp [results, Try.results27, go_sem, HV.out.1, HV.out.2.1, HV.out.2.2.1, HV.out.2.2.2.1, HV.out.2.2.2.2.1, HV.out.2.2.2.2.2.1, HV.out.2.2.2.2.2.2, *]) rfl ⟨?_, ?_⟩)
        · rfl
        · (repeat (first | with_reducible exact Below.refl _ _ | with_reducible refine balloc ?_ _ | with_reducible refine bdrewN ?_ _ | with_reducible refine Below.drew ?_ | with_reducible refine bthen ?_ (by with_reducible assumption) | with_reducible refine Below.setCell ?_ (by first | (simp; done) | (simp; omega)) _))
      · have hp := hd3
        have hr := isP_range hp
        have c_1 : codeOf p false = 2 := codeOf_out hp (by simp)
        have cT : codeOf p true = 0 := codeOf_in hp rfl
        have cF : codeOf p false = 2 := codeOf_out hp rfl
        go_wp2_with fail
        refine Calls.mono (implMaps2 _ _ _ _ _ _ _ _ _ _ _ _ _ _ _ (by first | rfl | (simp; done))) ?_
        rintro e w1 ⟨rfl, hB1⟩
        (obtain ⟨hB1c, hB1f⟩ := bcell hB1; have hB1s := hB1.size; (try simp at hB1s); (try have hB1q1 := Nat.lt_of_succ_le hB1s); (try have hB1q2 := Nat.lt_of_succ_lt hB1q1); (try have hB1q3 := Nat.lt_of_succ_lt hB1q2); (try have hB1zw0 : w.heap.size < w1.heap.size := (by omega)); (try have hB1zw1 : w.heap.size + 1 < w1.heap.size := (by omega)); (try have hB1zw2 : w.heap.size + 1 + 1 < w1.heap.size := (by omega)); (try have hB1zw3 : w.heap.size + 1 + 1 + 1 < w1.heap.size := (by omega)); (try have hB1zw4 : w.heap.size + 1 + 1 + 1 + 1 < w1.heap.size := (by omega)))
        go_wp2_with fail
        refine Calls.mono (codeFor_any _ _ _) ?_
        rintro e w' ⟨rfl, rfl⟩
        have HV := Lib.hid (pm_out (m1 := m1) (m2 := m2) (m3 := m3) (m4 := m4) (m5 := m5) (m6 := m6) (n1 := n1) (n2 := n2) (n3 := n3) (n4 := n4) (n5 := n5) (n6 := n6) hp (by simp [pmB, hd1, hd2, hd3]))
        go_wp2
        (refine bodyPost_ret (v := .tuple #[.agg #[.int .i64 (pmV1 p m1 m2 m3 m4 m5 m6 n1 n2 n3 n4 n5 n6), .int .i64 (pmV2 p m1 m2 m3 m4 m5 m6 n1 n2 n3 n4 n5 n6), .int .i64 (pmV3 p m1 m2 m3 m4 m5 m6 n1 n2 n3 n4 n5 n6), .int .i64 (pmV4 p m1 m2 m3 m4 m5 m6 n1 n2 n3 n4 n5 n6), .int .i64 (pmV5 p m1 m2 m3 m4 m5 m6 n1 n2 n3 n4 n5 n6), .int .i64 (pmV6 p m1 m2 m3 m4 m5 m6 n1 n2 n3 n4 n5 n6)], .int .i64 (pmC p m1 m2 m3 m4 m5 m6 n1 n2 n3 n4 n5 n6)]) (by simp [results, Try.results27, go_sem, HV.out.1, HV.out.2.1, HV.out.2.2.1, HV.out.2.2.2.1, HV.out.2.2.2.2.1, HV.out.2.2.2.2.2.1, HV.out.2.2.2.2.2.2, *]) rfl ⟨?_, ?_⟩)
        · rfl
        · (repeat (first | with_reducible exact Below.refl _ _ | with_reducible refine balloc ?_ _ | with_reducible refine bdrewN ?_ _ | with_reducible refine Below.drew ?_ | with_reducible refine bthen ?_ (by with_reducible assumption) | with_reducible refine Below.setCell ?_ (by first | (simp; done) | (simp; omega)) _))
    · have hd2q := nums6 hd2
      rcases bool_ways (isP p) with hd3 | hd3
      · skip
        have c_1 : codeOf p true = 1 := codeOf_no hd3
        have cN : ∀ b, codeOf p b = 1 := fun b => codeOf_no hd3
        go_wp2_with fail
        refine Calls.mono (implMaps2 _ _ _ _ _ _ _ _ _ _ _ _ _ _ _ (by first | rfl | (simp; done))) ?_
        rintro e w1 ⟨rfl, hB1⟩
        (obtain ⟨hB1c, hB1f⟩ := bcell hB1; have hB1s := hB1.size; (try simp at hB1s); (try have hB1q1 := Nat.lt_of_succ_le hB1s); (try have hB1q2 := Nat.lt_of_succ_lt hB1q1); (try have hB1q3 := Nat.lt_of_succ_lt hB1q2); (try have hB1zw0 : w.heap.size < w1.heap.size := (by omega)); (try have hB1zw1 : w.heap.size + 1 < w1.heap.size := (by omega)); (try have hB1zw2 : w.heap.size + 1 + 1 < w1.heap.size := (by omega)); (try have hB1zw3 : w.heap.size + 1 + 1 + 1 < w1.heap.size := (by omega)); (try have hB1zw4 : w.heap.size + 1 + 1 + 1 + 1 < w1.heap.size := (by omega)))
        go_wp2_with fail
        refine Calls.mono (codeFor_any _ _ _) ?_
        rintro e w' ⟨rfl, rfl⟩
        have HV := Lib.hid (pm_no (m1 := m1) (m2 := m2) (m3 := m3) (m4 := m4) (m5 := m5) (m6 := m6) (n1 := n1) (n2 := n2) (n3 := n3) (n4 := n4) (n5 := n5) (n6 := n6) hd3)
        go_wp2
        (refine bodyPost_ret (v := .tuple #[.agg #[.int .i64 (pmV1 p m1 m2 m3 m4 m5 m6 n1 n2 n3 n4 n5 n6), .int .i64 (pmV2 p m1 m2 m3 m4 m5 m6 n1 n2 n3 n4 n5 n6), .int .i64 (pmV3 p m1 m2 m3 m4 m5 m6 n1 n2 n3 n4 n5 n6), .int .i64 (pmV4 p m1 m2 m3 m4 m5 m6 n1 n2 n3 n4 n5 n6), .int .i64 (pmV5 p m1 m2 m3 m4 m5 m6 n1 n2 n3 n4 n5 n6), .int .i64 (pmV6 p m1 m2 m3 m4 m5 m6 n1 n2 n3 n4 n5 n6)], .int .i64 (pmC p m1 m2 m3 m4 m5 m6 n1 n2 n3 n4 n5 n6)]) (by simp [results, Try.results27, go_sem, HV.out.1, HV.out.2.1, HV.out.2.2.1, HV.out.2.2.2.1, HV.out.2.2.2.2.1, HV.out.2.2.2.2.2.1, HV.out.2.2.2.2.2.2, *]) rfl ⟨?_, ?_⟩)
        · rfl
        · (repeat (first | with_reducible exact Below.refl _ _ | with_reducible refine balloc ?_ _ | with_reducible refine bdrewN ?_ _ | with_reducible refine Below.drew ?_ | with_reducible refine bthen ?_ (by with_reducible assumption) | with_reducible refine Below.setCell ?_ (by first | (simp; done) | (simp; omega)) _))
      · have hp := hd3
        have hr := isP_range hp
        have c_1 : codeOf p true = 0 := codeOf_in hp (by simp)
        have cT : codeOf p true = 0 := codeOf_in hp rfl
        obtain ⟨v1, hv1⟩ : ∃ v : Int, v = pd p n1 n2 m1 m2 m3 m4 1 0 := ⟨_, rfl⟩
        have rv1 := pd_r n1 n2 m1 m2 m3 m4 1 0 hp
        rw [← hv1] at rv1
        have Hv1 := Lib.hid hv1
        clear hv1
        obtain ⟨v2, hv2⟩ : ∃ v : Int, v = pd p n1 n2 m1 m2 m3 m4 0 1 := ⟨_, rfl⟩
        have rv2 := pd_r n1 n2 m1 m2 m3 m4 0 1 hp
        rw [← hv2] at rv2
        have Hv2 := Lib.hid hv2
        clear hv2
        obtain ⟨v3, hv3⟩ : ∃ v : Int, v = pd p n3 n4 m1 m2 m3 m4 1 0 := ⟨_, rfl⟩
        have rv3 := pd_r n3 n4 m1 m2 m3 m4 1 0 hp
        rw [← hv3] at rv3
        have Hv3 := Lib.hid hv3
        clear hv3
        obtain ⟨v4, hv4⟩ : ∃ v : Int, v = pd p n3 n4 m1 m2 m3 m4 0 1 := ⟨_, rfl⟩
        have rv4 := pd_r n3 n4 m1 m2 m3 m4 0 1 hp
        rw [← hv4] at rv4
        have Hv4 := Lib.hid hv4
        clear hv4
        obtain ⟨v5, hv5⟩ : ∃ v : Int, v = mv p n1 n2 n5 m5 m6 := ⟨_, rfl⟩
        have rv5 := mv_r n1 n2 n5 m5 m6 hp
        rw [← hv5] at rv5
        have Hv5 := Lib.hid hv5
        clear hv5
        obtain ⟨v6, hv6⟩ : ∃ v : Int, v = mv p n3 n4 n6 m5 m6 := ⟨_, rfl⟩
        have rv6 := mv_r n3 n4 n6 m5 m6 hp
        rw [← hv6] at rv6
        have Hv6 := Lib.hid hv6
        clear hv6
        go_wp2_with fail
        refine Calls.mono (implMaps2 _ _ _ _ _ _ _ _ _ _ _ _ _ _ _ (by first | rfl | (simp; done))) ?_
        rintro e w1 ⟨rfl, hB1⟩
        (obtain ⟨hB1c, hB1f⟩ := bcell hB1; have hB1s := hB1.size; (try simp at hB1s); (try have hB1q1 := Nat.lt_of_succ_le hB1s); (try have hB1q2 := Nat.lt_of_succ_lt hB1q1); (try have hB1q3 := Nat.lt_of_succ_lt hB1q2); (try have hB1zw0 : w.heap.size < w1.heap.size := (by omega)); (try have hB1zw1 : w.heap.size + 1 < w1.heap.size := (by omega)); (try have hB1zw2 : w.heap.size + 1 + 1 < w1.heap.size := (by omega)); (try have hB1zw3 : w.heap.size + 1 + 1 + 1 < w1.heap.size := (by omega)); (try have hB1zw4 : w.heap.size + 1 + 1 + 1 + 1 < w1.heap.size := (by omega)))
        go_wp2_with fail
        refine Calls.mono (codeFor_any _ _ _) ?_
        rintro e w' ⟨rfl, rfl⟩
        go_wp2_with fail
        refine Calls.mono (implTimesM_any _ _ _ _ _ _ _ _ _ _ _ _ _ _ hp (by omega) (by omega) (by omega) (by omega) (by omega) (by omega) (by omega) (by omega) (by omega) (by omega) (by omega) (by omega)) ?_
        rw [← Hv1.out, ← Hv2.out, ← Hv3.out, ← Hv4.out, ← Hv5.out, ← Hv6.out]
        rintro e w2 ⟨rfl, hB2⟩
        (obtain ⟨hB2c, hB2f⟩ := bcell hB2; have hB2s := hB2.size; (try simp at hB2s); (try have hB2q1 := Nat.lt_of_succ_le hB2s); (try have hB2q2 := Nat.lt_of_succ_lt hB2q1); (try have hB2q3 := Nat.lt_of_succ_lt hB2q2); (try have hB2zw0 : w.heap.size < w2.heap.size := (by omega)); (try have hB2zw1 : w.heap.size + 1 < w2.heap.size := (by omega)); (try have hB2zw2 : w.heap.size + 1 + 1 < w2.heap.size := (by omega)); (try have hB2zw3 : w.heap.size + 1 + 1 + 1 < w2.heap.size := (by omega)); (try have hB2zw4 : w.heap.size + 1 + 1 + 1 + 1 < w2.heap.size := (by omega)); (try have hB2zw10 : w1.heap.size < w2.heap.size := (by omega)); (try have hB2zw11 : w1.heap.size + 1 < w2.heap.size := (by omega)); (try have hB2zw12 : w1.heap.size + 1 + 1 < w2.heap.size := (by omega)); (try have hB2zw13 : w1.heap.size + 1 + 1 + 1 < w2.heap.size := (by omega)); (try have hB2zw14 : w1.heap.size + 1 + 1 + 1 + 1 < w2.heap.size := (by omega)))
        have HB : pmB p m1 m2 m3 m4 m5 m6 n1 n2 n3 n4 n5 n6 = true := by simp [pmB, hd1, hd2, hd3]
        have HS : pmS p m1 m2 m3 m4 m5 m6 n1 n2 n3 n4 n5 n6 = 0 := by rfl
        have HV := Lib.hid (show pmV1 p m1 m2 m3 m4 m5 m6 n1 n2 n3 n4 n5 n6 = v1 ∧ pmV2 p m1 m2 m3 m4 m5 m6 n1 n2 n3 n4 n5 n6 = v2 ∧ pmV3 p m1 m2 m3 m4 m5 m6 n1 n2 n3 n4 n5 n6 = v3 ∧ pmV4 p m1 m2 m3 m4 m5 m6 n1 n2 n3 n4 n5 n6 = v4 ∧ pmV5 p m1 m2 m3 m4 m5 m6 n1 n2 n3 n4 n5 n6 = v5 ∧ pmV6 p m1 m2 m3 m4 m5 m6 n1 n2 n3 n4 n5 n6 = v6 ∧ pmC p m1 m2 m3 m4 m5 m6 n1 n2 n3 n4 n5 n6 = 0 from by
          have HG := pm_good (m1 := m1) (m2 := m2) (m3 := m3) (m4 := m4) (m5 := m5) (m6 := m6) (n1 := n1) (n2 := n2) (n3 := n3) (n4 := n4) (n5 := n5) (n6 := n6) hp HB HS
          refine ⟨(HG.1).trans ?_, (HG.2.1).trans ?_, (HG.2.2.1).trans ?_, (HG.2.2.2.1).trans ?_, (HG.2.2.2.2.1).trans ?_, (HG.2.2.2.2.2.1).trans ?_, HG.2.2.2.2.2.2⟩
          all_goals (simp only [← Hv1.out, ← Hv2.out, ← Hv3.out, ← Hv4.out, ← Hv5.out, ← Hv6.out] <;> simp [hd1, hd2, hd3]))
        clear HB HS
        go_wp2
        (refine bodyPost_ret (v := .tuple #[.agg #[.int .i64 (pmV1 p m1 m2 m3 m4 m5 m6 n1 n2 n3 n4 n5 n6), .int .i64 (pmV2 p m1 m2 m3 m4 m5 m6 n1 n2 n3 n4 n5 n6), .int .i64 (pmV3 p m1 m2 m3 m4 m5 m6 n1 n2 n3 n4 n5 n6), .int .i64 (pmV4 p m1 m2 m3 m4 m5 m6 n1 n2 n3 n4 n5 n6), .int .i64 (pmV5 p m1 m2 m3 m4 m5 m6 n1 n2 n3 n4 n5 n6), .int .i64 (pmV6 p m1 m2 m3 m4 m5 m6 n1 n2 n3 n4 n5 n6)], .int .i64 (pmC p m1 m2 m3 m4 m5 m6 n1 n2 n3 n4 n5 n6)]) (by simp [results, Try.results27, go_sem, HV.out.1, HV.out.2.1, HV.out.2.2.1, HV.out.2.2.2.1, HV.out.2.2.2.2.1, HV.out.2.2.2.2.2.1, HV.out.2.2.2.2.2.2, *]) rfl ⟨?_, ?_⟩)
        · rfl
        · (repeat (first | with_reducible exact Below.refl _ _ | with_reducible refine balloc ?_ _ | with_reducible refine bdrewN ?_ _ | with_reducible refine Below.drew ?_ | with_reducible refine bthen ?_ (by with_reducible assumption) | with_reducible refine Below.setCell ?_ (by first | (simp; done) | (simp; omega)) _))

end Go.Proofs.Ythfckpfiechloaa
