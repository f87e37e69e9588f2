/-
  RadicalLine: the program's and the model's.
-/
import Derived.Test.YtcebhcamegdmaaaSpecRad
import Derived.Test.YtcebhcamegdmaaaImplRad
import Derived.Test.YtcebhcamegdmaaaSpecCircles
import Derived.Test.YtcebhcamegdmaaaImplCircles
import Derived.Test.YtcebhcamegdmaaaImplCol
import Derived.Test.YtcebhcamegdmaaaCode
import Derived.Test.YtcebhcamegdmaaaArrEq
import Derived.Deep.RegionHeld3
import Derived.Deep.DeepCutAuto
import Derived.Test.YtcebhcamegdmaaaBaseMath
namespace Go.Proofs.Ytcebhcamegdmaaa
open Go.RowKit

set_option linter.unusedVariables false in
def rlB (p col k1 k2 k3 m1 m2 m3 : Int) : Bool := colB col && (numsIn p [k1, k2, k3] && numsIn p [m1, m2, m3])
set_option linter.unusedVariables false in
def rlS (p col k1 k2 k3 m1 m2 m3 : Int) : Int := if (k1 == m1 && k2 == m2) = true then 5 else 0
set_option linter.unusedVariables false in
def rlC (p col k1 k2 k3 m1 m2 m3 : Int) : Int := if isP p = true then (if rlB p col k1 k2 k3 m1 m2 m3 = true then rlS p col k1 k2 k3 m1 m2 m3 else 2) else 1
set_option linter.unusedVariables false in
def rlV1 (p col k1 k2 k3 m1 m2 m3 : Int) : Int := if rlC p col k1 k2 k3 m1 m2 m3 = 0 then rd1 p col k1 k2 k3 m1 m2 m3 else 0
set_option linter.unusedVariables false in
def rlV2 (p col k1 k2 k3 m1 m2 m3 : Int) : Int := if rlC p col k1 k2 k3 m1 m2 m3 = 0 then rd2 p col k1 k2 k3 m1 m2 m3 else 0
set_option linter.unusedVariables false in
def rlV3 (p col k1 k2 k3 m1 m2 m3 : Int) : Int := if rlC p col k1 k2 k3 m1 m2 m3 = 0 then rd3 p col k1 k2 k3 m1 m2 m3 else 0
theorem rl_zero {p col k1 k2 k3 m1 m2 m3 k : Int} (h : rlC p col k1 k2 k3 m1 m2 m3 = k) (hk : k ≠ 0) : rlV1 p col k1 k2 k3 m1 m2 m3 = 0 ∧ rlV2 p col k1 k2 k3 m1 m2 m3 = 0 ∧ rlV3 p col k1 k2 k3 m1 m2 m3 = 0 ∧ rlC p col k1 k2 k3 m1 m2 m3 = k := by
  have hn : ¬ (rlC p col k1 k2 k3 m1 m2 m3 = 0) := fun e => hk (h.symm.trans e)
  exact ⟨if_neg hn, if_neg hn, if_neg hn, h⟩
theorem rl_no {p col k1 k2 k3 m1 m2 m3 : Int} (h : isP p = false) : rlV1 p col k1 k2 k3 m1 m2 m3 = 0 ∧ rlV2 p col k1 k2 k3 m1 m2 m3 = 0 ∧ rlV3 p col k1 k2 k3 m1 m2 m3 = 0 ∧ rlC p col k1 k2 k3 m1 m2 m3 = 1 := rl_zero (by simp [rlC, h]) (by decide)
theorem rl_out {p col k1 k2 k3 m1 m2 m3 : Int} (hp : isP p = true) (h : rlB p col k1 k2 k3 m1 m2 m3 = false) : rlV1 p col k1 k2 k3 m1 m2 m3 = 0 ∧ rlV2 p col k1 k2 k3 m1 m2 m3 = 0 ∧ rlV3 p col k1 k2 k3 m1 m2 m3 = 0 ∧ rlC p col k1 k2 k3 m1 m2 m3 = 2 := rl_zero (by simp [rlC, hp, h]) (by decide)
theorem rl_st {p col k1 k2 k3 m1 m2 m3 k : Int} (hp : isP p = true) (h : rlB p col k1 k2 k3 m1 m2 m3 = true) (hs : rlS p col k1 k2 k3 m1 m2 m3 = k) (hk : k ≠ 0) : rlV1 p col k1 k2 k3 m1 m2 m3 = 0 ∧ rlV2 p col k1 k2 k3 m1 m2 m3 = 0 ∧ rlV3 p col k1 k2 k3 m1 m2 m3 = 0 ∧ rlC p col k1 k2 k3 m1 m2 m3 = k := rl_zero (by simp [rlC, hp, h, hs]) hk
theorem rl_good {p col k1 k2 k3 m1 m2 m3 : Int} (hp : isP p = true) (h : rlB p col k1 k2 k3 m1 m2 m3 = true) (hs : rlS p col k1 k2 k3 m1 m2 m3 = 0) : rlV1 p col k1 k2 k3 m1 m2 m3 = rd1 p col k1 k2 k3 m1 m2 m3 ∧ rlV2 p col k1 k2 k3 m1 m2 m3 = rd2 p col k1 k2 k3 m1 m2 m3 ∧ rlV3 p col k1 k2 k3 m1 m2 m3 = rd3 p col k1 k2 k3 m1 m2 m3 ∧ rlC p col k1 k2 k3 m1 m2 m3 = 0 := by
  have h' : rlC p col k1 k2 k3 m1 m2 m3 = 0 := by simp [rlC, hp, h, hs]
  exact ⟨if_pos h', if_pos h', if_pos h', h'⟩

set_option linter.unusedSimpArgs false in
set_option maxRecDepth 20000 in
set_option maxHeartbeats 4000000 in
theorem specRadicalLine_any (p col k1 k2 k3 m1 m2 m3 : Int) (w : World) :
    Calls Try.prog 42 #[.int .i64 p, .int .i64 col, .agg #[.int .i64 k1, .int .i64 k2, .int .i64 k3], .agg #[.int .i64 m1, .int .i64 m2, .int .i64 m3]] w fun e w' =>
      e = .returned (.tuple #[.agg #[.int .i64 (rlV1 p col k1 k2 k3 m1 m2 m3), .int .i64 (rlV2 p col k1 k2 k3 m1 m2 m3), .int .i64 (rlV3 p col k1 k2 k3 m1 m2 m3)], .int .i64 (rlC p col k1 k2 k3 m1 m2 m3)]) ∧ Below w.heap.size w w' := by
  have heq := equalPoint
  go_enter Try.func42, Try.ntmps42
  rcases bool_ways (isP p) with hd1 | hd1
  · skip
    have c_1 : codeOf p (colB col && numsIn p [k1, k2, k3] && numsIn p [m1, m2, m3]) = 1 := codeOf_no hd1
    have cN : ∀ b, codeOf p b = 1 := fun b => codeOf_no hd1
    go_wp2_with fail
    refine Calls.mono (specCircles2 _ _ _ _ _ _ _ _ _ _ (by first | rfl | (simp; done))) ?_
    rintro e w1 ⟨rfl, hB1⟩
    (obtain ⟨hB1c, hB1f⟩ := bcell hB1; have hB1s := hB1.size; (try simp at hB1s); (try have hB1q1 := Nat.lt_of_succ_le hB1s); (try have hB1q2 := Nat.lt_of_succ_lt hB1q1); (try have hB1q3 := Nat.lt_of_succ_lt hB1q2); (try have hB1zw0 : w.heap.size < w1.heap.size := (by omega)); (try have hB1zw1 : w.heap.size + 1 < w1.heap.size := (by omega)); (try have hB1zw2 : w.heap.size + 1 + 1 < w1.heap.size := (by omega)); (try have hB1zw3 : w.heap.size + 1 + 1 + 1 < w1.heap.size := (by omega)); (try have hB1zw4 : w.heap.size + 1 + 1 + 1 + 1 < w1.heap.size := (by omega)))
    have HV := Lib.hid (rl_no (col := col) (k1 := k1) (k2 := k2) (k3 := k3) (m1 := m1) (m2 := m2) (m3 := m3) hd1)
    go_wp2
    (refine bodyPost_ret (v := .tuple #[.agg #[.int .i64 (rlV1 p col k1 k2 k3 m1 m2 m3), .int .i64 (rlV2 p col k1 k2 k3 m1 m2 m3), .int .i64 (rlV3 p col k1 k2 k3 m1 m2 m3)], .int .i64 (rlC p col k1 k2 k3 m1 m2 m3)]) (by simp [results, Try.results42, go_sem, HV.out.1, HV.out.2.1, HV.out.2.2.1, HV.out.2.2.2, *]) rfl ⟨?_, ?_⟩)
    · rfl
    · (repeat (first | with_reducible exact Below.refl _ _ | with_reducible refine balloc ?_ _ | with_reducible refine bdrewN ?_ _ | with_reducible refine Below.drew ?_ | with_reducible refine bthen ?_ (by with_reducible assumption) | with_reducible refine Below.setCell ?_ (by first | (simp; done) | (simp; omega)) _))
  · have hp := hd1
    have hr := isP_range hp
    rcases bool_ways (colB col) with hd2 | hd2
    · skip
      have c_1 : codeOf p (colB col && numsIn p [k1, k2, k3] && numsIn p [m1, m2, m3]) = 2 := codeOf_out hp (by simp [hd2])
      have cT : codeOf p true = 0 := codeOf_in hp rfl
      have cF : codeOf p false = 2 := codeOf_out hp rfl
      go_wp2_with fail
      refine Calls.mono (specCircles2 _ _ _ _ _ _ _ _ _ _ (by first | rfl | (simp; done))) ?_
      rintro e w1 ⟨rfl, hB1⟩
      (obtain ⟨hB1c, hB1f⟩ := bcell hB1; have hB1s := hB1.size; (try simp at hB1s); (try have hB1q1 := Nat.lt_of_succ_le hB1s); (try have hB1q2 := Nat.lt_of_succ_lt hB1q1); (try have hB1q3 := Nat.lt_of_succ_lt hB1q2); (try have hB1zw0 : w.heap.size < w1.heap.size := (by omega)); (try have hB1zw1 : w.heap.size + 1 < w1.heap.size := (by omega)); (try have hB1zw2 : w.heap.size + 1 + 1 < w1.heap.size := (by omega)); (try have hB1zw3 : w.heap.size + 1 + 1 + 1 < w1.heap.size := (by omega)); (try have hB1zw4 : w.heap.size + 1 + 1 + 1 + 1 < w1.heap.size := (by omega)))
      have HV := Lib.hid (rl_out (col := col) (k1 := k1) (k2 := k2) (k3 := k3) (m1 := m1) (m2 := m2) (m3 := m3) hp (by simp [rlB, hd1, hd2]))
      go_wp2
      (refine bodyPost_ret (v := .tuple #[.agg #[.int .i64 (rlV1 p col k1 k2 k3 m1 m2 m3), .int .i64 (rlV2 p col k1 k2 k3 m1 m2 m3), .int .i64 (rlV3 p col k1 k2 k3 m1 m2 m3)], .int .i64 (rlC p col k1 k2 k3 m1 m2 m3)]) (by simp [results, Try.results42, go_sem, HV.out.1, HV.out.2.1, HV.out.2.2.1, HV.out.2.2.2, *]) rfl ⟨?_, ?_⟩)
      · rfl
      · (repeat (first | with_reducible exact Below.refl _ _ | with_reducible refine balloc ?_ _ | with_reducible refine bdrewN ?_ _ | with_reducible refine Below.drew ?_ | with_reducible refine bthen ?_ (by with_reducible assumption) | with_reducible refine Below.setCell ?_ (by first | (simp; done) | (simp; omega)) _))
    · have hc := hd2
      have hcr := colB_range hc
      rcases bool_ways (numsIn p [k1, k2, k3]) with hd3 | hd3
      · skip
        have c_1 : codeOf p (colB col && numsIn p [k1, k2, k3] && numsIn p [m1, m2, m3]) = 2 := codeOf_out hp (by simp [hd2, hd3])
        have cT : codeOf p true = 0 := codeOf_in hp rfl
        have cF : codeOf p false = 2 := codeOf_out hp rfl
        go_wp2_with fail
        refine Calls.mono (specCircles2 _ _ _ _ _ _ _ _ _ _ (by first | rfl | (simp; done))) ?_
        rintro e w1 ⟨rfl, hB1⟩
        (obtain ⟨hB1c, hB1f⟩ := bcell hB1; have hB1s := hB1.size; (try simp at hB1s); (try have hB1q1 := Nat.lt_of_succ_le hB1s); (try have hB1q2 := Nat.lt_of_succ_lt hB1q1); (try have hB1q3 := Nat.lt_of_succ_lt hB1q2); (try have hB1zw0 : w.heap.size < w1.heap.size := (by omega)); (try have hB1zw1 : w.heap.size + 1 < w1.heap.size := (by omega)); (try have hB1zw2 : w.heap.size + 1 + 1 < w1.heap.size := (by omega)); (try have hB1zw3 : w.heap.size + 1 + 1 + 1 < w1.heap.size := (by omega)); (try have hB1zw4 : w.heap.size + 1 + 1 + 1 + 1 < w1.heap.size := (by omega)))
        have HV := Lib.hid (rl_out (col := col) (k1 := k1) (k2 := k2) (k3 := k3) (m1 := m1) (m2 := m2) (m3 := m3) hp (by simp [rlB, hd1, hd2, hd3]))
        go_wp2
        (refine bodyPost_ret (v := .tuple #[.agg #[.int .i64 (rlV1 p col k1 k2 k3 m1 m2 m3), .int .i64 (rlV2 p col k1 k2 k3 m1 m2 m3), .int .i64 (rlV3 p col k1 k2 k3 m1 m2 m3)], .int .i64 (rlC p col k1 k2 k3 m1 m2 m3)]) (by simp [results, Try.results42, go_sem, HV.out.1, HV.out.2.1, HV.out.2.2.1, HV.out.2.2.2, *]) rfl ⟨?_, ?_⟩)
        · rfl
        · (repeat (first | with_reducible exact Below.refl _ _ | with_reducible refine balloc ?_ _ | with_reducible refine bdrewN ?_ _ | with_reducible refine Below.drew ?_ | with_reducible refine bthen ?_ (by with_reducible assumption) | with_reducible refine Below.setCell ?_ (by first | (simp; done) | (simp; omega)) _))
      · have hd3q := nums3 hd3
        rcases bool_ways (numsIn p [m1, m2, m3]) with hd4 | hd4
        · skip
          have c_1 : codeOf p (colB col && numsIn p [k1, k2, k3] && numsIn p [m1, m2, m3]) = 2 := codeOf_out hp (by simp [hd2, hd3, hd4])
          have cT : codeOf p true = 0 := codeOf_in hp rfl
          have cF : codeOf p false = 2 := codeOf_out hp rfl
          go_wp2_with fail
          refine Calls.mono (specCircles2 _ _ _ _ _ _ _ _ _ _ (by first | rfl | (simp; done))) ?_
          rintro e w1 ⟨rfl, hB1⟩
          (obtain ⟨hB1c, hB1f⟩ := bcell hB1; have hB1s := hB1.size; (try simp at hB1s); (try have hB1q1 := Nat.lt_of_succ_le hB1s); (try have hB1q2 := Nat.lt_of_succ_lt hB1q1); (try have hB1q3 := Nat.lt_of_succ_lt hB1q2); (try have hB1zw0 : w.heap.size < w1.heap.size := (by omega)); (try have hB1zw1 : w.heap.size + 1 < w1.heap.size := (by omega)); (try have hB1zw2 : w.heap.size + 1 + 1 < w1.heap.size := (by omega)); (try have hB1zw3 : w.heap.size + 1 + 1 + 1 < w1.heap.size := (by omega)); (try have hB1zw4 : w.heap.size + 1 + 1 + 1 + 1 < w1.heap.size := (by omega)))
          have HV := Lib.hid (rl_out (col := col) (k1 := k1) (k2 := k2) (k3 := k3) (m1 := m1) (m2 := m2) (m3 := m3) hp (by simp [rlB, hd1, hd2, hd3, hd4]))
          go_wp2
          (refine bodyPost_ret (v := .tuple #[.agg #[.int .i64 (rlV1 p col k1 k2 k3 m1 m2 m3), .int .i64 (rlV2 p col k1 k2 k3 m1 m2 m3), .int .i64 (rlV3 p col k1 k2 k3 m1 m2 m3)], .int .i64 (rlC p col k1 k2 k3 m1 m2 m3)]) (by simp [results, Try.results42, go_sem, HV.out.1, HV.out.2.1, HV.out.2.2.1, HV.out.2.2.2, *]) rfl ⟨?_, ?_⟩)
          · rfl
          · (repeat (first | with_reducible exact Below.refl _ _ | with_reducible refine balloc ?_ _ | with_reducible refine bdrewN ?_ _ | with_reducible refine Below.drew ?_ | with_reducible refine bthen ?_ (by with_reducible assumption) | with_reducible refine Below.setCell ?_ (by first | (simp; done) | (simp; omega)) _))
        · have hd4q := nums3 hd4
          have c_1 : codeOf p (colB col && numsIn p [k1, k2, k3] && numsIn p [m1, m2, m3]) = 0 := codeOf_in hp (by simp [hd2, hd3, hd4])
          have cT : codeOf p true = 0 := codeOf_in hp rfl
          go_wp2_with fail
          refine Calls.mono (specCircles2 _ _ _ _ _ _ _ _ _ _ (by first | rfl | (simp; done))) ?_
          rintro e w1 ⟨rfl, hB1⟩
          (obtain ⟨hB1c, hB1f⟩ := bcell hB1; have hB1s := hB1.size; (try simp at hB1s); (try have hB1q1 := Nat.lt_of_succ_le hB1s); (try have hB1q2 := Nat.lt_of_succ_lt hB1q1); (try have hB1q3 := Nat.lt_of_succ_lt hB1q2); (try have hB1zw0 : w.heap.size < w1.heap.size := (by omega)); (try have hB1zw1 : w.heap.size + 1 < w1.heap.size := (by omega)); (try have hB1zw2 : w.heap.size + 1 + 1 < w1.heap.size := (by omega)); (try have hB1zw3 : w.heap.size + 1 + 1 + 1 < w1.heap.size := (by omega)); (try have hB1zw4 : w.heap.size + 1 + 1 + 1 + 1 < w1.heap.size := (by omega)))
          rcases bool_ways (k1 == m1 && k2 == m2) with hd5 | hd5
          · skip
            obtain ⟨v1, hv1⟩ : ∃ v : Int, v = rd1 p col k1 k2 k3 m1 m2 m3 := ⟨_, rfl⟩
            have rv1 := rd1_r p col k1 k2 k3 m1 m2 m3 hp
            rw [← hv1] at rv1
            have Hv1 := Lib.hid hv1
            clear hv1
            obtain ⟨v2, hv2⟩ : ∃ v : Int, v = rd2 p col k1 k2 k3 m1 m2 m3 := ⟨_, rfl⟩
            have rv2 := rd2_r p col k1 k2 k3 m1 m2 m3 hp
            rw [← hv2] at rv2
            have Hv2 := Lib.hid hv2
            clear hv2
            obtain ⟨v3, hv3⟩ : ∃ v : Int, v = rd3 p col k1 k2 k3 m1 m2 m3 := ⟨_, rfl⟩
            have rv3 := rd3_r p col k1 k2 k3 m1 m2 m3 hp
            rw [← hv3] at rv3
            have Hv3 := Lib.hid hv3
            clear hv3
            go_wp2_with fail
            refine Calls.mono (specRad_any _ _ _ _ _ _ _ _ _ hp hc (by omega) (by omega) (by omega) (by omega) (by omega) (by omega)) ?_
            rw [← Hv1.out, ← Hv2.out, ← Hv3.out]
            rintro e w2 ⟨rfl, hB2⟩
            (obtain ⟨hB2c, hB2f⟩ := bcell hB2; have hB2s := hB2.size; (try simp at hB2s); (try have hB2q1 := Nat.lt_of_succ_le hB2s); (try have hB2q2 := Nat.lt_of_succ_lt hB2q1); (try have hB2q3 := Nat.lt_of_succ_lt hB2q2); (try have hB2zw0 : w.heap.size < w2.heap.size := (by omega)); (try have hB2zw1 : w.heap.size + 1 < w2.heap.size := (by omega)); (try have hB2zw2 : w.heap.size + 1 + 1 < w2.heap.size := (by omega)); (try have hB2zw3 : w.heap.size + 1 + 1 + 1 < w2.heap.size := (by omega)); (try have hB2zw4 : w.heap.size + 1 + 1 + 1 + 1 < w2.heap.size := (by omega)); (try have hB2zw10 : w1.heap.size < w2.heap.size := (by omega)); (try have hB2zw11 : w1.heap.size + 1 < w2.heap.size := (by omega)); (try have hB2zw12 : w1.heap.size + 1 + 1 < w2.heap.size := (by omega)); (try have hB2zw13 : w1.heap.size + 1 + 1 + 1 < w2.heap.size := (by omega)); (try have hB2zw14 : w1.heap.size + 1 + 1 + 1 + 1 < w2.heap.size := (by omega)))
            have HB : rlB p col k1 k2 k3 m1 m2 m3 = true := by simp [rlB, hd1, hd2, hd3, hd4, hd5]
            have HS : rlS p col k1 k2 k3 m1 m2 m3 = 0 := by (simp only [rlS, ← Hv1.out, ← Hv2.out, ← Hv3.out] <;> simp [hd1, hd2, hd3, hd4, hd5])
            have HV := Lib.hid (show rlV1 p col k1 k2 k3 m1 m2 m3 = v1 ∧ rlV2 p col k1 k2 k3 m1 m2 m3 = v2 ∧ rlV3 p col k1 k2 k3 m1 m2 m3 = v3 ∧ rlC p col k1 k2 k3 m1 m2 m3 = 0 from by
              have HG := rl_good (col := col) (k1 := k1) (k2 := k2) (k3 := k3) (m1 := m1) (m2 := m2) (m3 := m3) hp HB HS
              refine ⟨(HG.1).trans ?_, (HG.2.1).trans ?_, (HG.2.2.1).trans ?_, HG.2.2.2⟩
              all_goals (simp only [← Hv1.out, ← Hv2.out, ← Hv3.out] <;> simp [hd1, hd2, hd3, hd4, hd5]))
            clear HB HS
            go_wp2
            (refine bodyPost_ret (v := .tuple #[.agg #[.int .i64 (rlV1 p col k1 k2 k3 m1 m2 m3), .int .i64 (rlV2 p col k1 k2 k3 m1 m2 m3), .int .i64 (rlV3 p col k1 k2 k3 m1 m2 m3)], .int .i64 (rlC p col k1 k2 k3 m1 m2 m3)]) (by simp [results, Try.results42, go_sem, HV.out.1, HV.out.2.1, HV.out.2.2.1, HV.out.2.2.2, *]) rfl ⟨?_, ?_⟩)
            · rfl
            · (repeat (first | with_reducible exact Below.refl _ _ | with_reducible refine balloc ?_ _ | with_reducible refine bdrewN ?_ _ | with_reducible refine Below.drew ?_ | with_reducible refine bthen ?_ (by with_reducible assumption) | with_reducible refine Below.setCell ?_ (by first | (simp; done) | (simp; omega)) _))
          · skip
            have HB : rlB p col k1 k2 k3 m1 m2 m3 = true := by simp [rlB, hd1, hd2, hd3, hd4, hd5]
            have HS : rlS p col k1 k2 k3 m1 m2 m3 = 5 := by (simp only [rlS] <;> simp [hd1, hd2, hd3, hd4, hd5])
            have HV := Lib.hid (rl_st (col := col) (k1 := k1) (k2 := k2) (k3 := k3) (m1 := m1) (m2 := m2) (m3 := m3) hp HB HS (by decide))
            clear HB HS
            go_wp2
            (refine bodyPost_ret (v := .tuple #[.agg #[.int .i64 (rlV1 p col k1 k2 k3 m1 m2 m3), .int .i64 (rlV2 p col k1 k2 k3 m1 m2 m3), .int .i64 (rlV3 p col k1 k2 k3 m1 m2 m3)], .int .i64 (rlC p col k1 k2 k3 m1 m2 m3)]) (by simp [results, Try.results42, go_sem, HV.out.1, HV.out.2.1, HV.out.2.2.1, HV.out.2.2.2, *]) rfl ⟨?_, ?_⟩)
            · rfl
            · (repeat (first | with_reducible exact Below.refl _ _ | with_reducible refine balloc ?_ _ | with_reducible refine bdrewN ?_ _ | with_reducible refine Below.drew ?_ | with_reducible refine bthen ?_ (by with_reducible assumption) | with_reducible refine Below.setCell ?_ (by first | (simp; done) | (simp; omega)) _))

set_option linter.unusedSimpArgs false in
set_option maxRecDepth 20000 in
set_option maxHeartbeats 4000000 in
theorem implRadicalLine_any (p col k1 k2 k3 m1 m2 m3 : Int) (w : World) :
    Calls Try.prog 43 #[.int .i64 p, .int .i64 col, .agg #[.int .i64 k1, .int .i64 k2, .int .i64 k3], .agg #[.int .i64 m1, .int .i64 m2, .int .i64 m3]] w fun e w' =>
      e = .returned (.tuple #[.agg #[.int .i64 (rlV1 p col k1 k2 k3 m1 m2 m3), .int .i64 (rlV2 p col k1 k2 k3 m1 m2 m3), .int .i64 (rlV3 p col k1 k2 k3 m1 m2 m3)], .int .i64 (rlC p col k1 k2 k3 m1 m2 m3)]) ∧ Below w.heap.size w w' := by
  have heq := equalPoint
  go_enter Try.func43, Try.ntmps43
  rcases bool_ways (colB col) with hd1 | hd1
  · skip
    rcases bool_ways (isP p) with hd2 | hd2
    · skip
      have c_1 : codeOf p false = 1 := codeOf_no hd2
      have cN : ∀ b, codeOf p b = 1 := fun b => codeOf_no hd2
      go_wp2_with fail
      refine Calls.mono (isColour_any _ _) ?_
      rintro e w' ⟨rfl, rfl⟩
      go_wp2_with fail
      refine Calls.mono (codeFor_any _ _ _) ?_
      rintro e w' ⟨rfl, rfl⟩
      have HV := Lib.hid (rl_no (col := col) (k1 := k1) (k2 := k2) (k3 := k3) (m1 := m1) (m2 := m2) (m3 := m3) hd2)
      go_wp2
      (refine bodyPost_ret (v := .tuple #[.agg #[.int .i64 (rlV1 p col k1 k2 k3 m1 m2 m3), .int .i64 (rlV2 p col k1 k2 k3 m1 m2 m3), .int .i64 (rlV3 p col k1 k2 k3 m1 m2 m3)], .int .i64 (rlC p col k1 k2 k3 m1 m2 m3)]) (by simp [results, Try.results43, go_sem, HV.out.1, HV.out.2.1, HV.out.2.2.1, HV.out.2.2.2, *]) rfl ⟨?_, ?_⟩)
      · rfl
      · (repeat (first | with_reducible exact Below.refl _ _ | with_reducible refine balloc ?_ _ | with_reducible refine bdrewN ?_ _ | with_reducible refine Below.drew ?_ | with_reducible refine bthen ?_ (by with_reducible assumption) | with_reducible refine Below.setCell ?_ (by first | (simp; done) | (simp; omega)) _))
    · have hp := hd2
      have hr := isP_range hp
      have c_1 : codeOf p false = 2 := codeOf_out hp (by simp)
      have cT : codeOf p true = 0 := codeOf_in hp rfl
      have cF : codeOf p false = 2 := codeOf_out hp rfl
      go_wp2_with fail
      refine Calls.mono (isColour_any _ _) ?_
      rintro e w' ⟨rfl, rfl⟩
      go_wp2_with fail
      refine Calls.mono (codeFor_any _ _ _) ?_
      rintro e w' ⟨rfl, rfl⟩
      have HV := Lib.hid (rl_out (col := col) (k1 := k1) (k2 := k2) (k3 := k3) (m1 := m1) (m2 := m2) (m3 := m3) hp (by simp [rlB, hd1, hd2]))
      go_wp2
      (refine bodyPost_ret (v := .tuple #[.agg #[.int .i64 (rlV1 p col k1 k2 k3 m1 m2 m3), .int .i64 (rlV2 p col k1 k2 k3 m1 m2 m3), .int .i64 (rlV3 p col k1 k2 k3 m1 m2 m3)], .int .i64 (rlC p col k1 k2 k3 m1 m2 m3)]) (by simp [results, Try.results43, go_sem, HV.out.1, HV.out.2.1, HV.out.2.2.1, HV.out.2.2.2, *]) rfl ⟨?_, ?_⟩)
      · rfl
      · (repeat (first | with_reducible exact Below.refl _ _ | with_reducible refine balloc ?_ _ | with_reducible refine bdrewN ?_ _ | with_reducible refine Below.drew ?_ | with_reducible refine bthen ?_ (by with_reducible assumption) | with_reducible refine Below.setCell ?_ (by first | (simp; done) | (simp; omega)) _))
  · have hc := hd1
    have hcr := colB_range hc
    rcases bool_ways (numsIn p [k1, k2, k3]) with hd2 | hd2
    · skip
      rcases bool_ways (numsIn p [m1, m2, m3]) with hd3 | hd3
      · skip
        rcases bool_ways (isP p) with hd4 | hd4
        · skip
          have c_1 : codeOf p false = 1 := codeOf_no hd4
          have cN : ∀ b, codeOf p b = 1 := fun b => codeOf_no hd4
          go_wp2_with fail
          refine Calls.mono (isColour_any _ _) ?_
          rintro e w' ⟨rfl, rfl⟩
          go_wp2_with fail
          refine Calls.mono (implCircles2 _ _ _ _ _ _ _ _ _ (by first | rfl | (simp; done))) ?_
          rintro e w1 ⟨rfl, hB1⟩
          (obtain ⟨hB1c, hB1f⟩ := bcell hB1; have hB1s := hB1.size; (try simp at hB1s); (try have hB1q1 := Nat.lt_of_succ_le hB1s); (try have hB1q2 := Nat.lt_of_succ_lt hB1q1); (try have hB1q3 := Nat.lt_of_succ_lt hB1q2); (try have hB1zw0 : w.heap.size < w1.heap.size := (by omega)); (try have hB1zw1 : w.heap.size + 1 < w1.heap.size := (by omega)); (try have hB1zw2 : w.heap.size + 1 + 1 < w1.heap.size := (by omega)); (try have hB1zw3 : w.heap.size + 1 + 1 + 1 < w1.heap.size := (by omega)); (try have hB1zw4 : w.heap.size + 1 + 1 + 1 + 1 < w1.heap.size := (by omega)))
          go_wp2_with fail
          refine Calls.mono (codeFor_any _ _ _) ?_
          rintro e w' ⟨rfl, rfl⟩
          have HV := Lib.hid (rl_no (col := col) (k1 := k1) (k2 := k2) (k3 := k3) (m1 := m1) (m2 := m2) (m3 := m3) hd4)
          go_wp2
          (refine bodyPost_ret (v := .tuple #[.agg #[.int .i64 (rlV1 p col k1 k2 k3 m1 m2 m3), .int .i64 (rlV2 p col k1 k2 k3 m1 m2 m3), .int .i64 (rlV3 p col k1 k2 k3 m1 m2 m3)], .int .i64 (rlC p col k1 k2 k3 m1 m2 m3)]) (by simp [results, Try.results43, go_sem, HV.out.1, HV.out.2.1, HV.out.2.2.1, HV.out.2.2.2, *]) rfl ⟨?_, ?_⟩)
          · rfl
          · (repeat (first | with_reducible exact Below.refl _ _ | with_reducible refine balloc ?_ _ | with_reducible refine bdrewN ?_ _ | with_reducible refine Below.drew ?_ | with_reducible refine bthen ?_ (by with_reducible assumption) | with_reducible refine Below.setCell ?_ (by first | (simp; done) | (simp; omega)) _))
        · have hp := hd4
          have hr := isP_range hp
          have c_1 : codeOf p false = 2 := codeOf_out hp (by simp)
          have cT : codeOf p true = 0 := codeOf_in hp rfl
          have cF : codeOf p false = 2 := codeOf_out hp rfl
          go_wp2_with fail
          refine Calls.mono (isColour_any _ _) ?_
          rintro e w' ⟨rfl, rfl⟩
          go_wp2_with fail
          refine Calls.mono (implCircles2 _ _ _ _ _ _ _ _ _ (by first | rfl | (simp; done))) ?_
          rintro e w1 ⟨rfl, hB1⟩
          (obtain ⟨hB1c, hB1f⟩ := bcell hB1; have hB1s := hB1.size; (try simp at hB1s); (try have hB1q1 := Nat.lt_of_succ_le hB1s); (try have hB1q2 := Nat.lt_of_succ_lt hB1q1); (try have hB1q3 := Nat.lt_of_succ_lt hB1q2); (try have hB1zw0 : w.heap.size < w1.heap.size := (by omega)); (try have hB1zw1 : w.heap.size + 1 < w1.heap.size := (by omega)); (try have hB1zw2 : w.heap.size + 1 + 1 < w1.heap.size := (by omega)); (try have hB1zw3 : w.heap.size + 1 + 1 + 1 < w1.heap.size := (by omega)); (try have hB1zw4 : w.heap.size + 1 + 1 + 1 + 1 < w1.heap.size := (by omega)))
          go_wp2_with fail
          refine Calls.mono (codeFor_any _ _ _) ?_
          rintro e w' ⟨rfl, rfl⟩
          have HV := Lib.hid (rl_out (col := col) (k1 := k1) (k2 := k2) (k3 := k3) (m1 := m1) (m2 := m2) (m3 := m3) hp (by simp [rlB, hd1, hd2, hd3, hd4]))
          go_wp2
          (refine bodyPost_ret (v := .tuple #[.agg #[.int .i64 (rlV1 p col k1 k2 k3 m1 m2 m3), .int .i64 (rlV2 p col k1 k2 k3 m1 m2 m3), .int .i64 (rlV3 p col k1 k2 k3 m1 m2 m3)], .int .i64 (rlC p col k1 k2 k3 m1 m2 m3)]) (by simp [results, Try.results43, go_sem, HV.out.1, HV.out.2.1, HV.out.2.2.1, HV.out.2.2.2, *]) rfl ⟨?_, ?_⟩)
          · rfl
          · (repeat (first | with_reducible exact Below.refl _ _ | with_reducible refine balloc ?_ _ | with_reducible refine bdrewN ?_ _ | with_reducible refine Below.drew ?_ | with_reducible refine bthen ?_ (by with_reducible assumption) | with_reducible refine Below.setCell ?_ (by first | (simp; done) | (simp; omega)) _))
      · have hd3q := nums3 hd3
        rcases bool_ways (isP p) with hd4 | hd4
        · skip
          have c_1 : codeOf p false = 1 := codeOf_no hd4
          have cN : ∀ b, codeOf p b = 1 := fun b => codeOf_no hd4
          go_wp2_with fail
          refine Calls.mono (isColour_any _ _) ?_
          rintro e w' ⟨rfl, rfl⟩
          go_wp2_with fail
          refine Calls.mono (implCircles2 _ _ _ _ _ _ _ _ _ (by first | rfl | (simp; done))) ?_
          rintro e w1 ⟨rfl, hB1⟩
          (obtain ⟨hB1c, hB1f⟩ := bcell hB1; have hB1s := hB1.size; (try simp at hB1s); (try have hB1q1 := Nat.lt_of_succ_le hB1s); (try have hB1q2 := Nat.lt_of_succ_lt hB1q1); (try have hB1q3 := Nat.lt_of_succ_lt hB1q2); (try have hB1zw0 : w.heap.size < w1.heap.size := (by omega)); (try have hB1zw1 : w.heap.size + 1 < w1.heap.size := (by omega)); (try have hB1zw2 : w.heap.size + 1 + 1 < w1.heap.size := (by omega)); (try have hB1zw3 : w.heap.size + 1 + 1 + 1 < w1.heap.size := (by omega)); (try have hB1zw4 : w.heap.size + 1 + 1 + 1 + 1 < w1.heap.size := (by omega)))
          go_wp2_with fail
          refine Calls.mono (codeFor_any _ _ _) ?_
          rintro e w' ⟨rfl, rfl⟩
          have HV := Lib.hid (rl_no (col := col) (k1 := k1) (k2 := k2) (k3 := k3) (m1 := m1) (m2 := m2) (m3 := m3) hd4)
          go_wp2
          (refine bodyPost_ret (v := .tuple #[.agg #[.int .i64 (rlV1 p col k1 k2 k3 m1 m2 m3), .int .i64 (rlV2 p col k1 k2 k3 m1 m2 m3), .int .i64 (rlV3 p col k1 k2 k3 m1 m2 m3)], .int .i64 (rlC p col k1 k2 k3 m1 m2 m3)]) (by simp [results, Try.results43, go_sem, HV.out.1, HV.out.2.1, HV.out.2.2.1, HV.out.2.2.2, *]) rfl ⟨?_, ?_⟩)
          · rfl
          · (repeat (first | with_reducible exact Below.refl _ _ | with_reducible refine balloc ?_ _ | with_reducible refine bdrewN ?_ _ | with_reducible refine Below.drew ?_ | with_reducible refine bthen ?_ (by with_reducible assumption) | with_reducible refine Below.setCell ?_ (by first | (simp; done) | (simp; omega)) _))
        · have hp := hd4
          have hr := isP_range hp
          have c_1 : codeOf p false = 2 := codeOf_out hp (by simp)
          have cT : codeOf p true = 0 := codeOf_in hp rfl
          have cF : codeOf p false = 2 := codeOf_out hp rfl
          go_wp2_with fail
          refine Calls.mono (isColour_any _ _) ?_
          rintro e w' ⟨rfl, rfl⟩
          go_wp2_with fail
          refine Calls.mono (implCircles2 _ _ _ _ _ _ _ _ _ (by first | rfl | (simp; done))) ?_
          rintro e w1 ⟨rfl, hB1⟩
          (obtain ⟨hB1c, hB1f⟩ := bcell hB1; have hB1s := hB1.size; (try simp at hB1s); (try have hB1q1 := Nat.lt_of_succ_le hB1s); (try have hB1q2 := Nat.lt_of_succ_lt hB1q1); (try have hB1q3 := Nat.lt_of_succ_lt hB1q2); (try have hB1zw0 : w.heap.size < w1.heap.size := (by omega)); (try have hB1zw1 : w.heap.size + 1 < w1.heap.size := (by omega)); (try have hB1zw2 : w.heap.size + 1 + 1 < w1.heap.size := (by omega)); (try have hB1zw3 : w.heap.size + 1 + 1 + 1 < w1.heap.size := (by omega)); (try have hB1zw4 : w.heap.size + 1 + 1 + 1 + 1 < w1.heap.size := (by omega)))
          go_wp2_with fail
          refine Calls.mono (codeFor_any _ _ _) ?_
          rintro e w' ⟨rfl, rfl⟩
          have HV := Lib.hid (rl_out (col := col) (k1 := k1) (k2 := k2) (k3 := k3) (m1 := m1) (m2 := m2) (m3 := m3) hp (by simp [rlB, hd1, hd2, hd3, hd4]))
          go_wp2
          (refine bodyPost_ret (v := .tuple #[.agg #[.int .i64 (rlV1 p col k1 k2 k3 m1 m2 m3), .int .i64 (rlV2 p col k1 k2 k3 m1 m2 m3), .int .i64 (rlV3 p col k1 k2 k3 m1 m2 m3)], .int .i64 (rlC p col k1 k2 k3 m1 m2 m3)]) (by simp [results, Try.results43, go_sem, HV.out.1, HV.out.2.1, HV.out.2.2.1, HV.out.2.2.2, *]) rfl ⟨?_, ?_⟩)
          · rfl
          · (repeat (first | with_reducible exact Below.refl _ _ | with_reducible refine balloc ?_ _ | with_reducible refine bdrewN ?_ _ | with_reducible refine Below.drew ?_ | with_reducible refine bthen ?_ (by with_reducible assumption) | with_reducible refine Below.setCell ?_ (by first | (simp; done) | (simp; omega)) _))
    · have hd2q := nums3 hd2
      rcases bool_ways (numsIn p [m1, m2, m3]) with hd3 | hd3
      · skip
        rcases bool_ways (isP p) with hd4 | hd4
        · skip
          have c_1 : codeOf p false = 1 := codeOf_no hd4
          have cN : ∀ b, codeOf p b = 1 := fun b => codeOf_no hd4
          go_wp2_with fail
          refine Calls.mono (isColour_any _ _) ?_
          rintro e w' ⟨rfl, rfl⟩
          go_wp2_with fail
          refine Calls.mono (implCircles2 _ _ _ _ _ _ _ _ _ (by first | rfl | (simp; done))) ?_
          rintro e w1 ⟨rfl, hB1⟩
          (obtain ⟨hB1c, hB1f⟩ := bcell hB1; have hB1s := hB1.size; (try simp at hB1s); (try have hB1q1 := Nat.lt_of_succ_le hB1s); (try have hB1q2 := Nat.lt_of_succ_lt hB1q1); (try have hB1q3 := Nat.lt_of_succ_lt hB1q2); (try have hB1zw0 : w.heap.size < w1.heap.size := (by omega)); (try have hB1zw1 : w.heap.size + 1 < w1.heap.size := (by omega)); (try have hB1zw2 : w.heap.size + 1 + 1 < w1.heap.size := (by omega)); (try have hB1zw3 : w.heap.size + 1 + 1 + 1 < w1.heap.size := (by omega)); (try have hB1zw4 : w.heap.size + 1 + 1 + 1 + 1 < w1.heap.size := (by omega)))
          go_wp2_with fail
          refine Calls.mono (codeFor_any _ _ _) ?_
          rintro e w' ⟨rfl, rfl⟩
          have HV := Lib.hid (rl_no (col := col) (k1 := k1) (k2 := k2) (k3 := k3) (m1 := m1) (m2 := m2) (m3 := m3) hd4)
          go_wp2
          (refine bodyPost_ret (v := .tuple #[.agg #[.int .i64 (rlV1 p col k1 k2 k3 m1 m2 m3), .int .i64 (rlV2 p col k1 k2 k3 m1 m2 m3), .int .i64 (rlV3 p col k1 k2 k3 m1 m2 m3)], .int .i64 (rlC p col k1 k2 k3 m1 m2 m3)]) (by simp [results, Try.results43, go_sem, HV.out.1, HV.out.2.1, HV.out.2.2.1, HV.out.2.2.2, *]) rfl ⟨?_, ?_⟩)
          · rfl
          · (repeat (first | with_reducible exact Below.refl _ _ | with_reducible refine balloc ?_ _ | with_reducible refine bdrewN ?_ _ | with_reducible refine Below.drew ?_ | with_reducible refine bthen ?_ (by with_reducible assumption) | with_reducible refine Below.setCell ?_ (by first | (simp; done) | (simp; omega)) _))
        · have hp := hd4
          have hr := isP_range hp
          have c_1 : codeOf p false = 2 := codeOf_out hp (by simp)
          have cT : codeOf p true = 0 := codeOf_in hp rfl
          have cF : codeOf p false = 2 := codeOf_out hp rfl
          go_wp2_with fail
          refine Calls.mono (isColour_any _ _) ?_
          rintro e w' ⟨rfl, rfl⟩
          go_wp2_with fail
          refine Calls.mono (implCircles2 _ _ _ _ _ _ _ _ _ (by first | rfl | (simp; done))) ?_
          rintro e w1 ⟨rfl, hB1⟩
          (obtain ⟨hB1c, hB1f⟩ := bcell hB1; have hB1s := hB1.size; (try simp at hB1s); (try have hB1q1 := Nat.lt_of_succ_le hB1s); (try have hB1q2 := Nat.lt_of_succ_lt hB1q1); (try have hB1q3 := Nat.lt_of_succ_lt hB1q2); (try have hB1zw0 : w.heap.size < w1.heap.size := (by omega)); (try have hB1zw1 : w.heap.size + 1 < w1.heap.size := (by omega)); (try have hB1zw2 : w.heap.size + 1 + 1 < w1.heap.size := (by omega)); (try have hB1zw3 : w.heap.size + 1 + 1 + 1 < w1.heap.size := (by omega)); (try have hB1zw4 : w.heap.size + 1 + 1 + 1 + 1 < w1.heap.size := (by omega)))
          go_wp2_with fail
          refine Calls.mono (codeFor_any _ _ _) ?_
          rintro e w' ⟨rfl, rfl⟩
          have HV := Lib.hid (rl_out (col := col) (k1 := k1) (k2 := k2) (k3 := k3) (m1 := m1) (m2 := m2) (m3 := m3) hp (by simp [rlB, hd1, hd2, hd3, hd4]))
          go_wp2
          (refine bodyPost_ret (v := .tuple #[.agg #[.int .i64 (rlV1 p col k1 k2 k3 m1 m2 m3), .int .i64 (rlV2 p col k1 k2 k3 m1 m2 m3), .int .i64 (rlV3 p col k1 k2 k3 m1 m2 m3)], .int .i64 (rlC p col k1 k2 k3 m1 m2 m3)]) (by simp [results, Try.results43, go_sem, HV.out.1, HV.out.2.1, HV.out.2.2.1, HV.out.2.2.2, *]) rfl ⟨?_, ?_⟩)
          · rfl
          · (repeat (first | with_reducible exact Below.refl _ _ | with_reducible refine balloc ?_ _ | with_reducible refine bdrewN ?_ _ | with_reducible refine Below.drew ?_ | with_reducible refine bthen ?_ (by with_reducible assumption) | with_reducible refine Below.setCell ?_ (by first | (simp; done) | (simp; omega)) _))
      · have hd3q := nums3 hd3
        rcases bool_ways (isP p) with hd4 | hd4
        · skip
          have c_1 : codeOf p true = 1 := codeOf_no hd4
          have cN : ∀ b, codeOf p b = 1 := fun b => codeOf_no hd4
          go_wp2_with fail
          refine Calls.mono (isColour_any _ _) ?_
          rintro e w' ⟨rfl, rfl⟩
          go_wp2_with fail
          refine Calls.mono (implCircles2 _ _ _ _ _ _ _ _ _ (by first | rfl | (simp; done))) ?_
          rintro e w1 ⟨rfl, hB1⟩
          (obtain ⟨hB1c, hB1f⟩ := bcell hB1; have hB1s := hB1.size; (try simp at hB1s); (try have hB1q1 := Nat.lt_of_succ_le hB1s); (try have hB1q2 := Nat.lt_of_succ_lt hB1q1); (try have hB1q3 := Nat.lt_of_succ_lt hB1q2); (try have hB1zw0 : w.heap.size < w1.heap.size := (by omega)); (try have hB1zw1 : w.heap.size + 1 < w1.heap.size := (by omega)); (try have hB1zw2 : w.heap.size + 1 + 1 < w1.heap.size := (by omega)); (try have hB1zw3 : w.heap.size + 1 + 1 + 1 < w1.heap.size := (by omega)); (try have hB1zw4 : w.heap.size + 1 + 1 + 1 + 1 < w1.heap.size := (by omega)))
          go_wp2_with fail
          refine Calls.mono (codeFor_any _ _ _) ?_
          rintro e w' ⟨rfl, rfl⟩
          have HV := Lib.hid (rl_no (col := col) (k1 := k1) (k2 := k2) (k3 := k3) (m1 := m1) (m2 := m2) (m3 := m3) hd4)
          go_wp2
          (refine bodyPost_ret (v := .tuple #[.agg #[.int .i64 (rlV1 p col k1 k2 k3 m1 m2 m3), .int .i64 (rlV2 p col k1 k2 k3 m1 m2 m3), .int .i64 (rlV3 p col k1 k2 k3 m1 m2 m3)], .int .i64 (rlC p col k1 k2 k3 m1 m2 m3)]) (by simp [results, Try.results43, go_sem, HV.out.1, HV.out.2.1, HV.out.2.2.1, HV.out.2.2.2, *]) rfl ⟨?_, ?_⟩)
          · rfl
          · (repeat (first | with_reducible exact Below.refl _ _ | with_reducible refine balloc ?_ _ | with_reducible refine bdrewN ?_ _ | with_reducible refine Below.drew ?_ | with_reducible refine bthen ?_ (by with_reducible assumption) | with_reducible refine Below.setCell ?_ (by first | (simp; done) | (simp; omega)) _))
        · have hp := hd4
          have hr := isP_range hp
          have c_1 : codeOf p true = 0 := codeOf_in hp (by simp)
          have cT : codeOf p true = 0 := codeOf_in hp rfl
          go_wp2_with fail
          refine Calls.mono (isColour_any _ _) ?_
          rintro e w' ⟨rfl, rfl⟩
          go_wp2_with fail
          refine Calls.mono (implCircles2 _ _ _ _ _ _ _ _ _ (by first | rfl | (simp; done))) ?_
          rintro e w1 ⟨rfl, hB1⟩
          (obtain ⟨hB1c, hB1f⟩ := bcell hB1; have hB1s := hB1.size; (try simp at hB1s); (try have hB1q1 := Nat.lt_of_succ_le hB1s); (try have hB1q2 := Nat.lt_of_succ_lt hB1q1); (try have hB1q3 := Nat.lt_of_succ_lt hB1q2); (try have hB1zw0 : w.heap.size < w1.heap.size := (by omega)); (try have hB1zw1 : w.heap.size + 1 < w1.heap.size := (by omega)); (try have hB1zw2 : w.heap.size + 1 + 1 < w1.heap.size := (by omega)); (try have hB1zw3 : w.heap.size + 1 + 1 + 1 < w1.heap.size := (by omega)); (try have hB1zw4 : w.heap.size + 1 + 1 + 1 + 1 < w1.heap.size := (by omega)))
          go_wp2_with fail
          refine Calls.mono (codeFor_any _ _ _) ?_
          rintro e w' ⟨rfl, rfl⟩
          rcases bool_ways (k1 == m1 && k2 == m2) with hd5 | hd5
          · skip
            obtain ⟨v1, hv1⟩ : ∃ v : Int, v = rd1 p col k1 k2 k3 m1 m2 m3 := ⟨_, rfl⟩
            have rv1 := rd1_r p col k1 k2 k3 m1 m2 m3 hp
            rw [← hv1] at rv1
            have Hv1 := Lib.hid hv1
            clear hv1
            obtain ⟨v2, hv2⟩ : ∃ v : Int, v = rd2 p col k1 k2 k3 m1 m2 m3 := ⟨_, rfl⟩
            have rv2 := rd2_r p col k1 k2 k3 m1 m2 m3 hp
            rw [← hv2] at rv2
            have Hv2 := Lib.hid hv2
            clear hv2
            obtain ⟨v3, hv3⟩ : ∃ v : Int, v = rd3 p col k1 k2 k3 m1 m2 m3 := ⟨_, rfl⟩
            have rv3 := rd3_r p col k1 k2 k3 m1 m2 m3 hp
            rw [← hv3] at rv3
            have Hv3 := Lib.hid hv3
            clear hv3
            go_wp2_with fail
            refine Calls.mono (implRad_any _ _ _ _ _ _ _ _ _ hp hc (by omega) (by omega) (by omega) (by omega) (by omega) (by omega)) ?_
            rw [← Hv1.out, ← Hv2.out, ← Hv3.out]
            rintro e w2 ⟨rfl, hB2⟩
            (obtain ⟨hB2c, hB2f⟩ := bcell hB2; have hB2s := hB2.size; (try simp at hB2s); (try have hB2q1 := Nat.lt_of_succ_le hB2s); (try have hB2q2 := Nat.lt_of_succ_lt hB2q1); (try have hB2q3 := Nat.lt_of_succ_lt hB2q2); (try have hB2zw0 : w.heap.size < w2.heap.size := (by omega)); (try have hB2zw1 : w.heap.size + 1 < w2.heap.size := (by omega)); (try have hB2zw2 : w.heap.size + 1 + 1 < w2.heap.size := (by omega)); (try have hB2zw3 : w.heap.size + 1 + 1 + 1 < w2.heap.size := (by omega)); (try have hB2zw4 : w.heap.size + 1 + 1 + 1 + 1 < w2.heap.size := (by omega)); (try have hB2zw10 : w1.heap.size < w2.heap.size := (by omega)); (try have hB2zw11 : w1.heap.size + 1 < w2.heap.size := (by omega)); (try have hB2zw12 : w1.heap.size + 1 + 1 < w2.heap.size := (by omega)); (try have hB2zw13 : w1.heap.size + 1 + 1 + 1 < w2.heap.size := (by omega)); (try have hB2zw14 : w1.heap.size + 1 + 1 + 1 + 1 < w2.heap.size := (by omega)))
            have HB : rlB p col k1 k2 k3 m1 m2 m3 = true := by simp [rlB, hd1, hd2, hd3, hd4, hd5]
            have HS : rlS p col k1 k2 k3 m1 m2 m3 = 0 := by (simp only [rlS, ← Hv1.out, ← Hv2.out, ← Hv3.out] <;> simp [hd1, hd2, hd3, hd4, hd5])
            have HV := Lib.hid (show rlV1 p col k1 k2 k3 m1 m2 m3 = v1 ∧ rlV2 p col k1 k2 k3 m1 m2 m3 = v2 ∧ rlV3 p col k1 k2 k3 m1 m2 m3 = v3 ∧ rlC p col k1 k2 k3 m1 m2 m3 = 0 from by
              have HG := rl_good (col := col) (k1 := k1) (k2 := k2) (k3 := k3) (m1 := m1) (m2 := m2) (m3 := m3) hp HB HS
              refine ⟨(HG.1).trans ?_, (HG.2.1).trans ?_, (HG.2.2.1).trans ?_, HG.2.2.2⟩
              all_goals (simp only [← Hv1.out, ← Hv2.out, ← Hv3.out] <;> simp [hd1, hd2, hd3, hd4, hd5]))
            clear HB HS
            go_wp2
            (refine bodyPost_ret (v := .tuple #[.agg #[.int .i64 (rlV1 p col k1 k2 k3 m1 m2 m3), .int .i64 (rlV2 p col k1 k2 k3 m1 m2 m3), .int .i64 (rlV3 p col k1 k2 k3 m1 m2 m3)], .int .i64 (rlC p col k1 k2 k3 m1 m2 m3)]) (by simp [results, Try.results43, go_sem, HV.out.1, HV.out.2.1, HV.out.2.2.1, HV.out.2.2.2, *]) rfl ⟨?_, ?_⟩)
            · rfl
            · (repeat (first | with_reducible exact Below.refl _ _ | with_reducible refine balloc ?_ _ | with_reducible refine bdrewN ?_ _ | with_reducible refine Below.drew ?_ | with_reducible refine bthen ?_ (by with_reducible assumption) | with_reducible refine Below.setCell ?_ (by first | (simp; done) | (simp; omega)) _))
          · skip
            have HB : rlB p col k1 k2 k3 m1 m2 m3 = true := by simp [rlB, hd1, hd2, hd3, hd4, hd5]
            have HS : rlS p col k1 k2 k3 m1 m2 m3 = 5 := by (simp only [rlS] <;> simp [hd1, hd2, hd3, hd4, hd5])
            have HV := Lib.hid (rl_st (col := col) (k1 := k1) (k2 := k2) (k3 := k3) (m1 := m1) (m2 := m2) (m3 := m3) hp HB HS (by decide))
            clear HB HS
            go_wp2
            (refine bodyPost_ret (v := .tuple #[.agg #[.int .i64 (rlV1 p col k1 k2 k3 m1 m2 m3), .int .i64 (rlV2 p col k1 k2 k3 m1 m2 m3), .int .i64 (rlV3 p col k1 k2 k3 m1 m2 m3)], .int .i64 (rlC p col k1 k2 k3 m1 m2 m3)]) (by simp [results, Try.results43, go_sem, HV.out.1, HV.out.2.1, HV.out.2.2.1, HV.out.2.2.2, *]) rfl ⟨?_, ?_⟩)
            · rfl
            · (repeat (first | with_reducible exact Below.refl _ _ | with_reducible refine balloc ?_ _ | with_reducible refine bdrewN ?_ _ | with_reducible refine Below.drew ?_ | with_reducible refine bthen ?_ (by with_reducible assumption) | with_reducible refine Below.setCell ?_ (by first | (simp; done) | (simp; omega)) _))

end Go.Proofs.Ytcebhcamegdmaaa
