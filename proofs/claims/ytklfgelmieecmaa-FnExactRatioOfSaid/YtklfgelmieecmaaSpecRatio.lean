/-
  The model's RatioOf.
-/
import Derived.Test.YtklfgelmieecmaaCode
import Derived.Test.YtklfgelmieecmaaPcMath
import Derived.Test.YtklfgelmieecmaaSpecPts
import Derived.Test.YtklfgelmieecmaaSpecVec
import Derived.Test.YtklfgelmieecmaaSpecArea
import Derived.Test.YtklfgelmieecmaaInv
import Derived.Test.YtklfgelmieecmaaArrEq
import Derived.Deep.RegionHeld3
import Derived.Deep.DeepCutAuto
namespace Go.Proofs.Ytklfgelmieecmaa
open Go.RowKit

def rtO (p a1 a2 b1 b2 c1 c2 : Int) : Int := if ((b1 - a1) % p == 0) = true then (c2 - a2) % p * inv p ((b2 - a2) % p) % p else (c1 - a1) % p * inv p ((b1 - a1) % p) % p
set_option linter.unusedVariables false in
def rtB (p a1 a2 b1 b2 c1 c2 : Int) : Bool := numsIn p [a1, a2, b1, b2, c1, c2]
set_option linter.unusedVariables false in
def rtS (p a1 a2 b1 b2 c1 c2 : Int) : Int := if ((a1 == b1 && a2 == b2) || !(area p a1 a2 b1 b2 c1 c2 == 0)) = true then 5 else 0
set_option linter.unusedVariables false in
def rtC (p a1 a2 b1 b2 c1 c2 : Int) : Int := if isP p = true then (if rtB p a1 a2 b1 b2 c1 c2 = true then rtS p a1 a2 b1 b2 c1 c2 else 2) else 1
set_option linter.unusedVariables false in
def rtV1 (p a1 a2 b1 b2 c1 c2 : Int) : Int := if rtC p a1 a2 b1 b2 c1 c2 = 0 then rtO p a1 a2 b1 b2 c1 c2 else 0
theorem rt_zero {p a1 a2 b1 b2 c1 c2 k : Int} (h : rtC p a1 a2 b1 b2 c1 c2 = k) (hk : k ≠ 0) : rtV1 p a1 a2 b1 b2 c1 c2 = 0 ∧ rtC p a1 a2 b1 b2 c1 c2 = k := by
  have hn : ¬ (rtC p a1 a2 b1 b2 c1 c2 = 0) := fun e => hk (h.symm.trans e)
  exact ⟨if_neg hn, h⟩
theorem rt_no {p a1 a2 b1 b2 c1 c2 : Int} (h : isP p = false) : rtV1 p a1 a2 b1 b2 c1 c2 = 0 ∧ rtC p a1 a2 b1 b2 c1 c2 = 1 := rt_zero (by simp [rtC, h]) (by decide)
theorem rt_out {p a1 a2 b1 b2 c1 c2 : Int} (hp : isP p = true) (h : rtB p a1 a2 b1 b2 c1 c2 = false) : rtV1 p a1 a2 b1 b2 c1 c2 = 0 ∧ rtC p a1 a2 b1 b2 c1 c2 = 2 := rt_zero (by simp [rtC, hp, h]) (by decide)
theorem rt_st {p a1 a2 b1 b2 c1 c2 k : Int} (hp : isP p = true) (h : rtB p a1 a2 b1 b2 c1 c2 = true) (hs : rtS p a1 a2 b1 b2 c1 c2 = k) (hk : k ≠ 0) : rtV1 p a1 a2 b1 b2 c1 c2 = 0 ∧ rtC p a1 a2 b1 b2 c1 c2 = k := rt_zero (by simp [rtC, hp, h, hs]) hk
theorem rt_good {p a1 a2 b1 b2 c1 c2 : Int} (hp : isP p = true) (h : rtB p a1 a2 b1 b2 c1 c2 = true) (hs : rtS p a1 a2 b1 b2 c1 c2 = 0) : rtV1 p a1 a2 b1 b2 c1 c2 = rtO p a1 a2 b1 b2 c1 c2 ∧ rtC p a1 a2 b1 b2 c1 c2 = 0 := by
  have h' : rtC p a1 a2 b1 b2 c1 c2 = 0 := by simp [rtC, hp, h, hs]
  exact ⟨if_pos h', h'⟩

set_option linter.unusedSimpArgs false in
set_option maxRecDepth 20000 in
set_option maxHeartbeats 4000000 in
theorem specRatioOf_any (p a1 a2 b1 b2 c1 c2 : Int) (w : World) :
    Calls Try.prog 33 #[.int .i64 p, .agg #[.int .i64 a1, .int .i64 a2], .agg #[.int .i64 b1, .int .i64 b2], .agg #[.int .i64 c1, .int .i64 c2]] w fun e w' =>
      e = .returned (.tuple #[.int .i64 (rtV1 p a1 a2 b1 b2 c1 c2), .int .i64 (rtC p a1 a2 b1 b2 c1 c2)]) ∧ Below w.heap.size w w' := by
  have heq := equalPoint
  go_enter Try.func33, Try.ntmps33
  rcases bool_ways (isP p) with hd1 | hd1
  · skip
    have c_1 : codeOf p (numsIn p [a1, a2, b1, b2, c1, c2]) = 1 := codeOf_no hd1
    have cN : ∀ b, codeOf p b = 1 := fun b => codeOf_no hd1
    go_wp2_with fail
    refine Calls.mono (specCode3 _ _ _ _ _ _ _ _ _ (by first | rfl | (simp; done))) ?_
    rintro e w1 ⟨rfl, hB1⟩
    (obtain ⟨hB1c, hB1f⟩ := bcell hB1; have hB1s := hB1.size; (try simp at hB1s); (try have hB1q1 := Nat.lt_of_succ_le hB1s); (try have hB1q2 := Nat.lt_of_succ_lt hB1q1); (try have hB1q3 := Nat.lt_of_succ_lt hB1q2); (try have hB1zw0 : w.heap.size < w1.heap.size := (by omega)); (try have hB1zw1 : w.heap.size + 1 < w1.heap.size := (by omega)); (try have hB1zw2 : w.heap.size + 1 + 1 < w1.heap.size := (by omega)); (try have hB1zw3 : w.heap.size + 1 + 1 + 1 < w1.heap.size := (by omega)); (try have hB1zw4 : w.heap.size + 1 + 1 + 1 + 1 < w1.heap.size := (by omega)))
    have HV := Lib.hid (rt_no (a1 := a1) (a2 := a2) (b1 := b1) (b2 := b2) (c1 := c1) (c2 := c2) hd1)
    go_wp2
    (refine bodyPost_ret (v := .tuple #[.int .i64 (rtV1 p a1 a2 b1 b2 c1 c2), .int .i64 (rtC p a1 a2 b1 b2 c1 c2)]) (by simp [results, Try.results33, go_sem, HV.out.1, HV.out.2, *]) rfl ⟨?_, ?_⟩)
    · rfl
    · (repeat (first | with_reducible exact Below.refl _ _ | with_reducible refine balloc ?_ _ | with_reducible refine bdrewN ?_ _ | with_reducible refine Below.drew ?_ | with_reducible refine bthen ?_ (by with_reducible assumption) | with_reducible refine Below.setCell ?_ (by first | (simp; done) | (simp; omega)) _))
  · have hp := hd1
    have hr := isP_range hp
    rcases bool_ways (numsIn p [a1, a2, b1, b2, c1, c2]) with hd2 | hd2
    · skip
      have c_1 : codeOf p (numsIn p [a1, a2, b1, b2, c1, c2]) = 2 := codeOf_out hp (by simp [hd2])
      have cT : codeOf p true = 0 := codeOf_in hp rfl
      have cF : codeOf p false = 2 := codeOf_out hp rfl
      go_wp2_with fail
      refine Calls.mono (specCode3 _ _ _ _ _ _ _ _ _ (by first | rfl | (simp; done))) ?_
      rintro e w1 ⟨rfl, hB1⟩
      (obtain ⟨hB1c, hB1f⟩ := bcell hB1; have hB1s := hB1.size; (try simp at hB1s); (try have hB1q1 := Nat.lt_of_succ_le hB1s); (try have hB1q2 := Nat.lt_of_succ_lt hB1q1); (try have hB1q3 := Nat.lt_of_succ_lt hB1q2); (try have hB1zw0 : w.heap.size < w1.heap.size := (by omega)); (try have hB1zw1 : w.heap.size + 1 < w1.heap.size := (by omega)); (try have hB1zw2 : w.heap.size + 1 + 1 < w1.heap.size := (by omega)); (try have hB1zw3 : w.heap.size + 1 + 1 + 1 < w1.heap.size := (by omega)); (try have hB1zw4 : w.heap.size + 1 + 1 + 1 + 1 < w1.heap.size := (by omega)))
      have HV := Lib.hid (rt_out (a1 := a1) (a2 := a2) (b1 := b1) (b2 := b2) (c1 := c1) (c2 := c2) hp (by simp [rtB, hd1, hd2]))
      go_wp2
      (refine bodyPost_ret (v := .tuple #[.int .i64 (rtV1 p a1 a2 b1 b2 c1 c2), .int .i64 (rtC p a1 a2 b1 b2 c1 c2)]) (by simp [results, Try.results33, go_sem, HV.out.1, HV.out.2, *]) rfl ⟨?_, ?_⟩)
      · rfl
      · (repeat (first | with_reducible exact Below.refl _ _ | with_reducible refine balloc ?_ _ | with_reducible refine bdrewN ?_ _ | with_reducible refine Below.drew ?_ | with_reducible refine bthen ?_ (by with_reducible assumption) | with_reducible refine Below.setCell ?_ (by first | (simp; done) | (simp; omega)) _))
    · have hd2q := nums6 hd2
      have c_1 : codeOf p (numsIn p [a1, a2, b1, b2, c1, c2]) = 0 := codeOf_in hp (by simp [hd2])
      have cT : codeOf p true = 0 := codeOf_in hp rfl
      go_wp2_with fail
      refine Calls.mono (specCode3 _ _ _ _ _ _ _ _ _ (by first | rfl | (simp; done))) ?_
      rintro e w1 ⟨rfl, hB1⟩
      (obtain ⟨hB1c, hB1f⟩ := bcell hB1; have hB1s := hB1.size; (try simp at hB1s); (try have hB1q1 := Nat.lt_of_succ_le hB1s); (try have hB1q2 := Nat.lt_of_succ_lt hB1q1); (try have hB1q3 := Nat.lt_of_succ_lt hB1q2); (try have hB1zw0 : w.heap.size < w1.heap.size := (by omega)); (try have hB1zw1 : w.heap.size + 1 < w1.heap.size := (by omega)); (try have hB1zw2 : w.heap.size + 1 + 1 < w1.heap.size := (by omega)); (try have hB1zw3 : w.heap.size + 1 + 1 + 1 < w1.heap.size := (by omega)); (try have hB1zw4 : w.heap.size + 1 + 1 + 1 + 1 < w1.heap.size := (by omega)))
      rcases bool_ways (a1 == b1 && a2 == b2) with hd3 | hd3
      · skip
        obtain ⟨v1, hv1⟩ : ∃ v : Int, v = area p a1 a2 b1 b2 c1 c2 := ⟨_, rfl⟩
        have rv1 := area_r a1 a2 b1 b2 c1 c2 hp
        rw [← hv1] at rv1
        have Hv1 := Lib.hid hv1
        clear hv1
        go_wp2_with fail
        refine Calls.mono (specArea_any _ _ _ _ _ _ _ _ hp (by omega) (by omega) (by omega) (by omega) (by omega) (by omega)) ?_
        rw [← Hv1.out]
        rintro e w2 ⟨rfl, hB2⟩
        (obtain ⟨hB2c, hB2f⟩ := bcell hB2; have hB2s := hB2.size; (try simp at hB2s); (try have hB2q1 := Nat.lt_of_succ_le hB2s); (try have hB2q2 := Nat.lt_of_succ_lt hB2q1); (try have hB2q3 := Nat.lt_of_succ_lt hB2q2); (try have hB2zw0 : w.heap.size < w2.heap.size := (by omega)); (try have hB2zw1 : w.heap.size + 1 < w2.heap.size := (by omega)); (try have hB2zw2 : w.heap.size + 1 + 1 < w2.heap.size := (by omega)); (try have hB2zw3 : w.heap.size + 1 + 1 + 1 < w2.heap.size := (by omega)); (try have hB2zw4 : w.heap.size + 1 + 1 + 1 + 1 < w2.heap.size := (by omega)); (try have hB2zw10 : w1.heap.size < w2.heap.size := (by omega)); (try have hB2zw11 : w1.heap.size + 1 < w2.heap.size := (by omega)); (try have hB2zw12 : w1.heap.size + 1 + 1 < w2.heap.size := (by omega)); (try have hB2zw13 : w1.heap.size + 1 + 1 + 1 < w2.heap.size := (by omega)); (try have hB2zw14 : w1.heap.size + 1 + 1 + 1 + 1 < w2.heap.size := (by omega)))
        rcases bool_ways (v1 == 0) with hd4 | hd4
        · have hd4n : (v1 != 0) = true := by rw [bne, hd4]; rfl
          have Hhd4p := Lib.hid (beq_eq_false_iff_ne.1 hd4)
          have HB : rtB p a1 a2 b1 b2 c1 c2 = true := by simp [rtB, hd1, hd2, hd3, hd4]
          have HS : rtS p a1 a2 b1 b2 c1 c2 = 5 := by (simp only [rtS, ← Hv1.out] <;> simp [hd1, hd2, hd3, hd4])
          have HV := Lib.hid (rt_st (a1 := a1) (a2 := a2) (b1 := b1) (b2 := b2) (c1 := c1) (c2 := c2) hp HB HS (by decide))
          clear HB HS
          go_wp2
          (refine bodyPost_ret (v := .tuple #[.int .i64 (rtV1 p a1 a2 b1 b2 c1 c2), .int .i64 (rtC p a1 a2 b1 b2 c1 c2)]) (by simp [results, Try.results33, go_sem, HV.out.1, HV.out.2, *]) rfl ⟨?_, ?_⟩)
          · rfl
          · (repeat (first | with_reducible exact Below.refl _ _ | with_reducible refine balloc ?_ _ | with_reducible refine bdrewN ?_ _ | with_reducible refine Below.drew ?_ | with_reducible refine bthen ?_ (by with_reducible assumption) | with_reducible refine Below.setCell ?_ (by first | (simp; done) | (simp; omega)) _))
        · have hd4n : (v1 != 0) = false := by rw [bne, hd4]; rfl
          have Hhd4p := Lib.hid (beq_iff_eq.1 hd4)
          obtain ⟨v2, hv2⟩ : ∃ v : Int, v = (b1 - a1) % p := ⟨_, rfl⟩
          have rv2 := modR (b1 - a1) hp
          rw [← hv2] at rv2
          have Hv2 := Lib.hid hv2
          clear hv2
          obtain ⟨v3, hv3⟩ : ∃ v : Int, v = (b2 - a2) % p := ⟨_, rfl⟩
          have rv3 := modR (b2 - a2) hp
          rw [← hv3] at rv3
          have Hv3 := Lib.hid hv3
          clear hv3
          obtain ⟨v4, hv4⟩ : ∃ v : Int, v = (c1 - a1) % p := ⟨_, rfl⟩
          have rv4 := modR (c1 - a1) hp
          rw [← hv4] at rv4
          have Hv4 := Lib.hid hv4
          clear hv4
          obtain ⟨v5, hv5⟩ : ∃ v : Int, v = (c2 - a2) % p := ⟨_, rfl⟩
          have rv5 := modR (c2 - a2) hp
          rw [← hv5] at rv5
          have Hv5 := Lib.hid hv5
          clear hv5
          go_upto_region 6 with fail
          go_cut [11, 12] (fun s11 s12 wx => ∃ gA0 gA1 : Nat, s11 = .pointer (some ⟨gA0, 0, none⟩) ∧ s12 = .pointer (some ⟨gA1, 0, none⟩) ∧ wx.cell? ⟨gA0, 0, none⟩ = some (.int .i64 v2) ∧ wx.cell? ⟨gA0, 1, none⟩ = some (.int .i64 v3) ∧ wx.cell? ⟨gA1, 0, none⟩ = some (.int .i64 v4) ∧ wx.cell? ⟨gA1, 1, none⟩ = some (.int .i64 v5) ∧ (wx.cell? ⟨w.heap.size, 0, none⟩ = some (.int .i64 a1) ∧ wx.cell? ⟨w.heap.size, 1, none⟩ = some (.int .i64 a2) ∧ wx.cell? ⟨w.heap.size + 1, 0, none⟩ = some (.int .i64 b1) ∧ wx.cell? ⟨w.heap.size + 1, 1, none⟩ = some (.int .i64 b2) ∧ wx.cell? ⟨w.heap.size + 1 + 1, 0, none⟩ = some (.int .i64 c1) ∧ wx.cell? ⟨w.heap.size + 1 + 1, 1, none⟩ = some (.int .i64 c2)) ∧ Below w.heap.size w wx)
          case first =>
            have kb0_0 : w2.cell? ⟨w.heap.size, 0, none⟩ = some (.int .i64 a1) := by (first | with_reducible assumption | (repeat (first | with_reducible assumption | ((with_reducible refine kfresh ?_ ?_) <;> (first | with_reducible rfl | (simp; done))) | ((with_reducible refine ksameS ?_); focus ((repeat (first | with_reducible exact kis_of (by with_reducible assumption) | with_reducible refine kis_set ?_ | ((with_reducible refine kis_new ?_ ?_) <;> (first | with_reducible rfl | rfl | (simp; done))) | with_reducible refine kis_alloc _ ?_ | with_reducible refine kis_drew ?_ | with_reducible refine kis_call (by with_reducible assumption) ?_ | with_reducible exact kis_of (kcall (by with_reducible assumption) (by with_reducible assumption)))); done)) | with_reducible refine kother (by decide) ?_ | with_reducible refine kset (by first | omega | (simp; done) | (simp; omega)) ?_ | with_reducible refine kalloc _ ?_ | with_reducible refine kdrew ?_ | with_reducible refine kcall (by with_reducible assumption) ?_)))
            have kb0_1 : w2.cell? ⟨w.heap.size, 1, none⟩ = some (.int .i64 a2) := by (first | with_reducible assumption | (repeat (first | with_reducible assumption | ((with_reducible refine kfresh ?_ ?_) <;> (first | with_reducible rfl | (simp; done))) | ((with_reducible refine ksameS ?_); focus ((repeat (first | with_reducible exact kis_of (by with_reducible assumption) | with_reducible refine kis_set ?_ | ((with_reducible refine kis_new ?_ ?_) <;> (first | with_reducible rfl | rfl | (simp; done))) | with_reducible refine kis_alloc _ ?_ | with_reducible refine kis_drew ?_ | with_reducible refine kis_call (by with_reducible assumption) ?_ | with_reducible exact kis_of (kcall (by with_reducible assumption) (by with_reducible assumption)))); done)) | with_reducible refine kother (by decide) ?_ | with_reducible refine kset (by first | omega | (simp; done) | (simp; omega)) ?_ | with_reducible refine kalloc _ ?_ | with_reducible refine kdrew ?_ | with_reducible refine kcall (by with_reducible assumption) ?_)))
            have kb1_0 : w2.cell? ⟨w.heap.size + 1, 0, none⟩ = some (.int .i64 b1) := by (first | with_reducible assumption | (repeat (first | with_reducible assumption | ((with_reducible refine kfresh ?_ ?_) <;> (first | with_reducible rfl | (simp; done))) | ((with_reducible refine ksameS ?_); focus ((repeat (first | with_reducible exact kis_of (by with_reducible assumption) | with_reducible refine kis_set ?_ | ((with_reducible refine kis_new ?_ ?_) <;> (first | with_reducible rfl | rfl | (simp; done))) | with_reducible refine kis_alloc _ ?_ | with_reducible refine kis_drew ?_ | with_reducible refine kis_call (by with_reducible assumption) ?_ | with_reducible exact kis_of (kcall (by with_reducible assumption) (by with_reducible assumption)))); done)) | with_reducible refine kother (by decide) ?_ | with_reducible refine kset (by first | omega | (simp; done) | (simp; omega)) ?_ | with_reducible refine kalloc _ ?_ | with_reducible refine kdrew ?_ | with_reducible refine kcall (by with_reducible assumption) ?_)))
            have kb1_1 : w2.cell? ⟨w.heap.size + 1, 1, none⟩ = some (.int .i64 b2) := by (first | with_reducible assumption | (repeat (first | with_reducible assumption | ((with_reducible refine kfresh ?_ ?_) <;> (first | with_reducible rfl | (simp; done))) | ((with_reducible refine ksameS ?_); focus ((repeat (first | with_reducible exact kis_of (by with_reducible assumption) | with_reducible refine kis_set ?_ | ((with_reducible refine kis_new ?_ ?_) <;> (first | with_reducible rfl | rfl | (simp; done))) | with_reducible refine kis_alloc _ ?_ | with_reducible refine kis_drew ?_ | with_reducible refine kis_call (by with_reducible assumption) ?_ | with_reducible exact kis_of (kcall (by with_reducible assumption) (by with_reducible assumption)))); done)) | with_reducible refine kother (by decide) ?_ | with_reducible refine kset (by first | omega | (simp; done) | (simp; omega)) ?_ | with_reducible refine kalloc _ ?_ | with_reducible refine kdrew ?_ | with_reducible refine kcall (by with_reducible assumption) ?_)))
            have kb2_0 : w2.cell? ⟨w.heap.size + 1 + 1, 0, none⟩ = some (.int .i64 c1) := by (first | with_reducible assumption | (repeat (first | with_reducible assumption | ((with_reducible refine kfresh ?_ ?_) <;> (first | with_reducible rfl | (simp; done))) | ((with_reducible refine ksameS ?_); focus ((repeat (first | with_reducible exact kis_of (by with_reducible assumption) | with_reducible refine kis_set ?_ | ((with_reducible refine kis_new ?_ ?_) <;> (first | with_reducible rfl | rfl | (simp; done))) | with_reducible refine kis_alloc _ ?_ | with_reducible refine kis_drew ?_ | with_reducible refine kis_call (by with_reducible assumption) ?_ | with_reducible exact kis_of (kcall (by with_reducible assumption) (by with_reducible assumption)))); done)) | with_reducible refine kother (by decide) ?_ | with_reducible refine kset (by first | omega | (simp; done) | (simp; omega)) ?_ | with_reducible refine kalloc _ ?_ | with_reducible refine kdrew ?_ | with_reducible refine kcall (by with_reducible assumption) ?_)))
            have kb2_1 : w2.cell? ⟨w.heap.size + 1 + 1, 1, none⟩ = some (.int .i64 c2) := by (first | with_reducible assumption | (repeat (first | with_reducible assumption | ((with_reducible refine kfresh ?_ ?_) <;> (first | with_reducible rfl | (simp; done))) | ((with_reducible refine ksameS ?_); focus ((repeat (first | with_reducible exact kis_of (by with_reducible assumption) | with_reducible refine kis_set ?_ | ((with_reducible refine kis_new ?_ ?_) <;> (first | with_reducible rfl | rfl | (simp; done))) | with_reducible refine kis_alloc _ ?_ | with_reducible refine kis_drew ?_ | with_reducible refine kis_call (by with_reducible assumption) ?_ | with_reducible exact kis_of (kcall (by with_reducible assumption) (by with_reducible assumption)))); done)) | with_reducible refine kother (by decide) ?_ | with_reducible refine kset (by first | omega | (simp; done) | (simp; omega)) ?_ | with_reducible refine kalloc _ ?_ | with_reducible refine kdrew ?_ | with_reducible refine kcall (by with_reducible assumption) ?_)))
            have hW : Below w.heap.size w w2 := by (repeat (first | with_reducible exact Below.refl _ _ | with_reducible refine balloc ?_ _ | with_reducible refine bdrewN ?_ _ | with_reducible refine Below.drew ?_ | with_reducible refine bthen ?_ (by with_reducible assumption) | with_reducible refine Below.setCell ?_ (by first | (simp; done) | (simp; omega)) _))
            go_region_held3 (fun W => W.cell? ⟨w.heap.size, 0, none⟩ = some (.int .i64 a1) ∧ W.cell? ⟨w.heap.size, 1, none⟩ = some (.int .i64 a2) ∧ W.cell? ⟨w.heap.size + 1, 0, none⟩ = some (.int .i64 b1) ∧ W.cell? ⟨w.heap.size + 1, 1, none⟩ = some (.int .i64 b2) ∧ W.cell? ⟨w.heap.size + 1 + 1, 0, none⟩ = some (.int .i64 c1) ∧ W.cell? ⟨w.heap.size + 1 + 1, 1, none⟩ = some (.int .i64 c2)) (first | (refine ⟨?_, ?_, ?_, ?_, ?_, ?_⟩ <;> ((try with_reducible refine kdrew ?_); (repeat with_reducible refine kalloc _ ?_); with_reducible assumption)) | (first | with_reducible assumption | with_reducible exact (And.imp (kcall hB) (And.imp (kcall hB) (And.imp (kcall hB) (And.imp (kcall hB) (And.imp (kcall hB) ((kcall hB))))))) (by with_reducible assumption) | with_reducible exact (And.imp (kalloc _) (And.imp (kalloc _) (And.imp (kalloc _) (And.imp (kalloc _) (And.imp (kalloc _) ((kalloc _))))))) (by with_reducible assumption) | with_reducible exact (And.imp (krealloc (by first | omega | (simp; done) | (simp; omega))) (And.imp (krealloc (by first | omega | (simp; done) | (simp; omega))) (And.imp (krealloc (by first | omega | (simp; done) | (simp; omega))) (And.imp (krealloc (by first | omega | (simp; done) | (simp; omega))) (And.imp (krealloc (by first | omega | (simp; done) | (simp; omega))) ((krealloc (by first | omega | (simp; done) | (simp; omega))))))))) (by with_reducible assumption) | with_reducible exact (And.imp (fun h => kdrew (kalloc _ (kundrew h))) (And.imp (fun h => kdrew (kalloc _ (kundrew h))) (And.imp (fun h => kdrew (kalloc _ (kundrew h))) (And.imp (fun h => kdrew (kalloc _ (kundrew h))) (And.imp (fun h => kdrew (kalloc _ (kundrew h))) ((fun h => kdrew (kalloc _ (kundrew h))))))))) (by with_reducible assumption) | with_reducible exact (And.imp (fun h => kdrew (krealloc (by first | omega | (simp; done) | (simp; omega)) (kundrew h))) (And.imp (fun h => kdrew (krealloc (by first | omega | (simp; done) | (simp; omega)) (kundrew h))) (And.imp (fun h => kdrew (krealloc (by first | omega | (simp; done) | (simp; omega)) (kundrew h))) (And.imp (fun h => kdrew (krealloc (by first | omega | (simp; done) | (simp; omega)) (kundrew h))) (And.imp (fun h => kdrew (krealloc (by first | omega | (simp; done) | (simp; omega)) (kundrew h))) ((fun h => kdrew (krealloc (by first | omega | (simp; done) | (simp; omega)) (kundrew h))))))))) (by with_reducible assumption) | with_reducible exact (And.imp (fun h => kset (by first | omega | (simp; done) | (simp; omega)) (kset (by first | omega | (simp; done) | (simp; omega)) (kset (by first | omega | (simp; done) | (simp; omega)) h))) (And.imp (fun h => kset (by first | omega | (simp; done) | (simp; omega)) (kset (by first | omega | (simp; done) | (simp; omega)) (kset (by first | omega | (simp; done) | (simp; omega)) h))) (And.imp (fun h => kset (by first | omega | (simp; done) | (simp; omega)) (kset (by first | omega | (simp; done) | (simp; omega)) (kset (by first | omega | (simp; done) | (simp; omega)) h))) (And.imp (fun h => kset (by first | omega | (simp; done) | (simp; omega)) (kset (by first | omega | (simp; done) | (simp; omega)) (kset (by first | omega | (simp; done) | (simp; omega)) h))) (And.imp (fun h => kset (by first | omega | (simp; done) | (simp; omega)) (kset (by first | omega | (simp; done) | (simp; omega)) (kset (by first | omega | (simp; done) | (simp; omega)) h))) ((fun h => kset (by first | omega | (simp; done) | (simp; omega)) (kset (by first | omega | (simp; done) | (simp; omega)) (kset (by first | omega | (simp; done) | (simp; omega)) h))))))))) (by with_reducible assumption) | with_reducible exact (And.imp (fun h => kset (by first | omega | (simp; done) | (simp; omega)) (kset (by first | omega | (simp; done) | (simp; omega)) h)) (And.imp (fun h => kset (by first | omega | (simp; done) | (simp; omega)) (kset (by first | omega | (simp; done) | (simp; omega)) h)) (And.imp (fun h => kset (by first | omega | (simp; done) | (simp; omega)) (kset (by first | omega | (simp; done) | (simp; omega)) h)) (And.imp (fun h => kset (by first | omega | (simp; done) | (simp; omega)) (kset (by first | omega | (simp; done) | (simp; omega)) h)) (And.imp (fun h => kset (by first | omega | (simp; done) | (simp; omega)) (kset (by first | omega | (simp; done) | (simp; omega)) h)) ((fun h => kset (by first | omega | (simp; done) | (simp; omega)) (kset (by first | omega | (simp; done) | (simp; omega)) h)))))))) (by with_reducible assumption) | with_reducible exact (And.imp (fun h => kset (by first | omega | (simp; done) | (simp; omega)) h) (And.imp (fun h => kset (by first | omega | (simp; done) | (simp; omega)) h) (And.imp (fun h => kset (by first | omega | (simp; done) | (simp; omega)) h) (And.imp (fun h => kset (by first | omega | (simp; done) | (simp; omega)) h) (And.imp (fun h => kset (by first | omega | (simp; done) | (simp; omega)) h) ((fun h => kset (by first | omega | (simp; done) | (simp; omega)) h))))))) (by with_reducible assumption) | with_reducible exact (And.imp (fun h => kalloc _ (kset (by first | omega | (simp; done) | (simp; omega)) (kset (by first | omega | (simp; done) | (simp; omega)) (kback (by first | omega | (simp; done) | (simp; omega)) h)))) (And.imp (fun h => kalloc _ (kset (by first | omega | (simp; done) | (simp; omega)) (kset (by first | omega | (simp; done) | (simp; omega)) (kback (by first | omega | (simp; done) | (simp; omega)) h)))) (And.imp (fun h => kalloc _ (kset (by first | omega | (simp; done) | (simp; omega)) (kset (by first | omega | (simp; done) | (simp; omega)) (kback (by first | omega | (simp; done) | (simp; omega)) h)))) (And.imp (fun h => kalloc _ (kset (by first | omega | (simp; done) | (simp; omega)) (kset (by first | omega | (simp; done) | (simp; omega)) (kback (by first | omega | (simp; done) | (simp; omega)) h)))) (And.imp (fun h => kalloc _ (kset (by first | omega | (simp; done) | (simp; omega)) (kset (by first | omega | (simp; done) | (simp; omega)) (kback (by first | omega | (simp; done) | (simp; omega)) h)))) ((fun h => kalloc _ (kset (by first | omega | (simp; done) | (simp; omega)) (kset (by first | omega | (simp; done) | (simp; omega)) (kback (by first | omega | (simp; done) | (simp; omega)) h)))))))))) (by with_reducible assumption) | with_reducible exact (And.imp (fun h => kalloc _ (kset (by first | omega | (simp; done) | (simp; omega)) (kset (by first | omega | (simp; done) | (simp; omega)) (kset (by first | omega | (simp; done) | (simp; omega)) (kback (by first | omega | (simp; done) | (simp; omega)) h))))) (And.imp (fun h => kalloc _ (kset (by first | omega | (simp; done) | (simp; omega)) (kset (by first | omega | (simp; done) | (simp; omega)) (kset (by first | omega | (simp; done) | (simp; omega)) (kback (by first | omega | (simp; done) | (simp; omega)) h))))) (And.imp (fun h => kalloc _ (kset (by first | omega | (simp; done) | (simp; omega)) (kset (by first | omega | (simp; done) | (simp; omega)) (kset (by first | omega | (simp; done) | (simp; omega)) (kback (by first | omega | (simp; done) | (simp; omega)) h))))) (And.imp (fun h => kalloc _ (kset (by first | omega | (simp; done) | (simp; omega)) (kset (by first | omega | (simp; done) | (simp; omega)) (kset (by first | omega | (simp; done) | (simp; omega)) (kback (by first | omega | (simp; done) | (simp; omega)) h))))) (And.imp (fun h => kalloc _ (kset (by first | omega | (simp; done) | (simp; omega)) (kset (by first | omega | (simp; done) | (simp; omega)) (kset (by first | omega | (simp; done) | (simp; omega)) (kback (by first | omega | (simp; done) | (simp; omega)) h))))) ((fun h => kalloc _ (kset (by first | omega | (simp; done) | (simp; omega)) (kset (by first | omega | (simp; done) | (simp; omega)) (kset (by first | omega | (simp; done) | (simp; omega)) (kback (by first | omega | (simp; done) | (simp; omega)) h))))))))))) (by with_reducible assumption) | with_reducible exact (And.imp (fun h => kalloc _ (kalloc _ (kback (by first | omega | (simp; done) | (simp; omega)) (kback (by first | omega | (simp; done) | (simp; omega)) h)))) (And.imp (fun h => kalloc _ (kalloc _ (kback (by first | omega | (simp; done) | (simp; omega)) (kback (by first | omega | (simp; done) | (simp; omega)) h)))) (And.imp (fun h => kalloc _ (kalloc _ (kback (by first | omega | (simp; done) | (simp; omega)) (kback (by first | omega | (simp; done) | (simp; omega)) h)))) (And.imp (fun h => kalloc _ (kalloc _ (kback (by first | omega | (simp; done) | (simp; omega)) (kback (by first | omega | (simp; done) | (simp; omega)) h)))) (And.imp (fun h => kalloc _ (kalloc _ (kback (by first | omega | (simp; done) | (simp; omega)) (kback (by first | omega | (simp; done) | (simp; omega)) h)))) ((fun h => kalloc _ (kalloc _ (kback (by first | omega | (simp; done) | (simp; omega)) (kback (by first | omega | (simp; done) | (simp; omega)) h)))))))))) (by with_reducible assumption) | with_reducible exact (And.imp (fun h => kdrew (kalloc _ (kalloc _ (kback (by first | omega | (simp; done) | (simp; omega)) (kback (by first | omega | (simp; done) | (simp; omega)) (kundrew h)))))) (And.imp (fun h => kdrew (kalloc _ (kalloc _ (kback (by first | omega | (simp; done) | (simp; omega)) (kback (by first | omega | (simp; done) | (simp; omega)) (kundrew h)))))) (And.imp (fun h => kdrew (kalloc _ (kalloc _ (kback (by first | omega | (simp; done) | (simp; omega)) (kback (by first | omega | (simp; done) | (simp; omega)) (kundrew h)))))) (And.imp (fun h => kdrew (kalloc _ (kalloc _ (kback (by first | omega | (simp; done) | (simp; omega)) (kback (by first | omega | (simp; done) | (simp; omega)) (kundrew h)))))) (And.imp (fun h => kdrew (kalloc _ (kalloc _ (kback (by first | omega | (simp; done) | (simp; omega)) (kback (by first | omega | (simp; done) | (simp; omega)) (kundrew h)))))) ((fun h => kdrew (kalloc _ (kalloc _ (kback (by first | omega | (simp; done) | (simp; omega)) (kback (by first | omega | (simp; done) | (simp; omega)) (kundrew h)))))))))))) (by with_reducible assumption) | (simp; done) | (refine ⟨?_, ?_, ?_, ?_, ?_, ?_⟩ <;> (refine kdrew ?_; repeat (first | exact kfresh (by first | rfl | (simp; done)) (by rfl) | refine kalloc _ ?_)); done))) (first | (go_at_call 62; refine Calls.mono (specMinus_any _ _ _ _ _ _ hp (by omega) (by omega) (by omega) (by omega)) ?_; (first | rw [← Hv2.out, ← Hv3.out] | rw [← Hv4.out, ← Hv5.out]); rintro e wq ⟨rfl, hB⟩; (obtain ⟨hBc, hBf⟩ := bcell hB; have hBs := hB.size; (try simp at hBs); (try have hBq1 := Nat.lt_of_succ_le hBs); (try have hBq2 := Nat.lt_of_succ_lt hBq1); (try have hBq3 := Nat.lt_of_succ_lt hBq2); (try have hBzw0 : w.heap.size < wq.heap.size := (by omega)); (try have hBzw1 : w.heap.size + 1 < wq.heap.size := (by omega)); (try have hBzw2 : w.heap.size + 1 + 1 < wq.heap.size := (by omega)); (try have hBzw3 : w.heap.size + 1 + 1 + 1 < wq.heap.size := (by omega)); (try have hBzw4 : w.heap.size + 1 + 1 + 1 + 1 < wq.heap.size := (by omega)); (try have hBzw20 : w2.heap.size < wq.heap.size := (by omega)); (try have hBzw21 : w2.heap.size + 1 < wq.heap.size := (by omega)); (try have hBzw22 : w2.heap.size + 1 + 1 < wq.heap.size := (by omega)); (try have hBzw23 : w2.heap.size + 1 + 1 + 1 < wq.heap.size := (by omega)); (try have hBzw24 : w2.heap.size + 1 + 1 + 1 + 1 < wq.heap.size := (by omega)); (try have hBzw10 : w1.heap.size < wq.heap.size := (by omega)); (try have hBzw11 : w1.heap.size + 1 < wq.heap.size := (by omega)); (try have hBzw12 : w1.heap.size + 1 + 1 < wq.heap.size := (by omega)); (try have hBzw13 : w1.heap.size + 1 + 1 + 1 < wq.heap.size := (by omega)); (try have hBzw14 : w1.heap.size + 1 + 1 + 1 + 1 < wq.heap.size := (by omega)))))
            all_goals
              go_wp2_with fail
              go_meet
              refine ⟨_, _, rfl, rfl, ?_, ?_, ?_, ?_, by with_reducible assumption, ?_⟩
              · (repeat (first | with_reducible assumption | ((with_reducible refine kfresh ?_ ?_) <;> (first | with_reducible rfl | (simp; done))) | ((with_reducible refine ksameS ?_); focus ((repeat (first | with_reducible exact kis_of (by with_reducible assumption) | with_reducible refine kis_set ?_ | ((with_reducible refine kis_new ?_ ?_) <;> (first | with_reducible rfl | rfl | (simp; done))) | with_reducible refine kis_alloc _ ?_ | with_reducible refine kis_drew ?_ | with_reducible refine kis_call (by with_reducible assumption) ?_ | with_reducible exact kis_of (kcall (by with_reducible assumption) (by with_reducible assumption)))); done)) | with_reducible refine kother (by decide) ?_ | with_reducible refine kset (by first | omega | (simp; done) | (simp; omega)) ?_ | with_reducible refine kalloc _ ?_ | with_reducible refine kdrew ?_ | with_reducible refine kcall (by with_reducible assumption) ?_))
              · (repeat (first | with_reducible assumption | ((with_reducible refine kfresh ?_ ?_) <;> (first | with_reducible rfl | (simp; done))) | ((with_reducible refine ksameS ?_); focus ((repeat (first | with_reducible exact kis_of (by with_reducible assumption) | with_reducible refine kis_set ?_ | ((with_reducible refine kis_new ?_ ?_) <;> (first | with_reducible rfl | rfl | (simp; done))) | with_reducible refine kis_alloc _ ?_ | with_reducible refine kis_drew ?_ | with_reducible refine kis_call (by with_reducible assumption) ?_ | with_reducible exact kis_of (kcall (by with_reducible assumption) (by with_reducible assumption)))); done)) | with_reducible refine kother (by decide) ?_ | with_reducible refine kset (by first | omega | (simp; done) | (simp; omega)) ?_ | with_reducible refine kalloc _ ?_ | with_reducible refine kdrew ?_ | with_reducible refine kcall (by with_reducible assumption) ?_))
              · (repeat (first | with_reducible assumption | ((with_reducible refine kfresh ?_ ?_) <;> (first | with_reducible rfl | (simp; done))) | ((with_reducible refine ksameS ?_); focus ((repeat (first | with_reducible exact kis_of (by with_reducible assumption) | with_reducible refine kis_set ?_ | ((with_reducible refine kis_new ?_ ?_) <;> (first | with_reducible rfl | rfl | (simp; done))) | with_reducible refine kis_alloc _ ?_ | with_reducible refine kis_drew ?_ | with_reducible refine kis_call (by with_reducible assumption) ?_ | with_reducible exact kis_of (kcall (by with_reducible assumption) (by with_reducible assumption)))); done)) | with_reducible refine kother (by decide) ?_ | with_reducible refine kset (by first | omega | (simp; done) | (simp; omega)) ?_ | with_reducible refine kalloc _ ?_ | with_reducible refine kdrew ?_ | with_reducible refine kcall (by with_reducible assumption) ?_))
              · (repeat (first | with_reducible assumption | ((with_reducible refine kfresh ?_ ?_) <;> (first | with_reducible rfl | (simp; done))) | ((with_reducible refine ksameS ?_); focus ((repeat (first | with_reducible exact kis_of (by with_reducible assumption) | with_reducible refine kis_set ?_ | ((with_reducible refine kis_new ?_ ?_) <;> (first | with_reducible rfl | rfl | (simp; done))) | with_reducible refine kis_alloc _ ?_ | with_reducible refine kis_drew ?_ | with_reducible refine kis_call (by with_reducible assumption) ?_ | with_reducible exact kis_of (kcall (by with_reducible assumption) (by with_reducible assumption)))); done)) | with_reducible refine kother (by decide) ?_ | with_reducible refine kset (by first | omega | (simp; done) | (simp; omega)) ?_ | with_reducible refine kalloc _ ?_ | with_reducible refine kdrew ?_ | with_reducible refine kcall (by with_reducible assumption) ?_))
              · (repeat (first | with_reducible exact Below.refl _ _ | with_reducible exact hW | with_reducible refine balloc ?_ _ | with_reducible refine bdrewN ?_ _ | with_reducible refine Below.drew ?_ | with_reducible refine bthen ?_ (by with_reducible assumption) | with_reducible refine Below.setCell ?_ (by first | (simp; done) | (simp; omega)) _))
          case' rest => obtain ⟨gA0, gA1, rfl, rfl, qA0, qA1, qA2, qA3, ⟨bA0, bA1, bA2, bA3, bA4, bA5⟩, hxA⟩ := hcut
          obtain ⟨wA, rfl⟩ : ∃ wA : World, wA = wc := ⟨_, rfl⟩
          have lA_1 : gA0 < wA.heap.size := World.block_lt_of_cell? wA ⟨gA0, 0, none⟩ qA0
          have lA_2 : gA1 < wA.heap.size := World.block_lt_of_cell? wA ⟨gA1, 0, none⟩ qA2
          have lA_3 : w.heap.size < wA.heap.size := World.block_lt_of_cell? wA ⟨w.heap.size, 0, none⟩ bA0
          have lA_4 : w.heap.size + 1 < wA.heap.size := World.block_lt_of_cell? wA ⟨w.heap.size + 1, 0, none⟩ bA2
          have lA_5 : w.heap.size + 1 + 1 < wA.heap.size := World.block_lt_of_cell? wA ⟨w.heap.size + 1 + 1, 0, none⟩ bA4
          rcases bool_ways (v2 == 0) with hd5 | hd5
          · have hd5n : (v2 != 0) = true := by rw [bne, hd5]; rfl
            have Hhd5p := Lib.hid (beq_eq_false_iff_ne.1 hd5)
            have d_2 := inv_range v2 hp
            have mu_1 := mulNN 30 30 900 (by decide) (a := v4) (b := (inv p v2)) (by omega) (by omega)
            have e_3 : IntKind.i64.wrap (v4 * (inv p v2)) = v4 * (inv p v2) := wrapI _ (by omega)
            have d_4 := modR (v4 * (inv p v2)) hp
            have t_4 : (v4 * (inv p v2)).tmod p = (v4 * (inv p v2)) % p := Int.tmod_eq_emod_of_nonneg (by omega)
            have hpos : p ≠ 0 := by omega
            go_wp2_with fail
            (refine region_tail 9 (by kernel_rfl) (by kernel_rfl) ?_; simp only [List.take_succ_cons, List.take_zero, List.drop_succ_cons, List.drop_zero]; repeat still_step)
            (still_call (stillOf (inverse_any _ _ _ hp (by omega) (by omega))); repeat still_step)
            refine wpStill_nil ?_
            have HB : rtB p a1 a2 b1 b2 c1 c2 = true := by simp [rtB, hd1, hd2, hd3, hd4, hd5]
            have HS : rtS p a1 a2 b1 b2 c1 c2 = 0 := by (simp only [rtS, ← Hv1.out, ← Hv2.out, ← Hv3.out, ← Hv4.out, ← Hv5.out] <;> simp [hd1, hd2, hd3, hd4, hd5])
            have HV := Lib.hid (show rtV1 p a1 a2 b1 b2 c1 c2 = (v4 * (inv p v2)) % p ∧ rtC p a1 a2 b1 b2 c1 c2 = 0 from by
              have HG := rt_good (a1 := a1) (a2 := a2) (b1 := b1) (b2 := b2) (c1 := c1) (c2 := c2) hp HB HS
              refine ⟨(HG.1).trans ?_, HG.2⟩
              all_goals (simp only [rtO, ← Hv1.out, ← Hv2.out, ← Hv3.out, ← Hv4.out, ← Hv5.out] <;> simp [hd1, hd2, hd3, hd4, hd5]))
            clear HB HS
            go_wp2
            (refine bodyPost_ret (v := .tuple #[.int .i64 (rtV1 p a1 a2 b1 b2 c1 c2), .int .i64 (rtC p a1 a2 b1 b2 c1 c2)]) (by simp [results, Try.results33, go_sem, HV.out.1, HV.out.2, *]) rfl ⟨?_, ?_⟩)
            · rfl
            · (repeat (first | with_reducible exact Below.refl _ _ | with_reducible exact hxA | with_reducible refine balloc ?_ _ | with_reducible refine bdrewN ?_ _ | with_reducible refine Below.drew ?_ | with_reducible refine bthen ?_ (by with_reducible assumption) | with_reducible refine Below.setCell ?_ (by first | (simp; done) | (simp; omega)) _))
          · have hd5n : (v2 != 0) = false := by rw [bne, hd5]; rfl
            have Hhd5p := Lib.hid (beq_iff_eq.1 hd5)
            have d_2 := inv_range v3 hp
            have mu_1 := mulNN 30 30 900 (by decide) (a := v5) (b := (inv p v3)) (by omega) (by omega)
            have e_3 : IntKind.i64.wrap (v5 * (inv p v3)) = v5 * (inv p v3) := wrapI _ (by omega)
            have d_4 := modR (v5 * (inv p v3)) hp
            have t_4 : (v5 * (inv p v3)).tmod p = (v5 * (inv p v3)) % p := Int.tmod_eq_emod_of_nonneg (by omega)
            have hpos : p ≠ 0 := by omega
            go_wp2_with fail
            (refine region_tail 9 (by kernel_rfl) (by kernel_rfl) ?_; simp only [List.take_succ_cons, List.take_zero, List.drop_succ_cons, List.drop_zero]; repeat still_step)
            (still_call (stillOf (inverse_any _ _ _ hp (by omega) (by omega))); repeat still_step)
            refine wpStill_nil ?_
            have HB : rtB p a1 a2 b1 b2 c1 c2 = true := by simp [rtB, hd1, hd2, hd3, hd4, hd5]
            have HS : rtS p a1 a2 b1 b2 c1 c2 = 0 := by (simp only [rtS, ← Hv1.out, ← Hv2.out, ← Hv3.out, ← Hv4.out, ← Hv5.out] <;> simp [hd1, hd2, hd3, hd4, hd5])
            have HV := Lib.hid (show rtV1 p a1 a2 b1 b2 c1 c2 = (v5 * (inv p v3)) % p ∧ rtC p a1 a2 b1 b2 c1 c2 = 0 from by
              have HG := rt_good (a1 := a1) (a2 := a2) (b1 := b1) (b2 := b2) (c1 := c1) (c2 := c2) hp HB HS
              refine ⟨(HG.1).trans ?_, HG.2⟩
              all_goals (simp only [rtO, ← Hv1.out, ← Hv2.out, ← Hv3.out, ← Hv4.out, ← Hv5.out] <;> simp [hd1, hd2, hd3, hd4, hd5]))
            clear HB HS
            go_wp2
            (refine bodyPost_ret (v := .tuple #[.int .i64 (rtV1 p a1 a2 b1 b2 c1 c2), .int .i64 (rtC p a1 a2 b1 b2 c1 c2)]) (by simp [results, Try.results33, go_sem, HV.out.1, HV.out.2, *]) rfl ⟨?_, ?_⟩)
            · rfl
            · (repeat (first | with_reducible exact Below.refl _ _ | with_reducible exact hxA | with_reducible refine balloc ?_ _ | with_reducible refine bdrewN ?_ _ | with_reducible refine Below.drew ?_ | with_reducible refine bthen ?_ (by with_reducible assumption) | with_reducible refine Below.setCell ?_ (by first | (simp; done) | (simp; omega)) _))
      · skip
        have HB : rtB p a1 a2 b1 b2 c1 c2 = true := by simp [rtB, hd1, hd2, hd3]
        have HS : rtS p a1 a2 b1 b2 c1 c2 = 5 := by (simp only [rtS] <;> simp [hd1, hd2, hd3])
        have HV := Lib.hid (rt_st (a1 := a1) (a2 := a2) (b1 := b1) (b2 := b2) (c1 := c1) (c2 := c2) hp HB HS (by decide))
        clear HB HS
        go_wp2
        (refine bodyPost_ret (v := .tuple #[.int .i64 (rtV1 p a1 a2 b1 b2 c1 c2), .int .i64 (rtC p a1 a2 b1 b2 c1 c2)]) (by simp [results, Try.results33, go_sem, HV.out.1, HV.out.2, *]) rfl ⟨?_, ?_⟩)
        · rfl
        · (repeat (first | with_reducible exact Below.refl _ _ | with_reducible refine balloc ?_ _ | with_reducible refine bdrewN ?_ _ | with_reducible refine Below.drew ?_ | with_reducible refine bthen ?_ (by with_reducible assumption) | with_reducible refine Below.setCell ?_ (by first | (simp; done) | (simp; omega)) _))

end Go.Proofs.Ytklfgelmieecmaa
