/-
  The model's MeetCircles.
-/
import Derived.Test.YtcebhcamegdmaaaFlatAt
import Derived.Test.YtcebhcamegdmaaaSpecPower
import Derived.Test.YtcebhcamegdmaaaSpecAt02
import Derived.Test.YtcebhcamegdmaaaSpecCircles
import Derived.Test.YtcebhcamegdmaaaPtCells
import Derived.Test.YtcebhcamegdmaaaGrow
import Derived.Test.YtcebhcamegdmaaaSlice
import Derived.Deep.RegionHeld3
import Derived.Deep.DeepCutAuto
import Derived.Test.YtcebhcamegdmaaaBaseMath
import Derived.Test.YtcebhcamegdmaaaKeepDrew
namespace Go.Proofs.Ytcebhcamegdmaaa
open Go.RowKit

set_option linter.unusedVariables false in
def mcB (p col k1 k2 k3 m1 m2 m3 : Int) : Bool := colB col && (numsIn p [k1, k2, k3] && numsIn p [m1, m2, m3])
set_option linter.unusedVariables false in
def mcS (p col k1 k2 k3 m1 m2 m3 : Int) : Int := 0
set_option linter.unusedVariables false in
def mcC (p col k1 k2 k3 m1 m2 m3 : Int) : Int := if isP p = true then (if mcB p col k1 k2 k3 m1 m2 m3 = true then mcS p col k1 k2 k3 m1 m2 m3 else 2) else 1
set_option linter.unusedVariables false in
def mcL (p col k1 k2 k3 m1 m2 m3 : Int) : List Int := if mcC p col k1 k2 k3 m1 m2 m3 = 0 then flat ((gridL (fun x y => qdr p col k1 k2 x y == k3) p.toNat p.toNat).filter fun x => pw p col m1 m2 m3 x.1 x.2 == 0) else []
theorem mc_zero {p col k1 k2 k3 m1 m2 m3 k : Int} (h : mcC p col k1 k2 k3 m1 m2 m3 = k) (hk : k ≠ 0) : mcL p col k1 k2 k3 m1 m2 m3 = [] ∧ mcC p col k1 k2 k3 m1 m2 m3 = k := ⟨if_neg fun e => hk (h.symm.trans e), h⟩
theorem mc_no {p col k1 k2 k3 m1 m2 m3 : Int} (h : isP p = false) : mcL p col k1 k2 k3 m1 m2 m3 = [] ∧ mcC p col k1 k2 k3 m1 m2 m3 = 1 := mc_zero (by simp [mcC, h]) (by decide)
theorem mc_out {p col k1 k2 k3 m1 m2 m3 : Int} (hp : isP p = true) (h : mcB p col k1 k2 k3 m1 m2 m3 = false) : mcL p col k1 k2 k3 m1 m2 m3 = [] ∧ mcC p col k1 k2 k3 m1 m2 m3 = 2 := mc_zero (by simp [mcC, hp, h]) (by decide)
theorem mc_st {p col k1 k2 k3 m1 m2 m3 k : Int} (hp : isP p = true) (h : mcB p col k1 k2 k3 m1 m2 m3 = true) (hs : mcS p col k1 k2 k3 m1 m2 m3 = k) (hk : k ≠ 0) : mcL p col k1 k2 k3 m1 m2 m3 = [] ∧ mcC p col k1 k2 k3 m1 m2 m3 = k := mc_zero (by simp [mcC, hp, h, hs]) hk
theorem mc_good {p col k1 k2 k3 m1 m2 m3 : Int} (hp : isP p = true) (h : mcB p col k1 k2 k3 m1 m2 m3 = true) (hs : mcS p col k1 k2 k3 m1 m2 m3 = 0) : mcL p col k1 k2 k3 m1 m2 m3 = flat ((gridL (fun x y => qdr p col k1 k2 x y == k3) p.toNat p.toNat).filter fun x => pw p col m1 m2 m3 x.1 x.2 == 0) ∧ mcC p col k1 k2 k3 m1 m2 m3 = 0 := by
  have h' : mcC p col k1 k2 k3 m1 m2 m3 = 0 := by simp [mcC, hp, h, hs]
  exact ⟨if_pos h', h'⟩

set_option linter.unusedSimpArgs false in
set_option maxRecDepth 20000 in
set_option maxHeartbeats 4000000 in
theorem specMeetCircles_any (p col k1 k2 k3 m1 m2 m3 : Int) (w : World) :
    Calls Try.prog 32 #[.int .i64 p, .int .i64 col, .agg #[.int .i64 k1, .int .i64 k2, .int .i64 k3], .agg #[.int .i64 m1, .int .i64 m2, .int .i64 m3]] w fun e w' =>
      SlicePost 26 2 (mcL p col k1 k2 k3 m1 m2 m3) (mcC p col k1 k2 k3 m1 m2 m3) w e w' := by
  go_enter Try.func32, Try.ntmps32
  rcases bool_ways (isP p) with hd1 | hd1
  · skip
    have c_1 : codeOf p (colB col && numsIn p [k1, k2, k3] && numsIn p [m1, m2, m3]) = 1 := codeOf_no hd1
    have cN : ∀ b, codeOf p b = 1 := fun b => codeOf_no hd1
    go_wp2_with fail
    refine Calls.mono (specCircles2 _ _ _ _ _ _ _ _ _ _ (by first | rfl | (simp; done))) ?_
    rintro e w1 ⟨rfl, hB1⟩
    (obtain ⟨hB1c, hB1f⟩ := bcell hB1; have hB1s := hB1.size; (try simp at hB1s); (try have hB1q1 := Nat.lt_of_succ_le hB1s); (try have hB1q2 := Nat.lt_of_succ_lt hB1q1); (try have hB1q3 := Nat.lt_of_succ_lt hB1q2); (try have hB1zw0 : w.heap.size < w1.heap.size := (by omega)); (try have hB1zw1 : w.heap.size + 1 < w1.heap.size := (by omega)); (try have hB1zw2 : w.heap.size + 1 + 1 < w1.heap.size := (by omega)); (try have hB1zw3 : w.heap.size + 1 + 1 + 1 < w1.heap.size := (by omega)); (try have hB1zw4 : w.heap.size + 1 + 1 + 1 + 1 < w1.heap.size := (by omega)))
    have HV := Lib.hid (mc_no (col := col) (k1 := k1) (k2 := k2) (k3 := k3) (m1 := m1) (m2 := m2) (m3 := m3) hd1)
    go_wp2
    (refine bodyPost_ret (v := .tuple #[.slice none 0 0, .int .i64 (mcC p col k1 k2 k3 m1 m2 m3)]) (by simp [results, Try.results32, go_sem, HV.out.2]) rfl (slicePost_nil HV.out.1 ?_))
    (repeat (first | with_reducible exact Below.refl _ _ | with_reducible refine balloc ?_ _ | with_reducible refine bdrewN ?_ _ | with_reducible refine Below.drew ?_ | with_reducible refine bthen ?_ (by with_reducible assumption) | with_reducible refine Below.setCell ?_ (by first | (simp; done) | (simp; omega)) _))
  · have hp := hd1
    have hr := isP_range hp
    rcases bool_ways (colB col) with hd2 | hd2
    · skip
      have c_1 : codeOf p (colB col && numsIn p [k1, k2, k3] && numsIn p [m1, m2, m3]) = 2 := codeOf_out hp (by simp [hd2])
      have cT : codeOf p true = 0 := codeOf_in hp rfl
      have cF : codeOf p false = 2 := codeOf_out hp rfl
      go_wp2_with fail
      refine Calls.mono (specCircles2 _ _ _ _ _ _ _ _ _ _ (by first | rfl | (simp; done))) ?_
      rintro e w1 ⟨rfl, hB1⟩
      (obtain ⟨hB1c, hB1f⟩ := bcell hB1; have hB1s := hB1.size; (try simp at hB1s); (try have hB1q1 := Nat.lt_of_succ_le hB1s); (try have hB1q2 := Nat.lt_of_succ_lt hB1q1); (try have hB1q3 := Nat.lt_of_succ_lt hB1q2); (try have hB1zw0 : w.heap.size < w1.heap.size := (by omega)); (try have hB1zw1 : w.heap.size + 1 < w1.heap.size := (by omega)); (try have hB1zw2 : w.heap.size + 1 + 1 < w1.heap.size := (by omega)); (try have hB1zw3 : w.heap.size + 1 + 1 + 1 < w1.heap.size := (by omega)); (try have hB1zw4 : w.heap.size + 1 + 1 + 1 + 1 < w1.heap.size := (by omega)))
      have HV := Lib.hid (mc_out (col := col) (k1 := k1) (k2 := k2) (k3 := k3) (m1 := m1) (m2 := m2) (m3 := m3) hp (by simp [mcB, hd1, hd2]))
      go_wp2
      (refine bodyPost_ret (v := .tuple #[.slice none 0 0, .int .i64 (mcC p col k1 k2 k3 m1 m2 m3)]) (by simp [results, Try.results32, go_sem, HV.out.2]) rfl (slicePost_nil HV.out.1 ?_))
      (repeat (first | with_reducible exact Below.refl _ _ | with_reducible refine balloc ?_ _ | with_reducible refine bdrewN ?_ _ | with_reducible refine Below.drew ?_ | with_reducible refine bthen ?_ (by with_reducible assumption) | with_reducible refine Below.setCell ?_ (by first | (simp; done) | (simp; omega)) _))
    · have hc := hd2
      have hcr := colB_range hc
      rcases bool_ways (numsIn p [k1, k2, k3]) with hd3 | hd3
      · skip
        have c_1 : codeOf p (colB col && numsIn p [k1, k2, k3] && numsIn p [m1, m2, m3]) = 2 := codeOf_out hp (by simp [hd2, hd3])
        have cT : codeOf p true = 0 := codeOf_in hp rfl
        have cF : codeOf p false = 2 := codeOf_out hp rfl
        go_wp2_with fail
        refine Calls.mono (specCircles2 _ _ _ _ _ _ _ _ _ _ (by first | rfl | (simp; done))) ?_
        rintro e w1 ⟨rfl, hB1⟩
        (obtain ⟨hB1c, hB1f⟩ := bcell hB1; have hB1s := hB1.size; (try simp at hB1s); (try have hB1q1 := Nat.lt_of_succ_le hB1s); (try have hB1q2 := Nat.lt_of_succ_lt hB1q1); (try have hB1q3 := Nat.lt_of_succ_lt hB1q2); (try have hB1zw0 : w.heap.size < w1.heap.size := (by omega)); (try have hB1zw1 : w.heap.size + 1 < w1.heap.size := (by omega)); (try have hB1zw2 : w.heap.size + 1 + 1 < w1.heap.size := (by omega)); (try have hB1zw3 : w.heap.size + 1 + 1 + 1 < w1.heap.size := (by omega)); (try have hB1zw4 : w.heap.size + 1 + 1 + 1 + 1 < w1.heap.size := (by omega)))
        have HV := Lib.hid (mc_out (col := col) (k1 := k1) (k2 := k2) (k3 := k3) (m1 := m1) (m2 := m2) (m3 := m3) hp (by simp [mcB, hd1, hd2, hd3]))
        go_wp2
        (refine bodyPost_ret (v := .tuple #[.slice none 0 0, .int .i64 (mcC p col k1 k2 k3 m1 m2 m3)]) (by simp [results, Try.results32, go_sem, HV.out.2]) rfl (slicePost_nil HV.out.1 ?_))
        (repeat (first | with_reducible exact Below.refl _ _ | with_reducible refine balloc ?_ _ | with_reducible refine bdrewN ?_ _ | with_reducible refine Below.drew ?_ | with_reducible refine bthen ?_ (by with_reducible assumption) | with_reducible refine Below.setCell ?_ (by first | (simp; done) | (simp; omega)) _))
      · have hd3q := nums3 hd3
        rcases bool_ways (numsIn p [m1, m2, m3]) with hd4 | hd4
        · skip
          have c_1 : codeOf p (colB col && numsIn p [k1, k2, k3] && numsIn p [m1, m2, m3]) = 2 := codeOf_out hp (by simp [hd2, hd3, hd4])
          have cT : codeOf p true = 0 := codeOf_in hp rfl
          have cF : codeOf p false = 2 := codeOf_out hp rfl
          go_wp2_with fail
          refine Calls.mono (specCircles2 _ _ _ _ _ _ _ _ _ _ (by first | rfl | (simp; done))) ?_
          rintro e w1 ⟨rfl, hB1⟩
          (obtain ⟨hB1c, hB1f⟩ := bcell hB1; have hB1s := hB1.size; (try simp at hB1s); (try have hB1q1 := Nat.lt_of_succ_le hB1s); (try have hB1q2 := Nat.lt_of_succ_lt hB1q1); (try have hB1q3 := Nat.lt_of_succ_lt hB1q2); (try have hB1zw0 : w.heap.size < w1.heap.size := (by omega)); (try have hB1zw1 : w.heap.size + 1 < w1.heap.size := (by omega)); (try have hB1zw2 : w.heap.size + 1 + 1 < w1.heap.size := (by omega)); (try have hB1zw3 : w.heap.size + 1 + 1 + 1 < w1.heap.size := (by omega)); (try have hB1zw4 : w.heap.size + 1 + 1 + 1 + 1 < w1.heap.size := (by omega)))
          have HV := Lib.hid (mc_out (col := col) (k1 := k1) (k2 := k2) (k3 := k3) (m1 := m1) (m2 := m2) (m3 := m3) hp (by simp [mcB, hd1, hd2, hd3, hd4]))
          go_wp2
          (refine bodyPost_ret (v := .tuple #[.slice none 0 0, .int .i64 (mcC p col k1 k2 k3 m1 m2 m3)]) (by simp [results, Try.results32, go_sem, HV.out.2]) rfl (slicePost_nil HV.out.1 ?_))
          (repeat (first | with_reducible exact Below.refl _ _ | with_reducible refine balloc ?_ _ | with_reducible refine bdrewN ?_ _ | with_reducible refine Below.drew ?_ | with_reducible refine bthen ?_ (by with_reducible assumption) | with_reducible refine Below.setCell ?_ (by first | (simp; done) | (simp; omega)) _))
        · have hd4q := nums3 hd4
          have c_1 : codeOf p (colB col && numsIn p [k1, k2, k3] && numsIn p [m1, m2, m3]) = 0 := codeOf_in hp (by simp [hd2, hd3, hd4])
          have cT : codeOf p true = 0 := codeOf_in hp rfl
          go_wp2_with fail
          refine Calls.mono (specCircles2 _ _ _ _ _ _ _ _ _ _ (by first | rfl | (simp; done))) ?_
          rintro e w1 ⟨rfl, hB1⟩
          (obtain ⟨hB1c, hB1f⟩ := bcell hB1; have hB1s := hB1.size; (try simp at hB1s); (try have hB1q1 := Nat.lt_of_succ_le hB1s); (try have hB1q2 := Nat.lt_of_succ_lt hB1q1); (try have hB1q3 := Nat.lt_of_succ_lt hB1q2); (try have hB1zw0 : w.heap.size < w1.heap.size := (by omega)); (try have hB1zw1 : w.heap.size + 1 < w1.heap.size := (by omega)); (try have hB1zw2 : w.heap.size + 1 + 1 < w1.heap.size := (by omega)); (try have hB1zw3 : w.heap.size + 1 + 1 + 1 < w1.heap.size := (by omega)); (try have hB1zw4 : w.heap.size + 1 + 1 + 1 + 1 < w1.heap.size := (by omega)))
          have HB : mcB p col k1 k2 k3 m1 m2 m3 = true := by simp [mcB, hd1, hd2, hd3, hd4]
          have HS : mcS p col k1 k2 k3 m1 m2 m3 = 0 := by rfl
          have HV := Lib.hid (mc_good (col := col) (k1 := k1) (k2 := k2) (k3 := k3) (m1 := m1) (m2 := m2) (m3 := m3) hp HB HS)
          clear HB HS
          have ka0 : w1.cell? ⟨w.heap.size, 0, none⟩ = some (.int .i64 k1) := by (first | with_reducible assumption | (repeat (first | with_reducible assumption | ((with_reducible refine kfresh ?_ ?_) <;> (first | with_reducible rfl | (simp; done))) | ((with_reducible refine ksameS ?_); focus ((repeat (first | with_reducible exact kis_of (by with_reducible assumption) | with_reducible refine kis_set ?_ | ((with_reducible refine kis_new ?_ ?_) <;> (first | with_reducible rfl | rfl | (simp; done))) | with_reducible refine kis_alloc _ ?_ | with_reducible refine kis_drew ?_ | with_reducible refine kis_call (by with_reducible assumption) ?_ | with_reducible exact kis_of (kcall (by with_reducible assumption) (by with_reducible assumption)))); done)) | with_reducible refine kother (by decide) ?_ | with_reducible refine kset (by first | omega | (simp; done) | (simp; omega)) ?_ | with_reducible refine kalloc _ ?_ | with_reducible refine kdrew ?_ | with_reducible refine kcall (by with_reducible assumption) ?_)))
          have ka1 : w1.cell? ⟨w.heap.size, 1, none⟩ = some (.int .i64 k2) := by (first | with_reducible assumption | (repeat (first | with_reducible assumption | ((with_reducible refine kfresh ?_ ?_) <;> (first | with_reducible rfl | (simp; done))) | ((with_reducible refine ksameS ?_); focus ((repeat (first | with_reducible exact kis_of (by with_reducible assumption) | with_reducible refine kis_set ?_ | ((with_reducible refine kis_new ?_ ?_) <;> (first | with_reducible rfl | rfl | (simp; done))) | with_reducible refine kis_alloc _ ?_ | with_reducible refine kis_drew ?_ | with_reducible refine kis_call (by with_reducible assumption) ?_ | with_reducible exact kis_of (kcall (by with_reducible assumption) (by with_reducible assumption)))); done)) | with_reducible refine kother (by decide) ?_ | with_reducible refine kset (by first | omega | (simp; done) | (simp; omega)) ?_ | with_reducible refine kalloc _ ?_ | with_reducible refine kdrew ?_ | with_reducible refine kcall (by with_reducible assumption) ?_)))
          have ka2 : w1.cell? ⟨w.heap.size, 2, none⟩ = some (.int .i64 k3) := by (first | with_reducible assumption | (repeat (first | with_reducible assumption | ((with_reducible refine kfresh ?_ ?_) <;> (first | with_reducible rfl | (simp; done))) | ((with_reducible refine ksameS ?_); focus ((repeat (first | with_reducible exact kis_of (by with_reducible assumption) | with_reducible refine kis_set ?_ | ((with_reducible refine kis_new ?_ ?_) <;> (first | with_reducible rfl | rfl | (simp; done))) | with_reducible refine kis_alloc _ ?_ | with_reducible refine kis_drew ?_ | with_reducible refine kis_call (by with_reducible assumption) ?_ | with_reducible exact kis_of (kcall (by with_reducible assumption) (by with_reducible assumption)))); done)) | with_reducible refine kother (by decide) ?_ | with_reducible refine kset (by first | omega | (simp; done) | (simp; omega)) ?_ | with_reducible refine kalloc _ ?_ | with_reducible refine kdrew ?_ | with_reducible refine kcall (by with_reducible assumption) ?_)))
          have ka3 : w1.cell? ⟨w.heap.size + 1, 0, none⟩ = some (.int .i64 m1) := by (first | with_reducible assumption | (repeat (first | with_reducible assumption | ((with_reducible refine kfresh ?_ ?_) <;> (first | with_reducible rfl | (simp; done))) | ((with_reducible refine ksameS ?_); focus ((repeat (first | with_reducible exact kis_of (by with_reducible assumption) | with_reducible refine kis_set ?_ | ((with_reducible refine kis_new ?_ ?_) <;> (first | with_reducible rfl | rfl | (simp; done))) | with_reducible refine kis_alloc _ ?_ | with_reducible refine kis_drew ?_ | with_reducible refine kis_call (by with_reducible assumption) ?_ | with_reducible exact kis_of (kcall (by with_reducible assumption) (by with_reducible assumption)))); done)) | with_reducible refine kother (by decide) ?_ | with_reducible refine kset (by first | omega | (simp; done) | (simp; omega)) ?_ | with_reducible refine kalloc _ ?_ | with_reducible refine kdrew ?_ | with_reducible refine kcall (by with_reducible assumption) ?_)))
          have ka4 : w1.cell? ⟨w.heap.size + 1, 1, none⟩ = some (.int .i64 m2) := by (first | with_reducible assumption | (repeat (first | with_reducible assumption | ((with_reducible refine kfresh ?_ ?_) <;> (first | with_reducible rfl | (simp; done))) | ((with_reducible refine ksameS ?_); focus ((repeat (first | with_reducible exact kis_of (by with_reducible assumption) | with_reducible refine kis_set ?_ | ((with_reducible refine kis_new ?_ ?_) <;> (first | with_reducible rfl | rfl | (simp; done))) | with_reducible refine kis_alloc _ ?_ | with_reducible refine kis_drew ?_ | with_reducible refine kis_call (by with_reducible assumption) ?_ | with_reducible exact kis_of (kcall (by with_reducible assumption) (by with_reducible assumption)))); done)) | with_reducible refine kother (by decide) ?_ | with_reducible refine kset (by first | omega | (simp; done) | (simp; omega)) ?_ | with_reducible refine kalloc _ ?_ | with_reducible refine kdrew ?_ | with_reducible refine kcall (by with_reducible assumption) ?_)))
          have ka5 : w1.cell? ⟨w.heap.size + 1, 2, none⟩ = some (.int .i64 m3) := by (first | with_reducible assumption | (repeat (first | with_reducible assumption | ((with_reducible refine kfresh ?_ ?_) <;> (first | with_reducible rfl | (simp; done))) | ((with_reducible refine ksameS ?_); focus ((repeat (first | with_reducible exact kis_of (by with_reducible assumption) | with_reducible refine kis_set ?_ | ((with_reducible refine kis_new ?_ ?_) <;> (first | with_reducible rfl | rfl | (simp; done))) | with_reducible refine kis_alloc _ ?_ | with_reducible refine kis_drew ?_ | with_reducible refine kis_call (by with_reducible assumption) ?_ | with_reducible exact kis_of (kcall (by with_reducible assumption) (by with_reducible assumption)))); done)) | with_reducible refine kother (by decide) ?_ | with_reducible refine kset (by first | omega | (simp; done) | (simp; omega)) ?_ | with_reducible refine kalloc _ ?_ | with_reducible refine kdrew ?_ | with_reducible refine kcall (by with_reducible assumption) ?_)))
          have hl0 : w.heap.size < w1.heap.size := World.block_lt_of_cell? w1 ⟨w.heap.size, 0, none⟩ ka0
          have hl1 : w.heap.size + 1 < w1.heap.size := World.block_lt_of_cell? w1 ⟨w.heap.size + 1, 0, none⟩ ka3
          have hW0 : Below w.heap.size w w1 := by (repeat (first | exact Below.refl _ _ | refine balloc ?_ _ | refine bdrewN ?_ _ | refine Below.drew ?_ | refine bthen ?_ hB1 | refine bthen ?_ hB2 | refine bthen ?_ hB3 | refine bthen ?_ hB4 | refine Below.setCell ?_ (by first | (simp; done) | (simp; omega)) _))
          have rk := nums3 hd3
          have rm := nums3 hd4
          obtain ⟨i0, hi, hz0, hz1, hz2⟩ := info_parts infoPt
          (go_wp2_with fail; refine Calls.mono (specAt02_any p col k1 k2 k3 _ hp hc (by omega) (by omega)) ?_; rintro e wz ⟨vz, rfl, hoz, hBz⟩)
          have hgm := fun (z : Int × Int) (hz : z ∈ gridL (fun x y => qdr p col k1 k2 x y == k3) p.toNat p.toNat) => grid_mem hz
          have hgl : (gridL (fun x y => qdr p col k1 k2 x y == k3) p.toNat p.toNat).length ≤ 961 := Nat.le_trans (gridL_le _ _ _) (Nat.le_trans (Nat.mul_le_mul (by omega : p.toNat ≤ 31) (by omega : p.toNat ≤ 31)) (by decide))
          obtain ⟨ps, hps⟩ : ∃ ps : List (Int × Int), ps = gridL (fun x y => qdr p col k1 k2 x y == k3) p.toNat p.toNat := ⟨_, rfl⟩
          rw [← hps] at hoz hgm hgl HV
          have HPS := Lib.hid hps
          clear hps
          have HGM := Lib.hid (show ∀ z ∈ ps, ((0 ≤ z.1 ∧ z.1 ≤ 31) ∧ (0 ≤ z.2 ∧ z.2 ≤ 31)) ∧ z.1 < p ∧ z.2 < p from fun z hz => by have := hgm z hz; omega)
          clear hgm
          obtain ⟨ft, hft⟩ : ∃ ft : Int × Int → Bool, ft = fun x => pw p col m1 m2 m3 x.1 x.2 == 0 := ⟨_, rfl⟩
          rw [← hft] at HV
          have HFT := Lib.hid (show ∀ x : Int × Int, ft x = (pw p col m1 m2 m3 x.1 x.2 == 0) from fun x => by rw [hft])
          clear hft
          obtain ⟨ao, cz, rfl, hnz, hsh⟩ := own_shape hoz
          have HSH := Lib.hid hsh
          clear hsh
          have hbz := hBz.size
          have hlz : w1.heap.size ≤ wz.heap.size := by omega
          have kz0 := (cell_back hBz (by omega) 0).trans ka0
          have kz1 := (cell_back hBz (by omega) 1).trans ka1
          have kz2 := (cell_back hBz (by omega) 2).trans ka2
          have kz3 := (cell_back hBz (by omega) 0).trans ka3
          have kz4 := (cell_back hBz (by omega) 1).trans ka4
          have kz5 := (cell_back hBz (by omega) 2).trans ka5
          go_wp2_with fail
          go_loopw [12, 13] (fun v i wr => ∃ j : Nat, j ≤ ps.length ∧ i = .int .i64 j ∧ wr.ownsRow wz.heap.size 26 2 v ((ps.take j).filter ft).length (ints (flat ((ps.take j).filter ft))) ∧ Below wz.heap.size wz wr) (fun _ i _ => ps.length - (intOf i).toNat)
          case atStart => exact ⟨0, by omega, rfl, by simpa [flat] using (own_lit0 (base := wz.heap.size) (b := wz.heap.size) wz 26 2 (Nat.le_refl _) rfl), by (repeat (first | with_reducible exact Below.refl _ _ | with_reducible refine balloc ?_ _ | with_reducible refine bdrewN ?_ _ | with_reducible refine Below.drew ?_ | with_reducible refine bthen ?_ (by with_reducible assumption) | with_reducible refine Below.setCell ?_ (by first | (simp; done) | (simp; omega)) _))⟩
          case round =>
            obtain ⟨j, hj, rfl, hown, hbel⟩ := hrel
            have hle := sift_le ft ps j
            have hsr := hbel.size
            by_cases hlt : j < ps.length
            · obtain ⟨g, rfl, hg0, hgl'⟩ := HSH.out (by omega)
              have hozr := own_below hoz hbel (fun g' e => by cases e; exact hgl')
              have hget := flat_getD ps j hlt
              have hmem := HGM.out ps[j] (List.getElem_mem hlt)
              have c0 := (own_cell hozr (j := j * 2) (by omega)).trans (by rw [hget.1])
              have c1 := (own_cell hozr (j := j * 2 + 1) (by omega)).trans (by rw [hget.2])
              have hYes := sift_yes (f := ft) (xs := ps) hlt
              have hNo := sift_no (f := ft) (xs := ps) hlt
              have hft := HFT.out ps[j]
              obtain ⟨x, hx⟩ : ∃ x, x = ps[j] := ⟨_, rfl⟩
              rw [← hx] at c0 c1 hYes hNo hft hmem
              clear hx hget hozr
              obtain ⟨x1, x2⟩ := x
              simp only at c0 c1 hft hmem
              obtain ⟨bo, hbo⟩ : ∃ b, b = ft (x1, x2) := ⟨_, rfl⟩
              rw [← hbo] at hYes hNo hft
              clear hbo
              have kk0 := (cell_old hbel (by omega) 0).trans kz0
              have kk1 := (cell_old hbel (by omega) 1).trans kz1
              have kk2 := (cell_old hbel (by omega) 2).trans kz2
              have kk3 := (cell_old hbel (by omega) 0).trans kz3
              have kk4 := (cell_old hbel (by omega) 1).trans kz4
              have kk5 := (cell_old hbel (by omega) 2).trans kz5
              obtain ⟨z, hz⟩ : ∃ z, z = pw p col m1 m2 m3 x1 x2 := ⟨_, rfl⟩
              rw [← hz] at hft
              have hcall := fun w' => specPower_any p col m1 m2 m3 x1 x2 w' hp hc rm.1 rm.2.1 rm.2.2 (by omega) (by omega)
              rw [← hz] at hcall
              clear hz
              have HC := Lib.hid hcall
              clear hcall
              have hgr : g < wr.heap.size := by omega
              have hjn : (j : Int) < (ps.length : Int) := by omega
              have q0 : ∀ W : World, Below wr.heap.size wr W → W.cell? ⟨w.heap.size, 0, none⟩ = some (.int .i64 k1) := fun W h => bholds kk0 h
              have q1 : ∀ W : World, Below wr.heap.size wr W → W.cell? ⟨w.heap.size, 1, none⟩ = some (.int .i64 k2) := fun W h => bholds kk1 h
              have q2 : ∀ W : World, Below wr.heap.size wr W → W.cell? ⟨w.heap.size, 2, none⟩ = some (.int .i64 k3) := fun W h => bholds kk2 h
              have q3 : ∀ W : World, Below wr.heap.size wr W → W.cell? ⟨w.heap.size + 1, 0, none⟩ = some (.int .i64 m1) := fun W h => bholds kk3 h
              have q4 : ∀ W : World, Below wr.heap.size wr W → W.cell? ⟨w.heap.size + 1, 1, none⟩ = some (.int .i64 m2) := fun W h => bholds kk4 h
              have q5 : ∀ W : World, Below wr.heap.size wr W → W.cell? ⟨w.heap.size + 1, 2, none⟩ = some (.int .i64 m3) := fun W h => bholds kk5 h
              have qc0 : ∀ W : World, Below wr.heap.size wr W → W.cell? ⟨g, j * 2, none⟩ = some (.int .i64 x1) := fun W h => bholds c0 h
              have qc1 : ∀ W : World, Below wr.heap.size wr W → W.cell? ⟨g, j * 2 + 1, none⟩ = some (.int .i64 x2) := fun W h => bholds c1 h
              cases bo
              · have HN := Lib.hid (hNo rfl)
                clear hYes hNo
                have hzb := hft.symm
                clear hft
                go_upto_region 8 with fail
                go_region_held3 (fun W => Below wr.heap.size wr W) (first | with_reducible assumption | with_reducible exact bthen (by with_reducible assumption) hB | with_reducible exact bfromdrew hB | with_reducible exact balloc (by with_reducible assumption) _ | with_reducible exact Below.drew (balloc (bundrew (by with_reducible assumption)) _) | with_reducible exact Below.drew (Below.refl _ _) | with_reducible exact Below.refl _ _ | with_reducible exact Below.drew (by with_reducible assumption)) (first | (go_at_call 62; refine Calls.mono (HC.out _) ?_; rintro e wq ⟨rfl, hB⟩; have hBs := hB.size))
                all_goals
                  have hb1 : Below wr.heap.size wr wq := by first | with_reducible assumption | exact bundrew (by with_reducible assumption) | exact bthen (Below.refl _ _) hB | (repeat (first | with_reducible exact Below.refl _ _ | with_reducible refine balloc ?_ _ | with_reducible refine bdrewN ?_ _ | with_reducible refine Below.drew ?_ | with_reducible refine bthen ?_ (by with_reducible assumption) | with_reducible refine Below.setCell ?_ (by first | (simp; done) | (simp; omega)) _))
                  have hs1 := hb1.size
                  have ho1 := own_call hown hb1
                  have hb2 : Below wz.heap.size wz wq := hbel.trans (hb1.mono (by omega))
                  have m0 := (cell_back hb1 (by omega) 0).trans kk0
                  have m1 := (cell_back hb1 (by omega) 1).trans kk1
                  have m2 := (cell_back hb1 (by omega) 2).trans kk2
                  have m3 := (cell_back hb1 (by omega) 0).trans kk3
                  have m4 := (cell_back hb1 (by omega) 1).trans kk4
                  have m5 := (cell_back hb1 (by omega) 2).trans kk5
                  have d0 := (cell_back hb1 hgr (j * 2)).trans c0
                  have d1 := (cell_back hb1 hgr (j * 2 + 1)).trans c1
                  have hgq : g < wq.heap.size := by omega
                  go_wp2
                  go_roundw
                  case rel => exact ⟨j + 1, by omega, by go_num, by rw [HN.out]; exact ho1, hb2⟩
                  case measure => simp [intOf]; omega
              · have HN := Lib.hid (hYes rfl)
                clear hYes hNo
                have hzb := hft.symm
                clear hft
                go_upto_region 8 with fail
                go_region_held3 (fun W => Below wr.heap.size wr W) (first | with_reducible assumption | with_reducible exact bthen (by with_reducible assumption) hB | with_reducible exact bfromdrew hB | with_reducible exact balloc (by with_reducible assumption) _ | with_reducible exact Below.drew (balloc (bundrew (by with_reducible assumption)) _) | with_reducible exact Below.drew (Below.refl _ _) | with_reducible exact Below.refl _ _ | with_reducible exact Below.drew (by with_reducible assumption)) (first | (go_at_call 62; refine Calls.mono (HC.out _) ?_; rintro e wq ⟨rfl, hB⟩; have hBs := hB.size))
                all_goals
                  have hb1 : Below wr.heap.size wr wq := by first | with_reducible assumption | exact bundrew (by with_reducible assumption) | exact bthen (Below.refl _ _) hB | (repeat (first | with_reducible exact Below.refl _ _ | with_reducible refine balloc ?_ _ | with_reducible refine bdrewN ?_ _ | with_reducible refine Below.drew ?_ | with_reducible refine bthen ?_ (by with_reducible assumption) | with_reducible refine Below.setCell ?_ (by first | (simp; done) | (simp; omega)) _))
                  have hs1 := hb1.size
                  have ho1 := own_call hown hb1
                  have hb2 : Below wz.heap.size wz wq := hbel.trans (hb1.mono (by omega))
                  have m0 := (cell_back hb1 (by omega) 0).trans kk0
                  have m1 := (cell_back hb1 (by omega) 1).trans kk1
                  have m2 := (cell_back hb1 (by omega) 2).trans kk2
                  have m3 := (cell_back hb1 (by omega) 0).trans kk3
                  have m4 := (cell_back hb1 (by omega) 1).trans kk4
                  have m5 := (cell_back hb1 (by omega) 2).trans kk5
                  have d0 := (cell_back hb1 hgr (j * 2)).trans c0
                  have d1 := (cell_back hb1 hgr (j * 2 + 1)).trans c1
                  have hgq : g < wq.heap.size := by omega
                  go_wp2_with (at_builtin; refine wpList_append_own _ rfl _ _ 45 rfl wz.heap.size 26 i0 (.agg #[.int .i64 0, .int .i64 0]) 2 16 Try.underlying45 hi hz0 hz1 hz2 rfl (by decide) _ _ _ rfl (ho1.alloc _) ⟨wq.heap.size, 0, none⟩ 1 1 [.int .i64 x1, .int .i64 x2] rfl rfl (pt_cells rfl) (pt_one _ _) ?c3 ?c4 ?c5 ?_)
                  case c3 => unfold maxLen; omega
                  case c4 => omega
                  case c5 => simp; omega
                  intro v' w3 hown' hgrow _
                  have hb3 : Below wz.heap.size wz w3 := (hb2.alloc (by omega) _).grown hgrow (by simp; omega) (fun g' hg' => (ho1.lt g' hg').1)
                  have HO := Lib.hid (show w3.ownsRow wz.heap.size 26 2 v' ((ps.take (j + 1)).filter ft).length (ints (flat ((ps.take (j + 1)).filter ft))) from by rw [HN.out, flat_append, ints_append, List.length_append]; exact hown')
                  clear hown' hgrow ho1 hown hbel hb2
                  go_wp2
                  go_roundw
                  case rel => exact ⟨j + 1, by omega, by go_num, HO.out, hb3⟩
                  case measure => simp [intOf]; omega
            · have ej : j = ps.length := by omega
              subst ej
              rw [List.take_length] at hown
              have HO := Lib.hid hown
              clear hown
              go_wp2
              (refine bodyPost_ret (v := .tuple #[u12, .int .i64 (mcC p col k1 k2 k3 m1 m2 m3)]) (by simp [results, Try.results32, go_sem, HV.out.2]) rfl (slicePost_mk (by rw [HV.out.1]; exact own_base HO.out (by have := hW0.size; omega)) ((hW0.trans (hBz.mono hW0.size)).trans (hbel.mono (by have := hW0.size; omega)))))

end Go.Proofs.Ytcebhcamegdmaaa
