/-
  MeetCircles: the program's and the model's.
-/
import Derived.Test.YtcebhcamegdmaaaSMeetCircles
import Derived.Test.YtcebhcamegdmaaaSiftMath
import Derived.Test.YtcebhcamegdmaaaPointsOfCircle
import Derived.Test.YtcebhcamegdmaaaImplCircles
import Derived.Test.YtcebhcamegdmaaaImplCol
import Derived.Test.YtcebhcamegdmaaaCode
import Derived.Deep.RegionHeld3
import Derived.Deep.DeepCutAuto
import Derived.Test.YtcebhcamegdmaaaBaseMath
namespace Go.Proofs.Ytcebhcamegdmaaa
open Go.RowKit

theorem mc_eq {p col k1 k2 k3 m1 m2 m3 : Int} (hp : isP p = true) (hm : 0 ≤ m3 ∧ m3 < p) :
    flat ((gridL (fun x y => qdr p col k1 k2 x y == k3) p.toNat p.toNat).filter fun x => pw p col m1 m2 m3 x.1 x.2 == 0) = flat (flC p col k1 k2 k3 (sfC p col m1 m2 m3 (allF p.toNat p.toNat 0))) := by
  rw [flC_sfC hp, ← grid_filter (fun x y => onC p col m1 m2 m3 x y), sift_both (fun x y => onC p col m1 m2 m3 x y) (fun x y => onC p col k1 k2 k3 x y)]
  congr 1
  refine List.filter_congr fun x _ => ?_
  exact pw_on hp hm

set_option linter.unusedSimpArgs false in
set_option maxRecDepth 20000 in
set_option maxHeartbeats 4000000 in
theorem implMeetCircles_any (p col k1 k2 k3 m1 m2 m3 : Int) (w : World) :
    Calls Try.prog 33 #[.int .i64 p, .int .i64 col, .agg #[.int .i64 k1, .int .i64 k2, .int .i64 k3], .agg #[.int .i64 m1, .int .i64 m2, .int .i64 m3]] w fun e w' =>
      SlicePost 26 2 (mcL p col k1 k2 k3 m1 m2 m3) (mcC p col k1 k2 k3 m1 m2 m3) w e w' := by
  go_enter Try.func33, Try.ntmps33
  rcases bool_ways (colB col) with hd1 | hd1
  · skip
    rcases bool_ways (isP p) with hd2 | hd2
    · skip
      have c_1 : codeOf p false = 1 := codeOf_no hd2
      have cN : ∀ b, codeOf p b = 1 := fun b => codeOf_no hd2
      go_wp2_with fail
      refine Calls.mono (isColour_any _ _) ?_
      rintro e w' ⟨rfl, rfl⟩
      go_wp2_with fail
      refine Calls.mono (codeFor_any _ _ _) ?_
      rintro e w' ⟨rfl, rfl⟩
      have HV := Lib.hid (mc_no (col := col) (k1 := k1) (k2 := k2) (k3 := k3) (m1 := m1) (m2 := m2) (m3 := m3) hd2)
      go_wp2
      (refine bodyPost_ret (v := .tuple #[.slice none 0 0, .int .i64 (mcC p col k1 k2 k3 m1 m2 m3)]) (by simp [results, Try.results33, go_sem, HV.out.2]) rfl (slicePost_nil HV.out.1 ?_))
      (repeat (first | with_reducible exact Below.refl _ _ | with_reducible refine balloc ?_ _ | with_reducible refine bdrewN ?_ _ | with_reducible refine Below.drew ?_ | with_reducible refine bthen ?_ (by with_reducible assumption) | with_reducible refine Below.setCell ?_ (by first | (simp; done) | (simp; omega)) _))
    · have hp := hd2
      have hr := isP_range hp
      have c_1 : codeOf p false = 2 := codeOf_out hp (by simp)
      have cT : codeOf p true = 0 := codeOf_in hp rfl
      have cF : codeOf p false = 2 := codeOf_out hp rfl
      go_wp2_with fail
      refine Calls.mono (isColour_any _ _) ?_
      rintro e w' ⟨rfl, rfl⟩
      go_wp2_with fail
      refine Calls.mono (codeFor_any _ _ _) ?_
      rintro e w' ⟨rfl, rfl⟩
      have HV := Lib.hid (mc_out (col := col) (k1 := k1) (k2 := k2) (k3 := k3) (m1 := m1) (m2 := m2) (m3 := m3) hp (by simp [mcB, hd1, hd2]))
      go_wp2
      (refine bodyPost_ret (v := .tuple #[.slice none 0 0, .int .i64 (mcC p col k1 k2 k3 m1 m2 m3)]) (by simp [results, Try.results33, go_sem, HV.out.2]) rfl (slicePost_nil HV.out.1 ?_))
      (repeat (first | with_reducible exact Below.refl _ _ | with_reducible refine balloc ?_ _ | with_reducible refine bdrewN ?_ _ | with_reducible refine Below.drew ?_ | with_reducible refine bthen ?_ (by with_reducible assumption) | with_reducible refine Below.setCell ?_ (by first | (simp; done) | (simp; omega)) _))
  · have hc := hd1
    have hcr := colB_range hc
    rcases bool_ways (numsIn p [k1, k2, k3]) with hd2 | hd2
    · skip
      rcases bool_ways (numsIn p [m1, m2, m3]) with hd3 | hd3
      · skip
        rcases bool_ways (isP p) with hd4 | hd4
        · skip
          have c_1 : codeOf p false = 1 := codeOf_no hd4
          have cN : ∀ b, codeOf p b = 1 := fun b => codeOf_no hd4
          go_wp2_with fail
          refine Calls.mono (isColour_any _ _) ?_
          rintro e w' ⟨rfl, rfl⟩
          go_wp2_with fail
          refine Calls.mono (implCircles2 _ _ _ _ _ _ _ _ _ (by first | rfl | (simp; done))) ?_
          rintro e w1 ⟨rfl, hB1⟩
          (obtain ⟨hB1c, hB1f⟩ := bcell hB1; have hB1s := hB1.size; (try simp at hB1s); (try have hB1q1 := Nat.lt_of_succ_le hB1s); (try have hB1q2 := Nat.lt_of_succ_lt hB1q1); (try have hB1q3 := Nat.lt_of_succ_lt hB1q2); (try have hB1zw0 : w.heap.size < w1.heap.size := (by omega)); (try have hB1zw1 : w.heap.size + 1 < w1.heap.size := (by omega)); (try have hB1zw2 : w.heap.size + 1 + 1 < w1.heap.size := (by omega)); (try have hB1zw3 : w.heap.size + 1 + 1 + 1 < w1.heap.size := (by omega)); (try have hB1zw4 : w.heap.size + 1 + 1 + 1 + 1 < w1.heap.size := (by omega)))
          go_wp2_with fail
          refine Calls.mono (codeFor_any _ _ _) ?_
          rintro e w' ⟨rfl, rfl⟩
          have HV := Lib.hid (mc_no (col := col) (k1 := k1) (k2 := k2) (k3 := k3) (m1 := m1) (m2 := m2) (m3 := m3) hd4)
          go_wp2
          (refine bodyPost_ret (v := .tuple #[.slice none 0 0, .int .i64 (mcC p col k1 k2 k3 m1 m2 m3)]) (by simp [results, Try.results33, go_sem, HV.out.2]) rfl (slicePost_nil HV.out.1 ?_))
          (repeat (first | with_reducible exact Below.refl _ _ | with_reducible refine balloc ?_ _ | with_reducible refine bdrewN ?_ _ | with_reducible refine Below.drew ?_ | with_reducible refine bthen ?_ (by with_reducible assumption) | with_reducible refine Below.setCell ?_ (by first | (simp; done) | (simp; omega)) _))
        · have hp := hd4
          have hr := isP_range hp
          have c_1 : codeOf p false = 2 := codeOf_out hp (by simp)
          have cT : codeOf p true = 0 := codeOf_in hp rfl
          have cF : codeOf p false = 2 := codeOf_out hp rfl
          go_wp2_with fail
          refine Calls.mono (isColour_any _ _) ?_
          rintro e w' ⟨rfl, rfl⟩
          go_wp2_with fail
          refine Calls.mono (implCircles2 _ _ _ _ _ _ _ _ _ (by first | rfl | (simp; done))) ?_
          rintro e w1 ⟨rfl, hB1⟩
          (obtain ⟨hB1c, hB1f⟩ := bcell hB1; have hB1s := hB1.size; (try simp at hB1s); (try have hB1q1 := Nat.lt_of_succ_le hB1s); (try have hB1q2 := Nat.lt_of_succ_lt hB1q1); (try have hB1q3 := Nat.lt_of_succ_lt hB1q2); (try have hB1zw0 : w.heap.size < w1.heap.size := (by omega)); (try have hB1zw1 : w.heap.size + 1 < w1.heap.size := (by omega)); (try have hB1zw2 : w.heap.size + 1 + 1 < w1.heap.size := (by omega)); (try have hB1zw3 : w.heap.size + 1 + 1 + 1 < w1.heap.size := (by omega)); (try have hB1zw4 : w.heap.size + 1 + 1 + 1 + 1 < w1.heap.size := (by omega)))
          go_wp2_with fail
          refine Calls.mono (codeFor_any _ _ _) ?_
          rintro e w' ⟨rfl, rfl⟩
          have HV := Lib.hid (mc_out (col := col) (k1 := k1) (k2 := k2) (k3 := k3) (m1 := m1) (m2 := m2) (m3 := m3) hp (by simp [mcB, hd1, hd2, hd3, hd4]))
          go_wp2
          (refine bodyPost_ret (v := .tuple #[.slice none 0 0, .int .i64 (mcC p col k1 k2 k3 m1 m2 m3)]) (by simp [results, Try.results33, go_sem, HV.out.2]) rfl (slicePost_nil HV.out.1 ?_))
          (repeat (first | with_reducible exact Below.refl _ _ | with_reducible refine balloc ?_ _ | with_reducible refine bdrewN ?_ _ | with_reducible refine Below.drew ?_ | with_reducible refine bthen ?_ (by with_reducible assumption) | with_reducible refine Below.setCell ?_ (by first | (simp; done) | (simp; omega)) _))
      · have hd3q := nums3 hd3
        rcases bool_ways (isP p) with hd4 | hd4
        · skip
          have c_1 : codeOf p false = 1 := codeOf_no hd4
          have cN : ∀ b, codeOf p b = 1 := fun b => codeOf_no hd4
          go_wp2_with fail
          refine Calls.mono (isColour_any _ _) ?_
          rintro e w' ⟨rfl, rfl⟩
          go_wp2_with fail
          refine Calls.mono (implCircles2 _ _ _ _ _ _ _ _ _ (by first | rfl | (simp; done))) ?_
          rintro e w1 ⟨rfl, hB1⟩
          (obtain ⟨hB1c, hB1f⟩ := bcell hB1; have hB1s := hB1.size; (try simp at hB1s); (try have hB1q1 := Nat.lt_of_succ_le hB1s); (try have hB1q2 := Nat.lt_of_succ_lt hB1q1); (try have hB1q3 := Nat.lt_of_succ_lt hB1q2); (try have hB1zw0 : w.heap.size < w1.heap.size := (by omega)); (try have hB1zw1 : w.heap.size + 1 < w1.heap.size := (by omega)); (try have hB1zw2 : w.heap.size + 1 + 1 < w1.heap.size := (by omega)); (try have hB1zw3 : w.heap.size + 1 + 1 + 1 < w1.heap.size := (by omega)); (try have hB1zw4 : w.heap.size + 1 + 1 + 1 + 1 < w1.heap.size := (by omega)))
          go_wp2_with fail
          refine Calls.mono (codeFor_any _ _ _) ?_
          rintro e w' ⟨rfl, rfl⟩
          have HV := Lib.hid (mc_no (col := col) (k1 := k1) (k2 := k2) (k3 := k3) (m1 := m1) (m2 := m2) (m3 := m3) hd4)
          go_wp2
          (refine bodyPost_ret (v := .tuple #[.slice none 0 0, .int .i64 (mcC p col k1 k2 k3 m1 m2 m3)]) (by simp [results, Try.results33, go_sem, HV.out.2]) rfl (slicePost_nil HV.out.1 ?_))
          (repeat (first | with_reducible exact Below.refl _ _ | with_reducible refine balloc ?_ _ | with_reducible refine bdrewN ?_ _ | with_reducible refine Below.drew ?_ | with_reducible refine bthen ?_ (by with_reducible assumption) | with_reducible refine Below.setCell ?_ (by first | (simp; done) | (simp; omega)) _))
        · have hp := hd4
          have hr := isP_range hp
          have c_1 : codeOf p false = 2 := codeOf_out hp (by simp)
          have cT : codeOf p true = 0 := codeOf_in hp rfl
          have cF : codeOf p false = 2 := codeOf_out hp rfl
          go_wp2_with fail
          refine Calls.mono (isColour_any _ _) ?_
          rintro e w' ⟨rfl, rfl⟩
          go_wp2_with fail
          refine Calls.mono (implCircles2 _ _ _ _ _ _ _ _ _ (by first | rfl | (simp; done))) ?_
          rintro e w1 ⟨rfl, hB1⟩
          (obtain ⟨hB1c, hB1f⟩ := bcell hB1; have hB1s := hB1.size; (try simp at hB1s); (try have hB1q1 := Nat.lt_of_succ_le hB1s); (try have hB1q2 := Nat.lt_of_succ_lt hB1q1); (try have hB1q3 := Nat.lt_of_succ_lt hB1q2); (try have hB1zw0 : w.heap.size < w1.heap.size := (by omega)); (try have hB1zw1 : w.heap.size + 1 < w1.heap.size := (by omega)); (try have hB1zw2 : w.heap.size + 1 + 1 < w1.heap.size := (by omega)); (try have hB1zw3 : w.heap.size + 1 + 1 + 1 < w1.heap.size := (by omega)); (try have hB1zw4 : w.heap.size + 1 + 1 + 1 + 1 < w1.heap.size := (by omega)))
          go_wp2_with fail
          refine Calls.mono (codeFor_any _ _ _) ?_
          rintro e w' ⟨rfl, rfl⟩
          have HV := Lib.hid (mc_out (col := col) (k1 := k1) (k2 := k2) (k3 := k3) (m1 := m1) (m2 := m2) (m3 := m3) hp (by simp [mcB, hd1, hd2, hd3, hd4]))
          go_wp2
          (refine bodyPost_ret (v := .tuple #[.slice none 0 0, .int .i64 (mcC p col k1 k2 k3 m1 m2 m3)]) (by simp [results, Try.results33, go_sem, HV.out.2]) rfl (slicePost_nil HV.out.1 ?_))
          (repeat (first | with_reducible exact Below.refl _ _ | with_reducible refine balloc ?_ _ | with_reducible refine bdrewN ?_ _ | with_reducible refine Below.drew ?_ | with_reducible refine bthen ?_ (by with_reducible assumption) | with_reducible refine Below.setCell ?_ (by first | (simp; done) | (simp; omega)) _))
    · have hd2q := nums3 hd2
      rcases bool_ways (numsIn p [m1, m2, m3]) with hd3 | hd3
      · skip
        rcases bool_ways (isP p) with hd4 | hd4
        · skip
          have c_1 : codeOf p false = 1 := codeOf_no hd4
          have cN : ∀ b, codeOf p b = 1 := fun b => codeOf_no hd4
          go_wp2_with fail
          refine Calls.mono (isColour_any _ _) ?_
          rintro e w' ⟨rfl, rfl⟩
          go_wp2_with fail
          refine Calls.mono (implCircles2 _ _ _ _ _ _ _ _ _ (by first | rfl | (simp; done))) ?_
          rintro e w1 ⟨rfl, hB1⟩
          (obtain ⟨hB1c, hB1f⟩ := bcell hB1; have hB1s := hB1.size; (try simp at hB1s); (try have hB1q1 := Nat.lt_of_succ_le hB1s); (try have hB1q2 := Nat.lt_of_succ_lt hB1q1); (try have hB1q3 := Nat.lt_of_succ_lt hB1q2); (try have hB1zw0 : w.heap.size < w1.heap.size := (by omega)); (try have hB1zw1 : w.heap.size + 1 < w1.heap.size := (by omega)); (try have hB1zw2 : w.heap.size + 1 + 1 < w1.heap.size := (by omega)); (try have hB1zw3 : w.heap.size + 1 + 1 + 1 < w1.heap.size := (by omega)); (try have hB1zw4 : w.heap.size + 1 + 1 + 1 + 1 < w1.heap.size := (by omega)))
          go_wp2_with fail
          refine Calls.mono (codeFor_any _ _ _) ?_
          rintro e w' ⟨rfl, rfl⟩
          have HV := Lib.hid (mc_no (col := col) (k1 := k1) (k2 := k2) (k3 := k3) (m1 := m1) (m2 := m2) (m3 := m3) hd4)
          go_wp2
          (refine bodyPost_ret (v := .tuple #[.slice none 0 0, .int .i64 (mcC p col k1 k2 k3 m1 m2 m3)]) (by simp [results, Try.results33, go_sem, HV.out.2]) rfl (slicePost_nil HV.out.1 ?_))
          (repeat (first | with_reducible exact Below.refl _ _ | with_reducible refine balloc ?_ _ | with_reducible refine bdrewN ?_ _ | with_reducible refine Below.drew ?_ | with_reducible refine bthen ?_ (by with_reducible assumption) | with_reducible refine Below.setCell ?_ (by first | (simp; done) | (simp; omega)) _))
        · have hp := hd4
          have hr := isP_range hp
          have c_1 : codeOf p false = 2 := codeOf_out hp (by simp)
          have cT : codeOf p true = 0 := codeOf_in hp rfl
          have cF : codeOf p false = 2 := codeOf_out hp rfl
          go_wp2_with fail
          refine Calls.mono (isColour_any _ _) ?_
          rintro e w' ⟨rfl, rfl⟩
          go_wp2_with fail
          refine Calls.mono (implCircles2 _ _ _ _ _ _ _ _ _ (by first | rfl | (simp; done))) ?_
          rintro e w1 ⟨rfl, hB1⟩
          (obtain ⟨hB1c, hB1f⟩ := bcell hB1; have hB1s := hB1.size; (try simp at hB1s); (try have hB1q1 := Nat.lt_of_succ_le hB1s); (try have hB1q2 := Nat.lt_of_succ_lt hB1q1); (try have hB1q3 := Nat.lt_of_succ_lt hB1q2); (try have hB1zw0 : w.heap.size < w1.heap.size := (by omega)); (try have hB1zw1 : w.heap.size + 1 < w1.heap.size := (by omega)); (try have hB1zw2 : w.heap.size + 1 + 1 < w1.heap.size := (by omega)); (try have hB1zw3 : w.heap.size + 1 + 1 + 1 < w1.heap.size := (by omega)); (try have hB1zw4 : w.heap.size + 1 + 1 + 1 + 1 < w1.heap.size := (by omega)))
          go_wp2_with fail
          refine Calls.mono (codeFor_any _ _ _) ?_
          rintro e w' ⟨rfl, rfl⟩
          have HV := Lib.hid (mc_out (col := col) (k1 := k1) (k2 := k2) (k3 := k3) (m1 := m1) (m2 := m2) (m3 := m3) hp (by simp [mcB, hd1, hd2, hd3, hd4]))
          go_wp2
          (refine bodyPost_ret (v := .tuple #[.slice none 0 0, .int .i64 (mcC p col k1 k2 k3 m1 m2 m3)]) (by simp [results, Try.results33, go_sem, HV.out.2]) rfl (slicePost_nil HV.out.1 ?_))
          (repeat (first | with_reducible exact Below.refl _ _ | with_reducible refine balloc ?_ _ | with_reducible refine bdrewN ?_ _ | with_reducible refine Below.drew ?_ | with_reducible refine bthen ?_ (by with_reducible assumption) | with_reducible refine Below.setCell ?_ (by first | (simp; done) | (simp; omega)) _))
      · have hd3q := nums3 hd3
        rcases bool_ways (isP p) with hd4 | hd4
        · skip
          have c_1 : codeOf p true = 1 := codeOf_no hd4
          have cN : ∀ b, codeOf p b = 1 := fun b => codeOf_no hd4
          go_wp2_with fail
          refine Calls.mono (isColour_any _ _) ?_
          rintro e w' ⟨rfl, rfl⟩
          go_wp2_with fail
          refine Calls.mono (implCircles2 _ _ _ _ _ _ _ _ _ (by first | rfl | (simp; done))) ?_
          rintro e w1 ⟨rfl, hB1⟩
          (obtain ⟨hB1c, hB1f⟩ := bcell hB1; have hB1s := hB1.size; (try simp at hB1s); (try have hB1q1 := Nat.lt_of_succ_le hB1s); (try have hB1q2 := Nat.lt_of_succ_lt hB1q1); (try have hB1q3 := Nat.lt_of_succ_lt hB1q2); (try have hB1zw0 : w.heap.size < w1.heap.size := (by omega)); (try have hB1zw1 : w.heap.size + 1 < w1.heap.size := (by omega)); (try have hB1zw2 : w.heap.size + 1 + 1 < w1.heap.size := (by omega)); (try have hB1zw3 : w.heap.size + 1 + 1 + 1 < w1.heap.size := (by omega)); (try have hB1zw4 : w.heap.size + 1 + 1 + 1 + 1 < w1.heap.size := (by omega)))
          go_wp2_with fail
          refine Calls.mono (codeFor_any _ _ _) ?_
          rintro e w' ⟨rfl, rfl⟩
          have HV := Lib.hid (mc_no (col := col) (k1 := k1) (k2 := k2) (k3 := k3) (m1 := m1) (m2 := m2) (m3 := m3) hd4)
          go_wp2
          (refine bodyPost_ret (v := .tuple #[.slice none 0 0, .int .i64 (mcC p col k1 k2 k3 m1 m2 m3)]) (by simp [results, Try.results33, go_sem, HV.out.2]) rfl (slicePost_nil HV.out.1 ?_))
          (repeat (first | with_reducible exact Below.refl _ _ | with_reducible refine balloc ?_ _ | with_reducible refine bdrewN ?_ _ | with_reducible refine Below.drew ?_ | with_reducible refine bthen ?_ (by with_reducible assumption) | with_reducible refine Below.setCell ?_ (by first | (simp; done) | (simp; omega)) _))
        · have hp := hd4
          have hr := isP_range hp
          have c_1 : codeOf p true = 0 := codeOf_in hp (by simp)
          have cT : codeOf p true = 0 := codeOf_in hp rfl
          go_wp2_with fail
          refine Calls.mono (isColour_any _ _) ?_
          rintro e w' ⟨rfl, rfl⟩
          go_wp2_with fail
          refine Calls.mono (implCircles2 _ _ _ _ _ _ _ _ _ (by first | rfl | (simp; done))) ?_
          rintro e w1 ⟨rfl, hB1⟩
          (obtain ⟨hB1c, hB1f⟩ := bcell hB1; have hB1s := hB1.size; (try simp at hB1s); (try have hB1q1 := Nat.lt_of_succ_le hB1s); (try have hB1q2 := Nat.lt_of_succ_lt hB1q1); (try have hB1q3 := Nat.lt_of_succ_lt hB1q2); (try have hB1zw0 : w.heap.size < w1.heap.size := (by omega)); (try have hB1zw1 : w.heap.size + 1 < w1.heap.size := (by omega)); (try have hB1zw2 : w.heap.size + 1 + 1 < w1.heap.size := (by omega)); (try have hB1zw3 : w.heap.size + 1 + 1 + 1 < w1.heap.size := (by omega)); (try have hB1zw4 : w.heap.size + 1 + 1 + 1 + 1 < w1.heap.size := (by omega)))
          go_wp2_with fail
          refine Calls.mono (codeFor_any _ _ _) ?_
          rintro e w' ⟨rfl, rfl⟩
          have HB : mcB p col k1 k2 k3 m1 m2 m3 = true := by simp [mcB, hd1, hd2, hd3, hd4]
          have HS : mcS p col k1 k2 k3 m1 m2 m3 = 0 := by rfl
          have HV := Lib.hid (mc_good (col := col) (k1 := k1) (k2 := k2) (k3 := k3) (m1 := m1) (m2 := m2) (m3 := m3) hp HB HS)
          clear HB HS
          have ka0 : w1.cell? ⟨w.heap.size, 0, none⟩ = some (.int .i64 k1) := by (first | with_reducible assumption | (repeat (first | with_reducible assumption | ((with_reducible refine kfresh ?_ ?_) <;> (first | with_reducible rfl | (simp; done))) | ((with_reducible refine ksameS ?_); focus ((repeat (first | with_reducible exact kis_of (by with_reducible assumption) | with_reducible refine kis_set ?_ | ((with_reducible refine kis_new ?_ ?_) <;> (first | with_reducible rfl | rfl | (simp; done))) | with_reducible refine kis_alloc _ ?_ | with_reducible refine kis_drew ?_ | with_reducible refine kis_call (by with_reducible assumption) ?_ | with_reducible exact kis_of (kcall (by with_reducible assumption) (by with_reducible assumption)))); done)) | with_reducible refine kother (by decide) ?_ | with_reducible refine kset (by first | omega | (simp; done) | (simp; omega)) ?_ | with_reducible refine kalloc _ ?_ | with_reducible refine kdrew ?_ | with_reducible refine kcall (by with_reducible assumption) ?_)))
          have ka1 : w1.cell? ⟨w.heap.size, 1, none⟩ = some (.int .i64 k2) := by (first | with_reducible assumption | (repeat (first | with_reducible assumption | ((with_reducible refine kfresh ?_ ?_) <;> (first | with_reducible rfl | (simp; done))) | ((with_reducible refine ksameS ?_); focus ((repeat (first | with_reducible exact kis_of (by with_reducible assumption) | with_reducible refine kis_set ?_ | ((with_reducible refine kis_new ?_ ?_) <;> (first | with_reducible rfl | rfl | (simp; done))) | with_reducible refine kis_alloc _ ?_ | with_reducible refine kis_drew ?_ | with_reducible refine kis_call (by with_reducible assumption) ?_ | with_reducible exact kis_of (kcall (by with_reducible assumption) (by with_reducible assumption)))); done)) | with_reducible refine kother (by decide) ?_ | with_reducible refine kset (by first | omega | (simp; done) | (simp; omega)) ?_ | with_reducible refine kalloc _ ?_ | with_reducible refine kdrew ?_ | with_reducible refine kcall (by with_reducible assumption) ?_)))
          have ka2 : w1.cell? ⟨w.heap.size, 2, none⟩ = some (.int .i64 k3) := by (first | with_reducible assumption | (repeat (first | with_reducible assumption | ((with_reducible refine kfresh ?_ ?_) <;> (first | with_reducible rfl | (simp; done))) | ((with_reducible refine ksameS ?_); focus ((repeat (first | with_reducible exact kis_of (by with_reducible assumption) | with_reducible refine kis_set ?_ | ((with_reducible refine kis_new ?_ ?_) <;> (first | with_reducible rfl | rfl | (simp; done))) | with_reducible refine kis_alloc _ ?_ | with_reducible refine kis_drew ?_ | with_reducible refine kis_call (by with_reducible assumption) ?_ | with_reducible exact kis_of (kcall (by with_reducible assumption) (by with_reducible assumption)))); done)) | with_reducible refine kother (by decide) ?_ | with_reducible refine kset (by first | omega | (simp; done) | (simp; omega)) ?_ | with_reducible refine kalloc _ ?_ | with_reducible refine kdrew ?_ | with_reducible refine kcall (by with_reducible assumption) ?_)))
          have ka3 : w1.cell? ⟨w.heap.size + 1, 0, none⟩ = some (.int .i64 m1) := by (first | with_reducible assumption | (repeat (first | with_reducible assumption | ((with_reducible refine kfresh ?_ ?_) <;> (first | with_reducible rfl | (simp; done))) | ((with_reducible refine ksameS ?_); focus ((repeat (first | with_reducible exact kis_of (by with_reducible assumption) | with_reducible refine kis_set ?_ | ((with_reducible refine kis_new ?_ ?_) <;> (first | with_reducible rfl | rfl | (simp; done))) | with_reducible refine kis_alloc _ ?_ | with_reducible refine kis_drew ?_ | with_reducible refine kis_call (by with_reducible assumption) ?_ | with_reducible exact kis_of (kcall (by with_reducible assumption) (by with_reducible assumption)))); done)) | with_reducible refine kother (by decide) ?_ | with_reducible refine kset (by first | omega | (simp; done) | (simp; omega)) ?_ | with_reducible refine kalloc _ ?_ | with_reducible refine kdrew ?_ | with_reducible refine kcall (by with_reducible assumption) ?_)))
          have ka4 : w1.cell? ⟨w.heap.size + 1, 1, none⟩ = some (.int .i64 m2) := by (first | with_reducible assumption | (repeat (first | with_reducible assumption | ((with_reducible refine kfresh ?_ ?_) <;> (first | with_reducible rfl | (simp; done))) | ((with_reducible refine ksameS ?_); focus ((repeat (first | with_reducible exact kis_of (by with_reducible assumption) | with_reducible refine kis_set ?_ | ((with_reducible refine kis_new ?_ ?_) <;> (first | with_reducible rfl | rfl | (simp; done))) | with_reducible refine kis_alloc _ ?_ | with_reducible refine kis_drew ?_ | with_reducible refine kis_call (by with_reducible assumption) ?_ | with_reducible exact kis_of (kcall (by with_reducible assumption) (by with_reducible assumption)))); done)) | with_reducible refine kother (by decide) ?_ | with_reducible refine kset (by first | omega | (simp; done) | (simp; omega)) ?_ | with_reducible refine kalloc _ ?_ | with_reducible refine kdrew ?_ | with_reducible refine kcall (by with_reducible assumption) ?_)))
          have ka5 : w1.cell? ⟨w.heap.size + 1, 2, none⟩ = some (.int .i64 m3) := by (first | with_reducible assumption | (repeat (first | with_reducible assumption | ((with_reducible refine kfresh ?_ ?_) <;> (first | with_reducible rfl | (simp; done))) | ((with_reducible refine ksameS ?_); focus ((repeat (first | with_reducible exact kis_of (by with_reducible assumption) | with_reducible refine kis_set ?_ | ((with_reducible refine kis_new ?_ ?_) <;> (first | with_reducible rfl | rfl | (simp; done))) | with_reducible refine kis_alloc _ ?_ | with_reducible refine kis_drew ?_ | with_reducible refine kis_call (by with_reducible assumption) ?_ | with_reducible exact kis_of (kcall (by with_reducible assumption) (by with_reducible assumption)))); done)) | with_reducible refine kother (by decide) ?_ | with_reducible refine kset (by first | omega | (simp; done) | (simp; omega)) ?_ | with_reducible refine kalloc _ ?_ | with_reducible refine kdrew ?_ | with_reducible refine kcall (by with_reducible assumption) ?_)))
          have hW0 : Below w.heap.size w w1 := by (repeat (first | exact Below.refl _ _ | refine balloc ?_ _ | refine bdrewN ?_ _ | refine Below.drew ?_ | refine bthen ?_ hB1 | refine bthen ?_ hB2 | refine bthen ?_ hB3 | refine bthen ?_ hB4 | refine Below.setCell ?_ (by first | (simp; done) | (simp; omega)) _))
          have rk := nums3 hd2
          have rm := nums3 hd3
          have hpn : p.toNat ≤ 31 := by omega
          have hpp : p.toNat * p.toNat ≤ 4096 := Nat.le_trans (Nat.mul_le_mul hpn hpn) (by decide)
          go_upto_region 4 with fail
          (refine wp_region_held_drew (S := (fun W => W.cell? ⟨w.heap.size, 0, none⟩ = some (.int .i64 k1) ∧ W.cell? ⟨w.heap.size, 1, none⟩ = some (.int .i64 k2) ∧ W.cell? ⟨w.heap.size, 2, none⟩ = some (.int .i64 k3) ∧ W.cell? ⟨w.heap.size + 1, 0, none⟩ = some (.int .i64 m1) ∧ W.cell? ⟨w.heap.size + 1, 1, none⟩ = some (.int .i64 m2) ∧ W.cell? ⟨w.heap.size + 1, 2, none⟩ = some (.int .i64 m3) ∧ Below w1.heap.size w1 W)) (by kernel_rfl) (by exact ⟨ka0, ka1, ka2, ka3, ka4, ka5, Below.drew (Below.refl _ _)⟩) (fun hHeld => ?_))
          (refine wpAnyH_take (i := 0) (v := ?_) rfl (by kernel_rfl) (by kernel_rfl) (by kernel_rfl) (fun _ _ _ h => h) (Or.inl ⟨by rfl, ?_⟩) (by with_reducible assumption) ?_; rotate_left; (focus (intro wz hSw; (try dsimp only at hSw); go_simp; try with_reducible rfl)); try simp only [Act.put, List.getElem_toArray, List.getElem_cons_zero, List.getElem_cons_succ, List.setIfInBounds_toArray, List.set_cons_zero, List.set_cons_succ])
          (refine wpAnyH_take (i := 1) (v := ?_) rfl (by kernel_rfl) (by kernel_rfl) (by kernel_rfl) (fun _ _ _ h => h) (Or.inl ⟨by rfl, ?_⟩) (by with_reducible assumption) ?_; rotate_left; (focus (intro wz hSw; (try dsimp only at hSw); go_simp; try with_reducible rfl)); try simp only [Act.put, List.getElem_toArray, List.getElem_cons_zero, List.getElem_cons_succ, List.setIfInBounds_toArray, List.set_cons_zero, List.set_cons_succ])
          (refine wpAnyH_take (i := 2) (v := ?_) rfl (by kernel_rfl) (by kernel_rfl) (by kernel_rfl) (fun _ _ _ h => h) (Or.inl ⟨by rfl, ?_⟩) (by with_reducible assumption) ?_; rotate_left; (focus (intro wz hSw; (try dsimp only at hSw); go_simp; try with_reducible rfl)); try simp only [Act.put, List.getElem_toArray, List.getElem_cons_zero, List.getElem_cons_succ, List.setIfInBounds_toArray, List.set_cons_zero, List.set_cons_succ])
          (refine wpAnyH_take (i := 3) (v := ?_) rfl (by kernel_rfl) (by kernel_rfl) (by kernel_rfl) (fun _ _ _ h => h) (Or.inl ⟨by rfl, ?_⟩) (by with_reducible assumption) ?_; rotate_left; (focus (intro wz hSw; (try dsimp only at hSw); go_simp; try with_reducible rfl)); try simp only [Act.put, List.getElem_toArray, List.getElem_cons_zero, List.getElem_cons_succ, List.setIfInBounds_toArray, List.set_cons_zero, List.set_cons_succ])
          (refine wpAnyH_take (i := 4) (v := ?_) rfl (by kernel_rfl) (by kernel_rfl) (by kernel_rfl) (fun _ _ _ h => h) (Or.inl ⟨by rfl, ?_⟩) (by with_reducible assumption) ?_; rotate_left; (focus (intro wz hSw; (try dsimp only at hSw); go_simp; try with_reducible rfl)); try simp only [Act.put, List.getElem_toArray, List.getElem_cons_zero, List.getElem_cons_succ, List.setIfInBounds_toArray, List.set_cons_zero, List.set_cons_succ])
          (refine wpAnyH_take (i := 5) (v := ?_) rfl (by kernel_rfl) (by kernel_rfl) (by kernel_rfl) (fun _ _ _ h => h) (Or.inl ⟨by rfl, ?_⟩) (by with_reducible assumption) ?_; rotate_left; (focus (intro wz hSw; (try dsimp only at hSw); go_simp; try with_reducible rfl)); try simp only [Act.put, List.getElem_toArray, List.getElem_cons_zero, List.getElem_cons_succ, List.setIfInBounds_toArray, List.set_cons_zero, List.set_cons_succ])
          (refine wpAnyH_ready (rs := [6]) (by kernel_rfl) (by simp) ?_; refine AllReadyH.cons rfl (fun K hK => ?_) AllReadyH.nil; (go_simp; refine Calls.mono (pointsOfCircle_any p col m1 m2 m3 _) ?_; rintro e wa ⟨b0, b1, b2, rfl, g0, g1, g2, g3, g4, hBa⟩); refine hK.out _ _ (by exact ⟨kcall hBa hHeld.1, kcall hBa hHeld.2.1, kcall hBa hHeld.2.2.1, kcall hBa hHeld.2.2.2.1, kcall hBa hHeld.2.2.2.2.1, kcall hBa hHeld.2.2.2.2.2.1, bthen hHeld.2.2.2.2.2.2 hBa⟩) (fun hHeld => ?_); clear hK K; try simp only [Act.put, List.setIfInBounds_toArray, List.set_cons_zero, List.set_cons_succ])
          have y0 := World.block_lt_of_cell? wa ⟨b0, 0, none⟩ g0
          have y1 := World.block_lt_of_cell? wa ⟨b1, 0, none⟩ g1
          have y2 := World.block_lt_of_cell? wa ⟨b2, 0, none⟩ g2
          simp only at y0 y1 y2
          have HSQ := Lib.hid (fun (W : World) (hW : Below wa.heap.size wa W) => seqCirc_on b0 b1 b2 0 wa.heap.size p col m1 m2 m3 hp hc rm.1 rm.2.1 W ((cell_back hW y0 0).trans g0) ((cell_back hW y1 0).trans g1) ((cell_back hW y2 0).trans g2) ((cell_back hW y2 1).trans g3) ((cell_back hW y2 2).trans g4) ⟨Nat.zero_le _, y0⟩ ⟨Nat.zero_le _, y1⟩ ⟨Nat.zero_le _, y2⟩ hW.size)
          (refine wpAnyH_ready (rs := [7]) (by kernel_rfl) (by simp) ?_; refine AllReadyH.cons rfl (fun K hK => ?_) AllReadyH.nil; (go_simp; refine Calls.mono (pointsOnCircleN_any (sfC p col m1 m2 m3 (allF p.toNat p.toNat 0)) (p.toNat * p.toNat) 0 wa.heap.size 110 _ p col k1 k2 k3 wa hp hc rk.1 rk.2.1 (enters_of Try.func110 (by kernel_rfl) rfl) hpp (Nat.le_refl _) HSQ.out) ?_; rintro e wb ⟨vb, rfl, hob, hBb⟩); refine hK.out _ _ (by exact ⟨kcall hBb hHeld.1, kcall hBb hHeld.2.1, kcall hBb hHeld.2.2.1, kcall hBb hHeld.2.2.2.1, kcall hBb hHeld.2.2.2.2.1, kcall hBb hHeld.2.2.2.2.2.1, bthen hHeld.2.2.2.2.2.2 hBb⟩) (fun hHeld => ?_); clear hK K; try simp only [Act.put, List.setIfInBounds_toArray, List.set_cons_zero, List.set_cons_succ])
          (refine wpAnyH_take (i := 8) (v := ?_) rfl (by kernel_rfl) (by kernel_rfl) (by kernel_rfl) (fun _ _ _ h => h) (Or.inl ⟨by rfl, ?_⟩) (by with_reducible assumption) ?_; rotate_left; (focus (intro wz hSw; (try dsimp only at hSw); go_simp; try with_reducible rfl)); try simp only [Act.put, List.getElem_toArray, List.getElem_cons_zero, List.getElem_cons_succ, List.setIfInBounds_toArray, List.set_cons_zero, List.set_cons_succ])
          (refine wpAnyH_take (i := 9) (v := ?_) rfl (by kernel_rfl) (by kernel_rfl) (by kernel_rfl) (fun _ _ _ h => h) (Or.inl ⟨by rfl, ?_⟩) (by with_reducible assumption) ?_; rotate_left; (focus (intro wz hSw; (try dsimp only at hSw); go_simp; try with_reducible rfl)); try simp only [Act.put, List.getElem_toArray, List.getElem_cons_zero, List.getElem_cons_succ, List.setIfInBounds_toArray, List.set_cons_zero, List.set_cons_succ])
          have hBt := hHeld.2.2.2.2.2.2
          have hWb : Below w.heap.size w wb := bthen hW0 hBt
          have hwa : w1.heap.size ≤ wa.heap.size := by first | exact hBa.size | (have := hBa.size; simp at this; omega)
          refine wpAnyH_done (by kernel_rfl) ?_ _
          have HL := Lib.hid (show flat ((gridL (fun x y => qdr p col k1 k2 x y == k3) p.toNat p.toNat).filter fun x => pw p col m1 m2 m3 x.1 x.2 == 0) = flat (flC p col k1 k2 k3 (sfC p col m1 m2 m3 (allF p.toNat p.toNat 0))) from mc_eq hp rm.2.2)
          go_wp2
          (refine bodyPost_ret (v := .tuple #[vb, .int .i64 (mcC p col k1 k2 k3 m1 m2 m3)]) (by simp [results, Try.results33, go_sem, HV.out.2]) rfl (slicePost_mk (by rw [HV.out.1, HL.out]; exact own_base hob (by have := hW0.size; omega)) hWb))

theorem mc_len (p col k1 k2 k3 m1 m2 m3 : Int) : (mcL p col k1 k2 k3 m1 m2 m3).length ≤ 4096 := by
  unfold mcL
  split
  · rename_i h
    have hp : isP p = true := by
      cases hh : isP p
      · simp [mcC, hh] at h
      · rfl
    have hr := isP_range hp
    rw [flat_length]
    have h1 := List.length_filter_le (fun x => pw p col m1 m2 m3 x.1 x.2 == 0) (gridL (fun x y => qdr p col k1 k2 x y == k3) p.toNat p.toNat)
    have h2 : (gridL (fun x y => qdr p col k1 k2 x y == k3) p.toNat p.toNat).length ≤ 961 := Nat.le_trans (gridL_le _ _ _) (Nat.le_trans (Nat.mul_le_mul (by omega : p.toNat ≤ 31) (by omega : p.toNat ≤ 31)) (by decide))
    omega
  · simp

end Go.Proofs.Ytcebhcamegdmaaa
