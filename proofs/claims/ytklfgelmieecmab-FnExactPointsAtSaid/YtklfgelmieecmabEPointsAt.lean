/-
  PointsAt: the program's and the model's.
-/
import Derived.Test.YtklfgelmieecmabPtsAt
import Derived.Test.YtklfgelmieecmabSpecAt02
import Derived.Test.YtklfgelmieecmabSpecNums
import Derived.Test.YtklfgelmieecmabImplNums
import Derived.Test.YtklfgelmieecmabSpecCol
import Derived.Test.YtklfgelmieecmabImplCol
import Derived.Test.YtklfgelmieecmabSpecColPts
import Derived.Test.YtklfgelmieecmabImplPts
import Derived.Test.YtklfgelmieecmabCode
import Derived.Test.YtklfgelmieecmabKeysPts
import Derived.Test.YtklfgelmieecmabSortPts
import Derived.Test.YtklfgelmieecmabPcMath
namespace Go.Proofs.Ytklfgelmieecmab
open Go.RowKit

theorem pa_range {p col a1 a2 q : Int} (hp : isP p = true) : ∀ z, z ∈ (gridL tt2 p.toNat p.toNat).filter (fun x => qdr p col a1 a2 x.1 x.2 == q) → (0 ≤ z.1 ∧ z.1 ≤ 31) ∧ 0 ≤ z.2 ∧ z.2 ≤ 31 := fun z hz => by
  have hr := isP_range hp
  have := grid_mem ((List.mem_filter.1 hz).1)
  omega
theorem pa_set {p col a1 a2 q : Int} (hp : isP p = true) : KeysOf 35 ptV (fun x => klP x.1 x.2) ((gridL tt2 p.toNat p.toNat).filter (fun x => qdr p col a1 a2 x.1 x.2 == q)) (setD ((gridL tt2 p.toNat p.toNat).filter (fun x => qdr p col a1 a2 x.1 x.2 == q))) := setD_keys (pa_range hp)
theorem pa_cnt {p col a1 a2 q : Int} (hp : isP p = true) : (gridL (fun x y => qdr p col a1 a2 x y == q) p.toNat p.toNat).length ≤ 961 := by
  have hr := isP_range hp
  exact Nat.le_trans (gridL_le _ _ _) (Nat.le_trans (Nat.mul_le_mul (by omega : p.toNat ≤ 31) (by omega : p.toNat ≤ 31)) (by decide))
theorem pa_size {p col a1 a2 q : Int} (hp : isP p = true) : Maps.size (setD ((gridL tt2 p.toNat p.toNat).filter (fun x => qdr p col a1 a2 x.1 x.2 == q))) ≤ 1000000 ∧
    ∀ ss : List (Int × Int), (ss.Nodup ∧ ∀ x, x ∈ ss ↔ x ∈ (gridL tt2 p.toNat p.toNat).filter (fun x => qdr p col a1 a2 x.1 x.2 == q)) → ss.length ≤ 1000000 := by
  have h1 := pa_cnt (col := col) (a1 := a1) (a2 := a2) (q := q) hp
  have hn := grid_nodup (fun x y => qdr p col a1 a2 x y == q) p.toNat p.toNat
  rw [setD_size (pa_range hp) (by rw [← grid_filter (fun x y => qdr p col a1 a2 x y == q)]; exact hn), ← grid_filter (fun x y => qdr p col a1 a2 x y == q)]
  refine ⟨by omega, fun ss h => ?_⟩
  have := ((List.perm_ext_iff_of_nodup h.1 hn).2 h.2).length_eq
  omega
theorem pa_list {p col a1 a2 q : Int} (_hp : isP p = true) : ∀ (d : Array (Int × Int)) (ss : List (Int × Int)), (ss.Nodup ∧ ∀ x, x ∈ ss ↔ x ∈ (gridL tt2 p.toNat p.toNat).filter (fun x => qdr p col a1 a2 x.1 x.2 == q)) → d.toList.Perm ss →
    (∀ i j, i < j → j < d.size → Go.Proofs.ltOf cfP d[j]! d[i]! = false) → d.toList = gridL (fun x y => qdr p col a1 a2 x y == q) p.toNat p.toNat := fun d ss h hp hs =>
  sorted_grid h.1 (fun z => by rw [h.2 z, ← grid_filter (fun x y => qdr p col a1 a2 x y == q)]) hp hs

set_option linter.unusedVariables false in
def paB (p col a1 a2 q : Int) : Bool := colB col && (numsIn p [a1, a2] && numsIn p [q])
set_option linter.unusedVariables false in
def paS (p col a1 a2 q : Int) : Int := 0
set_option linter.unusedVariables false in
def paC (p col a1 a2 q : Int) : Int := if isP p = true then (if paB p col a1 a2 q = true then paS p col a1 a2 q else 2) else 1
set_option linter.unusedVariables false in
def paL (p col a1 a2 q : Int) : List Int := if paC p col a1 a2 q = 0 then flat (gridL (fun x y => qdr p col a1 a2 x y == q) p.toNat p.toNat) else []
theorem pa_zero {p col a1 a2 q k : Int} (h : paC p col a1 a2 q = k) (hk : k ≠ 0) : paL p col a1 a2 q = [] ∧ paC p col a1 a2 q = k := ⟨if_neg fun e => hk (h.symm.trans e), h⟩
theorem pa_no {p col a1 a2 q : Int} (h : isP p = false) : paL p col a1 a2 q = [] ∧ paC p col a1 a2 q = 1 := pa_zero (by simp [paC, h]) (by decide)
theorem pa_out {p col a1 a2 q : Int} (hp : isP p = true) (h : paB p col a1 a2 q = false) : paL p col a1 a2 q = [] ∧ paC p col a1 a2 q = 2 := pa_zero (by simp [paC, hp, h]) (by decide)
theorem pa_st {p col a1 a2 q k : Int} (hp : isP p = true) (h : paB p col a1 a2 q = true) (hs : paS p col a1 a2 q = k) (hk : k ≠ 0) : paL p col a1 a2 q = [] ∧ paC p col a1 a2 q = k := pa_zero (by simp [paC, hp, h, hs]) hk
theorem pa_good {p col a1 a2 q : Int} (hp : isP p = true) (h : paB p col a1 a2 q = true) (hs : paS p col a1 a2 q = 0) : paL p col a1 a2 q = flat (gridL (fun x y => qdr p col a1 a2 x y == q) p.toNat p.toNat) ∧ paC p col a1 a2 q = 0 := by
  have h' : paC p col a1 a2 q = 0 := by simp [paC, hp, h, hs]
  exact ⟨if_pos h', h'⟩

set_option linter.unusedSimpArgs false in
set_option maxRecDepth 20000 in
set_option maxHeartbeats 4000000 in
theorem specPointsAt_any (p col a1 a2 q : Int) (w : World) :
    Calls Try.prog 34 #[.int .i64 p, .int .i64 col, .agg #[.int .i64 a1, .int .i64 a2], .int .i64 q] w fun e w' =>
      SlicePost 35 2 (paL p col a1 a2 q) (paC p col a1 a2 q) w e w' := by
  go_enter Try.func34, Try.ntmps34
  rcases bool_ways (isP p) with hd1 | hd1
  · skip
    have c_1 : codeOf p (colB col && numsIn p [a1, a2]) = 1 := codeOf_no hd1
    have cN : ∀ b, codeOf p b = 1 := fun b => codeOf_no hd1
    go_wp2_with fail
    refine Calls.mono (specColCode1 _ _ _ _ _ _ (by first | rfl | (simp; done))) ?_
    rintro e w1 ⟨rfl, hB1⟩
    (obtain ⟨hB1c, hB1f⟩ := bcell hB1; have hB1s := hB1.size; (try simp at hB1s); (try have hB1q1 := Nat.lt_of_succ_le hB1s); (try have hB1q2 := Nat.lt_of_succ_lt hB1q1); (try have hB1q3 := Nat.lt_of_succ_lt hB1q2); (try have hB1zw0 : w.heap.size < w1.heap.size := (by omega)); (try have hB1zw1 : w.heap.size + 1 < w1.heap.size := (by omega)); (try have hB1zw2 : w.heap.size + 1 + 1 < w1.heap.size := (by omega)); (try have hB1zw3 : w.heap.size + 1 + 1 + 1 < w1.heap.size := (by omega)); (try have hB1zw4 : w.heap.size + 1 + 1 + 1 + 1 < w1.heap.size := (by omega)))
    have HV := Lib.hid (pa_no (col := col) (a1 := a1) (a2 := a2) (q := q) hd1)
    go_wp2
    (refine bodyPost_ret (v := .tuple #[.slice none 0 0, .int .i64 (paC p col a1 a2 q)]) (by simp [results, Try.results34, go_sem, HV.out.2]) rfl (slicePost_nil HV.out.1 ?_))
    (repeat (first | with_reducible exact Below.refl _ _ | with_reducible refine balloc ?_ _ | with_reducible refine bdrewN ?_ _ | with_reducible refine Below.drew ?_ | with_reducible refine bthen ?_ (by with_reducible assumption) | with_reducible refine Below.setCell ?_ (by first | (simp; done) | (simp; omega)) _))
  · have hp := hd1
    have hr := isP_range hp
    rcases bool_ways (colB col) with hd2 | hd2
    · skip
      have c_1 : codeOf p (colB col && numsIn p [a1, a2]) = 2 := codeOf_out hp (by simp [hd2])
      have cT : codeOf p true = 0 := codeOf_in hp rfl
      have cF : codeOf p false = 2 := codeOf_out hp rfl
      go_wp2_with fail
      refine Calls.mono (specColCode1 _ _ _ _ _ _ (by first | rfl | (simp; done))) ?_
      rintro e w1 ⟨rfl, hB1⟩
      (obtain ⟨hB1c, hB1f⟩ := bcell hB1; have hB1s := hB1.size; (try simp at hB1s); (try have hB1q1 := Nat.lt_of_succ_le hB1s); (try have hB1q2 := Nat.lt_of_succ_lt hB1q1); (try have hB1q3 := Nat.lt_of_succ_lt hB1q2); (try have hB1zw0 : w.heap.size < w1.heap.size := (by omega)); (try have hB1zw1 : w.heap.size + 1 < w1.heap.size := (by omega)); (try have hB1zw2 : w.heap.size + 1 + 1 < w1.heap.size := (by omega)); (try have hB1zw3 : w.heap.size + 1 + 1 + 1 < w1.heap.size := (by omega)); (try have hB1zw4 : w.heap.size + 1 + 1 + 1 + 1 < w1.heap.size := (by omega)))
      have HV := Lib.hid (pa_out (col := col) (a1 := a1) (a2 := a2) (q := q) hp (by simp [paB, hd1, hd2]))
      go_wp2
      (refine bodyPost_ret (v := .tuple #[.slice none 0 0, .int .i64 (paC p col a1 a2 q)]) (by simp [results, Try.results34, go_sem, HV.out.2]) rfl (slicePost_nil HV.out.1 ?_))
      (repeat (first | with_reducible exact Below.refl _ _ | with_reducible refine balloc ?_ _ | with_reducible refine bdrewN ?_ _ | with_reducible refine Below.drew ?_ | with_reducible refine bthen ?_ (by with_reducible assumption) | with_reducible refine Below.setCell ?_ (by first | (simp; done) | (simp; omega)) _))
    · have hc := hd2
      have hcr := colB_range hc
      rcases bool_ways (numsIn p [a1, a2]) with hd3 | hd3
      · skip
        have c_1 : codeOf p (colB col && numsIn p [a1, a2]) = 2 := codeOf_out hp (by simp [hd2, hd3])
        have cT : codeOf p true = 0 := codeOf_in hp rfl
        have cF : codeOf p false = 2 := codeOf_out hp rfl
        go_wp2_with fail
        refine Calls.mono (specColCode1 _ _ _ _ _ _ (by first | rfl | (simp; done))) ?_
        rintro e w1 ⟨rfl, hB1⟩
        (obtain ⟨hB1c, hB1f⟩ := bcell hB1; have hB1s := hB1.size; (try simp at hB1s); (try have hB1q1 := Nat.lt_of_succ_le hB1s); (try have hB1q2 := Nat.lt_of_succ_lt hB1q1); (try have hB1q3 := Nat.lt_of_succ_lt hB1q2); (try have hB1zw0 : w.heap.size < w1.heap.size := (by omega)); (try have hB1zw1 : w.heap.size + 1 < w1.heap.size := (by omega)); (try have hB1zw2 : w.heap.size + 1 + 1 < w1.heap.size := (by omega)); (try have hB1zw3 : w.heap.size + 1 + 1 + 1 < w1.heap.size := (by omega)); (try have hB1zw4 : w.heap.size + 1 + 1 + 1 + 1 < w1.heap.size := (by omega)))
        have HV := Lib.hid (pa_out (col := col) (a1 := a1) (a2 := a2) (q := q) hp (by simp [paB, hd1, hd2, hd3]))
        go_wp2
        (refine bodyPost_ret (v := .tuple #[.slice none 0 0, .int .i64 (paC p col a1 a2 q)]) (by simp [results, Try.results34, go_sem, HV.out.2]) rfl (slicePost_nil HV.out.1 ?_))
        (repeat (first | with_reducible exact Below.refl _ _ | with_reducible refine balloc ?_ _ | with_reducible refine bdrewN ?_ _ | with_reducible refine Below.drew ?_ | with_reducible refine bthen ?_ (by with_reducible assumption) | with_reducible refine Below.setCell ?_ (by first | (simp; done) | (simp; omega)) _))
      · have hd3q := nums2 hd3
        have c_1 : codeOf p (colB col && numsIn p [a1, a2]) = 0 := codeOf_in hp (by simp [hd2, hd3])
        have cT : codeOf p true = 0 := codeOf_in hp rfl
        go_wp2_with fail
        refine Calls.mono (specColCode1 _ _ _ _ _ _ (by first | rfl | (simp; done))) ?_
        rintro e w1 ⟨rfl, hB1⟩
        (obtain ⟨hB1c, hB1f⟩ := bcell hB1; have hB1s := hB1.size; (try simp at hB1s); (try have hB1q1 := Nat.lt_of_succ_le hB1s); (try have hB1q2 := Nat.lt_of_succ_lt hB1q1); (try have hB1q3 := Nat.lt_of_succ_lt hB1q2); (try have hB1zw0 : w.heap.size < w1.heap.size := (by omega)); (try have hB1zw1 : w.heap.size + 1 < w1.heap.size := (by omega)); (try have hB1zw2 : w.heap.size + 1 + 1 < w1.heap.size := (by omega)); (try have hB1zw3 : w.heap.size + 1 + 1 + 1 < w1.heap.size := (by omega)); (try have hB1zw4 : w.heap.size + 1 + 1 + 1 + 1 < w1.heap.size := (by omega)))
        rcases bool_ways (numsIn p [q]) with hd4 | hd4
        · skip
          have c_2 : codeOf p (numsIn p [q]) = 2 := codeOf_out hp (by simp [hd4])
          have cF : codeOf p false = 2 := codeOf_out hp rfl
          go_wp2_with fail
          refine Calls.mono (numbers_any _ _ _ _ _ [q] _ rfl (by simp) (by exact cells_at (by simp) [q] _)) ?_
          rintro e w' ⟨rfl, rfl⟩
          have HV := Lib.hid (pa_out (col := col) (a1 := a1) (a2 := a2) (q := q) hp (by simp [paB, hd1, hd2, hd3, hd4]))
          go_wp2
          (refine bodyPost_ret (v := .tuple #[.slice none 0 0, .int .i64 (paC p col a1 a2 q)]) (by simp [results, Try.results34, go_sem, HV.out.2]) rfl (slicePost_nil HV.out.1 ?_))
          (repeat (first | with_reducible exact Below.refl _ _ | with_reducible refine balloc ?_ _ | with_reducible refine bdrewN ?_ _ | with_reducible refine Below.drew ?_ | with_reducible refine bthen ?_ (by with_reducible assumption) | with_reducible refine Below.setCell ?_ (by first | (simp; done) | (simp; omega)) _))
        · have hd4q := numsIn_one hd4
          have c_2 : codeOf p (numsIn p [q]) = 0 := codeOf_in hp (by simp [hd4])
          go_wp2_with fail
          refine Calls.mono (numbers_any _ _ _ _ _ [q] _ rfl (by simp) (by exact cells_at (by simp) [q] _)) ?_
          rintro e w' ⟨rfl, rfl⟩
          have HB : paB p col a1 a2 q = true := by simp [paB, hd1, hd2, hd3, hd4]
          have HS : paS p col a1 a2 q = 0 := by rfl
          have HV := Lib.hid (pa_good (col := col) (a1 := a1) (a2 := a2) (q := q) hp HB HS)
          clear HB HS
          have rg := nums2 hd3
          have ra1 : 0 ≤ a1 ∧ a1 ≤ 31 := by omega
          have ra2 : 0 ≤ a2 ∧ a2 ≤ 31 := by omega
          (go_wp2_with fail; refine Calls.mono (specAt02_any _ _ _ _ _ _ hp hc ra1 ra2) ?_; rintro e wz ⟨vz, rfl, hoz, hBz⟩)
          go_wp2
          (refine bodyPost_ret (v := .tuple #[vz, .int .i64 (paC p col a1 a2 q)]) (by simp [results, Try.results34, go_sem, HV.out.2]) rfl (slicePost_mk (by rw [HV.out.1]; exact own_base hoz (by first | (simp; done) | (simp; omega) | omega)) ?_))
          (repeat (first | exact Below.refl _ _ | refine balloc ?_ _ | refine bdrewN ?_ _ | refine Below.drew ?_ | refine bthen ?_ hBz | refine bthen ?_ hB1 | refine bthen ?_ hB2 | refine bthen ?_ hB3 | refine bthen ?_ hB4 | refine bthen ?_ hB5 | refine Below.setCell ?_ (by first | (simp; done) | (simp; omega)) _))

set_option linter.unusedSimpArgs false in
set_option maxRecDepth 20000 in
set_option maxHeartbeats 4000000 in
theorem implPointsAt_any (p col a1 a2 q : Int) (w : World) :
    Calls Try.prog 35 #[.int .i64 p, .int .i64 col, .agg #[.int .i64 a1, .int .i64 a2], .int .i64 q] w fun e w' =>
      SlicePost 35 2 (paL p col a1 a2 q) (paC p col a1 a2 q) w e w' := by
  go_enter Try.func35, Try.ntmps35
  rcases bool_ways (colB col) with hd1 | hd1
  · skip
    rcases bool_ways (isP p) with hd2 | hd2
    · skip
      have c_1 : codeOf p false = 1 := codeOf_no hd2
      have cN : ∀ b, codeOf p b = 1 := fun b => codeOf_no hd2
      go_wp2_with fail
      refine Calls.mono (isColour_any _ _) ?_
      rintro e w' ⟨rfl, rfl⟩
      go_wp2_with fail
      refine Calls.mono (codeFor_any _ _ _) ?_
      rintro e w' ⟨rfl, rfl⟩
      have HV := Lib.hid (pa_no (col := col) (a1 := a1) (a2 := a2) (q := q) hd2)
      go_wp2
      (refine bodyPost_ret (v := .tuple #[.slice none 0 0, .int .i64 (paC p col a1 a2 q)]) (by simp [results, Try.results35, go_sem, HV.out.2]) rfl (slicePost_nil HV.out.1 ?_))
      (repeat (first | with_reducible exact Below.refl _ _ | with_reducible refine balloc ?_ _ | with_reducible refine bdrewN ?_ _ | with_reducible refine Below.drew ?_ | with_reducible refine bthen ?_ (by with_reducible assumption) | with_reducible refine Below.setCell ?_ (by first | (simp; done) | (simp; omega)) _))
    · have hp := hd2
      have hr := isP_range hp
      have c_1 : codeOf p false = 2 := codeOf_out hp (by simp)
      have cT : codeOf p true = 0 := codeOf_in hp rfl
      have cF : codeOf p false = 2 := codeOf_out hp rfl
      go_wp2_with fail
      refine Calls.mono (isColour_any _ _) ?_
      rintro e w' ⟨rfl, rfl⟩
      go_wp2_with fail
      refine Calls.mono (codeFor_any _ _ _) ?_
      rintro e w' ⟨rfl, rfl⟩
      have HV := Lib.hid (pa_out (col := col) (a1 := a1) (a2 := a2) (q := q) hp (by simp [paB, hd1, hd2]))
      go_wp2
      (refine bodyPost_ret (v := .tuple #[.slice none 0 0, .int .i64 (paC p col a1 a2 q)]) (by simp [results, Try.results35, go_sem, HV.out.2]) rfl (slicePost_nil HV.out.1 ?_))
      (repeat (first | with_reducible exact Below.refl _ _ | with_reducible refine balloc ?_ _ | with_reducible refine bdrewN ?_ _ | with_reducible refine Below.drew ?_ | with_reducible refine bthen ?_ (by with_reducible assumption) | with_reducible refine Below.setCell ?_ (by first | (simp; done) | (simp; omega)) _))
  · have hc := hd1
    have hcr := colB_range hc
    rcases bool_ways (numsIn p [a1, a2]) with hd2 | hd2
    · skip
      rcases bool_ways (isP p) with hd3 | hd3
      · skip
        have c_1 : codeOf p false = 1 := codeOf_no hd3
        have cN : ∀ b, codeOf p b = 1 := fun b => codeOf_no hd3
        go_wp2_with fail
        refine Calls.mono (isColour_any _ _) ?_
        rintro e w' ⟨rfl, rfl⟩
        go_wp2_with fail
        refine Calls.mono (implPoints1 _ _ _ _ _ (by first | rfl | (simp; done))) ?_
        rintro e w1 ⟨rfl, hB1⟩
        (obtain ⟨hB1c, hB1f⟩ := bcell hB1; have hB1s := hB1.size; (try simp at hB1s); (try have hB1q1 := Nat.lt_of_succ_le hB1s); (try have hB1q2 := Nat.lt_of_succ_lt hB1q1); (try have hB1q3 := Nat.lt_of_succ_lt hB1q2); (try have hB1zw0 : w.heap.size < w1.heap.size := (by omega)); (try have hB1zw1 : w.heap.size + 1 < w1.heap.size := (by omega)); (try have hB1zw2 : w.heap.size + 1 + 1 < w1.heap.size := (by omega)); (try have hB1zw3 : w.heap.size + 1 + 1 + 1 < w1.heap.size := (by omega)); (try have hB1zw4 : w.heap.size + 1 + 1 + 1 + 1 < w1.heap.size := (by omega)))
        go_wp2_with fail
        refine Calls.mono (codeFor_any _ _ _) ?_
        rintro e w' ⟨rfl, rfl⟩
        have HV := Lib.hid (pa_no (col := col) (a1 := a1) (a2 := a2) (q := q) hd3)
        go_wp2
        (refine bodyPost_ret (v := .tuple #[.slice none 0 0, .int .i64 (paC p col a1 a2 q)]) (by simp [results, Try.results35, go_sem, HV.out.2]) rfl (slicePost_nil HV.out.1 ?_))
        (repeat (first | with_reducible exact Below.refl _ _ | with_reducible refine balloc ?_ _ | with_reducible refine bdrewN ?_ _ | with_reducible refine Below.drew ?_ | with_reducible refine bthen ?_ (by with_reducible assumption) | with_reducible refine Below.setCell ?_ (by first | (simp; done) | (simp; omega)) _))
      · have hp := hd3
        have hr := isP_range hp
        have c_1 : codeOf p false = 2 := codeOf_out hp (by simp)
        have cT : codeOf p true = 0 := codeOf_in hp rfl
        have cF : codeOf p false = 2 := codeOf_out hp rfl
        go_wp2_with fail
        refine Calls.mono (isColour_any _ _) ?_
        rintro e w' ⟨rfl, rfl⟩
        go_wp2_with fail
        refine Calls.mono (implPoints1 _ _ _ _ _ (by first | rfl | (simp; done))) ?_
        rintro e w1 ⟨rfl, hB1⟩
        (obtain ⟨hB1c, hB1f⟩ := bcell hB1; have hB1s := hB1.size; (try simp at hB1s); (try have hB1q1 := Nat.lt_of_succ_le hB1s); (try have hB1q2 := Nat.lt_of_succ_lt hB1q1); (try have hB1q3 := Nat.lt_of_succ_lt hB1q2); (try have hB1zw0 : w.heap.size < w1.heap.size := (by omega)); (try have hB1zw1 : w.heap.size + 1 < w1.heap.size := (by omega)); (try have hB1zw2 : w.heap.size + 1 + 1 < w1.heap.size := (by omega)); (try have hB1zw3 : w.heap.size + 1 + 1 + 1 < w1.heap.size := (by omega)); (try have hB1zw4 : w.heap.size + 1 + 1 + 1 + 1 < w1.heap.size := (by omega)))
        go_wp2_with fail
        refine Calls.mono (codeFor_any _ _ _) ?_
        rintro e w' ⟨rfl, rfl⟩
        have HV := Lib.hid (pa_out (col := col) (a1 := a1) (a2 := a2) (q := q) hp (by simp [paB, hd1, hd2, hd3]))
        go_wp2
        (refine bodyPost_ret (v := .tuple #[.slice none 0 0, .int .i64 (paC p col a1 a2 q)]) (by simp [results, Try.results35, go_sem, HV.out.2]) rfl (slicePost_nil HV.out.1 ?_))
        (repeat (first | with_reducible exact Below.refl _ _ | with_reducible refine balloc ?_ _ | with_reducible refine bdrewN ?_ _ | with_reducible refine Below.drew ?_ | with_reducible refine bthen ?_ (by with_reducible assumption) | with_reducible refine Below.setCell ?_ (by first | (simp; done) | (simp; omega)) _))
    · have hd2q := nums2 hd2
      rcases bool_ways (isP p) with hd3 | hd3
      · skip
        have c_1 : codeOf p (numsIn p [q]) = 1 := codeOf_no hd3
        have cN : ∀ b, codeOf p b = 1 := fun b => codeOf_no hd3
        go_wp2_with fail
        refine Calls.mono (isColour_any _ _) ?_
        rintro e w' ⟨rfl, rfl⟩
        go_wp2_with fail
        refine Calls.mono (implPoints1 _ _ _ _ _ (by first | rfl | (simp; done))) ?_
        rintro e w1 ⟨rfl, hB1⟩
        (obtain ⟨hB1c, hB1f⟩ := bcell hB1; have hB1s := hB1.size; (try simp at hB1s); (try have hB1q1 := Nat.lt_of_succ_le hB1s); (try have hB1q2 := Nat.lt_of_succ_lt hB1q1); (try have hB1q3 := Nat.lt_of_succ_lt hB1q2); (try have hB1zw0 : w.heap.size < w1.heap.size := (by omega)); (try have hB1zw1 : w.heap.size + 1 < w1.heap.size := (by omega)); (try have hB1zw2 : w.heap.size + 1 + 1 < w1.heap.size := (by omega)); (try have hB1zw3 : w.heap.size + 1 + 1 + 1 < w1.heap.size := (by omega)); (try have hB1zw4 : w.heap.size + 1 + 1 + 1 + 1 < w1.heap.size := (by omega)))
        go_wp2_with fail
        refine Calls.mono (areNums_any _ _ _ _ _ [q] _ rfl (by simp) (by exact cells_at (by simp) [q] _)) ?_
        rintro e w' ⟨rfl, rfl⟩
        go_wp2_with fail
        refine Calls.mono (codeFor_any _ _ _) ?_
        rintro e w' ⟨rfl, rfl⟩
        have HV := Lib.hid (pa_no (col := col) (a1 := a1) (a2 := a2) (q := q) hd3)
        go_wp2
        (refine bodyPost_ret (v := .tuple #[.slice none 0 0, .int .i64 (paC p col a1 a2 q)]) (by simp [results, Try.results35, go_sem, HV.out.2]) rfl (slicePost_nil HV.out.1 ?_))
        (repeat (first | with_reducible exact Below.refl _ _ | with_reducible refine balloc ?_ _ | with_reducible refine bdrewN ?_ _ | with_reducible refine Below.drew ?_ | with_reducible refine bthen ?_ (by with_reducible assumption) | with_reducible refine Below.setCell ?_ (by first | (simp; done) | (simp; omega)) _))
      · have hp := hd3
        have hr := isP_range hp
        rcases bool_ways (numsIn p [q]) with hd4 | hd4
        · skip
          have c_1 : codeOf p (numsIn p [q]) = 2 := codeOf_out hp (by simp [hd4])
          have cT : codeOf p true = 0 := codeOf_in hp rfl
          have cF : codeOf p false = 2 := codeOf_out hp rfl
          go_wp2_with fail
          refine Calls.mono (isColour_any _ _) ?_
          rintro e w' ⟨rfl, rfl⟩
          go_wp2_with fail
          refine Calls.mono (implPoints1 _ _ _ _ _ (by first | rfl | (simp; done))) ?_
          rintro e w1 ⟨rfl, hB1⟩
          (obtain ⟨hB1c, hB1f⟩ := bcell hB1; have hB1s := hB1.size; (try simp at hB1s); (try have hB1q1 := Nat.lt_of_succ_le hB1s); (try have hB1q2 := Nat.lt_of_succ_lt hB1q1); (try have hB1q3 := Nat.lt_of_succ_lt hB1q2); (try have hB1zw0 : w.heap.size < w1.heap.size := (by omega)); (try have hB1zw1 : w.heap.size + 1 < w1.heap.size := (by omega)); (try have hB1zw2 : w.heap.size + 1 + 1 < w1.heap.size := (by omega)); (try have hB1zw3 : w.heap.size + 1 + 1 + 1 < w1.heap.size := (by omega)); (try have hB1zw4 : w.heap.size + 1 + 1 + 1 + 1 < w1.heap.size := (by omega)))
          go_wp2_with fail
          refine Calls.mono (areNums_any _ _ _ _ _ [q] _ rfl (by simp) (by exact cells_at (by simp) [q] _)) ?_
          rintro e w' ⟨rfl, rfl⟩
          go_wp2_with fail
          refine Calls.mono (codeFor_any _ _ _) ?_
          rintro e w' ⟨rfl, rfl⟩
          have HV := Lib.hid (pa_out (col := col) (a1 := a1) (a2 := a2) (q := q) hp (by simp [paB, hd1, hd2, hd3, hd4]))
          go_wp2
          (refine bodyPost_ret (v := .tuple #[.slice none 0 0, .int .i64 (paC p col a1 a2 q)]) (by simp [results, Try.results35, go_sem, HV.out.2]) rfl (slicePost_nil HV.out.1 ?_))
          (repeat (first | with_reducible exact Below.refl _ _ | with_reducible refine balloc ?_ _ | with_reducible refine bdrewN ?_ _ | with_reducible refine Below.drew ?_ | with_reducible refine bthen ?_ (by with_reducible assumption) | with_reducible refine Below.setCell ?_ (by first | (simp; done) | (simp; omega)) _))
        · have hd4q := numsIn_one hd4
          have c_1 : codeOf p (numsIn p [q]) = 0 := codeOf_in hp (by simp [hd4])
          have cT : codeOf p true = 0 := codeOf_in hp rfl
          go_wp2_with fail
          refine Calls.mono (isColour_any _ _) ?_
          rintro e w' ⟨rfl, rfl⟩
          go_wp2_with fail
          refine Calls.mono (implPoints1 _ _ _ _ _ (by first | rfl | (simp; done))) ?_
          rintro e w1 ⟨rfl, hB1⟩
          (obtain ⟨hB1c, hB1f⟩ := bcell hB1; have hB1s := hB1.size; (try simp at hB1s); (try have hB1q1 := Nat.lt_of_succ_le hB1s); (try have hB1q2 := Nat.lt_of_succ_lt hB1q1); (try have hB1q3 := Nat.lt_of_succ_lt hB1q2); (try have hB1zw0 : w.heap.size < w1.heap.size := (by omega)); (try have hB1zw1 : w.heap.size + 1 < w1.heap.size := (by omega)); (try have hB1zw2 : w.heap.size + 1 + 1 < w1.heap.size := (by omega)); (try have hB1zw3 : w.heap.size + 1 + 1 + 1 < w1.heap.size := (by omega)); (try have hB1zw4 : w.heap.size + 1 + 1 + 1 + 1 < w1.heap.size := (by omega)))
          go_wp2_with fail
          refine Calls.mono (areNums_any _ _ _ _ _ [q] _ rfl (by simp) (by exact cells_at (by simp) [q] _)) ?_
          rintro e w' ⟨rfl, rfl⟩
          go_wp2_with fail
          refine Calls.mono (codeFor_any _ _ _) ?_
          rintro e w' ⟨rfl, rfl⟩
          have HB : paB p col a1 a2 q = true := by simp [paB, hd1, hd2, hd3, hd4]
          have HS : paS p col a1 a2 q = 0 := by rfl
          have HV := Lib.hid (pa_good (col := col) (a1 := a1) (a2 := a2) (q := q) hp HB HS)
          clear HB HS
          have rg := nums2 hd2
          have ra1 : 0 ≤ a1 ∧ a1 ≤ 31 := by omega
          have ra2 : 0 ≤ a2 ∧ a2 ≤ 31 := by omega
          (go_wp2_with fail; refine Calls.mono (pointsAt_any _ _ _ _ _ _ hp hc ra1 ra2) ?_; rintro e wz ⟨Bz, nz, rfl, hm, hnz, hBz⟩)
          have hSz := pa_set (col := col) (a1 := a1) (a2 := a2) (q := q) hp
          have hNz := pa_size (col := col) (a1 := a1) (a2 := a2) (q := q) hp
          have hLz := pa_list (col := col) (a1 := a1) (a2 := a2) (q := q) hp
          (go_wp2_with fail; refine Calls.mono (keysOfPt_any _ _) ?_; rintro e wk ⟨rfl, rfl⟩)
          skip
          (go_wp2_with fail; refine Calls.mono (sortedPt _ _ (enters_of Try.func108 (by kernel_rfl) rfl) _ _ _ hNz.1 hNz.2 _ (keysPt_stops hSz 8 wz.heap.size Bz nz (by decide) (wz.alloc (.cells #[.map (some Bz)] 98)) (by simp) (kfresh rfl rfl) (hm.kept (World.grownBy_alloc _ _ none) (by simp)))) ?_; rintro e wy ⟨vy, dy, sy, rfl, hsy, hpy, hoy, hwy, hBy⟩)
          have hdy := hLz dy sy hsy hpy hoy
          rw [hdy] at hwy
          have hB8 : Below w.heap.size w wz := by (repeat (first | exact Below.refl _ _ | refine balloc ?_ _ | refine bdrewN ?_ _ | refine Below.drew ?_ | refine bthen ?_ hBz | refine bthen ?_ hB1 | refine bthen ?_ hB2 | refine bthen ?_ hB3 | refine bthen ?_ hB4 | refine bthen ?_ hB5 | refine Below.setCell ?_ (by first | (simp; done) | (simp; omega)) _))
          have hwz : w.heap.size ≤ (wz.alloc (.cells #[.map (some Bz)] 98)).heap.size := Nat.le_trans hB8.size (by simp)
          have hB9 : Below w.heap.size w wy := by (repeat (first | exact Below.refl _ _ | refine balloc ?_ _ | refine bdrewN ?_ _ | refine Below.drew ?_ | refine bthen ?_ hBy | refine bthen ?_ hBz | refine bthen ?_ hB1 | refine bthen ?_ hB2 | refine bthen ?_ hB3 | refine bthen ?_ hB4 | refine bthen ?_ hB5 | refine Below.setCell ?_ (by first | (simp; done) | (simp; omega)) _))
          clear hSz hNz hLz hsy hpy hoy hdy hm
          go_wp2
          (refine bodyPost_ret (v := .tuple #[vy, .int .i64 (paC p col a1 a2 q)]) (by simp [results, Try.results35, go_sem, HV.out.2]) rfl (slicePost_mk (by rw [HV.out.1]; exact own_base hwy hwz) hB9))

theorem pa_len (p col a1 a2 q : Int) : (paL p col a1 a2 q).length ≤ 4096 := by
  unfold paL
  split
  · rename_i h
    have hp : isP p = true := by
      cases hh : isP p
      · simp [paC, hh] at h
      · rfl
    rw [flat_length]
    have := pa_cnt (col := col) (a1 := a1) (a2 := a2) (q := q) hp
    omega
  · simp

end Go.Proofs.Ytklfgelmieecmab
