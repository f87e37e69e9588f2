/-
  The model's NullLines.
-/
import Derived.Test.YtjjeekmhpcllaaaSpecNormal
import Derived.Test.YtjjeekmhpcllaaaSpecPerp
import Derived.Test.YtjjeekmhpcllaaaSpecColPts
import Derived.Test.YtjjeekmhpcllaaaNullPencil
import Derived.Test.YtjjeekmhpcllaaaLnCells
import Derived.Test.YtjjeekmhpcllaaaGrow
import Derived.Test.YtjjeekmhpcllaaaBaseMath
namespace Go.Proofs.Ytjjeekmhpcllaaa
open Go.RowKit

set_option linter.unusedVariables false in
def nuB (p col a1 a2 : Int) : Bool := colB col && numsIn p [a1, a2]
set_option linter.unusedVariables false in
def nuS (p col a1 a2 : Int) : Int := 0
set_option linter.unusedVariables false in
def nuC (p col a1 a2 : Int) : Int := if isP p = true then (if nuB p col a1 a2 = true then nuS p col a1 a2 else 2) else 1
set_option linter.unusedVariables false in
def nuL (p col a1 a2 : Int) : List Int := if nuC p col a1 a2 = 0 then flat3 (nulls p col a1 a2 (p.toNat + 1)) else []
theorem nu_zero {p col a1 a2 k : Int} (h : nuC p col a1 a2 = k) (hk : k ≠ 0) : nuL p col a1 a2 = [] ∧ nuC p col a1 a2 = k := ⟨if_neg fun e => hk (h.symm.trans e), h⟩
theorem nu_no {p col a1 a2 : Int} (h : isP p = false) : nuL p col a1 a2 = [] ∧ nuC p col a1 a2 = 1 := nu_zero (by simp [nuC, h]) (by decide)
theorem nu_out {p col a1 a2 : Int} (hp : isP p = true) (h : nuB p col a1 a2 = false) : nuL p col a1 a2 = [] ∧ nuC p col a1 a2 = 2 := nu_zero (by simp [nuC, hp, h]) (by decide)
theorem nu_st {p col a1 a2 k : Int} (hp : isP p = true) (h : nuB p col a1 a2 = true) (hs : nuS p col a1 a2 = k) (hk : k ≠ 0) : nuL p col a1 a2 = [] ∧ nuC p col a1 a2 = k := nu_zero (by simp [nuC, hp, h, hs]) hk
theorem nu_good {p col a1 a2 : Int} (hp : isP p = true) (h : nuB p col a1 a2 = true) (hs : nuS p col a1 a2 = 0) : nuL p col a1 a2 = flat3 (nulls p col a1 a2 (p.toNat + 1)) ∧ nuC p col a1 a2 = 0 := by
  have h' : nuC p col a1 a2 = 0 := by simp [nuC, hp, h, hs]
  exact ⟨if_pos h', h'⟩

set_option linter.unusedSimpArgs false in
set_option maxRecDepth 20000 in
set_option maxHeartbeats 4000000 in
theorem specNullLines_any (p col a1 a2 : Int) (w : World) :
    Calls Try.prog 49 #[.int .i64 p, .int .i64 col, .agg #[.int .i64 a1, .int .i64 a2]] w fun e w' =>
      SlicePost 29 3 (nuL p col a1 a2) (nuC p col a1 a2) w e w' := by
  go_enter Try.func49, Try.ntmps49
  rcases bool_ways (isP p) with hd1 | hd1
  · skip
    have c_1 : codeOf p (colB col && numsIn p [a1, a2]) = 1 := codeOf_no hd1
    have cN : ∀ b, codeOf p b = 1 := fun b => codeOf_no hd1
    go_wp2_with fail
    refine Calls.mono (specColCode1 _ _ _ _ _ _ (by first | rfl | (simp; done))) ?_
    rintro e w1 ⟨rfl, hB1⟩
    (obtain ⟨hB1c, hB1f⟩ := bcell hB1; have hB1s := hB1.size; (try simp at hB1s); (try have hB1q1 := Nat.lt_of_succ_le hB1s); (try have hB1q2 := Nat.lt_of_succ_lt hB1q1); (try have hB1q3 := Nat.lt_of_succ_lt hB1q2); (try have hB1zw0 : w.heap.size < w1.heap.size := (by omega)); (try have hB1zw1 : w.heap.size + 1 < w1.heap.size := (by omega)); (try have hB1zw2 : w.heap.size + 1 + 1 < w1.heap.size := (by omega)); (try have hB1zw3 : w.heap.size + 1 + 1 + 1 < w1.heap.size := (by omega)); (try have hB1zw4 : w.heap.size + 1 + 1 + 1 + 1 < w1.heap.size := (by omega)))
    have HV := Lib.hid (nu_no (col := col) (a1 := a1) (a2 := a2) hd1)
    go_wp2
    (refine bodyPost_ret (v := .tuple #[.slice none 0 0, .int .i64 (nuC p col a1 a2)]) (by simp [results, Try.results49, go_sem, HV.out.2]) rfl (slicePost_nil HV.out.1 ?_))
    (repeat (first | with_reducible exact Below.refl _ _ | with_reducible refine balloc ?_ _ | with_reducible refine bdrewN ?_ _ | with_reducible refine Below.drew ?_ | with_reducible refine bthen ?_ (by with_reducible assumption) | with_reducible refine Below.setCell ?_ (by first | (simp; done) | (simp; omega)) _))
  · have hp := hd1
    have hr := isP_range hp
    rcases bool_ways (colB col) with hd2 | hd2
    · skip
      have c_1 : codeOf p (colB col && numsIn p [a1, a2]) = 2 := codeOf_out hp (by simp [hd2])
      have cT : codeOf p true = 0 := codeOf_in hp rfl
      have cF : codeOf p false = 2 := codeOf_out hp rfl
      go_wp2_with fail
      refine Calls.mono (specColCode1 _ _ _ _ _ _ (by first | rfl | (simp; done))) ?_
      rintro e w1 ⟨rfl, hB1⟩
      (obtain ⟨hB1c, hB1f⟩ := bcell hB1; have hB1s := hB1.size; (try simp at hB1s); (try have hB1q1 := Nat.lt_of_succ_le hB1s); (try have hB1q2 := Nat.lt_of_succ_lt hB1q1); (try have hB1q3 := Nat.lt_of_succ_lt hB1q2); (try have hB1zw0 : w.heap.size < w1.heap.size := (by omega)); (try have hB1zw1 : w.heap.size + 1 < w1.heap.size := (by omega)); (try have hB1zw2 : w.heap.size + 1 + 1 < w1.heap.size := (by omega)); (try have hB1zw3 : w.heap.size + 1 + 1 + 1 < w1.heap.size := (by omega)); (try have hB1zw4 : w.heap.size + 1 + 1 + 1 + 1 < w1.heap.size := (by omega)))
      have HV := Lib.hid (nu_out (col := col) (a1 := a1) (a2 := a2) hp (by simp [nuB, hd1, hd2]))
      go_wp2
      (refine bodyPost_ret (v := .tuple #[.slice none 0 0, .int .i64 (nuC p col a1 a2)]) (by simp [results, Try.results49, go_sem, HV.out.2]) rfl (slicePost_nil HV.out.1 ?_))
      (repeat (first | with_reducible exact Below.refl _ _ | with_reducible refine balloc ?_ _ | with_reducible refine bdrewN ?_ _ | with_reducible refine Below.drew ?_ | with_reducible refine bthen ?_ (by with_reducible assumption) | with_reducible refine Below.setCell ?_ (by first | (simp; done) | (simp; omega)) _))
    · have hc := hd2
      have hcr := colB_range hc
      rcases bool_ways (numsIn p [a1, a2]) with hd3 | hd3
      · skip
        have c_1 : codeOf p (colB col && numsIn p [a1, a2]) = 2 := codeOf_out hp (by simp [hd2, hd3])
        have cT : codeOf p true = 0 := codeOf_in hp rfl
        have cF : codeOf p false = 2 := codeOf_out hp rfl
        go_wp2_with fail
        refine Calls.mono (specColCode1 _ _ _ _ _ _ (by first | rfl | (simp; done))) ?_
        rintro e w1 ⟨rfl, hB1⟩
        (obtain ⟨hB1c, hB1f⟩ := bcell hB1; have hB1s := hB1.size; (try simp at hB1s); (try have hB1q1 := Nat.lt_of_succ_le hB1s); (try have hB1q2 := Nat.lt_of_succ_lt hB1q1); (try have hB1q3 := Nat.lt_of_succ_lt hB1q2); (try have hB1zw0 : w.heap.size < w1.heap.size := (by omega)); (try have hB1zw1 : w.heap.size + 1 < w1.heap.size := (by omega)); (try have hB1zw2 : w.heap.size + 1 + 1 < w1.heap.size := (by omega)); (try have hB1zw3 : w.heap.size + 1 + 1 + 1 < w1.heap.size := (by omega)); (try have hB1zw4 : w.heap.size + 1 + 1 + 1 + 1 < w1.heap.size := (by omega)))
        have HV := Lib.hid (nu_out (col := col) (a1 := a1) (a2 := a2) hp (by simp [nuB, hd1, hd2, hd3]))
        go_wp2
        (refine bodyPost_ret (v := .tuple #[.slice none 0 0, .int .i64 (nuC p col a1 a2)]) (by simp [results, Try.results49, go_sem, HV.out.2]) rfl (slicePost_nil HV.out.1 ?_))
        (repeat (first | with_reducible exact Below.refl _ _ | with_reducible refine balloc ?_ _ | with_reducible refine bdrewN ?_ _ | with_reducible refine Below.drew ?_ | with_reducible refine bthen ?_ (by with_reducible assumption) | with_reducible refine Below.setCell ?_ (by first | (simp; done) | (simp; omega)) _))
      · have hd3q := nums2 hd3
        have c_1 : codeOf p (colB col && numsIn p [a1, a2]) = 0 := codeOf_in hp (by simp [hd2, hd3])
        have cT : codeOf p true = 0 := codeOf_in hp rfl
        go_wp2_with fail
        refine Calls.mono (specColCode1 _ _ _ _ _ _ (by first | rfl | (simp; done))) ?_
        rintro e w1 ⟨rfl, hB1⟩
        (obtain ⟨hB1c, hB1f⟩ := bcell hB1; have hB1s := hB1.size; (try simp at hB1s); (try have hB1q1 := Nat.lt_of_succ_le hB1s); (try have hB1q2 := Nat.lt_of_succ_lt hB1q1); (try have hB1q3 := Nat.lt_of_succ_lt hB1q2); (try have hB1zw0 : w.heap.size < w1.heap.size := (by omega)); (try have hB1zw1 : w.heap.size + 1 < w1.heap.size := (by omega)); (try have hB1zw2 : w.heap.size + 1 + 1 < w1.heap.size := (by omega)); (try have hB1zw3 : w.heap.size + 1 + 1 + 1 < w1.heap.size := (by omega)); (try have hB1zw4 : w.heap.size + 1 + 1 + 1 + 1 < w1.heap.size := (by omega)))
        have HB : nuB p col a1 a2 = true := by simp [nuB, hd1, hd2, hd3]
        have HS : nuS p col a1 a2 = 0 := by rfl
        have HV := Lib.hid (nu_good (col := col) (a1 := a1) (a2 := a2) hp HB HS)
        clear HB HS
        have ka0 : w1.cell? ⟨w.heap.size, 0, none⟩ = some (.int .i64 a1) := by (first | with_reducible assumption | (repeat (first | with_reducible assumption | ((with_reducible refine kfresh ?_ ?_) <;> (first | with_reducible rfl | (simp; done))) | ((with_reducible refine ksameS ?_); focus ((repeat (first | with_reducible exact kis_of (by with_reducible assumption) | with_reducible refine kis_set ?_ | ((with_reducible refine kis_new ?_ ?_) <;> (first | with_reducible rfl | rfl | (simp; done))) | with_reducible refine kis_alloc _ ?_ | with_reducible refine kis_drew ?_ | with_reducible refine kis_call (by with_reducible assumption) ?_ | with_reducible exact kis_of (kcall (by with_reducible assumption) (by with_reducible assumption)))); done)) | with_reducible refine kother (by decide) ?_ | with_reducible refine kset (by first | omega | (simp; done) | (simp; omega)) ?_ | with_reducible refine kalloc _ ?_ | with_reducible refine kdrew ?_ | with_reducible refine kcall (by with_reducible assumption) ?_)))
        have ka1 : w1.cell? ⟨w.heap.size, 1, none⟩ = some (.int .i64 a2) := by (first | with_reducible assumption | (repeat (first | with_reducible assumption | ((with_reducible refine kfresh ?_ ?_) <;> (first | with_reducible rfl | (simp; done))) | ((with_reducible refine ksameS ?_); focus ((repeat (first | with_reducible exact kis_of (by with_reducible assumption) | with_reducible refine kis_set ?_ | ((with_reducible refine kis_new ?_ ?_) <;> (first | with_reducible rfl | rfl | (simp; done))) | with_reducible refine kis_alloc _ ?_ | with_reducible refine kis_drew ?_ | with_reducible refine kis_call (by with_reducible assumption) ?_ | with_reducible exact kis_of (kcall (by with_reducible assumption) (by with_reducible assumption)))); done)) | with_reducible refine kother (by decide) ?_ | with_reducible refine kset (by first | omega | (simp; done) | (simp; omega)) ?_ | with_reducible refine kalloc _ ?_ | with_reducible refine kdrew ?_ | with_reducible refine kcall (by with_reducible assumption) ?_)))
        have hl0 : w.heap.size < w1.heap.size := World.block_lt_of_cell? w1 ⟨w.heap.size, 0, none⟩ ka0
        have hW0 : Below w.heap.size w w1 := by (repeat (first | exact Below.refl _ _ | refine balloc ?_ _ | refine bdrewN ?_ _ | refine Below.drew ?_ | refine bthen ?_ hB1 | refine bthen ?_ hB2 | refine Below.setCell ?_ (by first | (simp; done) | (simp; omega)) _))
        have rg := nums2 hd3
        have hc0 : (p.toNat : Int) = p := Int.toNat_of_nonneg (by omega)
        have HC0 := Lib.hid hc0
        clear hc0
        obtain ⟨i0, hi, hz0, hz1, hz2⟩ := info_parts infoLn
        go_wp2_with fail
        go_loopw [9, 10] (fun v i wr => ∃ (k : Nat) (i' : Int), i' + 1 = k ∧ i' ≤ p ∧ i = .int .i64 i' ∧ wr.ownsRow w1.heap.size 29 3 v (nulls p col a1 a2 k).length (ints (flat3 (nulls p col a1 a2 k))) ∧ Below w1.heap.size w1 wr) (fun _ i _ => (p - intOf i).toNat)
        case atStart => exact ⟨0, -1, by omega, by omega, rfl, own_lit0 _ _ _ (by first | exact Nat.le_refl _ | omega | (simp; done) | (simp; omega)) (by first | rfl | (simp; done)), by (repeat (first | with_reducible exact Below.refl _ _ | with_reducible refine balloc ?_ _ | with_reducible refine bdrewN ?_ _ | with_reducible refine Below.drew ?_ | with_reducible refine bthen ?_ (by with_reducible assumption) | with_reducible refine Below.setCell ?_ (by first | (simp; done) | (simp; omega)) _))⟩
        case round =>
          obtain ⟨k, i', hki, hip, rfl, hown, hbel⟩ := hrel
          have hlen := nulls_len p col a1 a2 k
          by_cases hlt : i' < p
          · have c0 := (cell_old hbel hl0 0).trans ka0
            have c1 := (cell_old hbel hl0 1).trans ka1
            have hsr := hbel.size
            have hlr : w.heap.size < wr.heap.size := by omega
            obtain ⟨t, ht⟩ : ∃ t, t = lineAt p a1 a2 k := ⟨_, rfl⟩
            obtain ⟨t1, t2, t3⟩ := t
            obtain ⟨u1, hu1⟩ : ∃ u, u = mk1 p 0 1 (-a2) := ⟨_, rfl⟩
            obtain ⟨u2, hu2⟩ : ∃ u, u = mk2 p 0 1 (-a2) := ⟨_, rfl⟩
            obtain ⟨u3, hu3⟩ : ∃ u, u = mk3 p 0 1 (-a2) := ⟨_, rfl⟩
            rcases k with _ | j
            · have ei : i' = -1 := by omega
              subst ei
              have ht0 := ht
              rw [lineAt_0 a1 a2 hp] at ht0
              obtain ⟨e1, e2, e3⟩ : t1 = mk1 p 0 1 (-a2) ∧ t2 = mk2 p 0 1 (-a2) ∧ t3 = mk3 p 0 1 (-a2) := by simpa using ht0
              have HE := Lib.hid (show mk1 p 0 1 (-a2) = t1 ∧ mk2 p 0 1 (-a2) = t2 ∧ mk3 p 0 1 (-a2) = t3 from ⟨e1.symm, e2.symm, e3.symm⟩)
              have q1 := modR (0 * nrm p 0 1) hp
              have q2 := modR (1 * nrm p 0 1) hp
              have r1 : 0 ≤ t1 ∧ t1 < p := by rw [e1]; exact q1
              have r2 : 0 ≤ t2 ∧ t2 < p := by rw [e2]; exact q2
              have HT := Lib.hid ht
              clear ht ht0 e1 e2 e3 hu1 hu2 hu3 q1 q2
              go_wp2_with fail
              refine Calls.mono (normal_any _ _ _ _ _ hp (by omega) (by omega) (by omega)) ?_
              rw [HE.out.1, HE.out.2.1, HE.out.2.2]
              rintro e wy ⟨rfl, hBy⟩
              (obtain ⟨hByc, hByf⟩ := bcell hBy; have hBys := hBy.size; (try simp at hBys); (try have hByq1 := Nat.lt_of_succ_le hBys); (try have hByq2 := Nat.lt_of_succ_lt hByq1); (try have hByq3 := Nat.lt_of_succ_lt hByq2); (try have hByzw0 : w.heap.size < wy.heap.size := (by omega)); (try have hByzw1 : w.heap.size + 1 < wy.heap.size := (by omega)); (try have hByzw2 : w.heap.size + 1 + 1 < wy.heap.size := (by omega)); (try have hByzw3 : w.heap.size + 1 + 1 + 1 < wy.heap.size := (by omega)); (try have hByzw4 : w.heap.size + 1 + 1 + 1 + 1 < wy.heap.size := (by omega)); (try have hByzwr_heap_size : wr.heap.size < wy.heap.size := (by omega)))
              go_wp2_with fail
              refine Calls.mono (specPerp_any _ _ _ _ _ _ _ _ _ hp hc (by omega) (by omega) (by omega) (by omega)) ?_
              rintro e wv ⟨rfl, hBv⟩
              (obtain ⟨hBvc, hBvf⟩ := bcell hBv; have hBvs := hBv.size; (try simp at hBvs); (try have hBvq1 := Nat.lt_of_succ_le hBvs); (try have hBvq2 := Nat.lt_of_succ_lt hBvq1); (try have hBvq3 := Nat.lt_of_succ_lt hBvq2); (try have hBvzw0 : w.heap.size < wv.heap.size := (by omega)); (try have hBvzw1 : w.heap.size + 1 < wv.heap.size := (by omega)); (try have hBvzw2 : w.heap.size + 1 + 1 < wv.heap.size := (by omega)); (try have hBvzw3 : w.heap.size + 1 + 1 + 1 < wv.heap.size := (by omega)); (try have hBvzw4 : w.heap.size + 1 + 1 + 1 + 1 < wv.heap.size := (by omega)); (try have hBvzwy0 : wy.heap.size < wv.heap.size := (by omega)); (try have hBvzwy1 : wy.heap.size + 1 < wv.heap.size := (by omega)); (try have hBvzwy2 : wy.heap.size + 1 + 1 < wv.heap.size := (by omega)); (try have hBvzwy3 : wy.heap.size + 1 + 1 + 1 < wv.heap.size := (by omega)); (try have hBvzwy4 : wy.heap.size + 1 + 1 + 1 + 1 < wv.heap.size := (by omega)); (try have hBvzwy_heap_size : wy.heap.size < wv.heap.size := (by omega)))
              have hb1 : Below wr.heap.size wr wv := by (repeat (first | exact Below.refl _ _ | refine balloc ?_ _ | refine bdrewN ?_ _ | refine Below.drew ?_ | refine bthen ?_ hBv | refine bthen ?_ hBy | refine Below.setCell ?_ (by first | (simp; done) | (simp; omega)) _))
              have ho2 := own_call hown hb1
              have hb2 : Below w1.heap.size w1 wv := hbel.trans (hb1.mono hbel.size)
              rcases bool_ways (perpB p col t1 t2 t1 t2) with hq | hq
              · have HN := Lib.hid (nulls_no (show nullT p col (lineAt p a1 a2 0) = false by rw [← HT.out]; exact hq))
                go_wp2
                go_roundw
                case rel => exact ⟨0 + 1, 0, by omega, by omega, by go_num, by rw [HN.out]; exact ho2, hb2⟩
                case measure => simp [intOf]; omega
              · have HN := Lib.hid (nulls_yes (show nullT p col (lineAt p a1 a2 0) = true by rw [← HT.out]; exact hq))
                go_wp2_with (at_builtin; refine wpList_append_own _ rfl _ _ 50 rfl w1.heap.size 29 i0 (.agg #[.int .i64 0, .int .i64 0, .int .i64 0]) 3 24 Try.underlying50 hi hz0 hz1 hz2 rfl (by decide) _ _ _ rfl (ho2.alloc _) ⟨wv.heap.size, 0, none⟩ 1 1 [.int .i64 t1, .int .i64 t2, .int .i64 t3] rfl rfl (ln_cells rfl) (ln_one _ _ _) (by unfold maxLen; omega) (by omega) (by first | exact Nat.le_refl _ | omega | (simp; done) | (simp; omega)) ?_)
                intro v' w2 hown' hgrow _
                have hb3 : Below w1.heap.size w1 w2 := (hb2.alloc (by have := hb2.size; omega) _).grown hgrow (by first | exact Nat.le_refl _ | omega | (simp; done) | (simp; omega)) (fun g hg => (ho2.lt g hg).1)
                have HO := Lib.hid (show w2.ownsRow w1.heap.size 29 3 v' (nulls p col a1 a2 (0 + 1)).length (ints (flat3 (nulls p col a1 a2 (0 + 1)))) from by rw [HN.out, List.length_append, ← HT.out, flat3_append, ints_append]; exact hown')
                clear hown' hgrow ho2 hown hbel hb2
                go_wp2
                go_roundw
                case rel => exact ⟨0 + 1, 0, by omega, by omega, by go_num, HO.out, hb3⟩
                case measure => simp [intOf]; omega
            · have ej : i' = (j : Int) := by omega
              subst ej
              clear hki
              have ht0 := ht
              rw [lineAt_1 a1 a2 j hp (by omega)] at ht0
              obtain ⟨e1, e2, e3⟩ : t1 = mk1 p 1 (j : Int) (-(a1 + j * a2)) ∧ t2 = mk2 p 1 (j : Int) (-(a1 + j * a2)) ∧ t3 = mk3 p 1 (j : Int) (-(a1 + j * a2)) := by simpa using ht0
              have HE := Lib.hid (show mk1 p 1 (j : Int) (-(a1 + j * a2)) = t1 ∧ mk2 p 1 (j : Int) (-(a1 + j * a2)) = t2 ∧ mk3 p 1 (j : Int) (-(a1 + j * a2)) = t3 from ⟨e1.symm, e2.symm, e3.symm⟩)
              have HU := Lib.hid (show mk1 p 0 1 (-a2) = u1 ∧ mk2 p 0 1 (-a2) = u2 ∧ mk3 p 0 1 (-a2) = u3 from ⟨hu1.symm, hu2.symm, hu3.symm⟩)
              have q1 := modR (1 * nrm p 1 (j : Int)) hp
              have q2 := modR ((j : Int) * nrm p 1 (j : Int)) hp
              have r1 : 0 ≤ t1 ∧ t1 < p := by rw [e1]; exact q1
              have r2 : 0 ≤ t2 ∧ t2 < p := by rw [e2]; exact q2
              have mu := mulNN 31 31 961 (by decide) (a := (j : Int)) (b := a2) (by omega) (by omega)
              have ew1 : IntKind.i64.wrap ((j : Int) * a2) = (j : Int) * a2 := wrapI _ (by omega)
              have ew2 : IntKind.i64.wrap (a1 + (j : Int) * a2) = a1 + (j : Int) * a2 := wrapI _ (by omega)
              have ew3 : IntKind.i64.wrap (-(a1 + (j : Int) * a2)) = -(a1 + (j : Int) * a2) := wrapI _ (by omega)
              have HT := Lib.hid ht
              clear ht ht0 e1 e2 e3 hu1 hu2 hu3 q1 q2
              go_wp2_with fail
              refine Calls.mono (normal_any _ _ _ _ _ hp (by omega) (by omega) (by omega)) ?_
              rw [HU.out.1, HU.out.2.1, HU.out.2.2]
              rintro e wx ⟨rfl, hBx⟩
              (obtain ⟨hBxc, hBxf⟩ := bcell hBx; have hBxs := hBx.size; (try simp at hBxs); (try have hBxq1 := Nat.lt_of_succ_le hBxs); (try have hBxq2 := Nat.lt_of_succ_lt hBxq1); (try have hBxq3 := Nat.lt_of_succ_lt hBxq2); (try have hBxzw0 : w.heap.size < wx.heap.size := (by omega)); (try have hBxzw1 : w.heap.size + 1 < wx.heap.size := (by omega)); (try have hBxzw2 : w.heap.size + 1 + 1 < wx.heap.size := (by omega)); (try have hBxzw3 : w.heap.size + 1 + 1 + 1 < wx.heap.size := (by omega)); (try have hBxzw4 : w.heap.size + 1 + 1 + 1 + 1 < wx.heap.size := (by omega)); (try have hBxzwr_heap_size : wr.heap.size < wx.heap.size := (by omega)))
              have d0 := (cell_back hBx hlr 0).trans c0
              have d1 := (cell_back hBx hlr 1).trans c1
              have hj0 : decide (0 ≤ (j : Int)) = true := decide_eq_true (by omega)
              go_wp2_with fail
              refine Calls.mono (normal_any _ _ _ _ _ hp (by omega) (by omega) (by omega)) ?_
              rw [HE.out.1, HE.out.2.1, HE.out.2.2]
              rintro e wy ⟨rfl, hBy⟩
              (obtain ⟨hByc, hByf⟩ := bcell hBy; have hBys := hBy.size; (try simp at hBys); (try have hByq1 := Nat.lt_of_succ_le hBys); (try have hByq2 := Nat.lt_of_succ_lt hByq1); (try have hByq3 := Nat.lt_of_succ_lt hByq2); (try have hByzw0 : w.heap.size < wy.heap.size := (by omega)); (try have hByzw1 : w.heap.size + 1 < wy.heap.size := (by omega)); (try have hByzw2 : w.heap.size + 1 + 1 < wy.heap.size := (by omega)); (try have hByzw3 : w.heap.size + 1 + 1 + 1 < wy.heap.size := (by omega)); (try have hByzw4 : w.heap.size + 1 + 1 + 1 + 1 < wy.heap.size := (by omega)); (try have hByzwx0 : wx.heap.size < wy.heap.size := (by omega)); (try have hByzwx1 : wx.heap.size + 1 < wy.heap.size := (by omega)); (try have hByzwx2 : wx.heap.size + 1 + 1 < wy.heap.size := (by omega)); (try have hByzwx3 : wx.heap.size + 1 + 1 + 1 < wy.heap.size := (by omega)); (try have hByzwx4 : wx.heap.size + 1 + 1 + 1 + 1 < wy.heap.size := (by omega)); (try have hByzwx_heap_size : wx.heap.size < wy.heap.size := (by omega)); (try have hByzwr_heap_size : wr.heap.size < wy.heap.size := (by omega)))
              go_wp2_with fail
              refine Calls.mono (specPerp_any _ _ _ _ _ _ _ _ _ hp hc (by omega) (by omega) (by omega) (by omega)) ?_
              rintro e wv ⟨rfl, hBv⟩
              (obtain ⟨hBvc, hBvf⟩ := bcell hBv; have hBvs := hBv.size; (try simp at hBvs); (try have hBvq1 := Nat.lt_of_succ_le hBvs); (try have hBvq2 := Nat.lt_of_succ_lt hBvq1); (try have hBvq3 := Nat.lt_of_succ_lt hBvq2); (try have hBvzw0 : w.heap.size < wv.heap.size := (by omega)); (try have hBvzw1 : w.heap.size + 1 < wv.heap.size := (by omega)); (try have hBvzw2 : w.heap.size + 1 + 1 < wv.heap.size := (by omega)); (try have hBvzw3 : w.heap.size + 1 + 1 + 1 < wv.heap.size := (by omega)); (try have hBvzw4 : w.heap.size + 1 + 1 + 1 + 1 < wv.heap.size := (by omega)); (try have hBvzwy0 : wy.heap.size < wv.heap.size := (by omega)); (try have hBvzwy1 : wy.heap.size + 1 < wv.heap.size := (by omega)); (try have hBvzwy2 : wy.heap.size + 1 + 1 < wv.heap.size := (by omega)); (try have hBvzwy3 : wy.heap.size + 1 + 1 + 1 < wv.heap.size := (by omega)); (try have hBvzwy4 : wy.heap.size + 1 + 1 + 1 + 1 < wv.heap.size := (by omega)); (try have hBvzwy_heap_size : wy.heap.size < wv.heap.size := (by omega)))
              have hb1 : Below wr.heap.size wr wv := by (repeat (first | exact Below.refl _ _ | refine balloc ?_ _ | refine bdrewN ?_ _ | refine Below.drew ?_ | refine bthen ?_ hBv | refine bthen ?_ hBy | refine bthen ?_ hBx | refine Below.setCell ?_ (by first | (simp; done) | (simp; omega)) _))
              have ho2 := own_call hown hb1
              have hb2 : Below w1.heap.size w1 wv := hbel.trans (hb1.mono hbel.size)
              rcases bool_ways (perpB p col t1 t2 t1 t2) with hq | hq
              · have HN := Lib.hid (nulls_no (show nullT p col (lineAt p a1 a2 (j + 1)) = false by rw [← HT.out]; exact hq))
                go_wp2
                go_roundw
                case rel => exact ⟨j + 1 + 1, (j : Int) + 1, by omega, by omega, by go_num, by rw [HN.out]; exact ho2, hb2⟩
                case measure => simp [intOf]; omega
              · have HN := Lib.hid (nulls_yes (show nullT p col (lineAt p a1 a2 (j + 1)) = true by rw [← HT.out]; exact hq))
                go_wp2_with (at_builtin; refine wpList_append_own _ rfl _ _ 50 rfl w1.heap.size 29 i0 (.agg #[.int .i64 0, .int .i64 0, .int .i64 0]) 3 24 Try.underlying50 hi hz0 hz1 hz2 rfl (by decide) _ _ _ rfl (ho2.alloc _) ⟨wv.heap.size, 0, none⟩ 1 1 [.int .i64 t1, .int .i64 t2, .int .i64 t3] rfl rfl (ln_cells rfl) (ln_one _ _ _) (by unfold maxLen; omega) (by omega) (by first | exact Nat.le_refl _ | omega | (simp; done) | (simp; omega)) ?_)
                intro v' w2 hown' hgrow _
                have hb3 : Below w1.heap.size w1 w2 := (hb2.alloc (by have := hb2.size; omega) _).grown hgrow (by first | exact Nat.le_refl _ | omega | (simp; done) | (simp; omega)) (fun g hg => (ho2.lt g hg).1)
                have HO := Lib.hid (show w2.ownsRow w1.heap.size 29 3 v' (nulls p col a1 a2 (j + 1 + 1)).length (ints (flat3 (nulls p col a1 a2 (j + 1 + 1)))) from by rw [HN.out, List.length_append, ← HT.out, flat3_append, ints_append]; exact hown')
                clear hown' hgrow ho2 hown hbel hb2
                go_wp2
                go_roundw
                case rel => exact ⟨j + 1 + 1, (j : Int) + 1, by omega, by omega, by go_num, HO.out, hb3⟩
                case measure => simp [intOf]; omega
          · have em : p.toNat + 1 = k := by have := HC0.out; omega
            have HL := Lib.hid (show nulls p col a1 a2 k = nulls p col a1 a2 (p.toNat + 1) from by rw [em])
            clear em
            go_wp2
            (refine bodyPost_ret (v := .tuple #[u9, .int .i64 (nuC p col a1 a2)]) (by simp [results, Try.results49, go_sem, HV.out.2]) rfl (slicePost_mk (by rw [HV.out.1, ← HL.out]; exact own_base hown hW0.size) (hW0.trans (hbel.mono hW0.size))))

end Go.Proofs.Ytjjeekmhpcllaaa
