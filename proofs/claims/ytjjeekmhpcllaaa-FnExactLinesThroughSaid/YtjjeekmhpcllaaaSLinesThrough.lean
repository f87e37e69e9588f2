/-
  The model's LinesThrough.
-/
import Derived.Test.YtjjeekmhpcllaaaSpecPar
import Derived.Test.YtjjeekmhpcllaaaSpecPts
import Derived.Test.YtjjeekmhpcllaaaPencil
import Derived.Test.YtjjeekmhpcllaaaLnCells
import Derived.Test.YtjjeekmhpcllaaaSlice
import Derived.Test.YtjjeekmhpcllaaaBaseMath
namespace Go.Proofs.Ytjjeekmhpcllaaa
open Go.RowKit

set_option linter.unusedVariables false in
def lnB (p a1 a2 : Int) : Bool := numsIn p [a1, a2]
set_option linter.unusedVariables false in
def lnS (p a1 a2 : Int) : Int := 0
set_option linter.unusedVariables false in
def lnC (p a1 a2 : Int) : Int := if isP p = true then (if lnB p a1 a2 = true then lnS p a1 a2 else 2) else 1
set_option linter.unusedVariables false in
def lnL (p a1 a2 : Int) : List Int := if lnC p a1 a2 = 0 then flat3 (pencil p a1 a2 p.toNat) else []
theorem ln_zero {p a1 a2 k : Int} (h : lnC p a1 a2 = k) (hk : k ≠ 0) : lnL p a1 a2 = [] ∧ lnC p a1 a2 = k := ⟨if_neg fun e => hk (h.symm.trans e), h⟩
theorem ln_no {p a1 a2 : Int} (h : isP p = false) : lnL p a1 a2 = [] ∧ lnC p a1 a2 = 1 := ln_zero (by simp [lnC, h]) (by decide)
theorem ln_out {p a1 a2 : Int} (hp : isP p = true) (h : lnB p a1 a2 = false) : lnL p a1 a2 = [] ∧ lnC p a1 a2 = 2 := ln_zero (by simp [lnC, hp, h]) (by decide)
theorem ln_st {p a1 a2 k : Int} (hp : isP p = true) (h : lnB p a1 a2 = true) (hs : lnS p a1 a2 = k) (hk : k ≠ 0) : lnL p a1 a2 = [] ∧ lnC p a1 a2 = k := ln_zero (by simp [lnC, hp, h, hs]) hk
theorem ln_good {p a1 a2 : Int} (hp : isP p = true) (h : lnB p a1 a2 = true) (hs : lnS p a1 a2 = 0) : lnL p a1 a2 = flat3 (pencil p a1 a2 p.toNat) ∧ lnC p a1 a2 = 0 := by
  have h' : lnC p a1 a2 = 0 := by simp [lnC, hp, h, hs]
  exact ⟨if_pos h', h'⟩

set_option linter.unusedSimpArgs false in
set_option maxRecDepth 20000 in
set_option maxHeartbeats 4000000 in
theorem specLinesThrough_any (p a1 a2 : Int) (w : World) :
    Calls Try.prog 44 #[.int .i64 p, .agg #[.int .i64 a1, .int .i64 a2]] w fun e w' =>
      SlicePost 29 3 (lnL p a1 a2) (lnC p a1 a2) w e w' := by
  go_enter Try.func44, Try.ntmps44
  rcases bool_ways (isP p) with hd1 | hd1
  · skip
    have c_1 : codeOf p (numsIn p [a1, a2]) = 1 := codeOf_no hd1
    have cN : ∀ b, codeOf p b = 1 := fun b => codeOf_no hd1
    go_wp2_with fail
    refine Calls.mono (specCode1 _ _ _ _ _ (by first | rfl | (simp; done))) ?_
    rintro e w1 ⟨rfl, hB1⟩
    (obtain ⟨hB1c, hB1f⟩ := bcell hB1; have hB1s := hB1.size; (try simp at hB1s); (try have hB1q1 := Nat.lt_of_succ_le hB1s); (try have hB1q2 := Nat.lt_of_succ_lt hB1q1); (try have hB1q3 := Nat.lt_of_succ_lt hB1q2); (try have hB1zw0 : w.heap.size < w1.heap.size := (by omega)); (try have hB1zw1 : w.heap.size + 1 < w1.heap.size := (by omega)); (try have hB1zw2 : w.heap.size + 1 + 1 < w1.heap.size := (by omega)); (try have hB1zw3 : w.heap.size + 1 + 1 + 1 < w1.heap.size := (by omega)); (try have hB1zw4 : w.heap.size + 1 + 1 + 1 + 1 < w1.heap.size := (by omega)))
    have HV := Lib.hid (ln_no (a1 := a1) (a2 := a2) hd1)
    go_wp2
    (refine bodyPost_ret (v := .tuple #[.slice none 0 0, .int .i64 (lnC p a1 a2)]) (by simp [results, Try.results44, go_sem, HV.out.2]) rfl (slicePost_nil HV.out.1 ?_))
    (repeat (first | with_reducible exact Below.refl _ _ | with_reducible refine balloc ?_ _ | with_reducible refine bdrewN ?_ _ | with_reducible refine Below.drew ?_ | with_reducible refine bthen ?_ (by with_reducible assumption) | with_reducible refine Below.setCell ?_ (by first | (simp; done) | (simp; omega)) _))
  · have hp := hd1
    have hr := isP_range hp
    rcases bool_ways (numsIn p [a1, a2]) with hd2 | hd2
    · skip
      have c_1 : codeOf p (numsIn p [a1, a2]) = 2 := codeOf_out hp (by simp [hd2])
      have cT : codeOf p true = 0 := codeOf_in hp rfl
      have cF : codeOf p false = 2 := codeOf_out hp rfl
      go_wp2_with fail
      refine Calls.mono (specCode1 _ _ _ _ _ (by first | rfl | (simp; done))) ?_
      rintro e w1 ⟨rfl, hB1⟩
      (obtain ⟨hB1c, hB1f⟩ := bcell hB1; have hB1s := hB1.size; (try simp at hB1s); (try have hB1q1 := Nat.lt_of_succ_le hB1s); (try have hB1q2 := Nat.lt_of_succ_lt hB1q1); (try have hB1q3 := Nat.lt_of_succ_lt hB1q2); (try have hB1zw0 : w.heap.size < w1.heap.size := (by omega)); (try have hB1zw1 : w.heap.size + 1 < w1.heap.size := (by omega)); (try have hB1zw2 : w.heap.size + 1 + 1 < w1.heap.size := (by omega)); (try have hB1zw3 : w.heap.size + 1 + 1 + 1 < w1.heap.size := (by omega)); (try have hB1zw4 : w.heap.size + 1 + 1 + 1 + 1 < w1.heap.size := (by omega)))
      have HV := Lib.hid (ln_out (a1 := a1) (a2 := a2) hp (by simp [lnB, hd1, hd2]))
      go_wp2
      (refine bodyPost_ret (v := .tuple #[.slice none 0 0, .int .i64 (lnC p a1 a2)]) (by simp [results, Try.results44, go_sem, HV.out.2]) rfl (slicePost_nil HV.out.1 ?_))
      (repeat (first | with_reducible exact Below.refl _ _ | with_reducible refine balloc ?_ _ | with_reducible refine bdrewN ?_ _ | with_reducible refine Below.drew ?_ | with_reducible refine bthen ?_ (by with_reducible assumption) | with_reducible refine Below.setCell ?_ (by first | (simp; done) | (simp; omega)) _))
    · have hd2q := nums2 hd2
      have c_1 : codeOf p (numsIn p [a1, a2]) = 0 := codeOf_in hp (by simp [hd2])
      have cT : codeOf p true = 0 := codeOf_in hp rfl
      go_wp2_with fail
      refine Calls.mono (specCode1 _ _ _ _ _ (by first | rfl | (simp; done))) ?_
      rintro e w1 ⟨rfl, hB1⟩
      (obtain ⟨hB1c, hB1f⟩ := bcell hB1; have hB1s := hB1.size; (try simp at hB1s); (try have hB1q1 := Nat.lt_of_succ_le hB1s); (try have hB1q2 := Nat.lt_of_succ_lt hB1q1); (try have hB1q3 := Nat.lt_of_succ_lt hB1q2); (try have hB1zw0 : w.heap.size < w1.heap.size := (by omega)); (try have hB1zw1 : w.heap.size + 1 < w1.heap.size := (by omega)); (try have hB1zw2 : w.heap.size + 1 + 1 < w1.heap.size := (by omega)); (try have hB1zw3 : w.heap.size + 1 + 1 + 1 < w1.heap.size := (by omega)); (try have hB1zw4 : w.heap.size + 1 + 1 + 1 + 1 < w1.heap.size := (by omega)))
      have HB : lnB p a1 a2 = true := by simp [lnB, hd1, hd2]
      have HS : lnS p a1 a2 = 0 := by rfl
      have HV := Lib.hid (ln_good (a1 := a1) (a2 := a2) hp HB HS)
      clear HB HS
      have ka0 : w1.cell? ⟨w.heap.size, 0, none⟩ = some (.int .i64 a1) := by (first | with_reducible assumption | (repeat (first | with_reducible assumption | ((with_reducible refine kfresh ?_ ?_) <;> (first | with_reducible rfl | (simp; done))) | ((with_reducible refine ksameS ?_); focus ((repeat (first | with_reducible exact kis_of (by with_reducible assumption) | with_reducible refine kis_set ?_ | ((with_reducible refine kis_new ?_ ?_) <;> (first | with_reducible rfl | rfl | (simp; done))) | with_reducible refine kis_alloc _ ?_ | with_reducible refine kis_drew ?_ | with_reducible refine kis_call (by with_reducible assumption) ?_ | with_reducible exact kis_of (kcall (by with_reducible assumption) (by with_reducible assumption)))); done)) | with_reducible refine kother (by decide) ?_ | with_reducible refine kset (by first | omega | (simp; done) | (simp; omega)) ?_ | with_reducible refine kalloc _ ?_ | with_reducible refine kdrew ?_ | with_reducible refine kcall (by with_reducible assumption) ?_)))
      have ka1 : w1.cell? ⟨w.heap.size, 1, none⟩ = some (.int .i64 a2) := by (first | with_reducible assumption | (repeat (first | with_reducible assumption | ((with_reducible refine kfresh ?_ ?_) <;> (first | with_reducible rfl | (simp; done))) | ((with_reducible refine ksameS ?_); focus ((repeat (first | with_reducible exact kis_of (by with_reducible assumption) | with_reducible refine kis_set ?_ | ((with_reducible refine kis_new ?_ ?_) <;> (first | with_reducible rfl | rfl | (simp; done))) | with_reducible refine kis_alloc _ ?_ | with_reducible refine kis_drew ?_ | with_reducible refine kis_call (by with_reducible assumption) ?_ | with_reducible exact kis_of (kcall (by with_reducible assumption) (by with_reducible assumption)))); done)) | with_reducible refine kother (by decide) ?_ | with_reducible refine kset (by first | omega | (simp; done) | (simp; omega)) ?_ | with_reducible refine kalloc _ ?_ | with_reducible refine kdrew ?_ | with_reducible refine kcall (by with_reducible assumption) ?_)))
      have hl0 : w.heap.size < w1.heap.size := World.block_lt_of_cell? w1 ⟨w.heap.size, 0, none⟩ ka0
      have hW0 : Below w.heap.size w w1 := by (repeat (first | exact Below.refl _ _ | refine balloc ?_ _ | refine bdrewN ?_ _ | refine Below.drew ?_ | refine bthen ?_ hB1 | refine bthen ?_ hB2 | refine Below.setCell ?_ (by first | (simp; done) | (simp; omega)) _))
      have rg := nums2 hd2
      have hc0 : (p.toNat : Int) = p := Int.toNat_of_nonneg (by omega)
      have HC0 := Lib.hid hc0
      clear hc0
      obtain ⟨i0, hi, hz0, hz1, hz2⟩ := info_parts infoLn
      obtain ⟨t0, ht0⟩ : ∃ t, t = par3 p a1 a2 0 1 := ⟨_, rfl⟩
      have HT0 := Lib.hid ht0
      clear ht0
      go_wp2_with fail
      refine Calls.mono (specParallel_any _ _ _ _ _ _ _ hp (by omega) (by omega) (by omega) (by omega)) ?_
      rw [← HT0.out]
      rintro e wz ⟨rfl, hBz⟩
      (obtain ⟨hBzc, hBzf⟩ := bcell hBz; have hBzs := hBz.size; (try simp at hBzs); (try have hBzq1 := Nat.lt_of_succ_le hBzs); (try have hBzq2 := Nat.lt_of_succ_lt hBzq1); (try have hBzq3 := Nat.lt_of_succ_lt hBzq2); (try have hBzzw0 : w.heap.size < wz.heap.size := (by omega)); (try have hBzzw1 : w.heap.size + 1 < wz.heap.size := (by omega)); (try have hBzzw2 : w.heap.size + 1 + 1 < wz.heap.size := (by omega)); (try have hBzzw3 : w.heap.size + 1 + 1 + 1 < wz.heap.size := (by omega)); (try have hBzzw4 : w.heap.size + 1 + 1 + 1 + 1 < wz.heap.size := (by omega)); (try have hBzzw10 : w1.heap.size < wz.heap.size := (by omega)); (try have hBzzw11 : w1.heap.size + 1 < wz.heap.size := (by omega)); (try have hBzzw12 : w1.heap.size + 1 + 1 < wz.heap.size := (by omega)); (try have hBzzw13 : w1.heap.size + 1 + 1 + 1 < wz.heap.size := (by omega)); (try have hBzzw14 : w1.heap.size + 1 + 1 + 1 + 1 < wz.heap.size := (by omega)))
      have hp0 : flat3 (pencil p a1 a2 0) = [0, 1, t0] := by rw [HT0.out]; rfl
      have HP0 := Lib.hid hp0
      clear hp0
      go_wp2_with fail
      go_loopw [7, 8] (fun v i wr => ∃ k : Nat, (k : Int) ≤ p ∧ i = .int .i64 k ∧ wr.ownsRow w1.heap.size 29 3 v (k + 1) (ints (flat3 (pencil p a1 a2 k))) ∧ Below w1.heap.size w1 wr) (fun _ i _ => p.toNat - (intOf i).toNat)
      case atStart => exact ⟨0, by omega, rfl, by rw [HP0.out]; exact own_lit (cs := [0, 1, t0]) (by omega) rfl (by decide) rfl, by (repeat (first | with_reducible exact Below.refl _ _ | with_reducible exact hBz | with_reducible refine balloc ?_ _ | with_reducible refine bdrewN ?_ _ | with_reducible refine Below.drew ?_ | with_reducible refine bthen ?_ (by with_reducible assumption) | with_reducible refine Below.setCell ?_ (by first | (simp; done) | (simp; omega)) _))⟩
      case round =>
        obtain ⟨k, hk, rfl, hown, hbel⟩ := hrel
        by_cases hlt : (k : Int) < p
        · obtain ⟨t, ht⟩ : ∃ t, t = par3 p a1 a2 1 (k : Int) := ⟨_, rfl⟩
          have hU : flat3 (pencil p a1 a2 (k + 1)) = flat3 (pencil p a1 a2 k) ++ [1, (k : Int), t] := by rw [pencil_succ, flat3_append, ht]; rfl
          have HU := Lib.hid hU
          have HT := Lib.hid ht
          clear ht hU
          have c0 := (cell_old hbel hl0 0).trans ka0
          have c1 := (cell_old hbel hl0 1).trans ka1
          go_wp2_with fail
          refine Calls.mono (specParallel_any _ _ _ _ _ _ _ hp (by omega) (by omega) (by omega) (by omega)) ?_
          rw [← HT.out]
          rintro e wy ⟨rfl, hBy⟩
          (obtain ⟨hByc, hByf⟩ := bcell hBy; have hBys := hBy.size; (try simp at hBys); (try have hByq1 := Nat.lt_of_succ_le hBys); (try have hByq2 := Nat.lt_of_succ_lt hByq1); (try have hByq3 := Nat.lt_of_succ_lt hByq2); (try have hByzw0 : w.heap.size < wy.heap.size := (by omega)); (try have hByzw1 : w.heap.size + 1 < wy.heap.size := (by omega)); (try have hByzw2 : w.heap.size + 1 + 1 < wy.heap.size := (by omega)); (try have hByzw3 : w.heap.size + 1 + 1 + 1 < wy.heap.size := (by omega)); (try have hByzw4 : w.heap.size + 1 + 1 + 1 + 1 < wy.heap.size := (by omega)))
          have ho1 := own_call hown hBy
          have hsz := Nat.le_trans hbel.size hBy.size
          go_wp2_with (at_builtin; refine wpList_append_own _ rfl _ _ 50 rfl w1.heap.size 29 i0 (.agg #[.int .i64 0, .int .i64 0, .int .i64 0]) 3 24 Try.underlying50 hi hz0 hz1 hz2 rfl (by decide) _ _ _ rfl (ho1.alloc _) ⟨wy.heap.size, 0, none⟩ 1 1 [.int .i64 1, .int .i64 k, .int .i64 t] rfl rfl (ln_cells rfl) (ln_one _ _ _) (by unfold maxLen; omega) (by omega) (by first | exact Nat.le_refl _ | omega | (simp; done) | (simp; omega)) ?_)
          intro v' w2 hown' hgrow _
          have hb1 : Below w1.heap.size w1 wy := hbel.trans (hBy.mono (by have := hbel.size; omega))
          have hb2 : Below w1.heap.size w1 w2 := (hb1.alloc (by have := hb1.size; omega) _).grown hgrow (by first | exact Nat.le_refl _ | omega | (simp; done) | (simp; omega)) (fun g hg => (ho1.lt g hg).1)
          have HN := Lib.hid (show w2.ownsRow w1.heap.size 29 3 v' (k + 1 + 1) (ints (flat3 (pencil p a1 a2 (k + 1)))) from by rw [HU.out, ints_append]; exact hown')
          clear hown' hgrow ho1 hown hbel hb1
          go_wp2
          go_roundw
          case rel => exact ⟨k + 1, by omega, by go_num, HN.out, hb2⟩
          case measure => have := HC0.out; simp [intOf]; omega
        · obtain ⟨m, hm⟩ : ∃ m, m = p.toNat := ⟨_, rfl⟩
          obtain rfl : k = m := by have := HC0.out; omega
          have HL := Lib.hid (show flat3 (pencil p a1 a2 k) = flat3 (pencil p a1 a2 p.toNat) from by rw [hm])
          clear hm
          go_wp2
          (refine bodyPost_ret (v := .tuple #[u7, .int .i64 (lnC p a1 a2)]) (by simp [results, Try.results44, go_sem, HV.out.2]) rfl (slicePost_mk (by rw [HV.out.1, ← HL.out]; exact own_base hown hW0.size) (hW0.trans (hbel.mono hW0.size))))

end Go.Proofs.Ytjjeekmhpcllaaa
