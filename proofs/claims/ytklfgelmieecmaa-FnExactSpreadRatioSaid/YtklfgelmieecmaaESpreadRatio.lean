/-
  SpreadRatio: the program's and the model's.
-/
import Derived.Test.YtklfgelmieecmaaESpreadsOfTriangle
import Derived.Test.YtklfgelmieecmaaImplQuot
import Derived.Test.YtklfgelmieecmaaPcMath
namespace Go.Proofs.Ytklfgelmieecmaa
open Go.RowKit

set_option linter.unusedVariables false in
def srB (p col a1 a2 b1 b2 c1 c2 : Int) : Bool := colB col && numsIn p [a1, a2, b1, b2, c1, c2]
set_option linter.unusedVariables false in
def srS (p col a1 a2 b1 b2 c1 c2 : Int) : Int := trT p col a1 a2 b1 b2 c1 c2
set_option linter.unusedVariables false in
def srC (p col a1 a2 b1 b2 c1 c2 : Int) : Int := if isP p = true then (if srB p col a1 a2 b1 b2 c1 c2 = true then srS p col a1 a2 b1 b2 c1 c2 else 2) else 1
set_option linter.unusedVariables false in
def srV1 (p col a1 a2 b1 b2 c1 c2 : Int) : Int := if srC p col a1 a2 b1 b2 c1 c2 = 0 then atO p col a1 a2 b1 b2 c1 c2 * inv p (qdr p col b1 b2 c1 c2) % p else 0
theorem sr_zero {p col a1 a2 b1 b2 c1 c2 k : Int} (h : srC p col a1 a2 b1 b2 c1 c2 = k) (hk : k ≠ 0) : srV1 p col a1 a2 b1 b2 c1 c2 = 0 ∧ srC p col a1 a2 b1 b2 c1 c2 = k := by
  have hn : ¬ (srC p col a1 a2 b1 b2 c1 c2 = 0) := fun e => hk (h.symm.trans e)
  exact ⟨if_neg hn, h⟩
theorem sr_no {p col a1 a2 b1 b2 c1 c2 : Int} (h : isP p = false) : srV1 p col a1 a2 b1 b2 c1 c2 = 0 ∧ srC p col a1 a2 b1 b2 c1 c2 = 1 := sr_zero (by simp [srC, h]) (by decide)
theorem sr_out {p col a1 a2 b1 b2 c1 c2 : Int} (hp : isP p = true) (h : srB p col a1 a2 b1 b2 c1 c2 = false) : srV1 p col a1 a2 b1 b2 c1 c2 = 0 ∧ srC p col a1 a2 b1 b2 c1 c2 = 2 := sr_zero (by simp [srC, hp, h]) (by decide)
theorem sr_st {p col a1 a2 b1 b2 c1 c2 k : Int} (hp : isP p = true) (h : srB p col a1 a2 b1 b2 c1 c2 = true) (hs : srS p col a1 a2 b1 b2 c1 c2 = k) (hk : k ≠ 0) : srV1 p col a1 a2 b1 b2 c1 c2 = 0 ∧ srC p col a1 a2 b1 b2 c1 c2 = k := sr_zero (by simp [srC, hp, h, hs]) hk
theorem sr_good {p col a1 a2 b1 b2 c1 c2 : Int} (hp : isP p = true) (h : srB p col a1 a2 b1 b2 c1 c2 = true) (hs : srS p col a1 a2 b1 b2 c1 c2 = 0) : srV1 p col a1 a2 b1 b2 c1 c2 = atO p col a1 a2 b1 b2 c1 c2 * inv p (qdr p col b1 b2 c1 c2) % p ∧ srC p col a1 a2 b1 b2 c1 c2 = 0 := by
  have h' : srC p col a1 a2 b1 b2 c1 c2 = 0 := by simp [srC, hp, h, hs]
  exact ⟨if_pos h', h'⟩

set_option linter.unusedSimpArgs false in
set_option maxRecDepth 20000 in
set_option maxHeartbeats 4000000 in
theorem specSpreadRatio_any (p col a1 a2 b1 b2 c1 c2 : Int) (w : World) :
    Calls Try.prog 22 #[.int .i64 p, .int .i64 col, .agg #[.int .i64 a1, .int .i64 a2], .agg #[.int .i64 b1, .int .i64 b2], .agg #[.int .i64 c1, .int .i64 c2]] w fun e w' =>
      e = .returned (.tuple #[.int .i64 (srV1 p col a1 a2 b1 b2 c1 c2), .int .i64 (srC p col a1 a2 b1 b2 c1 c2)]) ∧ Below w.heap.size w w' := by
  go_enter Try.func22, Try.ntmps22
  rcases bool_ways (isP p) with hd1 | hd1
  · skip
    have c_1 : trC p col a1 a2 b1 b2 c1 c2 = 1 := by simp [trC, trB, trS, trT, hd1]
    go_wp2_with fail
    refine Calls.mono (specTri_any _ _ _ _ _ _ _ _ _ ) ?_
    rintro e w1 ⟨rfl, hB1⟩
    (obtain ⟨hB1c, hB1f⟩ := bcell hB1; have hB1s := hB1.size; (try simp at hB1s); (try have hB1q1 := Nat.lt_of_succ_le hB1s); (try have hB1q2 := Nat.lt_of_succ_lt hB1q1); (try have hB1q3 := Nat.lt_of_succ_lt hB1q2); (try have hB1zw0 : w.heap.size < w1.heap.size := (by omega)); (try have hB1zw1 : w.heap.size + 1 < w1.heap.size := (by omega)); (try have hB1zw2 : w.heap.size + 1 + 1 < w1.heap.size := (by omega)); (try have hB1zw3 : w.heap.size + 1 + 1 + 1 < w1.heap.size := (by omega)); (try have hB1zw4 : w.heap.size + 1 + 1 + 1 + 1 < w1.heap.size := (by omega)))
    have HV := Lib.hid (sr_no (col := col) (a1 := a1) (a2 := a2) (b1 := b1) (b2 := b2) (c1 := c1) (c2 := c2) hd1)
    go_wp2
    (refine bodyPost_ret (v := .tuple #[.int .i64 (srV1 p col a1 a2 b1 b2 c1 c2), .int .i64 (srC p col a1 a2 b1 b2 c1 c2)]) (by simp [results, Try.results22, go_sem, HV.out.1, HV.out.2, *]) rfl ⟨?_, ?_⟩)
    · rfl
    · (repeat (first | with_reducible exact Below.refl _ _ | with_reducible refine balloc ?_ _ | with_reducible refine bdrewN ?_ _ | with_reducible refine Below.drew ?_ | with_reducible refine bthen ?_ (by with_reducible assumption) | with_reducible refine Below.setCell ?_ (by first | (simp; done) | (simp; omega)) _))
  · have hp := hd1
    have hr := isP_range hp
    rcases bool_ways (colB col) with hd2 | hd2
    · skip
      have c_1 : trC p col a1 a2 b1 b2 c1 c2 = 2 := by simp [trC, trB, trS, trT, hd1, hd2]
      go_wp2_with fail
      refine Calls.mono (specTri_any _ _ _ _ _ _ _ _ _ ) ?_
      rintro e w1 ⟨rfl, hB1⟩
      (obtain ⟨hB1c, hB1f⟩ := bcell hB1; have hB1s := hB1.size; (try simp at hB1s); (try have hB1q1 := Nat.lt_of_succ_le hB1s); (try have hB1q2 := Nat.lt_of_succ_lt hB1q1); (try have hB1q3 := Nat.lt_of_succ_lt hB1q2); (try have hB1zw0 : w.heap.size < w1.heap.size := (by omega)); (try have hB1zw1 : w.heap.size + 1 < w1.heap.size := (by omega)); (try have hB1zw2 : w.heap.size + 1 + 1 < w1.heap.size := (by omega)); (try have hB1zw3 : w.heap.size + 1 + 1 + 1 < w1.heap.size := (by omega)); (try have hB1zw4 : w.heap.size + 1 + 1 + 1 + 1 < w1.heap.size := (by omega)))
      have HV := Lib.hid (sr_out (col := col) (a1 := a1) (a2 := a2) (b1 := b1) (b2 := b2) (c1 := c1) (c2 := c2) hp (by simp [srB, hd1, hd2]))
      go_wp2
      (refine bodyPost_ret (v := .tuple #[.int .i64 (srV1 p col a1 a2 b1 b2 c1 c2), .int .i64 (srC p col a1 a2 b1 b2 c1 c2)]) (by simp [results, Try.results22, go_sem, HV.out.1, HV.out.2, *]) rfl ⟨?_, ?_⟩)
      · rfl
      · (repeat (first | with_reducible exact Below.refl _ _ | with_reducible refine balloc ?_ _ | with_reducible refine bdrewN ?_ _ | with_reducible refine Below.drew ?_ | with_reducible refine bthen ?_ (by with_reducible assumption) | with_reducible refine Below.setCell ?_ (by first | (simp; done) | (simp; omega)) _))
    · have hc := hd2
      have hcr := colB_range hc
      rcases bool_ways (numsIn p [a1, a2, b1, b2, c1, c2]) with hd3 | hd3
      · skip
        have c_1 : trC p col a1 a2 b1 b2 c1 c2 = 2 := by simp [trC, trB, trS, trT, hd1, hd2, hd3]
        go_wp2_with fail
        refine Calls.mono (specTri_any _ _ _ _ _ _ _ _ _ ) ?_
        rintro e w1 ⟨rfl, hB1⟩
        (obtain ⟨hB1c, hB1f⟩ := bcell hB1; have hB1s := hB1.size; (try simp at hB1s); (try have hB1q1 := Nat.lt_of_succ_le hB1s); (try have hB1q2 := Nat.lt_of_succ_lt hB1q1); (try have hB1q3 := Nat.lt_of_succ_lt hB1q2); (try have hB1zw0 : w.heap.size < w1.heap.size := (by omega)); (try have hB1zw1 : w.heap.size + 1 < w1.heap.size := (by omega)); (try have hB1zw2 : w.heap.size + 1 + 1 < w1.heap.size := (by omega)); (try have hB1zw3 : w.heap.size + 1 + 1 + 1 < w1.heap.size := (by omega)); (try have hB1zw4 : w.heap.size + 1 + 1 + 1 + 1 < w1.heap.size := (by omega)))
        have HV := Lib.hid (sr_out (col := col) (a1 := a1) (a2 := a2) (b1 := b1) (b2 := b2) (c1 := c1) (c2 := c2) hp (by simp [srB, hd1, hd2, hd3]))
        go_wp2
        (refine bodyPost_ret (v := .tuple #[.int .i64 (srV1 p col a1 a2 b1 b2 c1 c2), .int .i64 (srC p col a1 a2 b1 b2 c1 c2)]) (by simp [results, Try.results22, go_sem, HV.out.1, HV.out.2, *]) rfl ⟨?_, ?_⟩)
        · rfl
        · (repeat (first | with_reducible exact Below.refl _ _ | with_reducible refine balloc ?_ _ | with_reducible refine bdrewN ?_ _ | with_reducible refine Below.drew ?_ | with_reducible refine bthen ?_ (by with_reducible assumption) | with_reducible refine Below.setCell ?_ (by first | (simp; done) | (simp; omega)) _))
      · have hd3q := nums6 hd3
        rcases bool_ways (area p a1 a2 b1 b2 c1 c2 == 0) with hd4 | hd4
        · have hd4n : (area p a1 a2 b1 b2 c1 c2 != 0) = true := by rw [bne, hd4]; rfl
          have Hhd4p := Lib.hid (beq_eq_false_iff_ne.1 hd4)
          rcases bool_ways (qdr p col a1 a2 b1 b2 == 0) with hd5 | hd5
          · have hd5n : (qdr p col a1 a2 b1 b2 != 0) = true := by rw [bne, hd5]; rfl
            have Hhd5p := Lib.hid (beq_eq_false_iff_ne.1 hd5)
            rcases bool_ways (qdr p col b1 b2 c1 c2 == 0) with hd6 | hd6
            · have hd6n : (qdr p col b1 b2 c1 c2 != 0) = true := by rw [bne, hd6]; rfl
              have Hhd6p := Lib.hid (beq_eq_false_iff_ne.1 hd6)
              rcases bool_ways (qdr p col a1 a2 c1 c2 == 0) with hd7 | hd7
              · have hd7n : (qdr p col a1 a2 c1 c2 != 0) = true := by rw [bne, hd7]; rfl
                have Hhd7p := Lib.hid (beq_eq_false_iff_ne.1 hd7)
                have c_1 : trC p col a1 a2 b1 b2 c1 c2 = 0 := by simp [trC, trB, trS, trT, hd1, hd2, hd3, hd4, hd5, hd6, hd7]
                obtain ⟨v1, hv1⟩ : ∃ v : Int, v = atO p col a1 a2 b1 b2 c1 c2 := ⟨_, rfl⟩
                have rv1 := atO_r col a1 a2 b1 b2 c1 c2 hp
                rw [← hv1] at rv1
                have Hv1 := Lib.hid hv1
                clear hv1
                obtain ⟨v2, hv2⟩ : ∃ v : Int, v = qdr p col b1 b2 c1 c2 := ⟨_, rfl⟩
                have rv2 := qdr_r col b1 b2 c1 c2 hp
                rw [← hv2] at rv2
                have Hv2 := Lib.hid hv2
                clear hv2
                obtain ⟨v3, hv3⟩ : ∃ v : Int, v = inv p v2 := ⟨_, rfl⟩
                have rv3 := inv_range v2 hp
                rw [← hv3] at rv3
                have Hv3 := Lib.hid hv3
                clear hv3
                have mu_1 := mulNN 30 30 900 (by decide) (a := v1) (b := v3) (by omega) (by omega)
                have e_2 : IntKind.i64.wrap (v1 * v3) = v1 * v3 := wrapI _ (by omega)
                have d_3 := modR (v1 * v3) hp
                have t_3 : (v1 * v3).tmod p = (v1 * v3) % p := Int.tmod_eq_emod_of_nonneg (by omega)
                have hpos : p ≠ 0 := by omega
                go_wp2_with fail
                refine Calls.mono (specTri_any _ _ _ _ _ _ _ _ _ ) ?_
                rintro e w1 ⟨rfl, hB1⟩
                (obtain ⟨hB1c, hB1f⟩ := bcell hB1; have hB1s := hB1.size; (try simp at hB1s); (try have hB1q1 := Nat.lt_of_succ_le hB1s); (try have hB1q2 := Nat.lt_of_succ_lt hB1q1); (try have hB1q3 := Nat.lt_of_succ_lt hB1q2); (try have hB1zw0 : w.heap.size < w1.heap.size := (by omega)); (try have hB1zw1 : w.heap.size + 1 < w1.heap.size := (by omega)); (try have hB1zw2 : w.heap.size + 1 + 1 < w1.heap.size := (by omega)); (try have hB1zw3 : w.heap.size + 1 + 1 + 1 < w1.heap.size := (by omega)); (try have hB1zw4 : w.heap.size + 1 + 1 + 1 + 1 < w1.heap.size := (by omega)))
                go_upto_region 4 with fail
                go_cut [10, 11] (fun s10 s11 wx => s10 = .int .i64 ((v1 * v3) % p) ∧ s11 = .int .i64 0 ∧ (wx.cell? ⟨w.heap.size, 0, none⟩ = some (.int .i64 a1) ∧ wx.cell? ⟨w.heap.size, 1, none⟩ = some (.int .i64 a2) ∧ wx.cell? ⟨w.heap.size + 1, 0, none⟩ = some (.int .i64 b1) ∧ wx.cell? ⟨w.heap.size + 1, 1, none⟩ = some (.int .i64 b2) ∧ wx.cell? ⟨w.heap.size + 1 + 1, 0, none⟩ = some (.int .i64 c1) ∧ wx.cell? ⟨w.heap.size + 1 + 1, 1, none⟩ = some (.int .i64 c2)) ∧ Below w.heap.size w wx)
                case first =>
                  have kb0_0 : w1.cell? ⟨w.heap.size, 0, none⟩ = some (.int .i64 a1) := by (first | with_reducible assumption | (repeat (first | with_reducible assumption | ((with_reducible refine kfresh ?_ ?_) <;> (first | with_reducible rfl | (simp; done))) | with_reducible refine ksame (u := .int .i64 0) ?_ | with_reducible refine kother (by decide) ?_ | with_reducible refine kset (by first | omega | (simp; done) | (simp; omega)) ?_ | with_reducible refine kalloc _ ?_ | with_reducible refine kdrew ?_ | with_reducible refine kcall (by with_reducible assumption) ?_)))
                  have kb0_1 : w1.cell? ⟨w.heap.size, 1, none⟩ = some (.int .i64 a2) := by (first | with_reducible assumption | (repeat (first | with_reducible assumption | ((with_reducible refine kfresh ?_ ?_) <;> (first | with_reducible rfl | (simp; done))) | with_reducible refine ksame (u := .int .i64 0) ?_ | with_reducible refine kother (by decide) ?_ | with_reducible refine kset (by first | omega | (simp; done) | (simp; omega)) ?_ | with_reducible refine kalloc _ ?_ | with_reducible refine kdrew ?_ | with_reducible refine kcall (by with_reducible assumption) ?_)))
                  have kb1_0 : w1.cell? ⟨w.heap.size + 1, 0, none⟩ = some (.int .i64 b1) := by (first | with_reducible assumption | (repeat (first | with_reducible assumption | ((with_reducible refine kfresh ?_ ?_) <;> (first | with_reducible rfl | (simp; done))) | with_reducible refine ksame (u := .int .i64 0) ?_ | with_reducible refine kother (by decide) ?_ | with_reducible refine kset (by first | omega | (simp; done) | (simp; omega)) ?_ | with_reducible refine kalloc _ ?_ | with_reducible refine kdrew ?_ | with_reducible refine kcall (by with_reducible assumption) ?_)))
                  have kb1_1 : w1.cell? ⟨w.heap.size + 1, 1, none⟩ = some (.int .i64 b2) := by (first | with_reducible assumption | (repeat (first | with_reducible assumption | ((with_reducible refine kfresh ?_ ?_) <;> (first | with_reducible rfl | (simp; done))) | with_reducible refine ksame (u := .int .i64 0) ?_ | with_reducible refine kother (by decide) ?_ | with_reducible refine kset (by first | omega | (simp; done) | (simp; omega)) ?_ | with_reducible refine kalloc _ ?_ | with_reducible refine kdrew ?_ | with_reducible refine kcall (by with_reducible assumption) ?_)))
                  have kb2_0 : w1.cell? ⟨w.heap.size + 1 + 1, 0, none⟩ = some (.int .i64 c1) := by (first | with_reducible assumption | (repeat (first | with_reducible assumption | ((with_reducible refine kfresh ?_ ?_) <;> (first | with_reducible rfl | (simp; done))) | with_reducible refine ksame (u := .int .i64 0) ?_ | with_reducible refine kother (by decide) ?_ | with_reducible refine kset (by first | omega | (simp; done) | (simp; omega)) ?_ | with_reducible refine kalloc _ ?_ | with_reducible refine kdrew ?_ | with_reducible refine kcall (by with_reducible assumption) ?_)))
                  have kb2_1 : w1.cell? ⟨w.heap.size + 1 + 1, 1, none⟩ = some (.int .i64 c2) := by (first | with_reducible assumption | (repeat (first | with_reducible assumption | ((with_reducible refine kfresh ?_ ?_) <;> (first | with_reducible rfl | (simp; done))) | with_reducible refine ksame (u := .int .i64 0) ?_ | with_reducible refine kother (by decide) ?_ | with_reducible refine kset (by first | omega | (simp; done) | (simp; omega)) ?_ | with_reducible refine kalloc _ ?_ | with_reducible refine kdrew ?_ | with_reducible refine kcall (by with_reducible assumption) ?_)))
                  have hW : Below w.heap.size w w1 := by (repeat (first | with_reducible exact Below.refl _ _ | with_reducible refine balloc ?_ _ | with_reducible refine bdrewN ?_ _ | with_reducible refine Below.drew ?_ | with_reducible refine bthen ?_ (by with_reducible assumption) | with_reducible refine Below.setCell ?_ (by first | (simp; done) | (simp; omega)) _))
                  go_region_held3 (fun W => W.cell? ⟨w.heap.size, 0, none⟩ = some (.int .i64 a1) ∧ W.cell? ⟨w.heap.size, 1, none⟩ = some (.int .i64 a2) ∧ W.cell? ⟨w.heap.size + 1, 0, none⟩ = some (.int .i64 b1) ∧ W.cell? ⟨w.heap.size + 1, 1, none⟩ = some (.int .i64 b2) ∧ W.cell? ⟨w.heap.size + 1 + 1, 0, none⟩ = some (.int .i64 c1) ∧ W.cell? ⟨w.heap.size + 1 + 1, 1, none⟩ = some (.int .i64 c2)) (first | (refine ⟨?_, ?_, ?_, ?_, ?_, ?_⟩ <;> ((try with_reducible refine kdrew ?_); (repeat with_reducible refine kalloc _ ?_); with_reducible assumption)) | (first | with_reducible assumption | with_reducible exact (And.imp (kcall hB) (And.imp (kcall hB) (And.imp (kcall hB) (And.imp (kcall hB) (And.imp (kcall hB) ((kcall hB))))))) (by with_reducible assumption) | with_reducible exact (And.imp (kalloc _) (And.imp (kalloc _) (And.imp (kalloc _) (And.imp (kalloc _) (And.imp (kalloc _) ((kalloc _))))))) (by with_reducible assumption) | with_reducible exact (And.imp (krealloc (by first | omega | (simp; done) | (simp; omega))) (And.imp (krealloc (by first | omega | (simp; done) | (simp; omega))) (And.imp (krealloc (by first | omega | (simp; done) | (simp; omega))) (And.imp (krealloc (by first | omega | (simp; done) | (simp; omega))) (And.imp (krealloc (by first | omega | (simp; done) | (simp; omega))) ((krealloc (by first | omega | (simp; done) | (simp; omega))))))))) (by with_reducible assumption) | with_reducible exact (And.imp (fun h => kdrew (kalloc _ (kundrew h))) (And.imp (fun h => kdrew (kalloc _ (kundrew h))) (And.imp (fun h => kdrew (kalloc _ (kundrew h))) (And.imp (fun h => kdrew (kalloc _ (kundrew h))) (And.imp (fun h => kdrew (kalloc _ (kundrew h))) ((fun h => kdrew (kalloc _ (kundrew h))))))))) (by with_reducible assumption) | with_reducible exact (And.imp (fun h => kdrew (krealloc (by first | omega | (simp; done) | (simp; omega)) (kundrew h))) (And.imp (fun h => kdrew (krealloc (by first | omega | (simp; done) | (simp; omega)) (kundrew h))) (And.imp (fun h => kdrew (krealloc (by first | omega | (simp; done) | (simp; omega)) (kundrew h))) (And.imp (fun h => kdrew (krealloc (by first | omega | (simp; done) | (simp; omega)) (kundrew h))) (And.imp (fun h => kdrew (krealloc (by first | omega | (simp; done) | (simp; omega)) (kundrew h))) ((fun h => kdrew (krealloc (by first | omega | (simp; done) | (simp; omega)) (kundrew h))))))))) (by with_reducible assumption) | with_reducible exact (And.imp (fun h => kset (by first | omega | (simp; done) | (simp; omega)) (kset (by first | omega | (simp; done) | (simp; omega)) (kset (by first | omega | (simp; done) | (simp; omega)) h))) (And.imp (fun h => kset (by first | omega | (simp; done) | (simp; omega)) (kset (by first | omega | (simp; done) | (simp; omega)) (kset (by first | omega | (simp; done) | (simp; omega)) h))) (And.imp (fun h => kset (by first | omega | (simp; done) | (simp; omega)) (kset (by first | omega | (simp; done) | (simp; omega)) (kset (by first | omega | (simp; done) | (simp; omega)) h))) (And.imp (fun h => kset (by first | omega | (simp; done) | (simp; omega)) (kset (by first | omega | (simp; done) | (simp; omega)) (kset (by first | omega | (simp; done) | (simp; omega)) h))) (And.imp (fun h => kset (by first | omega | (simp; done) | (simp; omega)) (kset (by first | omega | (simp; done) | (simp; omega)) (kset (by first | omega | (simp; done) | (simp; omega)) h))) ((fun h => kset (by first | omega | (simp; done) | (simp; omega)) (kset (by first | omega | (simp; done) | (simp; omega)) (kset (by first | omega | (simp; done) | (simp; omega)) h))))))))) (by with_reducible assumption) | with_reducible exact (And.imp (fun h => kset (by first | omega | (simp; done) | (simp; omega)) (kset (by first | omega | (simp; done) | (simp; omega)) h)) (And.imp (fun h => kset (by first | omega | (simp; done) | (simp; omega)) (kset (by first | omega | (simp; done) | (simp; omega)) h)) (And.imp (fun h => kset (by first | omega | (simp; done) | (simp; omega)) (kset (by first | omega | (simp; done) | (simp; omega)) h)) (And.imp (fun h => kset (by first | omega | (simp; done) | (simp; omega)) (kset (by first | omega | (simp; done) | (simp; omega)) h)) (And.imp (fun h => kset (by first | omega | (simp; done) | (simp; omega)) (kset (by first | omega | (simp; done) | (simp; omega)) h)) ((fun h => kset (by first | omega | (simp; done) | (simp; omega)) (kset (by first | omega | (simp; done) | (simp; omega)) h)))))))) (by with_reducible assumption) | with_reducible exact (And.imp (fun h => kset (by first | omega | (simp; done) | (simp; omega)) h) (And.imp (fun h => kset (by first | omega | (simp; done) | (simp; omega)) h) (And.imp (fun h => kset (by first | omega | (simp; done) | (simp; omega)) h) (And.imp (fun h => kset (by first | omega | (simp; done) | (simp; omega)) h) (And.imp (fun h => kset (by first | omega | (simp; done) | (simp; omega)) h) ((fun h => kset (by first | omega | (simp; done) | (simp; omega)) h))))))) (by with_reducible assumption) | with_reducible exact (And.imp (fun h => kalloc _ (kset (by first | omega | (simp; done) | (simp; omega)) (kset (by first | omega | (simp; done) | (simp; omega)) (kback (by first | omega | (simp; done) | (simp; omega)) h)))) (And.imp (fun h => kalloc _ (kset (by first | omega | (simp; done) | (simp; omega)) (kset (by first | omega | (simp; done) | (simp; omega)) (kback (by first | omega | (simp; done) | (simp; omega)) h)))) (And.imp (fun h => kalloc _ (kset (by first | omega | (simp; done) | (simp; omega)) (kset (by first | omega | (simp; done) | (simp; omega)) (kback (by first | omega | (simp; done) | (simp; omega)) h)))) (And.imp (fun h => kalloc _ (kset (by first | omega | (simp; done) | (simp; omega)) (kset (by first | omega | (simp; done) | (simp; omega)) (kback (by first | omega | (simp; done) | (simp; omega)) h)))) (And.imp (fun h => kalloc _ (kset (by first | omega | (simp; done) | (simp; omega)) (kset (by first | omega | (simp; done) | (simp; omega)) (kback (by first | omega | (simp; done) | (simp; omega)) h)))) ((fun h => kalloc _ (kset (by first | omega | (simp; done) | (simp; omega)) (kset (by first | omega | (simp; done) | (simp; omega)) (kback (by first | omega | (simp; done) | (simp; omega)) h)))))))))) (by with_reducible assumption) | with_reducible exact (And.imp (fun h => kalloc _ (kset (by first | omega | (simp; done) | (simp; omega)) (kset (by first | omega | (simp; done) | (simp; omega)) (kset (by first | omega | (simp; done) | (simp; omega)) (kback (by first | omega | (simp; done) | (simp; omega)) h))))) (And.imp (fun h => kalloc _ (kset (by first | omega | (simp; done) | (simp; omega)) (kset (by first | omega | (simp; done) | (simp; omega)) (kset (by first | omega | (simp; done) | (simp; omega)) (kback (by first | omega | (simp; done) | (simp; omega)) h))))) (And.imp (fun h => kalloc _ (kset (by first | omega | (simp; done) | (simp; omega)) (kset (by first | omega | (simp; done) | (simp; omega)) (kset (by first | omega | (simp; done) | (simp; omega)) (kback (by first | omega | (simp; done) | (simp; omega)) h))))) (And.imp (fun h => kalloc _ (kset (by first | omega | (simp; done) | (simp; omega)) (kset (by first | omega | (simp; done) | (simp; omega)) (kset (by first | omega | (simp; done) | (simp; omega)) (kback (by first | omega | (simp; done) | (simp; omega)) h))))) (And.imp (fun h => kalloc _ (kset (by first | omega | (simp; done) | (simp; omega)) (kset (by first | omega | (simp; done) | (simp; omega)) (kset (by first | omega | (simp; done) | (simp; omega)) (kback (by first | omega | (simp; done) | (simp; omega)) h))))) ((fun h => kalloc _ (kset (by first | omega | (simp; done) | (simp; omega)) (kset (by first | omega | (simp; done) | (simp; omega)) (kset (by first | omega | (simp; done) | (simp; omega)) (kback (by first | omega | (simp; done) | (simp; omega)) h))))))))))) (by with_reducible assumption) | with_reducible exact (And.imp (fun h => kalloc _ (kalloc _ (kback (by first | omega | (simp; done) | (simp; omega)) (kback (by first | omega | (simp; done) | (simp; omega)) h)))) (And.imp (fun h => kalloc _ (kalloc _ (kback (by first | omega | (simp; done) | (simp; omega)) (kback (by first | omega | (simp; done) | (simp; omega)) h)))) (And.imp (fun h => kalloc _ (kalloc _ (kback (by first | omega | (simp; done) | (simp; omega)) (kback (by first | omega | (simp; done) | (simp; omega)) h)))) (And.imp (fun h => kalloc _ (kalloc _ (kback (by first | omega | (simp; done) | (simp; omega)) (kback (by first | omega | (simp; done) | (simp; omega)) h)))) (And.imp (fun h => kalloc _ (kalloc _ (kback (by first | omega | (simp; done) | (simp; omega)) (kback (by first | omega | (simp; done) | (simp; omega)) h)))) ((fun h => kalloc _ (kalloc _ (kback (by first | omega | (simp; done) | (simp; omega)) (kback (by first | omega | (simp; done) | (simp; omega)) h)))))))))) (by with_reducible assumption) | with_reducible exact (And.imp (fun h => kdrew (kalloc _ (kalloc _ (kback (by first | omega | (simp; done) | (simp; omega)) (kback (by first | omega | (simp; done) | (simp; omega)) (kundrew h)))))) (And.imp (fun h => kdrew (kalloc _ (kalloc _ (kback (by first | omega | (simp; done) | (simp; omega)) (kback (by first | omega | (simp; done) | (simp; omega)) (kundrew h)))))) (And.imp (fun h => kdrew (kalloc _ (kalloc _ (kback (by first | omega | (simp; done) | (simp; omega)) (kback (by first | omega | (simp; done) | (simp; omega)) (kundrew h)))))) (And.imp (fun h => kdrew (kalloc _ (kalloc _ (kback (by first | omega | (simp; done) | (simp; omega)) (kback (by first | omega | (simp; done) | (simp; omega)) (kundrew h)))))) (And.imp (fun h => kdrew (kalloc _ (kalloc _ (kback (by first | omega | (simp; done) | (simp; omega)) (kback (by first | omega | (simp; done) | (simp; omega)) (kundrew h)))))) ((fun h => kdrew (kalloc _ (kalloc _ (kback (by first | omega | (simp; done) | (simp; omega)) (kback (by first | omega | (simp; done) | (simp; omega)) (kundrew h)))))))))))) (by with_reducible assumption) | (simp; done) | (refine ⟨?_, ?_, ?_, ?_, ?_, ?_⟩ <;> (refine kdrew ?_; repeat (first | exact kfresh (by first | rfl | (simp; done)) (by rfl) | refine kalloc _ ?_)); done))) (first | (go_at_call 50; refine Calls.mono (specAt_any _ _ _ _ _ _ _ _ _ hp hc (by omega) (by omega) (by omega) (by omega) (by omega) (by omega)) ?_; rw [← Hv1.out]; rintro e wq ⟨rfl, hB⟩; (obtain ⟨hBc, hBf⟩ := bcell hB; have hBs := hB.size; (try simp at hBs); (try have hBq1 := Nat.lt_of_succ_le hBs); (try have hBq2 := Nat.lt_of_succ_lt hBq1); (try have hBq3 := Nat.lt_of_succ_lt hBq2); (try have hBzw0 : w.heap.size < wq.heap.size := (by omega)); (try have hBzw1 : w.heap.size + 1 < wq.heap.size := (by omega)); (try have hBzw2 : w.heap.size + 1 + 1 < wq.heap.size := (by omega)); (try have hBzw3 : w.heap.size + 1 + 1 + 1 < wq.heap.size := (by omega)); (try have hBzw4 : w.heap.size + 1 + 1 + 1 + 1 < wq.heap.size := (by omega)); (try have hBzw10 : w1.heap.size < wq.heap.size := (by omega)); (try have hBzw11 : w1.heap.size + 1 < wq.heap.size := (by omega)); (try have hBzw12 : w1.heap.size + 1 + 1 < wq.heap.size := (by omega)); (try have hBzw13 : w1.heap.size + 1 + 1 + 1 < wq.heap.size := (by omega)); (try have hBzw14 : w1.heap.size + 1 + 1 + 1 + 1 < wq.heap.size := (by omega)))) | (go_at_call 49; refine Calls.mono (specQuad_any _ _ _ _ _ _ _ hp hc (by omega) (by omega) (by omega) (by omega)) ?_; rw [← Hv2.out]; rintro e wq ⟨rfl, hB⟩; (obtain ⟨hBc, hBf⟩ := bcell hB; have hBs := hB.size; (try simp at hBs); (try have hBq1 := Nat.lt_of_succ_le hBs); (try have hBq2 := Nat.lt_of_succ_lt hBq1); (try have hBq3 := Nat.lt_of_succ_lt hBq2); (try have hBzw0 : w.heap.size < wq.heap.size := (by omega)); (try have hBzw1 : w.heap.size + 1 < wq.heap.size := (by omega)); (try have hBzw2 : w.heap.size + 1 + 1 < wq.heap.size := (by omega)); (try have hBzw3 : w.heap.size + 1 + 1 + 1 < wq.heap.size := (by omega)); (try have hBzw4 : w.heap.size + 1 + 1 + 1 + 1 < wq.heap.size := (by omega)); (try have hBzw10 : w1.heap.size < wq.heap.size := (by omega)); (try have hBzw11 : w1.heap.size + 1 < wq.heap.size := (by omega)); (try have hBzw12 : w1.heap.size + 1 + 1 < wq.heap.size := (by omega)); (try have hBzw13 : w1.heap.size + 1 + 1 + 1 < wq.heap.size := (by omega)); (try have hBzw14 : w1.heap.size + 1 + 1 + 1 + 1 < wq.heap.size := (by omega)))) | (go_at_call 45; refine Calls.mono (inverse_any _ _ _ hp (by omega) (by omega)) ?_; rw [← Hv3.out]; rintro e wq ⟨rfl, rfl⟩))
                  all_goals
                    go_wp2_with fail
                    go_meet
                    refine ⟨rfl, rfl, by with_reducible assumption, ?_⟩
                    · (repeat (first | with_reducible exact Below.refl _ _ | with_reducible exact hW | with_reducible refine balloc ?_ _ | with_reducible refine bdrewN ?_ _ | with_reducible refine Below.drew ?_ | with_reducible refine bthen ?_ (by with_reducible assumption) | with_reducible refine Below.setCell ?_ (by first | (simp; done) | (simp; omega)) _))
                case' rest => obtain ⟨rfl, rfl, ⟨bA0, bA1, bA2, bA3, bA4, bA5⟩, hxA⟩ := hcut
                obtain ⟨wA, rfl⟩ : ∃ wA : World, wA = wc := ⟨_, rfl⟩
                have lA_1 : w.heap.size < wA.heap.size := World.block_lt_of_cell? wA ⟨w.heap.size, 0, none⟩ bA0
                have lA_2 : w.heap.size + 1 < wA.heap.size := World.block_lt_of_cell? wA ⟨w.heap.size + 1, 0, none⟩ bA2
                have lA_3 : w.heap.size + 1 + 1 < wA.heap.size := World.block_lt_of_cell? wA ⟨w.heap.size + 1 + 1, 0, none⟩ bA4
                have HB : srB p col a1 a2 b1 b2 c1 c2 = true := by simp [srB, hd1, hd2, hd3, hd4, hd5, hd6, hd7]
                have HS : srS p col a1 a2 b1 b2 c1 c2 = 0 := by simp [srS, trT, hd1, hd2, hd3, hd4, hd5, hd6, hd7]
                have HV := Lib.hid (show srV1 p col a1 a2 b1 b2 c1 c2 = (v1 * v3) % p ∧ srC p col a1 a2 b1 b2 c1 c2 = 0 from by
                  have HG := sr_good (col := col) (a1 := a1) (a2 := a2) (b1 := b1) (b2 := b2) (c1 := c1) (c2 := c2) hp HB HS
                  refine ⟨(HG.1).trans ?_, HG.2⟩
                  all_goals (simp only [← Hv1.out, ← Hv2.out, ← Hv3.out] <;> simp [hd1, hd2, hd3, hd4, hd5, hd6, hd7]))
                clear HB HS
                go_wp2
                (refine bodyPost_ret (v := .tuple #[.int .i64 (srV1 p col a1 a2 b1 b2 c1 c2), .int .i64 (srC p col a1 a2 b1 b2 c1 c2)]) (by simp [results, Try.results22, go_sem, HV.out.1, HV.out.2, *]) rfl ⟨?_, ?_⟩)
                · rfl
                · (repeat (first | with_reducible exact Below.refl _ _ | with_reducible exact hxA | with_reducible refine balloc ?_ _ | with_reducible refine bdrewN ?_ _ | with_reducible refine Below.drew ?_ | with_reducible refine bthen ?_ (by with_reducible assumption) | with_reducible refine Below.setCell ?_ (by first | (simp; done) | (simp; omega)) _))
              · have hd7n : (qdr p col a1 a2 c1 c2 != 0) = false := by rw [bne, hd7]; rfl
                have Hhd7p := Lib.hid (beq_iff_eq.1 hd7)
                have c_1 : trC p col a1 a2 b1 b2 c1 c2 = 5 := by simp [trC, trB, trS, trT, hd1, hd2, hd3, hd4, hd5, hd6, hd7]
                go_wp2_with fail
                refine Calls.mono (specTri_any _ _ _ _ _ _ _ _ _ ) ?_
                rintro e w1 ⟨rfl, hB1⟩
                (obtain ⟨hB1c, hB1f⟩ := bcell hB1; have hB1s := hB1.size; (try simp at hB1s); (try have hB1q1 := Nat.lt_of_succ_le hB1s); (try have hB1q2 := Nat.lt_of_succ_lt hB1q1); (try have hB1q3 := Nat.lt_of_succ_lt hB1q2); (try have hB1zw0 : w.heap.size < w1.heap.size := (by omega)); (try have hB1zw1 : w.heap.size + 1 < w1.heap.size := (by omega)); (try have hB1zw2 : w.heap.size + 1 + 1 < w1.heap.size := (by omega)); (try have hB1zw3 : w.heap.size + 1 + 1 + 1 < w1.heap.size := (by omega)); (try have hB1zw4 : w.heap.size + 1 + 1 + 1 + 1 < w1.heap.size := (by omega)))
                have HB : srB p col a1 a2 b1 b2 c1 c2 = true := by simp [srB, hd1, hd2, hd3, hd4, hd5, hd6, hd7]
                have HS : srS p col a1 a2 b1 b2 c1 c2 = 5 := by simp [srS, trT, hd1, hd2, hd3, hd4, hd5, hd6, hd7]
                have HV := Lib.hid (sr_st (col := col) (a1 := a1) (a2 := a2) (b1 := b1) (b2 := b2) (c1 := c1) (c2 := c2) hp HB HS (by decide))
                clear HB HS
                go_wp2
                (refine bodyPost_ret (v := .tuple #[.int .i64 (srV1 p col a1 a2 b1 b2 c1 c2), .int .i64 (srC p col a1 a2 b1 b2 c1 c2)]) (by simp [results, Try.results22, go_sem, HV.out.1, HV.out.2, *]) rfl ⟨?_, ?_⟩)
                · rfl
                · (repeat (first | with_reducible exact Below.refl _ _ | with_reducible refine balloc ?_ _ | with_reducible refine bdrewN ?_ _ | with_reducible refine Below.drew ?_ | with_reducible refine bthen ?_ (by with_reducible assumption) | with_reducible refine Below.setCell ?_ (by first | (simp; done) | (simp; omega)) _))
            · have hd6n : (qdr p col b1 b2 c1 c2 != 0) = false := by rw [bne, hd6]; rfl
              have Hhd6p := Lib.hid (beq_iff_eq.1 hd6)
              have c_1 : trC p col a1 a2 b1 b2 c1 c2 = 5 := by simp [trC, trB, trS, trT, hd1, hd2, hd3, hd4, hd5, hd6]
              go_wp2_with fail
              refine Calls.mono (specTri_any _ _ _ _ _ _ _ _ _ ) ?_
              rintro e w1 ⟨rfl, hB1⟩
              (obtain ⟨hB1c, hB1f⟩ := bcell hB1; have hB1s := hB1.size; (try simp at hB1s); (try have hB1q1 := Nat.lt_of_succ_le hB1s); (try have hB1q2 := Nat.lt_of_succ_lt hB1q1); (try have hB1q3 := Nat.lt_of_succ_lt hB1q2); (try have hB1zw0 : w.heap.size < w1.heap.size := (by omega)); (try have hB1zw1 : w.heap.size + 1 < w1.heap.size := (by omega)); (try have hB1zw2 : w.heap.size + 1 + 1 < w1.heap.size := (by omega)); (try have hB1zw3 : w.heap.size + 1 + 1 + 1 < w1.heap.size := (by omega)); (try have hB1zw4 : w.heap.size + 1 + 1 + 1 + 1 < w1.heap.size := (by omega)))
              have HB : srB p col a1 a2 b1 b2 c1 c2 = true := by simp [srB, hd1, hd2, hd3, hd4, hd5, hd6]
              have HS : srS p col a1 a2 b1 b2 c1 c2 = 5 := by simp [srS, trT, hd1, hd2, hd3, hd4, hd5, hd6]
              have HV := Lib.hid (sr_st (col := col) (a1 := a1) (a2 := a2) (b1 := b1) (b2 := b2) (c1 := c1) (c2 := c2) hp HB HS (by decide))
              clear HB HS
              go_wp2
              (refine bodyPost_ret (v := .tuple #[.int .i64 (srV1 p col a1 a2 b1 b2 c1 c2), .int .i64 (srC p col a1 a2 b1 b2 c1 c2)]) (by simp [results, Try.results22, go_sem, HV.out.1, HV.out.2, *]) rfl ⟨?_, ?_⟩)
              · rfl
              · (repeat (first | with_reducible exact Below.refl _ _ | with_reducible refine balloc ?_ _ | with_reducible refine bdrewN ?_ _ | with_reducible refine Below.drew ?_ | with_reducible refine bthen ?_ (by with_reducible assumption) | with_reducible refine Below.setCell ?_ (by first | (simp; done) | (simp; omega)) _))
          · have hd5n : (qdr p col a1 a2 b1 b2 != 0) = false := by rw [bne, hd5]; rfl
            have Hhd5p := Lib.hid (beq_iff_eq.1 hd5)
            have c_1 : trC p col a1 a2 b1 b2 c1 c2 = 5 := by simp [trC, trB, trS, trT, hd1, hd2, hd3, hd4, hd5]
            go_wp2_with fail
            refine Calls.mono (specTri_any _ _ _ _ _ _ _ _ _ ) ?_
            rintro e w1 ⟨rfl, hB1⟩
            (obtain ⟨hB1c, hB1f⟩ := bcell hB1; have hB1s := hB1.size; (try simp at hB1s); (try have hB1q1 := Nat.lt_of_succ_le hB1s); (try have hB1q2 := Nat.lt_of_succ_lt hB1q1); (try have hB1q3 := Nat.lt_of_succ_lt hB1q2); (try have hB1zw0 : w.heap.size < w1.heap.size := (by omega)); (try have hB1zw1 : w.heap.size + 1 < w1.heap.size := (by omega)); (try have hB1zw2 : w.heap.size + 1 + 1 < w1.heap.size := (by omega)); (try have hB1zw3 : w.heap.size + 1 + 1 + 1 < w1.heap.size := (by omega)); (try have hB1zw4 : w.heap.size + 1 + 1 + 1 + 1 < w1.heap.size := (by omega)))
            have HB : srB p col a1 a2 b1 b2 c1 c2 = true := by simp [srB, hd1, hd2, hd3, hd4, hd5]
            have HS : srS p col a1 a2 b1 b2 c1 c2 = 5 := by simp [srS, trT, hd1, hd2, hd3, hd4, hd5]
            have HV := Lib.hid (sr_st (col := col) (a1 := a1) (a2 := a2) (b1 := b1) (b2 := b2) (c1 := c1) (c2 := c2) hp HB HS (by decide))
            clear HB HS
            go_wp2
            (refine bodyPost_ret (v := .tuple #[.int .i64 (srV1 p col a1 a2 b1 b2 c1 c2), .int .i64 (srC p col a1 a2 b1 b2 c1 c2)]) (by simp [results, Try.results22, go_sem, HV.out.1, HV.out.2, *]) rfl ⟨?_, ?_⟩)
            · rfl
            · (repeat (first | with_reducible exact Below.refl _ _ | with_reducible refine balloc ?_ _ | with_reducible refine bdrewN ?_ _ | with_reducible refine Below.drew ?_ | with_reducible refine bthen ?_ (by with_reducible assumption) | with_reducible refine Below.setCell ?_ (by first | (simp; done) | (simp; omega)) _))
        · have hd4n : (area p a1 a2 b1 b2 c1 c2 != 0) = false := by rw [bne, hd4]; rfl
          have Hhd4p := Lib.hid (beq_iff_eq.1 hd4)
          have c_1 : trC p col a1 a2 b1 b2 c1 c2 = 5 := by simp [trC, trB, trS, trT, hd1, hd2, hd3, hd4]
          go_wp2_with fail
          refine Calls.mono (specTri_any _ _ _ _ _ _ _ _ _ ) ?_
          rintro e w1 ⟨rfl, hB1⟩
          (obtain ⟨hB1c, hB1f⟩ := bcell hB1; have hB1s := hB1.size; (try simp at hB1s); (try have hB1q1 := Nat.lt_of_succ_le hB1s); (try have hB1q2 := Nat.lt_of_succ_lt hB1q1); (try have hB1q3 := Nat.lt_of_succ_lt hB1q2); (try have hB1zw0 : w.heap.size < w1.heap.size := (by omega)); (try have hB1zw1 : w.heap.size + 1 < w1.heap.size := (by omega)); (try have hB1zw2 : w.heap.size + 1 + 1 < w1.heap.size := (by omega)); (try have hB1zw3 : w.heap.size + 1 + 1 + 1 < w1.heap.size := (by omega)); (try have hB1zw4 : w.heap.size + 1 + 1 + 1 + 1 < w1.heap.size := (by omega)))
          have HB : srB p col a1 a2 b1 b2 c1 c2 = true := by simp [srB, hd1, hd2, hd3, hd4]
          have HS : srS p col a1 a2 b1 b2 c1 c2 = 5 := by simp [srS, trT, hd1, hd2, hd3, hd4]
          have HV := Lib.hid (sr_st (col := col) (a1 := a1) (a2 := a2) (b1 := b1) (b2 := b2) (c1 := c1) (c2 := c2) hp HB HS (by decide))
          clear HB HS
          go_wp2
          (refine bodyPost_ret (v := .tuple #[.int .i64 (srV1 p col a1 a2 b1 b2 c1 c2), .int .i64 (srC p col a1 a2 b1 b2 c1 c2)]) (by simp [results, Try.results22, go_sem, HV.out.1, HV.out.2, *]) rfl ⟨?_, ?_⟩)
          · rfl
          · (repeat (first | with_reducible exact Below.refl _ _ | with_reducible refine balloc ?_ _ | with_reducible refine bdrewN ?_ _ | with_reducible refine Below.drew ?_ | with_reducible refine bthen ?_ (by with_reducible assumption) | with_reducible refine Below.setCell ?_ (by first | (simp; done) | (simp; omega)) _))

set_option linter.unusedSimpArgs false in
set_option maxRecDepth 20000 in
set_option maxHeartbeats 4000000 in
theorem implSpreadRatio_any (p col a1 a2 b1 b2 c1 c2 : Int) (w : World) :
    Calls Try.prog 23 #[.int .i64 p, .int .i64 col, .agg #[.int .i64 a1, .int .i64 a2], .agg #[.int .i64 b1, .int .i64 b2], .agg #[.int .i64 c1, .int .i64 c2]] w fun e w' =>
      e = .returned (.tuple #[.int .i64 (srV1 p col a1 a2 b1 b2 c1 c2), .int .i64 (srC p col a1 a2 b1 b2 c1 c2)]) ∧ Below w.heap.size w w' := by
  go_enter Try.func23, Try.ntmps23
  rcases bool_ways (isP p) with hd1 | hd1
  · skip
    have c_1 : trC p col a1 a2 b1 b2 c1 c2 = 1 := by simp [trC, trB, trS, trT, hd1]
    go_wp2_with fail
    refine Calls.mono (implSpreadsOfTriangle_any _ _ _ _ _ _ _ _ _ ) ?_
    rintro e w1 ⟨vS1, nS1, rfl, hoS1, hB1⟩
    (obtain ⟨hB1c, hB1f⟩ := bcell hB1; have hB1s := hB1.size; (try simp at hB1s); (try have hB1q1 := Nat.lt_of_succ_le hB1s); (try have hB1q2 := Nat.lt_of_succ_lt hB1q1); (try have hB1q3 := Nat.lt_of_succ_lt hB1q2); (try have hB1zw0 : w.heap.size < w1.heap.size := (by omega)); (try have hB1zw1 : w.heap.size + 1 < w1.heap.size := (by omega)); (try have hB1zw2 : w.heap.size + 1 + 1 < w1.heap.size := (by omega)); (try have hB1zw3 : w.heap.size + 1 + 1 + 1 < w1.heap.size := (by omega)); (try have hB1zw4 : w.heap.size + 1 + 1 + 1 + 1 < w1.heap.size := (by omega)))
    have HV := Lib.hid (sr_no (col := col) (a1 := a1) (a2 := a2) (b1 := b1) (b2 := b2) (c1 := c1) (c2 := c2) hd1)
    go_wp2
    (refine bodyPost_ret (v := .tuple #[.int .i64 (srV1 p col a1 a2 b1 b2 c1 c2), .int .i64 (srC p col a1 a2 b1 b2 c1 c2)]) (by simp [results, Try.results23, go_sem, HV.out.1, HV.out.2, *]) rfl ⟨?_, ?_⟩)
    · rfl
    · (repeat (first | with_reducible exact Below.refl _ _ | with_reducible refine balloc ?_ _ | with_reducible refine bdrewN ?_ _ | with_reducible refine Below.drew ?_ | with_reducible refine bthen ?_ (by with_reducible assumption) | with_reducible refine Below.setCell ?_ (by first | (simp; done) | (simp; omega)) _))
  · have hp := hd1
    have hr := isP_range hp
    rcases bool_ways (colB col) with hd2 | hd2
    · skip
      have c_1 : trC p col a1 a2 b1 b2 c1 c2 = 2 := by simp [trC, trB, trS, trT, hd1, hd2]
      go_wp2_with fail
      refine Calls.mono (implSpreadsOfTriangle_any _ _ _ _ _ _ _ _ _ ) ?_
      rintro e w1 ⟨vS1, nS1, rfl, hoS1, hB1⟩
      (obtain ⟨hB1c, hB1f⟩ := bcell hB1; have hB1s := hB1.size; (try simp at hB1s); (try have hB1q1 := Nat.lt_of_succ_le hB1s); (try have hB1q2 := Nat.lt_of_succ_lt hB1q1); (try have hB1q3 := Nat.lt_of_succ_lt hB1q2); (try have hB1zw0 : w.heap.size < w1.heap.size := (by omega)); (try have hB1zw1 : w.heap.size + 1 < w1.heap.size := (by omega)); (try have hB1zw2 : w.heap.size + 1 + 1 < w1.heap.size := (by omega)); (try have hB1zw3 : w.heap.size + 1 + 1 + 1 < w1.heap.size := (by omega)); (try have hB1zw4 : w.heap.size + 1 + 1 + 1 + 1 < w1.heap.size := (by omega)))
      have HV := Lib.hid (sr_out (col := col) (a1 := a1) (a2 := a2) (b1 := b1) (b2 := b2) (c1 := c1) (c2 := c2) hp (by simp [srB, hd1, hd2]))
      go_wp2
      (refine bodyPost_ret (v := .tuple #[.int .i64 (srV1 p col a1 a2 b1 b2 c1 c2), .int .i64 (srC p col a1 a2 b1 b2 c1 c2)]) (by simp [results, Try.results23, go_sem, HV.out.1, HV.out.2, *]) rfl ⟨?_, ?_⟩)
      · rfl
      · (repeat (first | with_reducible exact Below.refl _ _ | with_reducible refine balloc ?_ _ | with_reducible refine bdrewN ?_ _ | with_reducible refine Below.drew ?_ | with_reducible refine bthen ?_ (by with_reducible assumption) | with_reducible refine Below.setCell ?_ (by first | (simp; done) | (simp; omega)) _))
    · have hc := hd2
      have hcr := colB_range hc
      rcases bool_ways (numsIn p [a1, a2, b1, b2, c1, c2]) with hd3 | hd3
      · skip
        have c_1 : trC p col a1 a2 b1 b2 c1 c2 = 2 := by simp [trC, trB, trS, trT, hd1, hd2, hd3]
        go_wp2_with fail
        refine Calls.mono (implSpreadsOfTriangle_any _ _ _ _ _ _ _ _ _ ) ?_
        rintro e w1 ⟨vS1, nS1, rfl, hoS1, hB1⟩
        (obtain ⟨hB1c, hB1f⟩ := bcell hB1; have hB1s := hB1.size; (try simp at hB1s); (try have hB1q1 := Nat.lt_of_succ_le hB1s); (try have hB1q2 := Nat.lt_of_succ_lt hB1q1); (try have hB1q3 := Nat.lt_of_succ_lt hB1q2); (try have hB1zw0 : w.heap.size < w1.heap.size := (by omega)); (try have hB1zw1 : w.heap.size + 1 < w1.heap.size := (by omega)); (try have hB1zw2 : w.heap.size + 1 + 1 < w1.heap.size := (by omega)); (try have hB1zw3 : w.heap.size + 1 + 1 + 1 < w1.heap.size := (by omega)); (try have hB1zw4 : w.heap.size + 1 + 1 + 1 + 1 < w1.heap.size := (by omega)))
        have HV := Lib.hid (sr_out (col := col) (a1 := a1) (a2 := a2) (b1 := b1) (b2 := b2) (c1 := c1) (c2 := c2) hp (by simp [srB, hd1, hd2, hd3]))
        go_wp2
        (refine bodyPost_ret (v := .tuple #[.int .i64 (srV1 p col a1 a2 b1 b2 c1 c2), .int .i64 (srC p col a1 a2 b1 b2 c1 c2)]) (by simp [results, Try.results23, go_sem, HV.out.1, HV.out.2, *]) rfl ⟨?_, ?_⟩)
        · rfl
        · (repeat (first | with_reducible exact Below.refl _ _ | with_reducible refine balloc ?_ _ | with_reducible refine bdrewN ?_ _ | with_reducible refine Below.drew ?_ | with_reducible refine bthen ?_ (by with_reducible assumption) | with_reducible refine Below.setCell ?_ (by first | (simp; done) | (simp; omega)) _))
      · have hd3q := nums6 hd3
        rcases bool_ways (area p a1 a2 b1 b2 c1 c2 == 0) with hd4 | hd4
        · have hd4n : (area p a1 a2 b1 b2 c1 c2 != 0) = true := by rw [bne, hd4]; rfl
          have Hhd4p := Lib.hid (beq_eq_false_iff_ne.1 hd4)
          rcases bool_ways (qdr p col a1 a2 b1 b2 == 0) with hd5 | hd5
          · have hd5n : (qdr p col a1 a2 b1 b2 != 0) = true := by rw [bne, hd5]; rfl
            have Hhd5p := Lib.hid (beq_eq_false_iff_ne.1 hd5)
            rcases bool_ways (qdr p col b1 b2 c1 c2 == 0) with hd6 | hd6
            · have hd6n : (qdr p col b1 b2 c1 c2 != 0) = true := by rw [bne, hd6]; rfl
              have Hhd6p := Lib.hid (beq_eq_false_iff_ne.1 hd6)
              rcases bool_ways (qdr p col a1 a2 c1 c2 == 0) with hd7 | hd7
              · have hd7n : (qdr p col a1 a2 c1 c2 != 0) = true := by rw [bne, hd7]; rfl
                have Hhd7p := Lib.hid (beq_eq_false_iff_ne.1 hd7)
                have c_1 : trC p col a1 a2 b1 b2 c1 c2 = 0 := by simp [trC, trB, trS, trT, hd1, hd2, hd3, hd4, hd5, hd6, hd7]
                obtain ⟨v1, hv1⟩ : ∃ v : Int, v = atO p col a1 a2 b1 b2 c1 c2 := ⟨_, rfl⟩
                have rv1 := atO_r col a1 a2 b1 b2 c1 c2 hp
                rw [← hv1] at rv1
                have Hv1 := Lib.hid hv1
                clear hv1
                obtain ⟨v2, hv2⟩ : ∃ v : Int, v = atO p col b1 b2 a1 a2 c1 c2 := ⟨_, rfl⟩
                have rv2 := atO_r col b1 b2 a1 a2 c1 c2 hp
                rw [← hv2] at rv2
                have Hv2 := Lib.hid hv2
                clear hv2
                obtain ⟨v3, hv3⟩ : ∃ v : Int, v = atO p col c1 c2 a1 a2 b1 b2 := ⟨_, rfl⟩
                have rv3 := atO_r col c1 c2 a1 a2 b1 b2 hp
                rw [← hv3] at rv3
                have Hv3 := Lib.hid hv3
                clear hv3
                have LS1 := Lib.hid (show trL p col a1 a2 b1 b2 c1 c2 = [v1, v2, v3] from by rw [Hv1.out, Hv2.out, Hv3.out]; simp [trC, trB, trS, trT, hd1, hd2, hd3, hd4, hd5, hd6, hd7, trL])
                obtain ⟨v4, hv4⟩ : ∃ v : Int, v = qdr p col b1 b2 c1 c2 := ⟨_, rfl⟩
                have rv4 := qdr_r col b1 b2 c1 c2 hp
                rw [← hv4] at rv4
                have Hv4 := Lib.hid hv4
                clear hv4
                obtain ⟨v5, hv5⟩ : ∃ v : Int, v = v1 * inv p v4 % p := ⟨_, rfl⟩
                have rv5 := modR (v1 * inv p v4) hp
                rw [← hv5] at rv5
                have Hv5 := Lib.hid hv5
                clear hv5
                go_wp2_with fail
                refine Calls.mono (implSpreadsOfTriangle_any _ _ _ _ _ _ _ _ _ ) ?_
                rintro e w1 ⟨vS1, nS1, rfl, hoS1, hB1⟩
                (obtain ⟨hB1c, hB1f⟩ := bcell hB1; have hB1s := hB1.size; (try simp at hB1s); (try have hB1q1 := Nat.lt_of_succ_le hB1s); (try have hB1q2 := Nat.lt_of_succ_lt hB1q1); (try have hB1q3 := Nat.lt_of_succ_lt hB1q2); (try have hB1zw0 : w.heap.size < w1.heap.size := (by omega)); (try have hB1zw1 : w.heap.size + 1 < w1.heap.size := (by omega)); (try have hB1zw2 : w.heap.size + 1 + 1 < w1.heap.size := (by omega)); (try have hB1zw3 : w.heap.size + 1 + 1 + 1 < w1.heap.size := (by omega)); (try have hB1zw4 : w.heap.size + 1 + 1 + 1 + 1 < w1.heap.size := (by omega)))
                rw [LS1.out] at hoS1
                obtain ⟨rfl, gS1, cS1, rfl, hgS1, hlS1, hcS1⟩ := own_list (m := 2) hoS1 rfl
                have kS1_0 : w1.cell? ⟨gS1, 0, none⟩ = some (.int .i64 v1) := hcS1 0 (by decide)
                have kS1_1 : w1.cell? ⟨gS1, 1, none⟩ = some (.int .i64 v2) := hcS1 1 (by decide)
                have kS1_2 : w1.cell? ⟨gS1, 2, none⟩ = some (.int .i64 v3) := hcS1 2 (by decide)
                clear hcS1
                go_upto_region 4 with fail
                go_cut [10, 11] (fun s10 s11 wx => s10 = .int .i64 v5 ∧ s11 = .int .i64 0 ∧ (wx.cell? ⟨w.heap.size + 1, 0, none⟩ = some (.int .i64 b1) ∧ wx.cell? ⟨w.heap.size + 1, 1, none⟩ = some (.int .i64 b2) ∧ wx.cell? ⟨w.heap.size + 1 + 1, 0, none⟩ = some (.int .i64 c1) ∧ wx.cell? ⟨w.heap.size + 1 + 1, 1, none⟩ = some (.int .i64 c2) ∧ wx.cell? ⟨gS1, 0, none⟩ = some (.int .i64 v1) ∧ wx.cell? ⟨gS1, 1, none⟩ = some (.int .i64 v2) ∧ wx.cell? ⟨gS1, 2, none⟩ = some (.int .i64 v3)) ∧ Below w.heap.size w wx)
                case first =>
                  have kb0_0 : w1.cell? ⟨w.heap.size + 1, 0, none⟩ = some (.int .i64 b1) := by (first | with_reducible assumption | (repeat (first | with_reducible assumption | ((with_reducible refine kfresh ?_ ?_) <;> (first | with_reducible rfl | (simp; done))) | with_reducible refine ksame (u := .int .i64 0) ?_ | with_reducible refine kother (by decide) ?_ | with_reducible refine kset (by first | omega | (simp; done) | (simp; omega)) ?_ | with_reducible refine kalloc _ ?_ | with_reducible refine kdrew ?_ | with_reducible refine kcall (by with_reducible assumption) ?_)))
                  have kb0_1 : w1.cell? ⟨w.heap.size + 1, 1, none⟩ = some (.int .i64 b2) := by (first | with_reducible assumption | (repeat (first | with_reducible assumption | ((with_reducible refine kfresh ?_ ?_) <;> (first | with_reducible rfl | (simp; done))) | with_reducible refine ksame (u := .int .i64 0) ?_ | with_reducible refine kother (by decide) ?_ | with_reducible refine kset (by first | omega | (simp; done) | (simp; omega)) ?_ | with_reducible refine kalloc _ ?_ | with_reducible refine kdrew ?_ | with_reducible refine kcall (by with_reducible assumption) ?_)))
                  have kb1_0 : w1.cell? ⟨w.heap.size + 1 + 1, 0, none⟩ = some (.int .i64 c1) := by (first | with_reducible assumption | (repeat (first | with_reducible assumption | ((with_reducible refine kfresh ?_ ?_) <;> (first | with_reducible rfl | (simp; done))) | with_reducible refine ksame (u := .int .i64 0) ?_ | with_reducible refine kother (by decide) ?_ | with_reducible refine kset (by first | omega | (simp; done) | (simp; omega)) ?_ | with_reducible refine kalloc _ ?_ | with_reducible refine kdrew ?_ | with_reducible refine kcall (by with_reducible assumption) ?_)))
                  have kb1_1 : w1.cell? ⟨w.heap.size + 1 + 1, 1, none⟩ = some (.int .i64 c2) := by (first | with_reducible assumption | (repeat (first | with_reducible assumption | ((with_reducible refine kfresh ?_ ?_) <;> (first | with_reducible rfl | (simp; done))) | with_reducible refine ksame (u := .int .i64 0) ?_ | with_reducible refine kother (by decide) ?_ | with_reducible refine kset (by first | omega | (simp; done) | (simp; omega)) ?_ | with_reducible refine kalloc _ ?_ | with_reducible refine kdrew ?_ | with_reducible refine kcall (by with_reducible assumption) ?_)))
                  have kb2_0 : w1.cell? ⟨gS1, 0, none⟩ = some (.int .i64 v1) := by (first | with_reducible assumption | (repeat (first | with_reducible assumption | ((with_reducible refine kfresh ?_ ?_) <;> (first | with_reducible rfl | (simp; done))) | with_reducible refine ksame (u := .int .i64 0) ?_ | with_reducible refine kother (by decide) ?_ | with_reducible refine kset (by first | omega | (simp; done) | (simp; omega)) ?_ | with_reducible refine kalloc _ ?_ | with_reducible refine kdrew ?_ | with_reducible refine kcall (by with_reducible assumption) ?_)))
                  have kb2_1 : w1.cell? ⟨gS1, 1, none⟩ = some (.int .i64 v2) := by (first | with_reducible assumption | (repeat (first | with_reducible assumption | ((with_reducible refine kfresh ?_ ?_) <;> (first | with_reducible rfl | (simp; done))) | with_reducible refine ksame (u := .int .i64 0) ?_ | with_reducible refine kother (by decide) ?_ | with_reducible refine kset (by first | omega | (simp; done) | (simp; omega)) ?_ | with_reducible refine kalloc _ ?_ | with_reducible refine kdrew ?_ | with_reducible refine kcall (by with_reducible assumption) ?_)))
                  have kb2_2 : w1.cell? ⟨gS1, 2, none⟩ = some (.int .i64 v3) := by (first | with_reducible assumption | (repeat (first | with_reducible assumption | ((with_reducible refine kfresh ?_ ?_) <;> (first | with_reducible rfl | (simp; done))) | with_reducible refine ksame (u := .int .i64 0) ?_ | with_reducible refine kother (by decide) ?_ | with_reducible refine kset (by first | omega | (simp; done) | (simp; omega)) ?_ | with_reducible refine kalloc _ ?_ | with_reducible refine kdrew ?_ | with_reducible refine kcall (by with_reducible assumption) ?_)))
                  have hW : Below w.heap.size w w1 := by (repeat (first | with_reducible exact Below.refl _ _ | with_reducible refine balloc ?_ _ | with_reducible refine bdrewN ?_ _ | with_reducible refine Below.drew ?_ | with_reducible refine bthen ?_ (by with_reducible assumption) | with_reducible refine Below.setCell ?_ (by first | (simp; done) | (simp; omega)) _))
                  go_region_held3 (fun W => W.cell? ⟨w.heap.size + 1, 0, none⟩ = some (.int .i64 b1) ∧ W.cell? ⟨w.heap.size + 1, 1, none⟩ = some (.int .i64 b2) ∧ W.cell? ⟨w.heap.size + 1 + 1, 0, none⟩ = some (.int .i64 c1) ∧ W.cell? ⟨w.heap.size + 1 + 1, 1, none⟩ = some (.int .i64 c2) ∧ W.cell? ⟨gS1, 0, none⟩ = some (.int .i64 v1) ∧ W.cell? ⟨gS1, 1, none⟩ = some (.int .i64 v2) ∧ W.cell? ⟨gS1, 2, none⟩ = some (.int .i64 v3)) (first | (refine ⟨?_, ?_, ?_, ?_, ?_, ?_, ?_⟩ <;> ((try with_reducible refine kdrew ?_); (repeat with_reducible refine kalloc _ ?_); with_reducible assumption)) | (first | with_reducible assumption | with_reducible exact (And.imp (kcall hB) (And.imp (kcall hB) (And.imp (kcall hB) (And.imp (kcall hB) (And.imp (kcall hB) (And.imp (kcall hB) ((kcall hB)))))))) (by with_reducible assumption) | with_reducible exact (And.imp (kalloc _) (And.imp (kalloc _) (And.imp (kalloc _) (And.imp (kalloc _) (And.imp (kalloc _) (And.imp (kalloc _) ((kalloc _)))))))) (by with_reducible assumption) | with_reducible exact (And.imp (krealloc (by first | omega | (simp; done) | (simp; omega))) (And.imp (krealloc (by first | omega | (simp; done) | (simp; omega))) (And.imp (krealloc (by first | omega | (simp; done) | (simp; omega))) (And.imp (krealloc (by first | omega | (simp; done) | (simp; omega))) (And.imp (krealloc (by first | omega | (simp; done) | (simp; omega))) (And.imp (krealloc (by first | omega | (simp; done) | (simp; omega))) ((krealloc (by first | omega | (simp; done) | (simp; omega)))))))))) (by with_reducible assumption) | with_reducible exact (And.imp (fun h => kdrew (kalloc _ (kundrew h))) (And.imp (fun h => kdrew (kalloc _ (kundrew h))) (And.imp (fun h => kdrew (kalloc _ (kundrew h))) (And.imp (fun h => kdrew (kalloc _ (kundrew h))) (And.imp (fun h => kdrew (kalloc _ (kundrew h))) (And.imp (fun h => kdrew (kalloc _ (kundrew h))) ((fun h => kdrew (kalloc _ (kundrew h)))))))))) (by with_reducible assumption) | with_reducible exact (And.imp (fun h => kdrew (krealloc (by first | omega | (simp; done) | (simp; omega)) (kundrew h))) (And.imp (fun h => kdrew (krealloc (by first | omega | (simp; done) | (simp; omega)) (kundrew h))) (And.imp (fun h => kdrew (krealloc (by first | omega | (simp; done) | (simp; omega)) (kundrew h))) (And.imp (fun h => kdrew (krealloc (by first | omega | (simp; done) | (simp; omega)) (kundrew h))) (And.imp (fun h => kdrew (krealloc (by first | omega | (simp; done) | (simp; omega)) (kundrew h))) (And.imp (fun h => kdrew (krealloc (by first | omega | (simp; done) | (simp; omega)) (kundrew h))) ((fun h => kdrew (krealloc (by first | omega | (simp; done) | (simp; omega)) (kundrew h)))))))))) (by with_reducible assumption) | with_reducible exact (And.imp (fun h => kset (by first | omega | (simp; done) | (simp; omega)) (kset (by first | omega | (simp; done) | (simp; omega)) (kset (by first | omega | (simp; done) | (simp; omega)) h))) (And.imp (fun h => kset (by first | omega | (simp; done) | (simp; omega)) (kset (by first | omega | (simp; done) | (simp; omega)) (kset (by first | omega | (simp; done) | (simp; omega)) h))) (And.imp (fun h => kset (by first | omega | (simp; done) | (simp; omega)) (kset (by first | omega | (simp; done) | (simp; omega)) (kset (by first | omega | (simp; done) | (simp; omega)) h))) (And.imp (fun h => kset (by first | omega | (simp; done) | (simp; omega)) (kset (by first | omega | (simp; done) | (simp; omega)) (kset (by first | omega | (simp; done) | (simp; omega)) h))) (And.imp (fun h => kset (by first | omega | (simp; done) | (simp; omega)) (kset (by first | omega | (simp; done) | (simp; omega)) (kset (by first | omega | (simp; done) | (simp; omega)) h))) (And.imp (fun h => kset (by first | omega | (simp; done) | (simp; omega)) (kset (by first | omega | (simp; done) | (simp; omega)) (kset (by first | omega | (simp; done) | (simp; omega)) h))) ((fun h => kset (by first | omega | (simp; done) | (simp; omega)) (kset (by first | omega | (simp; done) | (simp; omega)) (kset (by first | omega | (simp; done) | (simp; omega)) h)))))))))) (by with_reducible assumption) | with_reducible exact (And.imp (fun h => kset (by first | omega | (simp; done) | (simp; omega)) (kset (by first | omega | (simp; done) | (simp; omega)) h)) (And.imp (fun h => kset (by first | omega | (simp; done) | (simp; omega)) (kset (by first | omega | (simp; done) | (simp; omega)) h)) (And.imp (fun h => kset (by first | omega | (simp; done) | (simp; omega)) (kset (by first | omega | (simp; done) | (simp; omega)) h)) (And.imp (fun h => kset (by first | omega | (simp; done) | (simp; omega)) (kset (by first | omega | (simp; done) | (simp; omega)) h)) (And.imp (fun h => kset (by first | omega | (simp; done) | (simp; omega)) (kset (by first | omega | (simp; done) | (simp; omega)) h)) (And.imp (fun h => kset (by first | omega | (simp; done) | (simp; omega)) (kset (by first | omega | (simp; done) | (simp; omega)) h)) ((fun h => kset (by first | omega | (simp; done) | (simp; omega)) (kset (by first | omega | (simp; done) | (simp; omega)) h))))))))) (by with_reducible assumption) | with_reducible exact (And.imp (fun h => kset (by first | omega | (simp; done) | (simp; omega)) h) (And.imp (fun h => kset (by first | omega | (simp; done) | (simp; omega)) h) (And.imp (fun h => kset (by first | omega | (simp; done) | (simp; omega)) h) (And.imp (fun h => kset (by first | omega | (simp; done) | (simp; omega)) h) (And.imp (fun h => kset (by first | omega | (simp; done) | (simp; omega)) h) (And.imp (fun h => kset (by first | omega | (simp; done) | (simp; omega)) h) ((fun h => kset (by first | omega | (simp; done) | (simp; omega)) h)))))))) (by with_reducible assumption) | with_reducible exact (And.imp (fun h => kalloc _ (kset (by first | omega | (simp; done) | (simp; omega)) (kset (by first | omega | (simp; done) | (simp; omega)) (kback (by first | omega | (simp; done) | (simp; omega)) h)))) (And.imp (fun h => kalloc _ (kset (by first | omega | (simp; done) | (simp; omega)) (kset (by first | omega | (simp; done) | (simp; omega)) (kback (by first | omega | (simp; done) | (simp; omega)) h)))) (And.imp (fun h => kalloc _ (kset (by first | omega | (simp; done) | (simp; omega)) (kset (by first | omega | (simp; done) | (simp; omega)) (kback (by first | omega | (simp; done) | (simp; omega)) h)))) (And.imp (fun h => kalloc _ (kset (by first | omega | (simp; done) | (simp; omega)) (kset (by first | omega | (simp; done) | (simp; omega)) (kback (by first | omega | (simp; done) | (simp; omega)) h)))) (And.imp (fun h => kalloc _ (kset (by first | omega | (simp; done) | (simp; omega)) (kset (by first | omega | (simp; done) | (simp; omega)) (kback (by first | omega | (simp; done) | (simp; omega)) h)))) (And.imp (fun h => kalloc _ (kset (by first | omega | (simp; done) | (simp; omega)) (kset (by first | omega | (simp; done) | (simp; omega)) (kback (by first | omega | (simp; done) | (simp; omega)) h)))) ((fun h => kalloc _ (kset (by first | omega | (simp; done) | (simp; omega)) (kset (by first | omega | (simp; done) | (simp; omega)) (kback (by first | omega | (simp; done) | (simp; omega)) h))))))))))) (by with_reducible assumption) | with_reducible exact (And.imp (fun h => kalloc _ (kset (by first | omega | (simp; done) | (simp; omega)) (kset (by first | omega | (simp; done) | (simp; omega)) (kset (by first | omega | (simp; done) | (simp; omega)) (kback (by first | omega | (simp; done) | (simp; omega)) h))))) (And.imp (fun h => kalloc _ (kset (by first | omega | (simp; done) | (simp; omega)) (kset (by first | omega | (simp; done) | (simp; omega)) (kset (by first | omega | (simp; done) | (simp; omega)) (kback (by first | omega | (simp; done) | (simp; omega)) h))))) (And.imp (fun h => kalloc _ (kset (by first | omega | (simp; done) | (simp; omega)) (kset (by first | omega | (simp; done) | (simp; omega)) (kset (by first | omega | (simp; done) | (simp; omega)) (kback (by first | omega | (simp; done) | (simp; omega)) h))))) (And.imp (fun h => kalloc _ (kset (by first | omega | (simp; done) | (simp; omega)) (kset (by first | omega | (simp; done) | (simp; omega)) (kset (by first | omega | (simp; done) | (simp; omega)) (kback (by first | omega | (simp; done) | (simp; omega)) h))))) (And.imp (fun h => kalloc _ (kset (by first | omega | (simp; done) | (simp; omega)) (kset (by first | omega | (simp; done) | (simp; omega)) (kset (by first | omega | (simp; done) | (simp; omega)) (kback (by first | omega | (simp; done) | (simp; omega)) h))))) (And.imp (fun h => kalloc _ (kset (by first | omega | (simp; done) | (simp; omega)) (kset (by first | omega | (simp; done) | (simp; omega)) (kset (by first | omega | (simp; done) | (simp; omega)) (kback (by first | omega | (simp; done) | (simp; omega)) h))))) ((fun h => kalloc _ (kset (by first | omega | (simp; done) | (simp; omega)) (kset (by first | omega | (simp; done) | (simp; omega)) (kset (by first | omega | (simp; done) | (simp; omega)) (kback (by first | omega | (simp; done) | (simp; omega)) h)))))))))))) (by with_reducible assumption) | with_reducible exact (And.imp (fun h => kalloc _ (kalloc _ (kback (by first | omega | (simp; done) | (simp; omega)) (kback (by first | omega | (simp; done) | (simp; omega)) h)))) (And.imp (fun h => kalloc _ (kalloc _ (kback (by first | omega | (simp; done) | (simp; omega)) (kback (by first | omega | (simp; done) | (simp; omega)) h)))) (And.imp (fun h => kalloc _ (kalloc _ (kback (by first | omega | (simp; done) | (simp; omega)) (kback (by first | omega | (simp; done) | (simp; omega)) h)))) (And.imp (fun h => kalloc _ (kalloc _ (kback (by first | omega | (simp; done) | (simp; omega)) (kback (by first | omega | (simp; done) | (simp; omega)) h)))) (And.imp (fun h => kalloc _ (kalloc _ (kback (by first | omega | (simp; done) | (simp; omega)) (kback (by first | omega | (simp; done) | (simp; omega)) h)))) (And.imp (fun h => kalloc _ (kalloc _ (kback (by first | omega | (simp; done) | (simp; omega)) (kback (by first | omega | (simp; done) | (simp; omega)) h)))) ((fun h => kalloc _ (kalloc _ (kback (by first | omega | (simp; done) | (simp; omega)) (kback (by first | omega | (simp; done) | (simp; omega)) h))))))))))) (by with_reducible assumption) | with_reducible exact (And.imp (fun h => kdrew (kalloc _ (kalloc _ (kback (by first | omega | (simp; done) | (simp; omega)) (kback (by first | omega | (simp; done) | (simp; omega)) (kundrew h)))))) (And.imp (fun h => kdrew (kalloc _ (kalloc _ (kback (by first | omega | (simp; done) | (simp; omega)) (kback (by first | omega | (simp; done) | (simp; omega)) (kundrew h)))))) (And.imp (fun h => kdrew (kalloc _ (kalloc _ (kback (by first | omega | (simp; done) | (simp; omega)) (kback (by first | omega | (simp; done) | (simp; omega)) (kundrew h)))))) (And.imp (fun h => kdrew (kalloc _ (kalloc _ (kback (by first | omega | (simp; done) | (simp; omega)) (kback (by first | omega | (simp; done) | (simp; omega)) (kundrew h)))))) (And.imp (fun h => kdrew (kalloc _ (kalloc _ (kback (by first | omega | (simp; done) | (simp; omega)) (kback (by first | omega | (simp; done) | (simp; omega)) (kundrew h)))))) (And.imp (fun h => kdrew (kalloc _ (kalloc _ (kback (by first | omega | (simp; done) | (simp; omega)) (kback (by first | omega | (simp; done) | (simp; omega)) (kundrew h)))))) ((fun h => kdrew (kalloc _ (kalloc _ (kback (by first | omega | (simp; done) | (simp; omega)) (kback (by first | omega | (simp; done) | (simp; omega)) (kundrew h))))))))))))) (by with_reducible assumption) | (simp; done) | (refine ⟨?_, ?_, ?_, ?_, ?_, ?_, ?_⟩ <;> (refine kdrew ?_; repeat (first | exact kfresh (by first | rfl | (simp; done)) (by rfl) | refine kalloc _ ?_)); done))) (first | (go_at_call 54; refine Calls.mono (implQuad_any _ _ _ _ _ _ _ hp hc (by omega) (by omega) (by omega) (by omega)) ?_; rw [← Hv4.out]; rintro e wq ⟨rfl, hB⟩; (obtain ⟨hBc, hBf⟩ := bcell hB; have hBs := hB.size; (try simp at hBs); (try have hBq1 := Nat.lt_of_succ_le hBs); (try have hBq2 := Nat.lt_of_succ_lt hBq1); (try have hBq3 := Nat.lt_of_succ_lt hBq2); (try have hBzw0 : w.heap.size < wq.heap.size := (by omega)); (try have hBzw1 : w.heap.size + 1 < wq.heap.size := (by omega)); (try have hBzw2 : w.heap.size + 1 + 1 < wq.heap.size := (by omega)); (try have hBzw3 : w.heap.size + 1 + 1 + 1 < wq.heap.size := (by omega)); (try have hBzw4 : w.heap.size + 1 + 1 + 1 + 1 < wq.heap.size := (by omega)); (try have hBzw10 : w1.heap.size < wq.heap.size := (by omega)); (try have hBzw11 : w1.heap.size + 1 < wq.heap.size := (by omega)); (try have hBzw12 : w1.heap.size + 1 + 1 < wq.heap.size := (by omega)); (try have hBzw13 : w1.heap.size + 1 + 1 + 1 < wq.heap.size := (by omega)); (try have hBzw14 : w1.heap.size + 1 + 1 + 1 + 1 < wq.heap.size := (by omega)); (try have hBzg_1 : gS1 < wq.heap.size := (by omega)))) | (go_at_call 46; refine Calls.mono (quotient_any _ _ _ _ hp (by omega) (by omega)) ?_; rw [← Hv5.out]; rintro e wq ⟨rfl, hB⟩; (obtain ⟨hBc, hBf⟩ := bcell hB; have hBs := hB.size; (try simp at hBs); (try have hBq1 := Nat.lt_of_succ_le hBs); (try have hBq2 := Nat.lt_of_succ_lt hBq1); (try have hBq3 := Nat.lt_of_succ_lt hBq2); (try have hBzw0 : w.heap.size < wq.heap.size := (by omega)); (try have hBzw1 : w.heap.size + 1 < wq.heap.size := (by omega)); (try have hBzw2 : w.heap.size + 1 + 1 < wq.heap.size := (by omega)); (try have hBzw3 : w.heap.size + 1 + 1 + 1 < wq.heap.size := (by omega)); (try have hBzw4 : w.heap.size + 1 + 1 + 1 + 1 < wq.heap.size := (by omega)); (try have hBzw10 : w1.heap.size < wq.heap.size := (by omega)); (try have hBzw11 : w1.heap.size + 1 < wq.heap.size := (by omega)); (try have hBzw12 : w1.heap.size + 1 + 1 < wq.heap.size := (by omega)); (try have hBzw13 : w1.heap.size + 1 + 1 + 1 < wq.heap.size := (by omega)); (try have hBzw14 : w1.heap.size + 1 + 1 + 1 + 1 < wq.heap.size := (by omega)); (try have hBzg_1 : gS1 < wq.heap.size := (by omega)))))
                  all_goals
                    go_wp2_with fail
                    go_meet
                    refine ⟨rfl, rfl, by with_reducible assumption, ?_⟩
                    · (repeat (first | with_reducible exact Below.refl _ _ | with_reducible exact hW | with_reducible refine balloc ?_ _ | with_reducible refine bdrewN ?_ _ | with_reducible refine Below.drew ?_ | with_reducible refine bthen ?_ (by with_reducible assumption) | with_reducible refine Below.setCell ?_ (by first | (simp; done) | (simp; omega)) _))
                case' rest => obtain ⟨rfl, rfl, ⟨bA0, bA1, bA2, bA3, bA4, bA5, bA6⟩, hxA⟩ := hcut
                obtain ⟨wA, rfl⟩ : ∃ wA : World, wA = wc := ⟨_, rfl⟩
                have lA_1 : w.heap.size + 1 < wA.heap.size := World.block_lt_of_cell? wA ⟨w.heap.size + 1, 0, none⟩ bA0
                have lA_2 : w.heap.size + 1 + 1 < wA.heap.size := World.block_lt_of_cell? wA ⟨w.heap.size + 1 + 1, 0, none⟩ bA2
                have lA_3 : gS1 < wA.heap.size := World.block_lt_of_cell? wA ⟨gS1, 0, none⟩ bA4
                have HB : srB p col a1 a2 b1 b2 c1 c2 = true := by simp [srB, hd1, hd2, hd3, hd4, hd5, hd6, hd7]
                have HS : srS p col a1 a2 b1 b2 c1 c2 = 0 := by simp [srS, trT, hd1, hd2, hd3, hd4, hd5, hd6, hd7]
                have HV := Lib.hid (show srV1 p col a1 a2 b1 b2 c1 c2 = v5 ∧ srC p col a1 a2 b1 b2 c1 c2 = 0 from by
                  have HG := sr_good (col := col) (a1 := a1) (a2 := a2) (b1 := b1) (b2 := b2) (c1 := c1) (c2 := c2) hp HB HS
                  refine ⟨(HG.1).trans ?_, HG.2⟩
                  all_goals (simp only [← Hv1.out, ← Hv2.out, ← Hv3.out, ← Hv4.out, ← Hv5.out] <;> simp [hd1, hd2, hd3, hd4, hd5, hd6, hd7]))
                clear HB HS
                go_wp2
                (refine bodyPost_ret (v := .tuple #[.int .i64 (srV1 p col a1 a2 b1 b2 c1 c2), .int .i64 (srC p col a1 a2 b1 b2 c1 c2)]) (by simp [results, Try.results23, go_sem, HV.out.1, HV.out.2, *]) rfl ⟨?_, ?_⟩)
                · rfl
                · (repeat (first | with_reducible exact Below.refl _ _ | with_reducible exact hxA | with_reducible refine balloc ?_ _ | with_reducible refine bdrewN ?_ _ | with_reducible refine Below.drew ?_ | with_reducible refine bthen ?_ (by with_reducible assumption) | with_reducible refine Below.setCell ?_ (by first | (simp; done) | (simp; omega)) _))
              · have hd7n : (qdr p col a1 a2 c1 c2 != 0) = false := by rw [bne, hd7]; rfl
                have Hhd7p := Lib.hid (beq_iff_eq.1 hd7)
                have c_1 : trC p col a1 a2 b1 b2 c1 c2 = 5 := by simp [trC, trB, trS, trT, hd1, hd2, hd3, hd4, hd5, hd6, hd7]
                go_wp2_with fail
                refine Calls.mono (implSpreadsOfTriangle_any _ _ _ _ _ _ _ _ _ ) ?_
                rintro e w1 ⟨vS1, nS1, rfl, hoS1, hB1⟩
                (obtain ⟨hB1c, hB1f⟩ := bcell hB1; have hB1s := hB1.size; (try simp at hB1s); (try have hB1q1 := Nat.lt_of_succ_le hB1s); (try have hB1q2 := Nat.lt_of_succ_lt hB1q1); (try have hB1q3 := Nat.lt_of_succ_lt hB1q2); (try have hB1zw0 : w.heap.size < w1.heap.size := (by omega)); (try have hB1zw1 : w.heap.size + 1 < w1.heap.size := (by omega)); (try have hB1zw2 : w.heap.size + 1 + 1 < w1.heap.size := (by omega)); (try have hB1zw3 : w.heap.size + 1 + 1 + 1 < w1.heap.size := (by omega)); (try have hB1zw4 : w.heap.size + 1 + 1 + 1 + 1 < w1.heap.size := (by omega)))
                have HB : srB p col a1 a2 b1 b2 c1 c2 = true := by simp [srB, hd1, hd2, hd3, hd4, hd5, hd6, hd7]
                have HS : srS p col a1 a2 b1 b2 c1 c2 = 5 := by simp [srS, trT, hd1, hd2, hd3, hd4, hd5, hd6, hd7]
                have HV := Lib.hid (sr_st (col := col) (a1 := a1) (a2 := a2) (b1 := b1) (b2 := b2) (c1 := c1) (c2 := c2) hp HB HS (by decide))
                clear HB HS
                go_wp2
                (refine bodyPost_ret (v := .tuple #[.int .i64 (srV1 p col a1 a2 b1 b2 c1 c2), .int .i64 (srC p col a1 a2 b1 b2 c1 c2)]) (by simp [results, Try.results23, go_sem, HV.out.1, HV.out.2, *]) rfl ⟨?_, ?_⟩)
                · rfl
                · (repeat (first | with_reducible exact Below.refl _ _ | with_reducible refine balloc ?_ _ | with_reducible refine bdrewN ?_ _ | with_reducible refine Below.drew ?_ | with_reducible refine bthen ?_ (by with_reducible assumption) | with_reducible refine Below.setCell ?_ (by first | (simp; done) | (simp; omega)) _))
            · have hd6n : (qdr p col b1 b2 c1 c2 != 0) = false := by rw [bne, hd6]; rfl
              have Hhd6p := Lib.hid (beq_iff_eq.1 hd6)
              have c_1 : trC p col a1 a2 b1 b2 c1 c2 = 5 := by simp [trC, trB, trS, trT, hd1, hd2, hd3, hd4, hd5, hd6]
              go_wp2_with fail
              refine Calls.mono (implSpreadsOfTriangle_any _ _ _ _ _ _ _ _ _ ) ?_
              rintro e w1 ⟨vS1, nS1, rfl, hoS1, hB1⟩
              (obtain ⟨hB1c, hB1f⟩ := bcell hB1; have hB1s := hB1.size; (try simp at hB1s); (try have hB1q1 := Nat.lt_of_succ_le hB1s); (try have hB1q2 := Nat.lt_of_succ_lt hB1q1); (try have hB1q3 := Nat.lt_of_succ_lt hB1q2); (try have hB1zw0 : w.heap.size < w1.heap.size := (by omega)); (try have hB1zw1 : w.heap.size + 1 < w1.heap.size := (by omega)); (try have hB1zw2 : w.heap.size + 1 + 1 < w1.heap.size := (by omega)); (try have hB1zw3 : w.heap.size + 1 + 1 + 1 < w1.heap.size := (by omega)); (try have hB1zw4 : w.heap.size + 1 + 1 + 1 + 1 < w1.heap.size := (by omega)))
              have HB : srB p col a1 a2 b1 b2 c1 c2 = true := by simp [srB, hd1, hd2, hd3, hd4, hd5, hd6]
              have HS : srS p col a1 a2 b1 b2 c1 c2 = 5 := by simp [srS, trT, hd1, hd2, hd3, hd4, hd5, hd6]
              have HV := Lib.hid (sr_st (col := col) (a1 := a1) (a2 := a2) (b1 := b1) (b2 := b2) (c1 := c1) (c2 := c2) hp HB HS (by decide))
              clear HB HS
              go_wp2
              (refine bodyPost_ret (v := .tuple #[.int .i64 (srV1 p col a1 a2 b1 b2 c1 c2), .int .i64 (srC p col a1 a2 b1 b2 c1 c2)]) (by simp [results, Try.results23, go_sem, HV.out.1, HV.out.2, *]) rfl ⟨?_, ?_⟩)
              · rfl
              · (repeat (first | with_reducible exact Below.refl _ _ | with_reducible refine balloc ?_ _ | with_reducible refine bdrewN ?_ _ | with_reducible refine Below.drew ?_ | with_reducible refine bthen ?_ (by with_reducible assumption) | with_reducible refine Below.setCell ?_ (by first | (simp; done) | (simp; omega)) _))
          · have hd5n : (qdr p col a1 a2 b1 b2 != 0) = false := by rw [bne, hd5]; rfl
            have Hhd5p := Lib.hid (beq_iff_eq.1 hd5)
            have c_1 : trC p col a1 a2 b1 b2 c1 c2 = 5 := by simp [trC, trB, trS, trT, hd1, hd2, hd3, hd4, hd5]
            go_wp2_with fail
            refine Calls.mono (implSpreadsOfTriangle_any _ _ _ _ _ _ _ _ _ ) ?_
            rintro e w1 ⟨vS1, nS1, rfl, hoS1, hB1⟩
            (obtain ⟨hB1c, hB1f⟩ := bcell hB1; have hB1s := hB1.size; (try simp at hB1s); (try have hB1q1 := Nat.lt_of_succ_le hB1s); (try have hB1q2 := Nat.lt_of_succ_lt hB1q1); (try have hB1q3 := Nat.lt_of_succ_lt hB1q2); (try have hB1zw0 : w.heap.size < w1.heap.size := (by omega)); (try have hB1zw1 : w.heap.size + 1 < w1.heap.size := (by omega)); (try have hB1zw2 : w.heap.size + 1 + 1 < w1.heap.size := (by omega)); (try have hB1zw3 : w.heap.size + 1 + 1 + 1 < w1.heap.size := (by omega)); (try have hB1zw4 : w.heap.size + 1 + 1 + 1 + 1 < w1.heap.size := (by omega)))
            have HB : srB p col a1 a2 b1 b2 c1 c2 = true := by simp [srB, hd1, hd2, hd3, hd4, hd5]
            have HS : srS p col a1 a2 b1 b2 c1 c2 = 5 := by simp [srS, trT, hd1, hd2, hd3, hd4, hd5]
            have HV := Lib.hid (sr_st (col := col) (a1 := a1) (a2 := a2) (b1 := b1) (b2 := b2) (c1 := c1) (c2 := c2) hp HB HS (by decide))
            clear HB HS
            go_wp2
            (refine bodyPost_ret (v := .tuple #[.int .i64 (srV1 p col a1 a2 b1 b2 c1 c2), .int .i64 (srC p col a1 a2 b1 b2 c1 c2)]) (by simp [results, Try.results23, go_sem, HV.out.1, HV.out.2, *]) rfl ⟨?_, ?_⟩)
            · rfl
            · (repeat (first | with_reducible exact Below.refl _ _ | with_reducible refine balloc ?_ _ | with_reducible refine bdrewN ?_ _ | with_reducible refine Below.drew ?_ | with_reducible refine bthen ?_ (by with_reducible assumption) | with_reducible refine Below.setCell ?_ (by first | (simp; done) | (simp; omega)) _))
        · have hd4n : (area p a1 a2 b1 b2 c1 c2 != 0) = false := by rw [bne, hd4]; rfl
          have Hhd4p := Lib.hid (beq_iff_eq.1 hd4)
          have c_1 : trC p col a1 a2 b1 b2 c1 c2 = 5 := by simp [trC, trB, trS, trT, hd1, hd2, hd3, hd4]
          go_wp2_with fail
          refine Calls.mono (implSpreadsOfTriangle_any _ _ _ _ _ _ _ _ _ ) ?_
          rintro e w1 ⟨vS1, nS1, rfl, hoS1, hB1⟩
          (obtain ⟨hB1c, hB1f⟩ := bcell hB1; have hB1s := hB1.size; (try simp at hB1s); (try have hB1q1 := Nat.lt_of_succ_le hB1s); (try have hB1q2 := Nat.lt_of_succ_lt hB1q1); (try have hB1q3 := Nat.lt_of_succ_lt hB1q2); (try have hB1zw0 : w.heap.size < w1.heap.size := (by omega)); (try have hB1zw1 : w.heap.size + 1 < w1.heap.size := (by omega)); (try have hB1zw2 : w.heap.size + 1 + 1 < w1.heap.size := (by omega)); (try have hB1zw3 : w.heap.size + 1 + 1 + 1 < w1.heap.size := (by omega)); (try have hB1zw4 : w.heap.size + 1 + 1 + 1 + 1 < w1.heap.size := (by omega)))
          have HB : srB p col a1 a2 b1 b2 c1 c2 = true := by simp [srB, hd1, hd2, hd3, hd4]
          have HS : srS p col a1 a2 b1 b2 c1 c2 = 5 := by simp [srS, trT, hd1, hd2, hd3, hd4]
          have HV := Lib.hid (sr_st (col := col) (a1 := a1) (a2 := a2) (b1 := b1) (b2 := b2) (c1 := c1) (c2 := c2) hp HB HS (by decide))
          clear HB HS
          go_wp2
          (refine bodyPost_ret (v := .tuple #[.int .i64 (srV1 p col a1 a2 b1 b2 c1 c2), .int .i64 (srC p col a1 a2 b1 b2 c1 c2)]) (by simp [results, Try.results23, go_sem, HV.out.1, HV.out.2, *]) rfl ⟨?_, ?_⟩)
          · rfl
          · (repeat (first | with_reducible exact Below.refl _ _ | with_reducible refine balloc ?_ _ | with_reducible refine bdrewN ?_ _ | with_reducible refine Below.drew ?_ | with_reducible refine bthen ?_ (by with_reducible assumption) | with_reducible refine Below.setCell ?_ (by first | (simp; done) | (simp; omega)) _))

end Go.Proofs.Ytklfgelmieecmaa
