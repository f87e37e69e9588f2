/-
  KindOfMove: the program's and the model's.
-/
import Derived.Test.YthfckpfiechloaaSpecFixed
import Derived.Test.YthfckpfiechloaaImplFixed
import Derived.Test.YthfckpfiechloaaArrEq
import Derived.Laws.StructEq
import Derived.Test.YthfckpfiechloaaImplShift
import Derived.Test.YthfckpfiechloaaSpecSign
import Derived.Test.YthfckpfiechloaaImplSign
import Derived.Test.YthfckpfiechloaaSpecMoveCode
import Derived.Test.YthfckpfiechloaaImplMoveCode
import Derived.Test.YthfckpfiechloaaSlice
import Derived.Test.YthfckpfiechloaaFlatAt
import Derived.Deep.RegionHeld3
import Derived.Deep.DeepCutAuto
import Derived.Test.YthfckpfiechloaaBaseMath
import Derived.Test.YthfckpfiechloaaLast
import Derived.Test.YthfckpfiechloaaKeepDrew
namespace Go.Proofs.Ythfckpfiechloaa
open Go.RowKit

theorem equal_arr4d {P : Program} (k : Nat) (w : World) {t e : TypeId} {i : TypeInfo} (hu : P.underlying t = some (.array 4 e)) (he : P.underlying e = some (.int .i64)) (hi : P.info? e = some i) (hc : P.cellsOf e = 1) (a b c d a' b' c' d' : Int) :
    (Op.equalIn (k + 1 + 1) t (.agg #[.int .i64 a, .int .i64 b, .int .i64 c, .int .i64 d]) (.agg #[.int .i64 a', .int .i64 b', .int .i64 c', .int .i64 d'])).run P w = .ok (a == a' && b == b' && c == c' && d == d') w := by
  rw [run_equalIn_array w _ _ _ hu hi]
  have r4 : List.range 4 = [0, 1, 2, 3] := rfl
  simp [r4, Op.eqItems, hc, part, go_sem, he, run_isAgg_int _ he]
  by_cases h1 : a = a' <;> by_cases h2 : b = b' <;> by_cases h3 : c = c' <;> by_cases h4 : d = d' <;> simp [h1, h2, h3, h4]
theorem equal_arr2e {P : Program} (k : Nat) (w : World) {t e : TypeId} {i : TypeInfo} (hu : P.underlying t = some (.array 2 e)) (he : P.underlying e = some (.int .i64)) (hi : P.info? e = some i) (hc : P.cellsOf e = 1) (a b c d : Int) :
    (Op.equalIn (k + 1 + 1) t (.agg #[.int .i64 a, .int .i64 b]) (.agg #[.int .i64 c, .int .i64 d])).run P w = .ok (a == c && b == d) w := by
  rw [run_equalIn_array w _ _ _ hu hi]
  have r2 : List.range 2 = [0, 1] := rfl
  simp [r2, Op.eqItems, hc, part, go_sem, he, run_isAgg_int _ he]
  by_cases h1 : a = c <;> by_cases h2 : b = d <;> simp [h1, h2]
theorem equalA4 (w : World) (a b c d a' b' c' d' : Int) : (Op.equalIn 10000 22 (.agg #[.int .i64 a, .int .i64 b, .int .i64 c, .int .i64 d]) (.agg #[.int .i64 a', .int .i64 b', .int .i64 c', .int .i64 d'])).run Try.prog w = .ok (a == a' && b == b' && c == c' && d == d') w := by
  obtain ⟨i, hi, _⟩ := Option.map_eq_some_iff.1 infoInt
  exact equal_arr4d 9998 w (by kernel_rfl) Try.underlying2 hi (by kernel_rfl) a b c d a' b' c' d'
theorem equalMove (w : World) (a b c d e f a' b' c' d' e' f' : Int) : (Op.equalIn 10000 30 (.agg #[.int .i64 a, .int .i64 b, .int .i64 c, .int .i64 d, .int .i64 e, .int .i64 f]) (.agg #[.int .i64 a', .int .i64 b', .int .i64 c', .int .i64 d', .int .i64 e', .int .i64 f'])).run Try.prog w = .ok (a == a' && b == b' && c == c' && d == d' && e == e' && f == f') w := by
  have ht : Try.prog.underlying 30 = some (.struct (Try.prog.fieldsOf 30)) := by kernel_rfl
  have g4 : ∀ w', (isAgg 22).run Try.prog w' = .ok true w' := fun w' => by simp [isAgg, run_underlying (by kernel_rfl : Try.prog.underlying 22 = some (.array 4 2))]
  have g2 : ∀ w', (isAgg 28).run Try.prog w' = .ok true w' := fun w' => by simp [isAgg, run_underlying (by kernel_rfl : Try.prog.underlying 28 = some (.array 2 2))]
  obtain ⟨i, hi, _⟩ := Option.map_eq_some_iff.1 infoInt
  rw [run_equalIn_struct w 9999 _ _ _ ht (by kernel_rfl)]
  have h4 := equal_arr4d (P := Try.prog) 9997 w (by kernel_rfl : Try.prog.underlying 22 = some (.array 4 2)) Try.underlying2 hi (by kernel_rfl) a b c d a' b' c' d'
  have h2 := equal_arr2e (P := Try.prog) 9997 w (by kernel_rfl : Try.prog.underlying 28 = some (.array 2 2)) Try.underlying2 hi (by kernel_rfl) e f e' f'
  simp only [Nat.reduceAdd] at h4 h2
  simp [Program.fieldsOf, Try.underlying30, Op.eqFields, part, g4, g2, h4, h2, go_sem]
  by_cases e1 : a = a' <;> by_cases e2 : b = b' <;> by_cases e3 : c = c' <;> by_cases e4 : d = d' <;> by_cases e5 : e = e' <;> by_cases e6 : f = f' <;> simp [e1, e2, e3, e4, e5, e6]

set_option linter.unusedVariables false in
set_option linter.unusedSimpArgs false in
set_option maxRecDepth 20000 in
set_option maxHeartbeats 4000000 in
theorem identity_any  (w : World) :
    Calls Try.prog 86 #[] w fun e w' =>
      e = .returned (.agg #[.int .i64 (1), .int .i64 (0), .int .i64 (0), .int .i64 (1), .int .i64 (0), .int .i64 (0)]) ∧ Below w.heap.size w w' := by
  go_enter Try.func86, Try.ntmps86
  go_wp2_with fail
  refine Calls.mono (shiftBy_any _ _ _ ) ?_
  rintro e w1 ⟨rfl, hB1⟩
  (obtain ⟨hB1c, hB1f⟩ := bcell hB1; have hB1s := hB1.size; (try simp at hB1s); (try have hB1q1 := Nat.lt_of_succ_le hB1s); (try have hB1q2 := Nat.lt_of_succ_lt hB1q1); (try have hB1q3 := Nat.lt_of_succ_lt hB1q2); (try have hB1zw0 : w.heap.size < w1.heap.size := (by omega)); (try have hB1zw1 : w.heap.size + 1 < w1.heap.size := (by omega)); (try have hB1zw2 : w.heap.size + 1 + 1 < w1.heap.size := (by omega)); (try have hB1zw3 : w.heap.size + 1 + 1 + 1 < w1.heap.size := (by omega)); (try have hB1zw4 : w.heap.size + 1 + 1 + 1 + 1 < w1.heap.size := (by omega)))
  go_wp2
  (refine bodyPost_ret (v := .agg #[.int .i64 (1), .int .i64 (0), .int .i64 (0), .int .i64 (1), .int .i64 (0), .int .i64 (0)]) (by simp [results, Try.results86, go_sem, *]) rfl ⟨?_, ?_⟩)
  · rfl
  · (repeat (first | with_reducible exact Below.refl _ _ | with_reducible refine balloc ?_ _ | with_reducible refine bdrewN ?_ _ | with_reducible refine Below.drew ?_ | with_reducible refine bthen ?_ (by with_reducible assumption) | with_reducible refine Below.setCell ?_ (by first | (simp; done) | (simp; omega)) _))

def kdK (p m1 m2 m3 m4 m5 m6 : Int) : Int := if (m1 == 1 && m2 == 0 && m3 == 0 && m4 == 1) = true then (if (m5 == 0 && m6 == 0) = true then 0 else 1) else if (sgn p m1 m2 m3 m4 == 1) = true then 2 else if 0 < (fxL p m1 m2 m3 m4 m5 m6).length then 3 else 4
set_option linter.unusedVariables false in
def kdB (p col m1 m2 m3 m4 m5 m6 : Int) : Bool := colB col && numsIn p [m1, m2, m3, m4, m5, m6]
set_option linter.unusedVariables false in
def kdS (p col m1 m2 m3 m4 m5 m6 : Int) : Int := if mvB p col m1 m2 m3 m4 = true then 0 else 5
set_option linter.unusedVariables false in
def kdC (p col m1 m2 m3 m4 m5 m6 : Int) : Int := if isP p = true then (if kdB p col m1 m2 m3 m4 m5 m6 = true then kdS p col m1 m2 m3 m4 m5 m6 else 2) else 1
set_option linter.unusedVariables false in
def kdV1 (p col m1 m2 m3 m4 m5 m6 : Int) : Int := if kdC p col m1 m2 m3 m4 m5 m6 = 0 then kdK p m1 m2 m3 m4 m5 m6 else 0
theorem kd_zero {p col m1 m2 m3 m4 m5 m6 k : Int} (h : kdC p col m1 m2 m3 m4 m5 m6 = k) (hk : k ≠ 0) : kdV1 p col m1 m2 m3 m4 m5 m6 = 0 ∧ kdC p col m1 m2 m3 m4 m5 m6 = k := by
  have hn : ¬ (kdC p col m1 m2 m3 m4 m5 m6 = 0) := fun e => hk (h.symm.trans e)
  exact ⟨if_neg hn, h⟩
theorem kd_no {p col m1 m2 m3 m4 m5 m6 : Int} (h : isP p = false) : kdV1 p col m1 m2 m3 m4 m5 m6 = 0 ∧ kdC p col m1 m2 m3 m4 m5 m6 = 1 := kd_zero (by simp [kdC, h]) (by decide)
theorem kd_out {p col m1 m2 m3 m4 m5 m6 : Int} (hp : isP p = true) (h : kdB p col m1 m2 m3 m4 m5 m6 = false) : kdV1 p col m1 m2 m3 m4 m5 m6 = 0 ∧ kdC p col m1 m2 m3 m4 m5 m6 = 2 := kd_zero (by simp [kdC, hp, h]) (by decide)
theorem kd_st {p col m1 m2 m3 m4 m5 m6 k : Int} (hp : isP p = true) (h : kdB p col m1 m2 m3 m4 m5 m6 = true) (hs : kdS p col m1 m2 m3 m4 m5 m6 = k) (hk : k ≠ 0) : kdV1 p col m1 m2 m3 m4 m5 m6 = 0 ∧ kdC p col m1 m2 m3 m4 m5 m6 = k := kd_zero (by simp [kdC, hp, h, hs]) hk
theorem kd_good {p col m1 m2 m3 m4 m5 m6 : Int} (hp : isP p = true) (h : kdB p col m1 m2 m3 m4 m5 m6 = true) (hs : kdS p col m1 m2 m3 m4 m5 m6 = 0) : kdV1 p col m1 m2 m3 m4 m5 m6 = kdK p m1 m2 m3 m4 m5 m6 ∧ kdC p col m1 m2 m3 m4 m5 m6 = 0 := by
  have h' : kdC p col m1 m2 m3 m4 m5 m6 = 0 := by simp [kdC, hp, h, hs]
  exact ⟨if_pos h', h'⟩

set_option linter.unusedVariables false in
set_option linter.unusedSimpArgs false in
set_option maxRecDepth 20000 in
set_option maxHeartbeats 4000000 in
theorem specKindOfMove_any (p col m1 m2 m3 m4 m5 m6 : Int)  (w : World) :
    Calls Try.prog 40 #[.int .i64 p, .int .i64 col, .agg #[.int .i64 m1, .int .i64 m2, .int .i64 m3, .int .i64 m4, .int .i64 m5, .int .i64 m6]] w fun e w' =>
      e = .returned (.tuple #[.int .i64 (kdV1 p col m1 m2 m3 m4 m5 m6), .int .i64 (kdC p col m1 m2 m3 m4 m5 m6)]) ∧ Below w.heap.size w w' := by
  have heq := equalPoint
  have heq4 := equalA4
  have heqM := equalMove
  go_enter Try.func40, Try.ntmps40
  go_upto_region 0 with fail
  go_cut [5, 6, 7] (fun s5 s6 s7 wx => s5 = .pointer (some ⟨w.heap.size, 0, none⟩) ∧ s6 = .int .i64 0 ∧ s7 = .int .i64 0 ∧ wx.cell? ⟨w.heap.size, 0, none⟩ = some (.int .i64 m1) ∧ wx.cell? ⟨w.heap.size, 1, none⟩ = some (.int .i64 m2) ∧ wx.cell? ⟨w.heap.size, 2, none⟩ = some (.int .i64 m3) ∧ wx.cell? ⟨w.heap.size, 3, none⟩ = some (.int .i64 m4) ∧ wx.cell? ⟨w.heap.size, 4, none⟩ = some (.int .i64 m5) ∧ wx.cell? ⟨w.heap.size, 5, none⟩ = some (.int .i64 m6) ∧ wx.frozen? ⟨w.heap.size, 0, none⟩ = false ∧ wx.frozen? ⟨w.heap.size, 1, none⟩ = false ∧ wx.frozen? ⟨w.heap.size, 2, none⟩ = false ∧ wx.frozen? ⟨w.heap.size, 3, none⟩ = false ∧ wx.frozen? ⟨w.heap.size, 4, none⟩ = false ∧ wx.frozen? ⟨w.heap.size, 5, none⟩ = false ∧ Below w.heap.size w wx ∧ w.heap.size + 1 ≤ wx.heap.size)
  case first =>
    go_wp2
    go_meet
    refine ⟨rfl, rfl, rfl, ?_, ?_, ?_, ?_, ?_, ?_, ?_, ?_, ?_, ?_, ?_, ?_, ?_, ?_⟩
    · (repeat (first | with_reducible assumption | ((with_reducible refine kfresh ?_ ?_) <;> (first | with_reducible rfl | (simp; done))) | ((with_reducible refine ksameS ?_); focus ((repeat (first | with_reducible exact kis_of (by with_reducible assumption) | with_reducible refine kis_set ?_ | ((with_reducible refine kis_new ?_ ?_) <;> (first | with_reducible rfl | rfl | (simp; done))) | with_reducible refine kis_alloc _ ?_ | with_reducible refine kis_drew ?_ | with_reducible refine kis_call (by with_reducible assumption) ?_ | with_reducible exact kis_of (kcall (by with_reducible assumption) (by with_reducible assumption)))); done)) | with_reducible refine kother (by decide) ?_ | with_reducible refine kset (by first | omega | (simp; done) | (simp; omega)) ?_ | with_reducible refine kalloc _ ?_ | with_reducible refine kdrew ?_ | with_reducible refine kcall (by with_reducible assumption) ?_))
    · (repeat (first | with_reducible assumption | ((with_reducible refine kfresh ?_ ?_) <;> (first | with_reducible rfl | (simp; done))) | ((with_reducible refine ksameS ?_); focus ((repeat (first | with_reducible exact kis_of (by with_reducible assumption) | with_reducible refine kis_set ?_ | ((with_reducible refine kis_new ?_ ?_) <;> (first | with_reducible rfl | rfl | (simp; done))) | with_reducible refine kis_alloc _ ?_ | with_reducible refine kis_drew ?_ | with_reducible refine kis_call (by with_reducible assumption) ?_ | with_reducible exact kis_of (kcall (by with_reducible assumption) (by with_reducible assumption)))); done)) | with_reducible refine kother (by decide) ?_ | with_reducible refine kset (by first | omega | (simp; done) | (simp; omega)) ?_ | with_reducible refine kalloc _ ?_ | with_reducible refine kdrew ?_ | with_reducible refine kcall (by with_reducible assumption) ?_))
    · (repeat (first | with_reducible assumption | ((with_reducible refine kfresh ?_ ?_) <;> (first | with_reducible rfl | (simp; done))) | ((with_reducible refine ksameS ?_); focus ((repeat (first | with_reducible exact kis_of (by with_reducible assumption) | with_reducible refine kis_set ?_ | ((with_reducible refine kis_new ?_ ?_) <;> (first | with_reducible rfl | rfl | (simp; done))) | with_reducible refine kis_alloc _ ?_ | with_reducible refine kis_drew ?_ | with_reducible refine kis_call (by with_reducible assumption) ?_ | with_reducible exact kis_of (kcall (by with_reducible assumption) (by with_reducible assumption)))); done)) | with_reducible refine kother (by decide) ?_ | with_reducible refine kset (by first | omega | (simp; done) | (simp; omega)) ?_ | with_reducible refine kalloc _ ?_ | with_reducible refine kdrew ?_ | with_reducible refine kcall (by with_reducible assumption) ?_))
    · (repeat (first | with_reducible assumption | ((with_reducible refine kfresh ?_ ?_) <;> (first | with_reducible rfl | (simp; done))) | ((with_reducible refine ksameS ?_); focus ((repeat (first | with_reducible exact kis_of (by with_reducible assumption) | with_reducible refine kis_set ?_ | ((with_reducible refine kis_new ?_ ?_) <;> (first | with_reducible rfl | rfl | (simp; done))) | with_reducible refine kis_alloc _ ?_ | with_reducible refine kis_drew ?_ | with_reducible refine kis_call (by with_reducible assumption) ?_ | with_reducible exact kis_of (kcall (by with_reducible assumption) (by with_reducible assumption)))); done)) | with_reducible refine kother (by decide) ?_ | with_reducible refine kset (by first | omega | (simp; done) | (simp; omega)) ?_ | with_reducible refine kalloc _ ?_ | with_reducible refine kdrew ?_ | with_reducible refine kcall (by with_reducible assumption) ?_))
    · (repeat (first | with_reducible assumption | ((with_reducible refine kfresh ?_ ?_) <;> (first | with_reducible rfl | (simp; done))) | ((with_reducible refine ksameS ?_); focus ((repeat (first | with_reducible exact kis_of (by with_reducible assumption) | with_reducible refine kis_set ?_ | ((with_reducible refine kis_new ?_ ?_) <;> (first | with_reducible rfl | rfl | (simp; done))) | with_reducible refine kis_alloc _ ?_ | with_reducible refine kis_drew ?_ | with_reducible refine kis_call (by with_reducible assumption) ?_ | with_reducible exact kis_of (kcall (by with_reducible assumption) (by with_reducible assumption)))); done)) | with_reducible refine kother (by decide) ?_ | with_reducible refine kset (by first | omega | (simp; done) | (simp; omega)) ?_ | with_reducible refine kalloc _ ?_ | with_reducible refine kdrew ?_ | with_reducible refine kcall (by with_reducible assumption) ?_))
    · (repeat (first | with_reducible assumption | ((with_reducible refine kfresh ?_ ?_) <;> (first | with_reducible rfl | (simp; done))) | ((with_reducible refine ksameS ?_); focus ((repeat (first | with_reducible exact kis_of (by with_reducible assumption) | with_reducible refine kis_set ?_ | ((with_reducible refine kis_new ?_ ?_) <;> (first | with_reducible rfl | rfl | (simp; done))) | with_reducible refine kis_alloc _ ?_ | with_reducible refine kis_drew ?_ | with_reducible refine kis_call (by with_reducible assumption) ?_ | with_reducible exact kis_of (kcall (by with_reducible assumption) (by with_reducible assumption)))); done)) | with_reducible refine kother (by decide) ?_ | with_reducible refine kset (by first | omega | (simp; done) | (simp; omega)) ?_ | with_reducible refine kalloc _ ?_ | with_reducible refine kdrew ?_ | with_reducible refine kcall (by with_reducible assumption) ?_))
    · (repeat (first | with_reducible assumption | with_reducible refine fdrew ?_ | with_reducible refine fset ?_ | ((with_reducible refine fallocNew ?_) <;> (first | with_reducible rfl | (simp; done))) | ((with_reducible refine kfro (by with_reducible assumption) ?_ ?_); focus (first | with_reducible assumption | (simp; done) | (simp; omega))) | ((with_reducible refine falloc ?_ ?_); focus (first | with_reducible assumption | (simp; done) | (simp; omega)))))
    · (repeat (first | with_reducible assumption | with_reducible refine fdrew ?_ | with_reducible refine fset ?_ | ((with_reducible refine fallocNew ?_) <;> (first | with_reducible rfl | (simp; done))) | ((with_reducible refine kfro (by with_reducible assumption) ?_ ?_); focus (first | with_reducible assumption | (simp; done) | (simp; omega))) | ((with_reducible refine falloc ?_ ?_); focus (first | with_reducible assumption | (simp; done) | (simp; omega)))))
    · (repeat (first | with_reducible assumption | with_reducible refine fdrew ?_ | with_reducible refine fset ?_ | ((with_reducible refine fallocNew ?_) <;> (first | with_reducible rfl | (simp; done))) | ((with_reducible refine kfro (by with_reducible assumption) ?_ ?_); focus (first | with_reducible assumption | (simp; done) | (simp; omega))) | ((with_reducible refine falloc ?_ ?_); focus (first | with_reducible assumption | (simp; done) | (simp; omega)))))
    · (repeat (first | with_reducible assumption | with_reducible refine fdrew ?_ | with_reducible refine fset ?_ | ((with_reducible refine fallocNew ?_) <;> (first | with_reducible rfl | (simp; done))) | ((with_reducible refine kfro (by with_reducible assumption) ?_ ?_); focus (first | with_reducible assumption | (simp; done) | (simp; omega))) | ((with_reducible refine falloc ?_ ?_); focus (first | with_reducible assumption | (simp; done) | (simp; omega)))))
    · (repeat (first | with_reducible assumption | with_reducible refine fdrew ?_ | with_reducible refine fset ?_ | ((with_reducible refine fallocNew ?_) <;> (first | with_reducible rfl | (simp; done))) | ((with_reducible refine kfro (by with_reducible assumption) ?_ ?_); focus (first | with_reducible assumption | (simp; done) | (simp; omega))) | ((with_reducible refine falloc ?_ ?_); focus (first | with_reducible assumption | (simp; done) | (simp; omega)))))
    · (repeat (first | with_reducible assumption | with_reducible refine fdrew ?_ | with_reducible refine fset ?_ | ((with_reducible refine fallocNew ?_) <;> (first | with_reducible rfl | (simp; done))) | ((with_reducible refine kfro (by with_reducible assumption) ?_ ?_); focus (first | with_reducible assumption | (simp; done) | (simp; omega))) | ((with_reducible refine falloc ?_ ?_); focus (first | with_reducible assumption | (simp; done) | (simp; omega)))))
    · (repeat (first | with_reducible exact Below.refl _ _ | with_reducible refine balloc ?_ _ | with_reducible refine bdrewN ?_ _ | with_reducible refine Below.drew ?_ | with_reducible refine bthen ?_ (by with_reducible assumption) | with_reducible refine Below.setCell ?_ (by first | (simp; done) | (simp; omega)) _))
    · (first | omega | (simp; done) | (simp; omega))
  case' rest => obtain ⟨rfl, rfl, rfl, cO0, cO1, cO2, cO3, cO4, cO5, fO0, fO1, fO2, fO3, fO4, fO5, hxO, hsO⟩ := hcut
  obtain ⟨wO, rfl⟩ : ∃ wO : World, wO = wc := ⟨_, rfl⟩
  have lO0 : w.heap.size < wO.heap.size := by omega
  rcases bool_ways (isP p) with hd1 | hd1
  · skip
    have c_1 : mvCb true p col m1 m2 m3 m4 m5 m6 = 1 := by simp [mvCb, hd1]
    go_wp2_with fail
    refine Calls.mono (specMoveCode_any _ _ _ _ _ _ _ _ _) ?_
    rintro e w1 ⟨rfl, hB1⟩
    (obtain ⟨hB1c, hB1f⟩ := bcell hB1; have hB1s := hB1.size; (try simp at hB1s); (try have hB1q1 := Nat.lt_of_succ_le hB1s); (try have hB1q2 := Nat.lt_of_succ_lt hB1q1); (try have hB1q3 := Nat.lt_of_succ_lt hB1q2); (try have hB1zw0 : w.heap.size < w1.heap.size := (by omega)); (try have hB1zw1 : w.heap.size + 1 < w1.heap.size := (by omega)); (try have hB1zw2 : w.heap.size + 1 + 1 < w1.heap.size := (by omega)); (try have hB1zw3 : w.heap.size + 1 + 1 + 1 < w1.heap.size := (by omega)); (try have hB1zw4 : w.heap.size + 1 + 1 + 1 + 1 < w1.heap.size := (by omega)); (try have hB1zwO0 : wO.heap.size < w1.heap.size := (by omega)); (try have hB1zwO1 : wO.heap.size + 1 < w1.heap.size := (by omega)); (try have hB1zwO2 : wO.heap.size + 1 + 1 < w1.heap.size := (by omega)); (try have hB1zwO3 : wO.heap.size + 1 + 1 + 1 < w1.heap.size := (by omega)); (try have hB1zwO4 : wO.heap.size + 1 + 1 + 1 + 1 < w1.heap.size := (by omega)))
    have HV := Lib.hid (kd_no (col := col) (m1 := m1) (m2 := m2) (m3 := m3) (m4 := m4) (m5 := m5) (m6 := m6) hd1)
    go_wp2
    (refine bodyPost_ret (v := .tuple #[.int .i64 (kdV1 p col m1 m2 m3 m4 m5 m6), .int .i64 (kdC p col m1 m2 m3 m4 m5 m6)]) (by simp [results, Try.results40, go_sem, HV.out.1, HV.out.2, *]) rfl ⟨?_, ?_⟩)
    · rfl
    · (repeat (first | with_reducible exact Below.refl _ _ | with_reducible exact hxO | with_reducible refine balloc ?_ _ | with_reducible refine bdrewN ?_ _ | with_reducible refine Below.drew ?_ | with_reducible refine bthen ?_ (by with_reducible assumption) | with_reducible refine Below.setCell ?_ (by first | (simp; done) | (simp; omega)) _))
  · have hp := hd1
    have hr := isP_range hp
    rcases bool_ways (numsIn p [m1, m2, m3, m4, m5, m6]) with hd2 | hd2
    · skip
      have c_1 : mvCb true p col m1 m2 m3 m4 m5 m6 = 2 := by simp [mvCb, hd1, hd2]
      go_wp2_with fail
      refine Calls.mono (specMoveCode_any _ _ _ _ _ _ _ _ _) ?_
      rintro e w1 ⟨rfl, hB1⟩
      (obtain ⟨hB1c, hB1f⟩ := bcell hB1; have hB1s := hB1.size; (try simp at hB1s); (try have hB1q1 := Nat.lt_of_succ_le hB1s); (try have hB1q2 := Nat.lt_of_succ_lt hB1q1); (try have hB1q3 := Nat.lt_of_succ_lt hB1q2); (try have hB1zw0 : w.heap.size < w1.heap.size := (by omega)); (try have hB1zw1 : w.heap.size + 1 < w1.heap.size := (by omega)); (try have hB1zw2 : w.heap.size + 1 + 1 < w1.heap.size := (by omega)); (try have hB1zw3 : w.heap.size + 1 + 1 + 1 < w1.heap.size := (by omega)); (try have hB1zw4 : w.heap.size + 1 + 1 + 1 + 1 < w1.heap.size := (by omega)); (try have hB1zwO0 : wO.heap.size < w1.heap.size := (by omega)); (try have hB1zwO1 : wO.heap.size + 1 < w1.heap.size := (by omega)); (try have hB1zwO2 : wO.heap.size + 1 + 1 < w1.heap.size := (by omega)); (try have hB1zwO3 : wO.heap.size + 1 + 1 + 1 < w1.heap.size := (by omega)); (try have hB1zwO4 : wO.heap.size + 1 + 1 + 1 + 1 < w1.heap.size := (by omega)))
      have HV := Lib.hid (kd_out (col := col) (m1 := m1) (m2 := m2) (m3 := m3) (m4 := m4) (m5 := m5) (m6 := m6) hp (by simp [kdB, hd1, hd2]))
      go_wp2
      (refine bodyPost_ret (v := .tuple #[.int .i64 (kdV1 p col m1 m2 m3 m4 m5 m6), .int .i64 (kdC p col m1 m2 m3 m4 m5 m6)]) (by simp [results, Try.results40, go_sem, HV.out.1, HV.out.2, *]) rfl ⟨?_, ?_⟩)
      · rfl
      · (repeat (first | with_reducible exact Below.refl _ _ | with_reducible exact hxO | with_reducible refine balloc ?_ _ | with_reducible refine bdrewN ?_ _ | with_reducible refine Below.drew ?_ | with_reducible refine bthen ?_ (by with_reducible assumption) | with_reducible refine Below.setCell ?_ (by first | (simp; done) | (simp; omega)) _))
    · have hd2q := nums6 hd2
      rcases bool_ways (colB col) with hd3 | hd3
      · skip
        have c_1 : mvCb true p col m1 m2 m3 m4 m5 m6 = 2 := by simp [mvCb, hd1, hd2, hd3]
        go_wp2_with fail
        refine Calls.mono (specMoveCode_any _ _ _ _ _ _ _ _ _) ?_
        rintro e w1 ⟨rfl, hB1⟩
        (obtain ⟨hB1c, hB1f⟩ := bcell hB1; have hB1s := hB1.size; (try simp at hB1s); (try have hB1q1 := Nat.lt_of_succ_le hB1s); (try have hB1q2 := Nat.lt_of_succ_lt hB1q1); (try have hB1q3 := Nat.lt_of_succ_lt hB1q2); (try have hB1zw0 : w.heap.size < w1.heap.size := (by omega)); (try have hB1zw1 : w.heap.size + 1 < w1.heap.size := (by omega)); (try have hB1zw2 : w.heap.size + 1 + 1 < w1.heap.size := (by omega)); (try have hB1zw3 : w.heap.size + 1 + 1 + 1 < w1.heap.size := (by omega)); (try have hB1zw4 : w.heap.size + 1 + 1 + 1 + 1 < w1.heap.size := (by omega)); (try have hB1zwO0 : wO.heap.size < w1.heap.size := (by omega)); (try have hB1zwO1 : wO.heap.size + 1 < w1.heap.size := (by omega)); (try have hB1zwO2 : wO.heap.size + 1 + 1 < w1.heap.size := (by omega)); (try have hB1zwO3 : wO.heap.size + 1 + 1 + 1 < w1.heap.size := (by omega)); (try have hB1zwO4 : wO.heap.size + 1 + 1 + 1 + 1 < w1.heap.size := (by omega)))
        have HV := Lib.hid (kd_out (col := col) (m1 := m1) (m2 := m2) (m3 := m3) (m4 := m4) (m5 := m5) (m6 := m6) hp (by simp [kdB, hd1, hd2, hd3]))
        go_wp2
        (refine bodyPost_ret (v := .tuple #[.int .i64 (kdV1 p col m1 m2 m3 m4 m5 m6), .int .i64 (kdC p col m1 m2 m3 m4 m5 m6)]) (by simp [results, Try.results40, go_sem, HV.out.1, HV.out.2, *]) rfl ⟨?_, ?_⟩)
        · rfl
        · (repeat (first | with_reducible exact Below.refl _ _ | with_reducible exact hxO | with_reducible refine balloc ?_ _ | with_reducible refine bdrewN ?_ _ | with_reducible refine Below.drew ?_ | with_reducible refine bthen ?_ (by with_reducible assumption) | with_reducible refine Below.setCell ?_ (by first | (simp; done) | (simp; omega)) _))
      · have hc := hd3
        have hcr := colB_range hc
        rcases bool_ways (mvB p col m1 m2 m3 m4) with hd4 | hd4
        · skip
          have c_1 : mvCb true p col m1 m2 m3 m4 m5 m6 = 5 := by simp [mvCb, hd1, hd2, hd3, hd4]
          go_wp2_with fail
          refine Calls.mono (specMoveCode_any _ _ _ _ _ _ _ _ _) ?_
          rintro e w1 ⟨rfl, hB1⟩
          (obtain ⟨hB1c, hB1f⟩ := bcell hB1; have hB1s := hB1.size; (try simp at hB1s); (try have hB1q1 := Nat.lt_of_succ_le hB1s); (try have hB1q2 := Nat.lt_of_succ_lt hB1q1); (try have hB1q3 := Nat.lt_of_succ_lt hB1q2); (try have hB1zw0 : w.heap.size < w1.heap.size := (by omega)); (try have hB1zw1 : w.heap.size + 1 < w1.heap.size := (by omega)); (try have hB1zw2 : w.heap.size + 1 + 1 < w1.heap.size := (by omega)); (try have hB1zw3 : w.heap.size + 1 + 1 + 1 < w1.heap.size := (by omega)); (try have hB1zw4 : w.heap.size + 1 + 1 + 1 + 1 < w1.heap.size := (by omega)); (try have hB1zwO0 : wO.heap.size < w1.heap.size := (by omega)); (try have hB1zwO1 : wO.heap.size + 1 < w1.heap.size := (by omega)); (try have hB1zwO2 : wO.heap.size + 1 + 1 < w1.heap.size := (by omega)); (try have hB1zwO3 : wO.heap.size + 1 + 1 + 1 < w1.heap.size := (by omega)); (try have hB1zwO4 : wO.heap.size + 1 + 1 + 1 + 1 < w1.heap.size := (by omega)))
          have HB : kdB p col m1 m2 m3 m4 m5 m6 = true := by simp [kdB, hd1, hd2, hd3, hd4]
          have HS : kdS p col m1 m2 m3 m4 m5 m6 = 5 := by (simp only [kdS] <;> simp [hd1, hd2, hd3, hd4])
          have HV := Lib.hid (kd_st (col := col) (m1 := m1) (m2 := m2) (m3 := m3) (m4 := m4) (m5 := m5) (m6 := m6) hp HB HS (by decide))
          clear HB HS
          go_wp2
          (refine bodyPost_ret (v := .tuple #[.int .i64 (kdV1 p col m1 m2 m3 m4 m5 m6), .int .i64 (kdC p col m1 m2 m3 m4 m5 m6)]) (by simp [results, Try.results40, go_sem, HV.out.1, HV.out.2, *]) rfl ⟨?_, ?_⟩)
          · rfl
          · (repeat (first | with_reducible exact Below.refl _ _ | with_reducible exact hxO | with_reducible refine balloc ?_ _ | with_reducible refine bdrewN ?_ _ | with_reducible refine Below.drew ?_ | with_reducible refine bthen ?_ (by with_reducible assumption) | with_reducible refine Below.setCell ?_ (by first | (simp; done) | (simp; omega)) _))
        · skip
          have c_1 : mvCb true p col m1 m2 m3 m4 m5 m6 = 0 := by simp [mvCb, hd1, hd2, hd3, hd4]
          go_wp2_with fail
          refine Calls.mono (specMoveCode_any _ _ _ _ _ _ _ _ _) ?_
          rintro e w1 ⟨rfl, hB1⟩
          (obtain ⟨hB1c, hB1f⟩ := bcell hB1; have hB1s := hB1.size; (try simp at hB1s); (try have hB1q1 := Nat.lt_of_succ_le hB1s); (try have hB1q2 := Nat.lt_of_succ_lt hB1q1); (try have hB1q3 := Nat.lt_of_succ_lt hB1q2); (try have hB1zw0 : w.heap.size < w1.heap.size := (by omega)); (try have hB1zw1 : w.heap.size + 1 < w1.heap.size := (by omega)); (try have hB1zw2 : w.heap.size + 1 + 1 < w1.heap.size := (by omega)); (try have hB1zw3 : w.heap.size + 1 + 1 + 1 < w1.heap.size := (by omega)); (try have hB1zw4 : w.heap.size + 1 + 1 + 1 + 1 < w1.heap.size := (by omega)); (try have hB1zwO0 : wO.heap.size < w1.heap.size := (by omega)); (try have hB1zwO1 : wO.heap.size + 1 < w1.heap.size := (by omega)); (try have hB1zwO2 : wO.heap.size + 1 + 1 < w1.heap.size := (by omega)); (try have hB1zwO3 : wO.heap.size + 1 + 1 + 1 < w1.heap.size := (by omega)); (try have hB1zwO4 : wO.heap.size + 1 + 1 + 1 + 1 < w1.heap.size := (by omega)))
          obtain ⟨bq5, hbq5⟩ : ∃ b : Bool, b = (m1 == 1 && m2 == 0 && m3 == 0 && m4 == 1) := ⟨_, rfl⟩
          try rw [← hbq5]
          rcases bool_ways bq5 with hq5 | hq5
          · have hd5 := hbq5.symm.trans hq5
            clear hbq5
            subst hq5
            skip
            obtain ⟨v1, hv1⟩ : ∃ v : Int, v = sgn p m1 m2 m3 m4 := ⟨_, rfl⟩
            have rv1 := sgn_r m1 m2 m3 m4 hp
            rw [← hv1] at rv1
            have Hv1 := Lib.hid hv1
            clear hv1
            go_wp2_with fail
            refine Calls.mono (specSign_any _ _ _ _ _ _ _ _ hp (by omega) (by omega) (by omega) (by omega) (by omega) (by omega)) ?_
            rw [← Hv1.out]
            rintro e w2 ⟨rfl, hB2⟩
            (obtain ⟨hB2c, hB2f⟩ := bcell hB2; have hB2s := hB2.size; (try simp at hB2s); (try have hB2q1 := Nat.lt_of_succ_le hB2s); (try have hB2q2 := Nat.lt_of_succ_lt hB2q1); (try have hB2q3 := Nat.lt_of_succ_lt hB2q2); (try have hB2zw0 : w.heap.size < w2.heap.size := (by omega)); (try have hB2zw1 : w.heap.size + 1 < w2.heap.size := (by omega)); (try have hB2zw2 : w.heap.size + 1 + 1 < w2.heap.size := (by omega)); (try have hB2zw3 : w.heap.size + 1 + 1 + 1 < w2.heap.size := (by omega)); (try have hB2zw4 : w.heap.size + 1 + 1 + 1 + 1 < w2.heap.size := (by omega)); (try have hB2zw10 : w1.heap.size < w2.heap.size := (by omega)); (try have hB2zw11 : w1.heap.size + 1 < w2.heap.size := (by omega)); (try have hB2zw12 : w1.heap.size + 1 + 1 < w2.heap.size := (by omega)); (try have hB2zw13 : w1.heap.size + 1 + 1 + 1 < w2.heap.size := (by omega)); (try have hB2zw14 : w1.heap.size + 1 + 1 + 1 + 1 < w2.heap.size := (by omega)); (try have hB2zwO0 : wO.heap.size < w2.heap.size := (by omega)); (try have hB2zwO1 : wO.heap.size + 1 < w2.heap.size := (by omega)); (try have hB2zwO2 : wO.heap.size + 1 + 1 < w2.heap.size := (by omega)); (try have hB2zwO3 : wO.heap.size + 1 + 1 + 1 < w2.heap.size := (by omega)); (try have hB2zwO4 : wO.heap.size + 1 + 1 + 1 + 1 < w2.heap.size := (by omega)))
            rcases bool_ways (v1 == 1) with hd6 | hd6
            · have hd6n : (v1 != 1) = true := by rw [bne, hd6]; rfl
              have Hhd6p := Lib.hid (beq_eq_false_iff_ne.1 hd6)
              obtain ⟨nL1, hnL1⟩ : ∃ n : Nat, n = (fxL p m1 m2 m3 m4 m5 m6).length := ⟨_, rfl⟩
              have HnL1 := Lib.hid hnL1
              clear hnL1
              go_wp2_with fail
              refine Calls.mono (specFixed_any _ _ _ _ _ _ _ _ hp (by omega) (by omega) (by omega) (by omega) (by omega) (by omega)) ?_
              rw [← HnL1.out]
              rintro e w3 ⟨vL1, rfl, hoL1, hB3⟩
              (obtain ⟨hB3c, hB3f⟩ := bcell hB3; have hB3s := hB3.size; (try simp at hB3s); (try have hB3q1 := Nat.lt_of_succ_le hB3s); (try have hB3q2 := Nat.lt_of_succ_lt hB3q1); (try have hB3q3 := Nat.lt_of_succ_lt hB3q2); (try have hB3zw0 : w.heap.size < w3.heap.size := (by omega)); (try have hB3zw1 : w.heap.size + 1 < w3.heap.size := (by omega)); (try have hB3zw2 : w.heap.size + 1 + 1 < w3.heap.size := (by omega)); (try have hB3zw3 : w.heap.size + 1 + 1 + 1 < w3.heap.size := (by omega)); (try have hB3zw4 : w.heap.size + 1 + 1 + 1 + 1 < w3.heap.size := (by omega)); (try have hB3zw20 : w2.heap.size < w3.heap.size := (by omega)); (try have hB3zw21 : w2.heap.size + 1 < w3.heap.size := (by omega)); (try have hB3zw22 : w2.heap.size + 1 + 1 < w3.heap.size := (by omega)); (try have hB3zw23 : w2.heap.size + 1 + 1 + 1 < w3.heap.size := (by omega)); (try have hB3zw24 : w2.heap.size + 1 + 1 + 1 + 1 < w3.heap.size := (by omega)); (try have hB3zw10 : w1.heap.size < w3.heap.size := (by omega)); (try have hB3zw11 : w1.heap.size + 1 < w3.heap.size := (by omega)); (try have hB3zw12 : w1.heap.size + 1 + 1 < w3.heap.size := (by omega)); (try have hB3zw13 : w1.heap.size + 1 + 1 + 1 < w3.heap.size := (by omega)); (try have hB3zw14 : w1.heap.size + 1 + 1 + 1 + 1 < w3.heap.size := (by omega)); (try have hB3zwO0 : wO.heap.size < w3.heap.size := (by omega)); (try have hB3zwO1 : wO.heap.size + 1 < w3.heap.size := (by omega)); (try have hB3zwO2 : wO.heap.size + 1 + 1 < w3.heap.size := (by omega)); (try have hB3zwO3 : wO.heap.size + 1 + 1 + 1 < w3.heap.size := (by omega)); (try have hB3zwO4 : wO.heap.size + 1 + 1 + 1 + 1 < w3.heap.size := (by omega)))
              obtain ⟨aL1, cL1, rfl, -, -⟩ := own_shape hoL1
              rcases bool_ways (decide (0 < (nL1 : Int))) with hd7 | hd7
              · have hd7p := of_decide_eq_false hd7
                have HB : kdB p col m1 m2 m3 m4 m5 m6 = true := by simp [kdB, hd1, hd2, hd3, hd4, hd5, hd6, hd7]
                have HS : kdS p col m1 m2 m3 m4 m5 m6 = 0 := by (simp only [kdS, ← Hv1.out] <;> simp [hd1, hd2, hd3, hd4, hd5, hd6, hd7])
                have HV := Lib.hid (show kdV1 p col m1 m2 m3 m4 m5 m6 = 4 ∧ kdC p col m1 m2 m3 m4 m5 m6 = 0 from by
                  have HG := kd_good (col := col) (m1 := m1) (m2 := m2) (m3 := m3) (m4 := m4) (m5 := m5) (m6 := m6) hp HB HS
                  refine ⟨(HG.1).trans ?_, HG.2⟩
                  all_goals (simp only [kdK, ← Hv1.out, ← HnL1.out]; have hq := of_decide_eq_false hd7; simp_all))
                clear HB HS
                go_wp2
                (refine bodyPost_ret (v := .tuple #[.int .i64 (kdV1 p col m1 m2 m3 m4 m5 m6), .int .i64 (kdC p col m1 m2 m3 m4 m5 m6)]) (by simp [results, Try.results40, go_sem, HV.out.1, HV.out.2, *]) rfl ⟨?_, ?_⟩)
                · rfl
                · (repeat (first | with_reducible exact Below.refl _ _ | with_reducible exact hxO | with_reducible refine balloc ?_ _ | with_reducible refine bdrewN ?_ _ | with_reducible refine Below.drew ?_ | with_reducible refine bthen ?_ (by with_reducible assumption) | with_reducible refine Below.setCell ?_ (by first | (simp; done) | (simp; omega)) _))
              · have hd7p := of_decide_eq_true hd7
                have HB : kdB p col m1 m2 m3 m4 m5 m6 = true := by simp [kdB, hd1, hd2, hd3, hd4, hd5, hd6, hd7]
                have HS : kdS p col m1 m2 m3 m4 m5 m6 = 0 := by (simp only [kdS, ← Hv1.out] <;> simp [hd1, hd2, hd3, hd4, hd5, hd6, hd7])
                have HV := Lib.hid (show kdV1 p col m1 m2 m3 m4 m5 m6 = 3 ∧ kdC p col m1 m2 m3 m4 m5 m6 = 0 from by
                  have HG := kd_good (col := col) (m1 := m1) (m2 := m2) (m3 := m3) (m4 := m4) (m5 := m5) (m6 := m6) hp HB HS
                  refine ⟨(HG.1).trans ?_, HG.2⟩
                  all_goals (simp only [kdK, ← Hv1.out, ← HnL1.out]; have hq := of_decide_eq_true hd7; simp_all))
                clear HB HS
                go_wp2
                (refine bodyPost_ret (v := .tuple #[.int .i64 (kdV1 p col m1 m2 m3 m4 m5 m6), .int .i64 (kdC p col m1 m2 m3 m4 m5 m6)]) (by simp [results, Try.results40, go_sem, HV.out.1, HV.out.2, *]) rfl ⟨?_, ?_⟩)
                · rfl
                · (repeat (first | with_reducible exact Below.refl _ _ | with_reducible exact hxO | with_reducible refine balloc ?_ _ | with_reducible refine bdrewN ?_ _ | with_reducible refine Below.drew ?_ | with_reducible refine bthen ?_ (by with_reducible assumption) | with_reducible refine Below.setCell ?_ (by first | (simp; done) | (simp; omega)) _))
            · have hd6n : (v1 != 1) = false := by rw [bne, hd6]; rfl
              have Hhd6p := Lib.hid (beq_iff_eq.1 hd6)
              have HB : kdB p col m1 m2 m3 m4 m5 m6 = true := by simp [kdB, hd1, hd2, hd3, hd4, hd5, hd6]
              have HS : kdS p col m1 m2 m3 m4 m5 m6 = 0 := by (simp only [kdS, ← Hv1.out] <;> simp [hd1, hd2, hd3, hd4, hd5, hd6])
              have HV := Lib.hid (show kdV1 p col m1 m2 m3 m4 m5 m6 = 2 ∧ kdC p col m1 m2 m3 m4 m5 m6 = 0 from by
                have HG := kd_good (col := col) (m1 := m1) (m2 := m2) (m3 := m3) (m4 := m4) (m5 := m5) (m6 := m6) hp HB HS
                refine ⟨(HG.1).trans ?_, HG.2⟩
                all_goals (simp only [kdK, ← Hv1.out]; simp_all))
              clear HB HS
              go_wp2
              (refine bodyPost_ret (v := .tuple #[.int .i64 (kdV1 p col m1 m2 m3 m4 m5 m6), .int .i64 (kdC p col m1 m2 m3 m4 m5 m6)]) (by simp [results, Try.results40, go_sem, HV.out.1, HV.out.2, *]) rfl ⟨?_, ?_⟩)
              · rfl
              · (repeat (first | with_reducible exact Below.refl _ _ | with_reducible exact hxO | with_reducible refine balloc ?_ _ | with_reducible refine bdrewN ?_ _ | with_reducible refine Below.drew ?_ | with_reducible refine bthen ?_ (by with_reducible assumption) | with_reducible refine Below.setCell ?_ (by first | (simp; done) | (simp; omega)) _))
          · have hd5 := hbq5.symm.trans hq5
            clear hbq5
            subst hq5
            skip
            rcases bool_ways (m5 == 0 && m6 == 0) with hd6 | hd6
            · skip
              have HB : kdB p col m1 m2 m3 m4 m5 m6 = true := by simp [kdB, hd1, hd2, hd3, hd4, hd5, hd6]
              have HS : kdS p col m1 m2 m3 m4 m5 m6 = 0 := by (simp only [kdS] <;> simp [hd1, hd2, hd3, hd4, hd5, hd6])
              have HV := Lib.hid (show kdV1 p col m1 m2 m3 m4 m5 m6 = 1 ∧ kdC p col m1 m2 m3 m4 m5 m6 = 0 from by
                have HG := kd_good (col := col) (m1 := m1) (m2 := m2) (m3 := m3) (m4 := m4) (m5 := m5) (m6 := m6) hp HB HS
                refine ⟨(HG.1).trans ?_, HG.2⟩
                all_goals (simp only [kdK]; simp_all))
              clear HB HS
              go_wp2
              (refine bodyPost_ret (v := .tuple #[.int .i64 (kdV1 p col m1 m2 m3 m4 m5 m6), .int .i64 (kdC p col m1 m2 m3 m4 m5 m6)]) (by simp [results, Try.results40, go_sem, HV.out.1, HV.out.2, *]) rfl ⟨?_, ?_⟩)
              · rfl
              · (repeat (first | with_reducible exact Below.refl _ _ | with_reducible exact hxO | with_reducible refine balloc ?_ _ | with_reducible refine bdrewN ?_ _ | with_reducible refine Below.drew ?_ | with_reducible refine bthen ?_ (by with_reducible assumption) | with_reducible refine Below.setCell ?_ (by first | (simp; done) | (simp; omega)) _))
            · skip
              have HB : kdB p col m1 m2 m3 m4 m5 m6 = true := by simp [kdB, hd1, hd2, hd3, hd4, hd5, hd6]
              have HS : kdS p col m1 m2 m3 m4 m5 m6 = 0 := by (simp only [kdS] <;> simp [hd1, hd2, hd3, hd4, hd5, hd6])
              have HV := Lib.hid (show kdV1 p col m1 m2 m3 m4 m5 m6 = 0 ∧ kdC p col m1 m2 m3 m4 m5 m6 = 0 from by
                have HG := kd_good (col := col) (m1 := m1) (m2 := m2) (m3 := m3) (m4 := m4) (m5 := m5) (m6 := m6) hp HB HS
                refine ⟨(HG.1).trans ?_, HG.2⟩
                all_goals (simp only [kdK]; simp_all))
              clear HB HS
              go_wp2
              (refine bodyPost_ret (v := .tuple #[.int .i64 (kdV1 p col m1 m2 m3 m4 m5 m6), .int .i64 (kdC p col m1 m2 m3 m4 m5 m6)]) (by simp [results, Try.results40, go_sem, HV.out.1, HV.out.2, *]) rfl ⟨?_, ?_⟩)
              · rfl
              · (repeat (first | with_reducible exact Below.refl _ _ | with_reducible exact hxO | with_reducible refine balloc ?_ _ | with_reducible refine bdrewN ?_ _ | with_reducible refine Below.drew ?_ | with_reducible refine bthen ?_ (by with_reducible assumption) | with_reducible refine Below.setCell ?_ (by first | (simp; done) | (simp; omega)) _))

set_option linter.unusedVariables false in
set_option linter.unusedSimpArgs false in
set_option maxRecDepth 20000 in
set_option maxHeartbeats 4000000 in
theorem implKindOfMove_any (p col m1 m2 m3 m4 m5 m6 : Int)  (w : World) :
    Calls Try.prog 41 #[.int .i64 p, .int .i64 col, .agg #[.int .i64 m1, .int .i64 m2, .int .i64 m3, .int .i64 m4, .int .i64 m5, .int .i64 m6]] w fun e w' =>
      e = .returned (.tuple #[.int .i64 (kdV1 p col m1 m2 m3 m4 m5 m6), .int .i64 (kdC p col m1 m2 m3 m4 m5 m6)]) ∧ Below w.heap.size w w' := by
  have heq := equalPoint
  have heq4 := equalA4
  have heqM := equalMove
  go_enter Try.func41, Try.ntmps41
  go_upto_region 0 with fail
  go_cut [5, 6, 7] (fun s5 s6 s7 wx => s5 = .pointer (some ⟨w.heap.size, 0, none⟩) ∧ s6 = .int .i64 0 ∧ s7 = .int .i64 0 ∧ wx.cell? ⟨w.heap.size, 0, none⟩ = some (.int .i64 m1) ∧ wx.cell? ⟨w.heap.size, 1, none⟩ = some (.int .i64 m2) ∧ wx.cell? ⟨w.heap.size, 2, none⟩ = some (.int .i64 m3) ∧ wx.cell? ⟨w.heap.size, 3, none⟩ = some (.int .i64 m4) ∧ wx.cell? ⟨w.heap.size, 4, none⟩ = some (.int .i64 m5) ∧ wx.cell? ⟨w.heap.size, 5, none⟩ = some (.int .i64 m6) ∧ wx.frozen? ⟨w.heap.size, 0, none⟩ = false ∧ wx.frozen? ⟨w.heap.size, 1, none⟩ = false ∧ wx.frozen? ⟨w.heap.size, 2, none⟩ = false ∧ wx.frozen? ⟨w.heap.size, 3, none⟩ = false ∧ wx.frozen? ⟨w.heap.size, 4, none⟩ = false ∧ wx.frozen? ⟨w.heap.size, 5, none⟩ = false ∧ Below w.heap.size w wx ∧ w.heap.size + 1 ≤ wx.heap.size)
  case first =>
    go_wp2
    go_meet
    refine ⟨rfl, rfl, rfl, ?_, ?_, ?_, ?_, ?_, ?_, ?_, ?_, ?_, ?_, ?_, ?_, ?_, ?_⟩
    · (repeat (first | with_reducible assumption | ((with_reducible refine kfresh ?_ ?_) <;> (first | with_reducible rfl | (simp; done))) | ((with_reducible refine ksameS ?_); focus ((repeat (first | with_reducible exact kis_of (by with_reducible assumption) | with_reducible refine kis_set ?_ | ((with_reducible refine kis_new ?_ ?_) <;> (first | with_reducible rfl | rfl | (simp; done))) | with_reducible refine kis_alloc _ ?_ | with_reducible refine kis_drew ?_ | with_reducible refine kis_call (by with_reducible assumption) ?_ | with_reducible exact kis_of (kcall (by with_reducible assumption) (by with_reducible assumption)))); done)) | with_reducible refine kother (by decide) ?_ | with_reducible refine kset (by first | omega | (simp; done) | (simp; omega)) ?_ | with_reducible refine kalloc _ ?_ | with_reducible refine kdrew ?_ | with_reducible refine kcall (by with_reducible assumption) ?_))
    · (repeat (first | with_reducible assumption | ((with_reducible refine kfresh ?_ ?_) <;> (first | with_reducible rfl | (simp; done))) | ((with_reducible refine ksameS ?_); focus ((repeat (first | with_reducible exact kis_of (by with_reducible assumption) | with_reducible refine kis_set ?_ | ((with_reducible refine kis_new ?_ ?_) <;> (first | with_reducible rfl | rfl | (simp; done))) | with_reducible refine kis_alloc _ ?_ | with_reducible refine kis_drew ?_ | with_reducible refine kis_call (by with_reducible assumption) ?_ | with_reducible exact kis_of (kcall (by with_reducible assumption) (by with_reducible assumption)))); done)) | with_reducible refine kother (by decide) ?_ | with_reducible refine kset (by first | omega | (simp; done) | (simp; omega)) ?_ | with_reducible refine kalloc _ ?_ | with_reducible refine kdrew ?_ | with_reducible refine kcall (by with_reducible assumption) ?_))
    · (repeat (first | with_reducible assumption | ((with_reducible refine kfresh ?_ ?_) <;> (first | with_reducible rfl | (simp; done))) | ((with_reducible refine ksameS ?_); focus ((repeat (first | with_reducible exact kis_of (by with_reducible assumption) | with_reducible refine kis_set ?_ | ((with_reducible refine kis_new ?_ ?_) <;> (first | with_reducible rfl | rfl | (simp; done))) | with_reducible refine kis_alloc _ ?_ | with_reducible refine kis_drew ?_ | with_reducible refine kis_call (by with_reducible assumption) ?_ | with_reducible exact kis_of (kcall (by with_reducible assumption) (by with_reducible assumption)))); done)) | with_reducible refine kother (by decide) ?_ | with_reducible refine kset (by first | omega | (simp; done) | (simp; omega)) ?_ | with_reducible refine kalloc _ ?_ | with_reducible refine kdrew ?_ | with_reducible refine kcall (by with_reducible assumption) ?_))
    · (repeat (first | with_reducible assumption | ((with_reducible refine kfresh ?_ ?_) <;> (first | with_reducible rfl | (simp; done))) | ((with_reducible refine ksameS ?_); focus ((repeat (first | with_reducible exact kis_of (by with_reducible assumption) | with_reducible refine kis_set ?_ | ((with_reducible refine kis_new ?_ ?_) <;> (first | with_reducible rfl | rfl | (simp; done))) | with_reducible refine kis_alloc _ ?_ | with_reducible refine kis_drew ?_ | with_reducible refine kis_call (by with_reducible assumption) ?_ | with_reducible exact kis_of (kcall (by with_reducible assumption) (by with_reducible assumption)))); done)) | with_reducible refine kother (by decide) ?_ | with_reducible refine kset (by first | omega | (simp; done) | (simp; omega)) ?_ | with_reducible refine kalloc _ ?_ | with_reducible refine kdrew ?_ | with_reducible refine kcall (by with_reducible assumption) ?_))
    · (repeat (first | with_reducible assumption | ((with_reducible refine kfresh ?_ ?_) <;> (first | with_reducible rfl | (simp; done))) | ((with_reducible refine ksameS ?_); focus ((repeat (first | with_reducible exact kis_of (by with_reducible assumption) | with_reducible refine kis_set ?_ | ((with_reducible refine kis_new ?_ ?_) <;> (first | with_reducible rfl | rfl | (simp; done))) | with_reducible refine kis_alloc _ ?_ | with_reducible refine kis_drew ?_ | with_reducible refine kis_call (by with_reducible assumption) ?_ | with_reducible exact kis_of (kcall (by with_reducible assumption) (by with_reducible assumption)))); done)) | with_reducible refine kother (by decide) ?_ | with_reducible refine kset (by first | omega | (simp; done) | (simp; omega)) ?_ | with_reducible refine kalloc _ ?_ | with_reducible refine kdrew ?_ | with_reducible refine kcall (by with_reducible assumption) ?_))
    · (repeat (first | with_reducible assumption | ((with_reducible refine kfresh ?_ ?_) <;> (first | with_reducible rfl | (simp; done))) | ((with_reducible refine ksameS ?_); focus ((repeat (first | with_reducible exact kis_of (by with_reducible assumption) | with_reducible refine kis_set ?_ | ((with_reducible refine kis_new ?_ ?_) <;> (first | with_reducible rfl | rfl | (simp; done))) | with_reducible refine kis_alloc _ ?_ | with_reducible refine kis_drew ?_ | with_reducible refine kis_call (by with_reducible assumption) ?_ | with_reducible exact kis_of (kcall (by with_reducible assumption) (by with_reducible assumption)))); done)) | with_reducible refine kother (by decide) ?_ | with_reducible refine kset (by first | omega | (simp; done) | (simp; omega)) ?_ | with_reducible refine kalloc _ ?_ | with_reducible refine kdrew ?_ | with_reducible refine kcall (by with_reducible assumption) ?_))
    · (repeat (first | with_reducible assumption | with_reducible refine fdrew ?_ | with_reducible refine fset ?_ | ((with_reducible refine fallocNew ?_) <;> (first | with_reducible rfl | (simp; done))) | ((with_reducible refine kfro (by with_reducible assumption) ?_ ?_); focus (first | with_reducible assumption | (simp; done) | (simp; omega))) | ((with_reducible refine falloc ?_ ?_); focus (first | with_reducible assumption | (simp; done) | (simp; omega)))))
    · (repeat (first | with_reducible assumption | with_reducible refine fdrew ?_ | with_reducible refine fset ?_ | ((with_reducible refine fallocNew ?_) <;> (first | with_reducible rfl | (simp; done))) | ((with_reducible refine kfro (by with_reducible assumption) ?_ ?_); focus (first | with_reducible assumption | (simp; done) | (simp; omega))) | ((with_reducible refine falloc ?_ ?_); focus (first | with_reducible assumption | (simp; done) | (simp; omega)))))
    · (repeat (first | with_reducible assumption | with_reducible refine fdrew ?_ | with_reducible refine fset ?_ | ((with_reducible refine fallocNew ?_) <;> (first | with_reducible rfl | (simp; done))) | ((with_reducible refine kfro (by with_reducible assumption) ?_ ?_); focus (first | with_reducible assumption | (simp; done) | (simp; omega))) | ((with_reducible refine falloc ?_ ?_); focus (first | with_reducible assumption | (simp; done) | (simp; omega)))))
    · (repeat (first | with_reducible assumption | with_reducible refine fdrew ?_ | with_reducible refine fset ?_ | ((with_reducible refine fallocNew ?_) <;> (first | with_reducible rfl | (simp; done))) | ((with_reducible refine kfro (by with_reducible assumption) ?_ ?_); focus (first | with_reducible assumption | (simp; done) | (simp; omega))) | ((with_reducible refine falloc ?_ ?_); focus (first | with_reducible assumption | (simp; done) | (simp; omega)))))
    · (repeat (first | with_reducible assumption | with_reducible refine fdrew ?_ | with_reducible refine fset ?_ | ((with_reducible refine fallocNew ?_) <;> (first | with_reducible rfl | (simp; done))) | ((with_reducible refine kfro (by with_reducible assumption) ?_ ?_); focus (first | with_reducible assumption | (simp; done) | (simp; omega))) | ((with_reducible refine falloc ?_ ?_); focus (first | with_reducible assumption | (simp; done) | (simp; omega)))))
    · (repeat (first | with_reducible assumption | with_reducible refine fdrew ?_ | with_reducible refine fset ?_ | ((with_reducible refine fallocNew ?_) <;> (first | with_reducible rfl | (simp; done))) | ((with_reducible refine kfro (by with_reducible assumption) ?_ ?_); focus (first | with_reducible assumption | (simp; done) | (simp; omega))) | ((with_reducible refine falloc ?_ ?_); focus (first | with_reducible assumption | (simp; done) | (simp; omega)))))
    · (repeat (first | with_reducible exact Below.refl _ _ | with_reducible refine balloc ?_ _ | with_reducible refine bdrewN ?_ _ | with_reducible refine Below.drew ?_ | with_reducible refine bthen ?_ (by with_reducible assumption) | with_reducible refine Below.setCell ?_ (by first | (simp; done) | (simp; omega)) _))
    · (first | omega | (simp; done) | (simp; omega))
  case' rest => obtain ⟨rfl, rfl, rfl, cO0, cO1, cO2, cO3, cO4, cO5, fO0, fO1, fO2, fO3, fO4, fO5, hxO, hsO⟩ := hcut
  obtain ⟨wO, rfl⟩ : ∃ wO : World, wO = wc := ⟨_, rfl⟩
  have lO0 : w.heap.size < wO.heap.size := by omega
  rcases bool_ways (isP p) with hd1 | hd1
  · skip
    have c_1 : mvCb true p col m1 m2 m3 m4 m5 m6 = 1 := by simp [mvCb, hd1]
    go_wp2_with fail
    refine Calls.mono (implMoveCode_any _ _ _ _ _ _ _ _ _ _) ?_
    rintro e w1 ⟨rfl, hB1⟩
    (obtain ⟨hB1c, hB1f⟩ := bcell hB1; have hB1s := hB1.size; (try simp at hB1s); (try have hB1q1 := Nat.lt_of_succ_le hB1s); (try have hB1q2 := Nat.lt_of_succ_lt hB1q1); (try have hB1q3 := Nat.lt_of_succ_lt hB1q2); (try have hB1zw0 : w.heap.size < w1.heap.size := (by omega)); (try have hB1zw1 : w.heap.size + 1 < w1.heap.size := (by omega)); (try have hB1zw2 : w.heap.size + 1 + 1 < w1.heap.size := (by omega)); (try have hB1zw3 : w.heap.size + 1 + 1 + 1 < w1.heap.size := (by omega)); (try have hB1zw4 : w.heap.size + 1 + 1 + 1 + 1 < w1.heap.size := (by omega)); (try have hB1zwO0 : wO.heap.size < w1.heap.size := (by omega)); (try have hB1zwO1 : wO.heap.size + 1 < w1.heap.size := (by omega)); (try have hB1zwO2 : wO.heap.size + 1 + 1 < w1.heap.size := (by omega)); (try have hB1zwO3 : wO.heap.size + 1 + 1 + 1 < w1.heap.size := (by omega)); (try have hB1zwO4 : wO.heap.size + 1 + 1 + 1 + 1 < w1.heap.size := (by omega)))
    have HV := Lib.hid (kd_no (col := col) (m1 := m1) (m2 := m2) (m3 := m3) (m4 := m4) (m5 := m5) (m6 := m6) hd1)
    go_wp2
    (refine bodyPost_ret (v := .tuple #[.int .i64 (kdV1 p col m1 m2 m3 m4 m5 m6), .int .i64 (kdC p col m1 m2 m3 m4 m5 m6)]) (by simp [results, Try.results41, go_sem, HV.out.1, HV.out.2, *]) rfl ⟨?_, ?_⟩)
    · rfl
    · (repeat (first | with_reducible exact Below.refl _ _ | with_reducible exact hxO | with_reducible refine balloc ?_ _ | with_reducible refine bdrewN ?_ _ | with_reducible refine Below.drew ?_ | with_reducible refine bthen ?_ (by with_reducible assumption) | with_reducible refine Below.setCell ?_ (by first | (simp; done) | (simp; omega)) _))
  · have hp := hd1
    have hr := isP_range hp
    rcases bool_ways (colB col) with hd2 | hd2
    · skip
      have c_1 : mvCb true p col m1 m2 m3 m4 m5 m6 = 2 := by simp [mvCb, hd1, hd2]
      go_wp2_with fail
      refine Calls.mono (implMoveCode_any _ _ _ _ _ _ _ _ _ _) ?_
      rintro e w1 ⟨rfl, hB1⟩
      (obtain ⟨hB1c, hB1f⟩ := bcell hB1; have hB1s := hB1.size; (try simp at hB1s); (try have hB1q1 := Nat.lt_of_succ_le hB1s); (try have hB1q2 := Nat.lt_of_succ_lt hB1q1); (try have hB1q3 := Nat.lt_of_succ_lt hB1q2); (try have hB1zw0 : w.heap.size < w1.heap.size := (by omega)); (try have hB1zw1 : w.heap.size + 1 < w1.heap.size := (by omega)); (try have hB1zw2 : w.heap.size + 1 + 1 < w1.heap.size := (by omega)); (try have hB1zw3 : w.heap.size + 1 + 1 + 1 < w1.heap.size := (by omega)); (try have hB1zw4 : w.heap.size + 1 + 1 + 1 + 1 < w1.heap.size := (by omega)); (try have hB1zwO0 : wO.heap.size < w1.heap.size := (by omega)); (try have hB1zwO1 : wO.heap.size + 1 < w1.heap.size := (by omega)); (try have hB1zwO2 : wO.heap.size + 1 + 1 < w1.heap.size := (by omega)); (try have hB1zwO3 : wO.heap.size + 1 + 1 + 1 < w1.heap.size := (by omega)); (try have hB1zwO4 : wO.heap.size + 1 + 1 + 1 + 1 < w1.heap.size := (by omega)))
      have HV := Lib.hid (kd_out (col := col) (m1 := m1) (m2 := m2) (m3 := m3) (m4 := m4) (m5 := m5) (m6 := m6) hp (by simp [kdB, hd1, hd2]))
      go_wp2
      (refine bodyPost_ret (v := .tuple #[.int .i64 (kdV1 p col m1 m2 m3 m4 m5 m6), .int .i64 (kdC p col m1 m2 m3 m4 m5 m6)]) (by simp [results, Try.results41, go_sem, HV.out.1, HV.out.2, *]) rfl ⟨?_, ?_⟩)
      · rfl
      · (repeat (first | with_reducible exact Below.refl _ _ | with_reducible exact hxO | with_reducible refine balloc ?_ _ | with_reducible refine bdrewN ?_ _ | with_reducible refine Below.drew ?_ | with_reducible refine bthen ?_ (by with_reducible assumption) | with_reducible refine Below.setCell ?_ (by first | (simp; done) | (simp; omega)) _))
    · have hc := hd2
      have hcr := colB_range hc
      rcases bool_ways (numsIn p [m1, m2, m3, m4, m5, m6]) with hd3 | hd3
      · skip
        have c_1 : mvCb true p col m1 m2 m3 m4 m5 m6 = 2 := by simp [mvCb, hd1, hd2, hd3]
        go_wp2_with fail
        refine Calls.mono (implMoveCode_any _ _ _ _ _ _ _ _ _ _) ?_
        rintro e w1 ⟨rfl, hB1⟩
        (obtain ⟨hB1c, hB1f⟩ := bcell hB1; have hB1s := hB1.size; (try simp at hB1s); (try have hB1q1 := Nat.lt_of_succ_le hB1s); (try have hB1q2 := Nat.lt_of_succ_lt hB1q1); (try have hB1q3 := Nat.lt_of_succ_lt hB1q2); (try have hB1zw0 : w.heap.size < w1.heap.size := (by omega)); (try have hB1zw1 : w.heap.size + 1 < w1.heap.size := (by omega)); (try have hB1zw2 : w.heap.size + 1 + 1 < w1.heap.size := (by omega)); (try have hB1zw3 : w.heap.size + 1 + 1 + 1 < w1.heap.size := (by omega)); (try have hB1zw4 : w.heap.size + 1 + 1 + 1 + 1 < w1.heap.size := (by omega)); (try have hB1zwO0 : wO.heap.size < w1.heap.size := (by omega)); (try have hB1zwO1 : wO.heap.size + 1 < w1.heap.size := (by omega)); (try have hB1zwO2 : wO.heap.size + 1 + 1 < w1.heap.size := (by omega)); (try have hB1zwO3 : wO.heap.size + 1 + 1 + 1 < w1.heap.size := (by omega)); (try have hB1zwO4 : wO.heap.size + 1 + 1 + 1 + 1 < w1.heap.size := (by omega)))
        have HV := Lib.hid (kd_out (col := col) (m1 := m1) (m2 := m2) (m3 := m3) (m4 := m4) (m5 := m5) (m6 := m6) hp (by simp [kdB, hd1, hd2, hd3]))
        go_wp2
        (refine bodyPost_ret (v := .tuple #[.int .i64 (kdV1 p col m1 m2 m3 m4 m5 m6), .int .i64 (kdC p col m1 m2 m3 m4 m5 m6)]) (by simp [results, Try.results41, go_sem, HV.out.1, HV.out.2, *]) rfl ⟨?_, ?_⟩)
        · rfl
        · (repeat (first | with_reducible exact Below.refl _ _ | with_reducible exact hxO | with_reducible refine balloc ?_ _ | with_reducible refine bdrewN ?_ _ | with_reducible refine Below.drew ?_ | with_reducible refine bthen ?_ (by with_reducible assumption) | with_reducible refine Below.setCell ?_ (by first | (simp; done) | (simp; omega)) _))
      · have hd3q := nums6 hd3
        rcases bool_ways (mvB p col m1 m2 m3 m4) with hd4 | hd4
        · skip
          have c_1 : mvCb true p col m1 m2 m3 m4 m5 m6 = 5 := by simp [mvCb, hd1, hd2, hd3, hd4]
          go_wp2_with fail
          refine Calls.mono (implMoveCode_any _ _ _ _ _ _ _ _ _ _) ?_
          rintro e w1 ⟨rfl, hB1⟩
          (obtain ⟨hB1c, hB1f⟩ := bcell hB1; have hB1s := hB1.size; (try simp at hB1s); (try have hB1q1 := Nat.lt_of_succ_le hB1s); (try have hB1q2 := Nat.lt_of_succ_lt hB1q1); (try have hB1q3 := Nat.lt_of_succ_lt hB1q2); (try have hB1zw0 : w.heap.size < w1.heap.size := (by omega)); (try have hB1zw1 : w.heap.size + 1 < w1.heap.size := (by omega)); (try have hB1zw2 : w.heap.size + 1 + 1 < w1.heap.size := (by omega)); (try have hB1zw3 : w.heap.size + 1 + 1 + 1 < w1.heap.size := (by omega)); (try have hB1zw4 : w.heap.size + 1 + 1 + 1 + 1 < w1.heap.size := (by omega)); (try have hB1zwO0 : wO.heap.size < w1.heap.size := (by omega)); (try have hB1zwO1 : wO.heap.size + 1 < w1.heap.size := (by omega)); (try have hB1zwO2 : wO.heap.size + 1 + 1 < w1.heap.size := (by omega)); (try have hB1zwO3 : wO.heap.size + 1 + 1 + 1 < w1.heap.size := (by omega)); (try have hB1zwO4 : wO.heap.size + 1 + 1 + 1 + 1 < w1.heap.size := (by omega)))
          have HB : kdB p col m1 m2 m3 m4 m5 m6 = true := by simp [kdB, hd1, hd2, hd3, hd4]
          have HS : kdS p col m1 m2 m3 m4 m5 m6 = 5 := by (simp only [kdS] <;> simp [hd1, hd2, hd3, hd4])
          have HV := Lib.hid (kd_st (col := col) (m1 := m1) (m2 := m2) (m3 := m3) (m4 := m4) (m5 := m5) (m6 := m6) hp HB HS (by decide))
          clear HB HS
          go_wp2
          (refine bodyPost_ret (v := .tuple #[.int .i64 (kdV1 p col m1 m2 m3 m4 m5 m6), .int .i64 (kdC p col m1 m2 m3 m4 m5 m6)]) (by simp [results, Try.results41, go_sem, HV.out.1, HV.out.2, *]) rfl ⟨?_, ?_⟩)
          · rfl
          · (repeat (first | with_reducible exact Below.refl _ _ | with_reducible exact hxO | with_reducible refine balloc ?_ _ | with_reducible refine bdrewN ?_ _ | with_reducible refine Below.drew ?_ | with_reducible refine bthen ?_ (by with_reducible assumption) | with_reducible refine Below.setCell ?_ (by first | (simp; done) | (simp; omega)) _))
        · skip
          have c_1 : mvCb true p col m1 m2 m3 m4 m5 m6 = 0 := by simp [mvCb, hd1, hd2, hd3, hd4]
          go_wp2_with fail
          refine Calls.mono (implMoveCode_any _ _ _ _ _ _ _ _ _ _) ?_
          rintro e w1 ⟨rfl, hB1⟩
          (obtain ⟨hB1c, hB1f⟩ := bcell hB1; have hB1s := hB1.size; (try simp at hB1s); (try have hB1q1 := Nat.lt_of_succ_le hB1s); (try have hB1q2 := Nat.lt_of_succ_lt hB1q1); (try have hB1q3 := Nat.lt_of_succ_lt hB1q2); (try have hB1zw0 : w.heap.size < w1.heap.size := (by omega)); (try have hB1zw1 : w.heap.size + 1 < w1.heap.size := (by omega)); (try have hB1zw2 : w.heap.size + 1 + 1 < w1.heap.size := (by omega)); (try have hB1zw3 : w.heap.size + 1 + 1 + 1 < w1.heap.size := (by omega)); (try have hB1zw4 : w.heap.size + 1 + 1 + 1 + 1 < w1.heap.size := (by omega)); (try have hB1zwO0 : wO.heap.size < w1.heap.size := (by omega)); (try have hB1zwO1 : wO.heap.size + 1 < w1.heap.size := (by omega)); (try have hB1zwO2 : wO.heap.size + 1 + 1 < w1.heap.size := (by omega)); (try have hB1zwO3 : wO.heap.size + 1 + 1 + 1 < w1.heap.size := (by omega)); (try have hB1zwO4 : wO.heap.size + 1 + 1 + 1 + 1 < w1.heap.size := (by omega)))
          have kA0 : w1.cell? ⟨w.heap.size, 0, none⟩ = some (.int .i64 m1) := by (first | with_reducible assumption | (repeat (first | with_reducible assumption | ((with_reducible refine kfresh ?_ ?_) <;> (first | with_reducible rfl | (simp; done))) | ((with_reducible refine ksameS ?_); focus ((repeat (first | with_reducible exact kis_of (by with_reducible assumption) | with_reducible refine kis_set ?_ | ((with_reducible refine kis_new ?_ ?_) <;> (first | with_reducible rfl | rfl | (simp; done))) | with_reducible refine kis_alloc _ ?_ | with_reducible refine kis_drew ?_ | with_reducible refine kis_call (by with_reducible assumption) ?_ | with_reducible exact kis_of (kcall (by with_reducible assumption) (by with_reducible assumption)))); done)) | with_reducible refine kother (by decide) ?_ | with_reducible refine kset (by first | omega | (simp; done) | (simp; omega)) ?_ | with_reducible refine kalloc _ ?_ | with_reducible refine kdrew ?_ | with_reducible refine kcall (by with_reducible assumption) ?_)))
          have qA0 : ∀ W : World, Below w1.heap.size w1 W → W.cell? ⟨w.heap.size, 0, none⟩ = some (.int .i64 m1) := fun W h => bholds kA0 h
          have kA1 : w1.cell? ⟨w.heap.size, 1, none⟩ = some (.int .i64 m2) := by (first | with_reducible assumption | (repeat (first | with_reducible assumption | ((with_reducible refine kfresh ?_ ?_) <;> (first | with_reducible rfl | (simp; done))) | ((with_reducible refine ksameS ?_); focus ((repeat (first | with_reducible exact kis_of (by with_reducible assumption) | with_reducible refine kis_set ?_ | ((with_reducible refine kis_new ?_ ?_) <;> (first | with_reducible rfl | rfl | (simp; done))) | with_reducible refine kis_alloc _ ?_ | with_reducible refine kis_drew ?_ | with_reducible refine kis_call (by with_reducible assumption) ?_ | with_reducible exact kis_of (kcall (by with_reducible assumption) (by with_reducible assumption)))); done)) | with_reducible refine kother (by decide) ?_ | with_reducible refine kset (by first | omega | (simp; done) | (simp; omega)) ?_ | with_reducible refine kalloc _ ?_ | with_reducible refine kdrew ?_ | with_reducible refine kcall (by with_reducible assumption) ?_)))
          have qA1 : ∀ W : World, Below w1.heap.size w1 W → W.cell? ⟨w.heap.size, 1, none⟩ = some (.int .i64 m2) := fun W h => bholds kA1 h
          have kA2 : w1.cell? ⟨w.heap.size, 2, none⟩ = some (.int .i64 m3) := by (first | with_reducible assumption | (repeat (first | with_reducible assumption | ((with_reducible refine kfresh ?_ ?_) <;> (first | with_reducible rfl | (simp; done))) | ((with_reducible refine ksameS ?_); focus ((repeat (first | with_reducible exact kis_of (by with_reducible assumption) | with_reducible refine kis_set ?_ | ((with_reducible refine kis_new ?_ ?_) <;> (first | with_reducible rfl | rfl | (simp; done))) | with_reducible refine kis_alloc _ ?_ | with_reducible refine kis_drew ?_ | with_reducible refine kis_call (by with_reducible assumption) ?_ | with_reducible exact kis_of (kcall (by with_reducible assumption) (by with_reducible assumption)))); done)) | with_reducible refine kother (by decide) ?_ | with_reducible refine kset (by first | omega | (simp; done) | (simp; omega)) ?_ | with_reducible refine kalloc _ ?_ | with_reducible refine kdrew ?_ | with_reducible refine kcall (by with_reducible assumption) ?_)))
          have qA2 : ∀ W : World, Below w1.heap.size w1 W → W.cell? ⟨w.heap.size, 2, none⟩ = some (.int .i64 m3) := fun W h => bholds kA2 h
          have kA3 : w1.cell? ⟨w.heap.size, 3, none⟩ = some (.int .i64 m4) := by (first | with_reducible assumption | (repeat (first | with_reducible assumption | ((with_reducible refine kfresh ?_ ?_) <;> (first | with_reducible rfl | (simp; done))) | ((with_reducible refine ksameS ?_); focus ((repeat (first | with_reducible exact kis_of (by with_reducible assumption) | with_reducible refine kis_set ?_ | ((with_reducible refine kis_new ?_ ?_) <;> (first | with_reducible rfl | rfl | (simp; done))) | with_reducible refine kis_alloc _ ?_ | with_reducible refine kis_drew ?_ | with_reducible refine kis_call (by with_reducible assumption) ?_ | with_reducible exact kis_of (kcall (by with_reducible assumption) (by with_reducible assumption)))); done)) | with_reducible refine kother (by decide) ?_ | with_reducible refine kset (by first | omega | (simp; done) | (simp; omega)) ?_ | with_reducible refine kalloc _ ?_ | with_reducible refine kdrew ?_ | with_reducible refine kcall (by with_reducible assumption) ?_)))
          have qA3 : ∀ W : World, Below w1.heap.size w1 W → W.cell? ⟨w.heap.size, 3, none⟩ = some (.int .i64 m4) := fun W h => bholds kA3 h
          have kA4 : w1.cell? ⟨w.heap.size, 4, none⟩ = some (.int .i64 m5) := by (first | with_reducible assumption | (repeat (first | with_reducible assumption | ((with_reducible refine kfresh ?_ ?_) <;> (first | with_reducible rfl | (simp; done))) | ((with_reducible refine ksameS ?_); focus ((repeat (first | with_reducible exact kis_of (by with_reducible assumption) | with_reducible refine kis_set ?_ | ((with_reducible refine kis_new ?_ ?_) <;> (first | with_reducible rfl | rfl | (simp; done))) | with_reducible refine kis_alloc _ ?_ | with_reducible refine kis_drew ?_ | with_reducible refine kis_call (by with_reducible assumption) ?_ | with_reducible exact kis_of (kcall (by with_reducible assumption) (by with_reducible assumption)))); done)) | with_reducible refine kother (by decide) ?_ | with_reducible refine kset (by first | omega | (simp; done) | (simp; omega)) ?_ | with_reducible refine kalloc _ ?_ | with_reducible refine kdrew ?_ | with_reducible refine kcall (by with_reducible assumption) ?_)))
          have qA4 : ∀ W : World, Below w1.heap.size w1 W → W.cell? ⟨w.heap.size, 4, none⟩ = some (.int .i64 m5) := fun W h => bholds kA4 h
          have kA5 : w1.cell? ⟨w.heap.size, 5, none⟩ = some (.int .i64 m6) := by (first | with_reducible assumption | (repeat (first | with_reducible assumption | ((with_reducible refine kfresh ?_ ?_) <;> (first | with_reducible rfl | (simp; done))) | ((with_reducible refine ksameS ?_); focus ((repeat (first | with_reducible exact kis_of (by with_reducible assumption) | with_reducible refine kis_set ?_ | ((with_reducible refine kis_new ?_ ?_) <;> (first | with_reducible rfl | rfl | (simp; done))) | with_reducible refine kis_alloc _ ?_ | with_reducible refine kis_drew ?_ | with_reducible refine kis_call (by with_reducible assumption) ?_ | with_reducible exact kis_of (kcall (by with_reducible assumption) (by with_reducible assumption)))); done)) | with_reducible refine kother (by decide) ?_ | with_reducible refine kset (by first | omega | (simp; done) | (simp; omega)) ?_ | with_reducible refine kalloc _ ?_ | with_reducible refine kdrew ?_ | with_reducible refine kcall (by with_reducible assumption) ?_)))
          have qA5 : ∀ W : World, Below w1.heap.size w1 W → W.cell? ⟨w.heap.size, 5, none⟩ = some (.int .i64 m6) := fun W h => bholds kA5 h
          have hWA : Below w.heap.size w w1 := by (repeat (first | with_reducible exact Below.refl _ _ | with_reducible exact hxO | with_reducible refine balloc ?_ _ | with_reducible refine bdrewN ?_ _ | with_reducible refine Below.drew ?_ | with_reducible refine bthen ?_ (by with_reducible assumption) | with_reducible refine Below.setCell ?_ (by first | (simp; done) | (simp; omega)) _))
          go_upto_region 4 with fail
          go_cut [16] (fun s16 wx => s16 = .bool ((m1 == 1 && m2 == 0 && m3 == 0 && m4 == 1 && m5 == 0 && m6 == 0)) ∧ Below w1.heap.size w1 wx)
          case first =>
            go_region_held3 (fun W => Below w1.heap.size w1 W) (first | ((with_reducible refine Below.setCell ?_ (by first | exact Nat.le_refl _ | omega | (simp; done) | (simp; omega)) _); (repeat with_reducible refine Below.setCell ?_ (by first | exact Nat.le_refl _ | omega | (simp; done) | (simp; omega)) _); with_reducible assumption) | with_reducible assumption | with_reducible exact bthen (by with_reducible assumption) hB | with_reducible exact bfromdrew hB | with_reducible exact balloc (by with_reducible assumption) _ | with_reducible exact Below.drew (balloc (bundrew (by with_reducible assumption)) _) | with_reducible exact brealloc (by first | exact Nat.le_refl _ | omega | (simp; done) | (simp; omega)) (by with_reducible assumption) | with_reducible exact Below.drew (brealloc (by first | exact Nat.le_refl _ | omega | (simp; done) | (simp; omega)) (bundrew (by with_reducible assumption))) | with_reducible exact brealloc2 (by first | exact Nat.le_refl _ | omega | (simp; done) | (simp; omega)) (by with_reducible assumption) | ((repeat (first | with_reducible assumption | with_reducible refine Below.setCell ?_ (by first | exact Nat.le_refl _ | omega | (simp; done) | (simp; omega)) _)); done) | (with_reducible refine balloc ?_ _; (repeat (first | with_reducible exact bback (by first | exact Nat.le_refl _ | omega | (simp; done) | (simp; omega)) (by with_reducible assumption) | with_reducible refine Below.setCell ?_ (by first | exact Nat.le_refl _ | omega | (simp; done) | (simp; omega)) _)); done) | with_reducible exact Below.refl _ _ | with_reducible exact Below.drew (Below.refl _ _) | with_reducible exact Below.drew (by with_reducible assumption)) (first | (go_at_call 86; refine Calls.mono (identity_any _ ) ?_; rintro e wq ⟨rfl, hB⟩; have hBs := hB.size; (try simp at hBs)))
            all_goals
              go_wp2_with fail
              go_meet
              refine ⟨rfl, ?_⟩
              · (first | with_reducible assumption | exact Below.drew (by with_reducible assumption) | exact bundrew (by with_reducible assumption) | (repeat (first | with_reducible exact Below.refl _ _ | with_reducible refine balloc ?_ _ | with_reducible refine bdrewN ?_ _ | with_reducible refine Below.drew ?_ | with_reducible refine bthen ?_ (by with_reducible assumption) | with_reducible refine Below.setCell ?_ (by first | (simp; done) | (simp; omega)) _)))
          case' rest => obtain ⟨rfl, hzA⟩ := hcut
          obtain ⟨wA, rfl⟩ : ∃ wA : World, wA = wc := ⟨_, rfl⟩
          have hsA := hzA.size
          have hxA : Below w.heap.size w wA := bthen hWA hzA
          have bA0 := qA0 wA hzA
          have bA1 := qA1 wA hzA
          have bA2 := qA2 wA hzA
          have bA3 := qA3 wA hzA
          have bA4 := qA4 wA hzA
          have bA5 := qA5 wA hzA
          clear qA0 qA1 qA2 qA3 qA4 qA5
          have lA_1 : w.heap.size < wA.heap.size := by omega
          obtain ⟨bq5, hbq5⟩ : ∃ b : Bool, b = (m1 == 1 && m2 == 0 && m3 == 0 && m4 == 1 && m5 == 0 && m6 == 0) := ⟨_, rfl⟩
          try rw [← hbq5]
          rcases bool_ways bq5 with hq5 | hq5
          · have hd5 := hbq5.symm.trans hq5
            clear hbq5
            subst hq5
            skip
            have kB0 : wA.cell? ⟨w.heap.size, 0, none⟩ = some (.int .i64 m1) := by (first | with_reducible assumption | (repeat (first | with_reducible assumption | ((with_reducible refine kfresh ?_ ?_) <;> (first | with_reducible rfl | (simp; done))) | ((with_reducible refine ksameS ?_); focus ((repeat (first | with_reducible exact kis_of (by with_reducible assumption) | with_reducible refine kis_set ?_ | ((with_reducible refine kis_new ?_ ?_) <;> (first | with_reducible rfl | rfl | (simp; done))) | with_reducible refine kis_alloc _ ?_ | with_reducible refine kis_drew ?_ | with_reducible refine kis_call (by with_reducible assumption) ?_ | with_reducible exact kis_of (kcall (by with_reducible assumption) (by with_reducible assumption)))); done)) | with_reducible refine kother (by decide) ?_ | with_reducible refine kset (by first | omega | (simp; done) | (simp; omega)) ?_ | with_reducible refine kalloc _ ?_ | with_reducible refine kdrew ?_ | with_reducible refine kcall (by with_reducible assumption) ?_)))
            have qB0 : ∀ W : World, Below wA.heap.size wA W → W.cell? ⟨w.heap.size, 0, none⟩ = some (.int .i64 m1) := fun W h => bholds kB0 h
            have kB1 : wA.cell? ⟨w.heap.size, 1, none⟩ = some (.int .i64 m2) := by (first | with_reducible assumption | (repeat (first | with_reducible assumption | ((with_reducible refine kfresh ?_ ?_) <;> (first | with_reducible rfl | (simp; done))) | ((with_reducible refine ksameS ?_); focus ((repeat (first | with_reducible exact kis_of (by with_reducible assumption) | with_reducible refine kis_set ?_ | ((with_reducible refine kis_new ?_ ?_) <;> (first | with_reducible rfl | rfl | (simp; done))) | with_reducible refine kis_alloc _ ?_ | with_reducible refine kis_drew ?_ | with_reducible refine kis_call (by with_reducible assumption) ?_ | with_reducible exact kis_of (kcall (by with_reducible assumption) (by with_reducible assumption)))); done)) | with_reducible refine kother (by decide) ?_ | with_reducible refine kset (by first | omega | (simp; done) | (simp; omega)) ?_ | with_reducible refine kalloc _ ?_ | with_reducible refine kdrew ?_ | with_reducible refine kcall (by with_reducible assumption) ?_)))
            have qB1 : ∀ W : World, Below wA.heap.size wA W → W.cell? ⟨w.heap.size, 1, none⟩ = some (.int .i64 m2) := fun W h => bholds kB1 h
            have kB2 : wA.cell? ⟨w.heap.size, 2, none⟩ = some (.int .i64 m3) := by (first | with_reducible assumption | (repeat (first | with_reducible assumption | ((with_reducible refine kfresh ?_ ?_) <;> (first | with_reducible rfl | (simp; done))) | ((with_reducible refine ksameS ?_); focus ((repeat (first | with_reducible exact kis_of (by with_reducible assumption) | with_reducible refine kis_set ?_ | ((with_reducible refine kis_new ?_ ?_) <;> (first | with_reducible rfl | rfl | (simp; done))) | with_reducible refine kis_alloc _ ?_ | with_reducible refine kis_drew ?_ | with_reducible refine kis_call (by with_reducible assumption) ?_ | with_reducible exact kis_of (kcall (by with_reducible assumption) (by with_reducible assumption)))); done)) | with_reducible refine kother (by decide) ?_ | with_reducible refine kset (by first | omega | (simp; done) | (simp; omega)) ?_ | with_reducible refine kalloc _ ?_ | with_reducible refine kdrew ?_ | with_reducible refine kcall (by with_reducible assumption) ?_)))
            have qB2 : ∀ W : World, Below wA.heap.size wA W → W.cell? ⟨w.heap.size, 2, none⟩ = some (.int .i64 m3) := fun W h => bholds kB2 h
            have kB3 : wA.cell? ⟨w.heap.size, 3, none⟩ = some (.int .i64 m4) := by (first | with_reducible assumption | (repeat (first | with_reducible assumption | ((with_reducible refine kfresh ?_ ?_) <;> (first | with_reducible rfl | (simp; done))) | ((with_reducible refine ksameS ?_); focus ((repeat (first | with_reducible exact kis_of (by with_reducible assumption) | with_reducible refine kis_set ?_ | ((with_reducible refine kis_new ?_ ?_) <;> (first | with_reducible rfl | rfl | (simp; done))) | with_reducible refine kis_alloc _ ?_ | with_reducible refine kis_drew ?_ | with_reducible refine kis_call (by with_reducible assumption) ?_ | with_reducible exact kis_of (kcall (by with_reducible assumption) (by with_reducible assumption)))); done)) | with_reducible refine kother (by decide) ?_ | with_reducible refine kset (by first | omega | (simp; done) | (simp; omega)) ?_ | with_reducible refine kalloc _ ?_ | with_reducible refine kdrew ?_ | with_reducible refine kcall (by with_reducible assumption) ?_)))
            have qB3 : ∀ W : World, Below wA.heap.size wA W → W.cell? ⟨w.heap.size, 3, none⟩ = some (.int .i64 m4) := fun W h => bholds kB3 h
            have kB4 : wA.cell? ⟨w.heap.size, 4, none⟩ = some (.int .i64 m5) := by (first | with_reducible assumption | (repeat (first | with_reducible assumption | ((with_reducible refine kfresh ?_ ?_) <;> (first | with_reducible rfl | (simp; done))) | ((with_reducible refine ksameS ?_); focus ((repeat (first | with_reducible exact kis_of (by with_reducible assumption) | with_reducible refine kis_set ?_ | ((with_reducible refine kis_new ?_ ?_) <;> (first | with_reducible rfl | rfl | (simp; done))) | with_reducible refine kis_alloc _ ?_ | with_reducible refine kis_drew ?_ | with_reducible refine kis_call (by with_reducible assumption) ?_ | with_reducible exact kis_of (kcall (by with_reducible assumption) (by with_reducible assumption)))); done)) | with_reducible refine kother (by decide) ?_ | with_reducible refine kset (by first | omega | (simp; done) | (simp; omega)) ?_ | with_reducible refine kalloc _ ?_ | with_reducible refine kdrew ?_ | with_reducible refine kcall (by with_reducible assumption) ?_)))
            have qB4 : ∀ W : World, Below wA.heap.size wA W → W.cell? ⟨w.heap.size, 4, none⟩ = some (.int .i64 m5) := fun W h => bholds kB4 h
            have kB5 : wA.cell? ⟨w.heap.size, 5, none⟩ = some (.int .i64 m6) := by (first | with_reducible assumption | (repeat (first | with_reducible assumption | ((with_reducible refine kfresh ?_ ?_) <;> (first | with_reducible rfl | (simp; done))) | ((with_reducible refine ksameS ?_); focus ((repeat (first | with_reducible exact kis_of (by with_reducible assumption) | with_reducible refine kis_set ?_ | ((with_reducible refine kis_new ?_ ?_) <;> (first | with_reducible rfl | rfl | (simp; done))) | with_reducible refine kis_alloc _ ?_ | with_reducible refine kis_drew ?_ | with_reducible refine kis_call (by with_reducible assumption) ?_ | with_reducible exact kis_of (kcall (by with_reducible assumption) (by with_reducible assumption)))); done)) | with_reducible refine kother (by decide) ?_ | with_reducible refine kset (by first | omega | (simp; done) | (simp; omega)) ?_ | with_reducible refine kalloc _ ?_ | with_reducible refine kdrew ?_ | with_reducible refine kcall (by with_reducible assumption) ?_)))
            have qB5 : ∀ W : World, Below wA.heap.size wA W → W.cell? ⟨w.heap.size, 5, none⟩ = some (.int .i64 m6) := fun W h => bholds kB5 h
            have hWB : Below w.heap.size w wA := by (repeat (first | with_reducible exact Below.refl _ _ | with_reducible exact hxA | with_reducible refine balloc ?_ _ | with_reducible refine bdrewN ?_ _ | with_reducible refine Below.drew ?_ | with_reducible refine bthen ?_ (by with_reducible assumption) | with_reducible refine Below.setCell ?_ (by first | (simp; done) | (simp; omega)) _))
            go_upto_region 6 with fail
            go_cut [20] (fun s20 wx => s20 = .bool ((m1 == 1 && m2 == 0 && m3 == 0 && m4 == 1)) ∧ Below wA.heap.size wA wx)
            case first =>
              go_region_held3 (fun W => Below wA.heap.size wA W) (first | ((with_reducible refine Below.setCell ?_ (by first | exact Nat.le_refl _ | omega | (simp; done) | (simp; omega)) _); (repeat with_reducible refine Below.setCell ?_ (by first | exact Nat.le_refl _ | omega | (simp; done) | (simp; omega)) _); with_reducible assumption) | with_reducible assumption | with_reducible exact bthen (by with_reducible assumption) hB | with_reducible exact bfromdrew hB | with_reducible exact balloc (by with_reducible assumption) _ | with_reducible exact Below.drew (balloc (bundrew (by with_reducible assumption)) _) | with_reducible exact brealloc (by first | exact Nat.le_refl _ | omega | (simp; done) | (simp; omega)) (by with_reducible assumption) | with_reducible exact Below.drew (brealloc (by first | exact Nat.le_refl _ | omega | (simp; done) | (simp; omega)) (bundrew (by with_reducible assumption))) | with_reducible exact brealloc2 (by first | exact Nat.le_refl _ | omega | (simp; done) | (simp; omega)) (by with_reducible assumption) | ((repeat (first | with_reducible assumption | with_reducible refine Below.setCell ?_ (by first | exact Nat.le_refl _ | omega | (simp; done) | (simp; omega)) _)); done) | (with_reducible refine balloc ?_ _; (repeat (first | with_reducible exact bback (by first | exact Nat.le_refl _ | omega | (simp; done) | (simp; omega)) (by with_reducible assumption) | with_reducible refine Below.setCell ?_ (by first | exact Nat.le_refl _ | omega | (simp; done) | (simp; omega)) _)); done) | with_reducible exact Below.refl _ _ | with_reducible exact Below.drew (Below.refl _ _) | with_reducible exact Below.drew (by with_reducible assumption)) (first | (go_at_call 82; refine Calls.mono (shiftBy_any _ _ _ ) ?_; rintro e wq ⟨rfl, hB⟩; have hBs := hB.size; (try simp at hBs)))
              all_goals
                go_wp2_with fail
                go_meet
                refine ⟨rfl, ?_⟩
                · (first | with_reducible assumption | exact Below.drew (by with_reducible assumption) | exact bundrew (by with_reducible assumption) | (repeat (first | with_reducible exact Below.refl _ _ | with_reducible refine balloc ?_ _ | with_reducible refine bdrewN ?_ _ | with_reducible refine Below.drew ?_ | with_reducible refine bthen ?_ (by with_reducible assumption) | with_reducible refine Below.setCell ?_ (by first | (simp; done) | (simp; omega)) _)))
            case' rest => obtain ⟨rfl, hzB⟩ := hcut
            obtain ⟨wB, rfl⟩ : ∃ wB : World, wB = wc := ⟨_, rfl⟩
            have hsB := hzB.size
            have hxB : Below w.heap.size w wB := bthen hWB hzB
            have bB0 := qB0 wB hzB
            have bB1 := qB1 wB hzB
            have bB2 := qB2 wB hzB
            have bB3 := qB3 wB hzB
            have bB4 := qB4 wB hzB
            have bB5 := qB5 wB hzB
            clear qB0 qB1 qB2 qB3 qB4 qB5
            have lB_1 : w.heap.size < wB.heap.size := by omega
            obtain ⟨bq6, hbq6⟩ : ∃ b : Bool, b = (m1 == 1 && m2 == 0 && m3 == 0 && m4 == 1) := ⟨_, rfl⟩
            try rw [← hbq6]
            rcases bool_ways bq6 with hq6 | hq6
            · have hd6 := hbq6.symm.trans hq6
              clear hbq6
              subst hq6
              skip
              obtain ⟨v1, hv1⟩ : ∃ v : Int, v = sgn p m1 m2 m3 m4 := ⟨_, rfl⟩
              have rv1 := sgn_r m1 m2 m3 m4 hp
              rw [← hv1] at rv1
              have Hv1 := Lib.hid hv1
              clear hv1
              go_wp2_with fail
              refine Calls.mono (implSign_any _ _ _ _ _ _ _ _ hp (by omega) (by omega) (by omega) (by omega) (by omega) (by omega)) ?_
              rw [← Hv1.out]
              rintro e w2 ⟨rfl, hB2⟩
              (obtain ⟨hB2c, hB2f⟩ := bcell hB2; have hB2s := hB2.size; (try simp at hB2s); (try have hB2q1 := Nat.lt_of_succ_le hB2s); (try have hB2q2 := Nat.lt_of_succ_lt hB2q1); (try have hB2q3 := Nat.lt_of_succ_lt hB2q2); (try have hB2zw0 : w.heap.size < w2.heap.size := (by omega)); (try have hB2zw1 : w.heap.size + 1 < w2.heap.size := (by omega)); (try have hB2zw2 : w.heap.size + 1 + 1 < w2.heap.size := (by omega)); (try have hB2zw3 : w.heap.size + 1 + 1 + 1 < w2.heap.size := (by omega)); (try have hB2zw4 : w.heap.size + 1 + 1 + 1 + 1 < w2.heap.size := (by omega)); (try have hB2zwB0 : wB.heap.size < w2.heap.size := (by omega)); (try have hB2zwB1 : wB.heap.size + 1 < w2.heap.size := (by omega)); (try have hB2zwB2 : wB.heap.size + 1 + 1 < w2.heap.size := (by omega)); (try have hB2zwB3 : wB.heap.size + 1 + 1 + 1 < w2.heap.size := (by omega)); (try have hB2zwB4 : wB.heap.size + 1 + 1 + 1 + 1 < w2.heap.size := (by omega)))
              rcases bool_ways (v1 == 1) with hd7 | hd7
              · have hd7n : (v1 != 1) = true := by rw [bne, hd7]; rfl
                have Hhd7p := Lib.hid (beq_eq_false_iff_ne.1 hd7)
                obtain ⟨nL1, hnL1⟩ : ∃ n : Nat, n = (fxL p m1 m2 m3 m4 m5 m6).length := ⟨_, rfl⟩
                have HnL1 := Lib.hid hnL1
                clear hnL1
                go_wp2_with fail
                refine Calls.mono (implFixed_any _ _ _ _ _ _ _ _ hp (by omega) (by omega) (by omega) (by omega) (by omega) (by omega)) ?_
                rw [← HnL1.out]
                rintro e w3 ⟨vL1, rfl, hoL1, hB3⟩
                (obtain ⟨hB3c, hB3f⟩ := bcell hB3; have hB3s := hB3.size; (try simp at hB3s); (try have hB3q1 := Nat.lt_of_succ_le hB3s); (try have hB3q2 := Nat.lt_of_succ_lt hB3q1); (try have hB3q3 := Nat.lt_of_succ_lt hB3q2); (try have hB3zw0 : w.heap.size < w3.heap.size := (by omega)); (try have hB3zw1 : w.heap.size + 1 < w3.heap.size := (by omega)); (try have hB3zw2 : w.heap.size + 1 + 1 < w3.heap.size := (by omega)); (try have hB3zw3 : w.heap.size + 1 + 1 + 1 < w3.heap.size := (by omega)); (try have hB3zw4 : w.heap.size + 1 + 1 + 1 + 1 < w3.heap.size := (by omega)); (try have hB3zw20 : w2.heap.size < w3.heap.size := (by omega)); (try have hB3zw21 : w2.heap.size + 1 < w3.heap.size := (by omega)); (try have hB3zw22 : w2.heap.size + 1 + 1 < w3.heap.size := (by omega)); (try have hB3zw23 : w2.heap.size + 1 + 1 + 1 < w3.heap.size := (by omega)); (try have hB3zw24 : w2.heap.size + 1 + 1 + 1 + 1 < w3.heap.size := (by omega)); (try have hB3zwB0 : wB.heap.size < w3.heap.size := (by omega)); (try have hB3zwB1 : wB.heap.size + 1 < w3.heap.size := (by omega)); (try have hB3zwB2 : wB.heap.size + 1 + 1 < w3.heap.size := (by omega)); (try have hB3zwB3 : wB.heap.size + 1 + 1 + 1 < w3.heap.size := (by omega)); (try have hB3zwB4 : wB.heap.size + 1 + 1 + 1 + 1 < w3.heap.size := (by omega)))
                obtain ⟨aL1, cL1, rfl, -, -⟩ := own_shape hoL1
                rcases bool_ways (decide (0 < (nL1 : Int))) with hd8 | hd8
                · have hd8p := of_decide_eq_false hd8
                  have HB : kdB p col m1 m2 m3 m4 m5 m6 = true := by simp [kdB, hd1, hd2, hd3, hd4, hd5, hd6, hd7, hd8]
                  have HS : kdS p col m1 m2 m3 m4 m5 m6 = 0 := by (simp only [kdS, ← Hv1.out] <;> simp [hd1, hd2, hd3, hd4, hd5, hd6, hd7, hd8])
                  have HV := Lib.hid (show kdV1 p col m1 m2 m3 m4 m5 m6 = 4 ∧ kdC p col m1 m2 m3 m4 m5 m6 = 0 from by
                    have HG := kd_good (col := col) (m1 := m1) (m2 := m2) (m3 := m3) (m4 := m4) (m5 := m5) (m6 := m6) hp HB HS
                    refine ⟨(HG.1).trans ?_, HG.2⟩
                    all_goals (have e6 : (m1 == 1 && m2 == 0 && m3 == 0 && m4 == 1 && m5 == 0 && m6 == 0) = ((m1 == 1 && m2 == 0 && m3 == 0 && m4 == 1) && (m5 == 0 && m6 == 0)) := (by simp only [Bool.and_assoc]); rw [e6] at hd5; simp only [kdK, ← Hv1.out, ← HnL1.out]; have hq := of_decide_eq_false hd8; simp_all))
                  clear HB HS
                  go_wp2
                  (refine bodyPost_ret (v := .tuple #[.int .i64 (kdV1 p col m1 m2 m3 m4 m5 m6), .int .i64 (kdC p col m1 m2 m3 m4 m5 m6)]) (by simp [results, Try.results41, go_sem, HV.out.1, HV.out.2, *]) rfl ⟨?_, ?_⟩)
                  · rfl
                  · (repeat (first | with_reducible exact Below.refl _ _ | with_reducible exact hxB | with_reducible refine balloc ?_ _ | with_reducible refine bdrewN ?_ _ | with_reducible refine Below.drew ?_ | with_reducible refine bthen ?_ (by with_reducible assumption) | with_reducible refine Below.setCell ?_ (by first | (simp; done) | (simp; omega)) _))
                · have hd8p := of_decide_eq_true hd8
                  have HB : kdB p col m1 m2 m3 m4 m5 m6 = true := by simp [kdB, hd1, hd2, hd3, hd4, hd5, hd6, hd7, hd8]
                  have HS : kdS p col m1 m2 m3 m4 m5 m6 = 0 := by (simp only [kdS, ← Hv1.out] <;> simp [hd1, hd2, hd3, hd4, hd5, hd6, hd7, hd8])
                  have HV := Lib.hid (show kdV1 p col m1 m2 m3 m4 m5 m6 = 3 ∧ kdC p col m1 m2 m3 m4 m5 m6 = 0 from by
                    have HG := kd_good (col := col) (m1 := m1) (m2 := m2) (m3 := m3) (m4 := m4) (m5 := m5) (m6 := m6) hp HB HS
                    refine ⟨(HG.1).trans ?_, HG.2⟩
                    all_goals (have e6 : (m1 == 1 && m2 == 0 && m3 == 0 && m4 == 1 && m5 == 0 && m6 == 0) = ((m1 == 1 && m2 == 0 && m3 == 0 && m4 == 1) && (m5 == 0 && m6 == 0)) := (by simp only [Bool.and_assoc]); rw [e6] at hd5; simp only [kdK, ← Hv1.out, ← HnL1.out]; have hq := of_decide_eq_true hd8; simp_all))
                  clear HB HS
                  go_wp2
                  (refine bodyPost_ret (v := .tuple #[.int .i64 (kdV1 p col m1 m2 m3 m4 m5 m6), .int .i64 (kdC p col m1 m2 m3 m4 m5 m6)]) (by simp [results, Try.results41, go_sem, HV.out.1, HV.out.2, *]) rfl ⟨?_, ?_⟩)
                  · rfl
                  · (repeat (first | with_reducible exact Below.refl _ _ | with_reducible exact hxB | with_reducible refine balloc ?_ _ | with_reducible refine bdrewN ?_ _ | with_reducible refine Below.drew ?_ | with_reducible refine bthen ?_ (by with_reducible assumption) | with_reducible refine Below.setCell ?_ (by first | (simp; done) | (simp; omega)) _))
              · have hd7n : (v1 != 1) = false := by rw [bne, hd7]; rfl
                have Hhd7p := Lib.hid (beq_iff_eq.1 hd7)
                have HB : kdB p col m1 m2 m3 m4 m5 m6 = true := by simp [kdB, hd1, hd2, hd3, hd4, hd5, hd6, hd7]
                have HS : kdS p col m1 m2 m3 m4 m5 m6 = 0 := by (simp only [kdS, ← Hv1.out] <;> simp [hd1, hd2, hd3, hd4, hd5, hd6, hd7])
                have HV := Lib.hid (show kdV1 p col m1 m2 m3 m4 m5 m6 = 2 ∧ kdC p col m1 m2 m3 m4 m5 m6 = 0 from by
                  have HG := kd_good (col := col) (m1 := m1) (m2 := m2) (m3 := m3) (m4 := m4) (m5 := m5) (m6 := m6) hp HB HS
                  refine ⟨(HG.1).trans ?_, HG.2⟩
                  all_goals (have e6 : (m1 == 1 && m2 == 0 && m3 == 0 && m4 == 1 && m5 == 0 && m6 == 0) = ((m1 == 1 && m2 == 0 && m3 == 0 && m4 == 1) && (m5 == 0 && m6 == 0)) := (by simp only [Bool.and_assoc]); rw [e6] at hd5; simp only [kdK, ← Hv1.out]; simp_all))
                clear HB HS
                go_wp2
                (refine bodyPost_ret (v := .tuple #[.int .i64 (kdV1 p col m1 m2 m3 m4 m5 m6), .int .i64 (kdC p col m1 m2 m3 m4 m5 m6)]) (by simp [results, Try.results41, go_sem, HV.out.1, HV.out.2, *]) rfl ⟨?_, ?_⟩)
                · rfl
                · (repeat (first | with_reducible exact Below.refl _ _ | with_reducible exact hxB | with_reducible refine balloc ?_ _ | with_reducible refine bdrewN ?_ _ | with_reducible refine Below.drew ?_ | with_reducible refine bthen ?_ (by with_reducible assumption) | with_reducible refine Below.setCell ?_ (by first | (simp; done) | (simp; omega)) _))
            · have hd6 := hbq6.symm.trans hq6
              clear hbq6
              subst hq6
              skip
              have HB : kdB p col m1 m2 m3 m4 m5 m6 = true := by simp [kdB, hd1, hd2, hd3, hd4, hd5, hd6]
              have HS : kdS p col m1 m2 m3 m4 m5 m6 = 0 := by (simp only [kdS] <;> simp [hd1, hd2, hd3, hd4, hd5, hd6])
              have HV := Lib.hid (show kdV1 p col m1 m2 m3 m4 m5 m6 = 1 ∧ kdC p col m1 m2 m3 m4 m5 m6 = 0 from by
                have HG := kd_good (col := col) (m1 := m1) (m2 := m2) (m3 := m3) (m4 := m4) (m5 := m5) (m6 := m6) hp HB HS
                refine ⟨(HG.1).trans ?_, HG.2⟩
                all_goals (have e6 : (m1 == 1 && m2 == 0 && m3 == 0 && m4 == 1 && m5 == 0 && m6 == 0) = ((m1 == 1 && m2 == 0 && m3 == 0 && m4 == 1) && (m5 == 0 && m6 == 0)) := (by simp only [Bool.and_assoc]); rw [e6] at hd5; simp only [kdK]; simp_all))
              clear HB HS
              go_wp2
              (refine bodyPost_ret (v := .tuple #[.int .i64 (kdV1 p col m1 m2 m3 m4 m5 m6), .int .i64 (kdC p col m1 m2 m3 m4 m5 m6)]) (by simp [results, Try.results41, go_sem, HV.out.1, HV.out.2, *]) rfl ⟨?_, ?_⟩)
              · rfl
              · (repeat (first | with_reducible exact Below.refl _ _ | with_reducible exact hxB | with_reducible refine balloc ?_ _ | with_reducible refine bdrewN ?_ _ | with_reducible refine Below.drew ?_ | with_reducible refine bthen ?_ (by with_reducible assumption) | with_reducible refine Below.setCell ?_ (by first | (simp; done) | (simp; omega)) _))
          · have hd5 := hbq5.symm.trans hq5
            clear hbq5
            subst hq5
            skip
            have HB : kdB p col m1 m2 m3 m4 m5 m6 = true := by simp [kdB, hd1, hd2, hd3, hd4, hd5]
            have HS : kdS p col m1 m2 m3 m4 m5 m6 = 0 := by (simp only [kdS] <;> simp [hd1, hd2, hd3, hd4, hd5])
            have HV := Lib.hid (show kdV1 p col m1 m2 m3 m4 m5 m6 = 0 ∧ kdC p col m1 m2 m3 m4 m5 m6 = 0 from by
              have HG := kd_good (col := col) (m1 := m1) (m2 := m2) (m3 := m3) (m4 := m4) (m5 := m5) (m6 := m6) hp HB HS
              refine ⟨(HG.1).trans ?_, HG.2⟩
              all_goals (have e6 : (m1 == 1 && m2 == 0 && m3 == 0 && m4 == 1 && m5 == 0 && m6 == 0) = ((m1 == 1 && m2 == 0 && m3 == 0 && m4 == 1) && (m5 == 0 && m6 == 0)) := (by simp only [Bool.and_assoc]); rw [e6] at hd5; simp only [kdK]; simp_all))
            clear HB HS
            go_wp2
            (refine bodyPost_ret (v := .tuple #[.int .i64 (kdV1 p col m1 m2 m3 m4 m5 m6), .int .i64 (kdC p col m1 m2 m3 m4 m5 m6)]) (by simp [results, Try.results41, go_sem, HV.out.1, HV.out.2, *]) rfl ⟨?_, ?_⟩)
            · rfl
            · (repeat (first | with_reducible exact Below.refl _ _ | with_reducible exact hxA | with_reducible refine balloc ?_ _ | with_reducible refine bdrewN ?_ _ | with_reducible refine Below.drew ?_ | with_reducible refine bthen ?_ (by with_reducible assumption) | with_reducible refine Below.setCell ?_ (by first | (simp; done) | (simp; omega)) _))

end Go.Proofs.Ythfckpfiechloaa
