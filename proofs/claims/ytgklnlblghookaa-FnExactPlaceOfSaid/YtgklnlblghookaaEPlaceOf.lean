/-
  PlaceOf: the program's and the model's.
-/
import Derived.Test.YtgklnlblghookaaSpecPlMade
import Derived.Test.YtgklnlblghookaaImplPlMade
import Derived.Test.YtgklnlblghookaaSpecNums
import Derived.Test.YtgklnlblghookaaImplNums
import Derived.Test.YtgklnlblghookaaCode
import Derived.Test.YtgklnlblghookaaPlEq
import Derived.Deep.RegionHeld3
import Derived.Deep.DeepCutAuto
import Derived.Test.YtgklnlblghookaaBaseMath
import Derived.Test.YtgklnlblghookaaLast
namespace Go.Proofs.Ytgklnlblghookaa
open Go.RowKit

set_option linter.unusedVariables false in
def pyB (p x y z : Int) : Bool := numsIn p [x, y, z]
set_option linter.unusedVariables false in
def pyS (p x y z : Int) : Int := if (x == 0 && y == 0 && z == 0) = true then 5 else 0
set_option linter.unusedVariables false in
def pyC (p x y z : Int) : Int := if isP p = true then (if pyB p x y z = true then pyS p x y z else 2) else 1
set_option linter.unusedVariables false in
def pyV1 (p x y z : Int) : Int := if pyC p x y z = 0 then ck p x y z x else 0
set_option linter.unusedVariables false in
def pyV2 (p x y z : Int) : Int := if pyC p x y z = 0 then ck p x y z y else 0
set_option linter.unusedVariables false in
def pyV3 (p x y z : Int) : Int := if pyC p x y z = 0 then ck p x y z z else 0
theorem py_zero {p x y z k : Int} (h : pyC p x y z = k) (hk : k ≠ 0) : pyV1 p x y z = 0 ∧ pyV2 p x y z = 0 ∧ pyV3 p x y z = 0 ∧ pyC p x y z = k := by
  have hn : ¬ (pyC p x y z = 0) := fun e => hk (h.symm.trans e)
  exact ⟨if_neg hn, if_neg hn, if_neg hn, h⟩
theorem py_no {p x y z : Int} (h : isP p = false) : pyV1 p x y z = 0 ∧ pyV2 p x y z = 0 ∧ pyV3 p x y z = 0 ∧ pyC p x y z = 1 := py_zero (by simp [pyC, h]) (by decide)
theorem py_out {p x y z : Int} (hp : isP p = true) (h : pyB p x y z = false) : pyV1 p x y z = 0 ∧ pyV2 p x y z = 0 ∧ pyV3 p x y z = 0 ∧ pyC p x y z = 2 := py_zero (by simp [pyC, hp, h]) (by decide)
theorem py_st {p x y z k : Int} (hp : isP p = true) (h : pyB p x y z = true) (hs : pyS p x y z = k) (hk : k ≠ 0) : pyV1 p x y z = 0 ∧ pyV2 p x y z = 0 ∧ pyV3 p x y z = 0 ∧ pyC p x y z = k := py_zero (by simp [pyC, hp, h, hs]) hk
theorem py_good {p x y z : Int} (hp : isP p = true) (h : pyB p x y z = true) (hs : pyS p x y z = 0) : pyV1 p x y z = ck p x y z x ∧ pyV2 p x y z = ck p x y z y ∧ pyV3 p x y z = ck p x y z z ∧ pyC p x y z = 0 := by
  have h' : pyC p x y z = 0 := by simp [pyC, hp, h, hs]
  exact ⟨if_pos h', if_pos h', if_pos h', h'⟩

set_option linter.unusedVariables false in
set_option linter.unusedSimpArgs false in
set_option maxRecDepth 20000 in
set_option maxHeartbeats 4000000 in
theorem specPlaceOf_any (p x y z : Int)  (w : World) :
    Calls Try.prog 12 #[.int .i64 p, .int .i64 x, .int .i64 y, .int .i64 z] w fun e w' =>
      e = .returned (.tuple #[.agg #[.int .i64 (pyV1 p x y z), .int .i64 (pyV2 p x y z), .int .i64 (pyV3 p x y z)], .int .i64 (pyC p x y z)]) ∧ Below w.heap.size w w' := by
  have heq := equalPlace
  go_enter Try.func12, Try.ntmps12
  rcases bool_ways (isP p) with hd1 | hd1
  · skip
    have c_1 : codeOf p (numsIn p [x, y, z]) = 1 := codeOf_no hd1
    have cN : ∀ b, codeOf p b = 1 := fun b => codeOf_no hd1
    go_upto_region 1 with fail
    refine wp_name (fun wR1 hwR1 => ?_)
    have sR1 : w.heap.size + 1 ≤ wR1.heap.size := by rw [hwR1]; (first | exact Nat.le_refl _ | (simp; done) | (simp; omega))
    have hxR1 : Below w.heap.size w wR1 := by rw [hwR1]; (repeat (first | with_reducible exact Below.refl _ _ | with_reducible refine balloc ?_ _ | with_reducible refine bdrewN ?_ _ | with_reducible refine Below.drew ?_ | with_reducible refine bthen ?_ (by with_reducible assumption) | with_reducible refine Below.setCell ?_ (by first | (simp; done) | (simp; omega)) _))
    have kR1_0_0 : wR1.cell? ⟨w.heap.size, 0, none⟩ = some (.int .i64 0) := by (first | (rw [hwR1]; with_reducible assumption) | (rw [hwR1]; (repeat (first | with_reducible assumption | ((with_reducible refine kfresh ?_ ?_) <;> (first | with_reducible rfl | (simp; done))) | ((with_reducible refine ksameS ?_); focus ((repeat (first | with_reducible exact kis_of (by with_reducible assumption) | with_reducible refine kis_set ?_ | ((with_reducible refine kis_new ?_ ?_) <;> (first | with_reducible rfl | rfl | (simp; done))) | with_reducible refine kis_alloc _ ?_ | with_reducible refine kis_drew ?_ | with_reducible refine kis_call (by with_reducible assumption) ?_ | with_reducible exact kis_of (kcall (by with_reducible assumption) (by with_reducible assumption)))); done)) | with_reducible refine kother (by decide) ?_ | with_reducible refine kset (by first | omega | (simp; done) | (simp; omega)) ?_ | with_reducible refine kalloc _ ?_ | with_reducible refine kdrew ?_ | with_reducible refine kdrewN ?_ | with_reducible refine kcall (by with_reducible assumption) ?_)); done) | (rw [hwR1]; (repeat (first | with_reducible assumption | ((with_reducible refine kfresh ?_ ?_) <;> (first | with_reducible rfl | (simp; done))) | ((with_reducible refine ksameS ?_); focus ((repeat (first | with_reducible exact kis_of (by with_reducible assumption) | with_reducible refine kis_set ?_ | ((with_reducible refine kis_new ?_ ?_) <;> (first | with_reducible rfl | rfl | (simp; done))) | with_reducible refine kis_alloc _ ?_ | with_reducible refine kis_drew ?_ | with_reducible refine kis_call (by with_reducible assumption) ?_ | with_reducible exact kis_of (kcall (by with_reducible assumption) (by with_reducible assumption)))); done)) | with_reducible refine kother (by decide) ?_ | with_reducible refine kset (by first | omega | (simp; done) | (simp; omega)) ?_ | with_reducible refine kalloc _ ?_ | with_reducible refine kdrew ?_ | with_reducible refine kdrewN ?_ | with_reducible refine kcall (by with_reducible assumption) ?_))))
    have kR1_0_1 : wR1.cell? ⟨w.heap.size, 1, none⟩ = some (.int .i64 0) := by (first | (rw [hwR1]; with_reducible assumption) | (rw [hwR1]; (repeat (first | with_reducible assumption | ((with_reducible refine kfresh ?_ ?_) <;> (first | with_reducible rfl | (simp; done))) | ((with_reducible refine ksameS ?_); focus ((repeat (first | with_reducible exact kis_of (by with_reducible assumption) | with_reducible refine kis_set ?_ | ((with_reducible refine kis_new ?_ ?_) <;> (first | with_reducible rfl | rfl | (simp; done))) | with_reducible refine kis_alloc _ ?_ | with_reducible refine kis_drew ?_ | with_reducible refine kis_call (by with_reducible assumption) ?_ | with_reducible exact kis_of (kcall (by with_reducible assumption) (by with_reducible assumption)))); done)) | with_reducible refine kother (by decide) ?_ | with_reducible refine kset (by first | omega | (simp; done) | (simp; omega)) ?_ | with_reducible refine kalloc _ ?_ | with_reducible refine kdrew ?_ | with_reducible refine kdrewN ?_ | with_reducible refine kcall (by with_reducible assumption) ?_)); done) | (rw [hwR1]; (repeat (first | with_reducible assumption | ((with_reducible refine kfresh ?_ ?_) <;> (first | with_reducible rfl | (simp; done))) | ((with_reducible refine ksameS ?_); focus ((repeat (first | with_reducible exact kis_of (by with_reducible assumption) | with_reducible refine kis_set ?_ | ((with_reducible refine kis_new ?_ ?_) <;> (first | with_reducible rfl | rfl | (simp; done))) | with_reducible refine kis_alloc _ ?_ | with_reducible refine kis_drew ?_ | with_reducible refine kis_call (by with_reducible assumption) ?_ | with_reducible exact kis_of (kcall (by with_reducible assumption) (by with_reducible assumption)))); done)) | with_reducible refine kother (by decide) ?_ | with_reducible refine kset (by first | omega | (simp; done) | (simp; omega)) ?_ | with_reducible refine kalloc _ ?_ | with_reducible refine kdrew ?_ | with_reducible refine kdrewN ?_ | with_reducible refine kcall (by with_reducible assumption) ?_))))
    have kR1_0_2 : wR1.cell? ⟨w.heap.size, 2, none⟩ = some (.int .i64 0) := by (first | (rw [hwR1]; with_reducible assumption) | (rw [hwR1]; (repeat (first | with_reducible assumption | ((with_reducible refine kfresh ?_ ?_) <;> (first | with_reducible rfl | (simp; done))) | ((with_reducible refine ksameS ?_); focus ((repeat (first | with_reducible exact kis_of (by with_reducible assumption) | with_reducible refine kis_set ?_ | ((with_reducible refine kis_new ?_ ?_) <;> (first | with_reducible rfl | rfl | (simp; done))) | with_reducible refine kis_alloc _ ?_ | with_reducible refine kis_drew ?_ | with_reducible refine kis_call (by with_reducible assumption) ?_ | with_reducible exact kis_of (kcall (by with_reducible assumption) (by with_reducible assumption)))); done)) | with_reducible refine kother (by decide) ?_ | with_reducible refine kset (by first | omega | (simp; done) | (simp; omega)) ?_ | with_reducible refine kalloc _ ?_ | with_reducible refine kdrew ?_ | with_reducible refine kdrewN ?_ | with_reducible refine kcall (by with_reducible assumption) ?_)); done) | (rw [hwR1]; (repeat (first | with_reducible assumption | ((with_reducible refine kfresh ?_ ?_) <;> (first | with_reducible rfl | (simp; done))) | ((with_reducible refine ksameS ?_); focus ((repeat (first | with_reducible exact kis_of (by with_reducible assumption) | with_reducible refine kis_set ?_ | ((with_reducible refine kis_new ?_ ?_) <;> (first | with_reducible rfl | rfl | (simp; done))) | with_reducible refine kis_alloc _ ?_ | with_reducible refine kis_drew ?_ | with_reducible refine kis_call (by with_reducible assumption) ?_ | with_reducible exact kis_of (kcall (by with_reducible assumption) (by with_reducible assumption)))); done)) | with_reducible refine kother (by decide) ?_ | with_reducible refine kset (by first | omega | (simp; done) | (simp; omega)) ?_ | with_reducible refine kalloc _ ?_ | with_reducible refine kdrew ?_ | with_reducible refine kdrewN ?_ | with_reducible refine kcall (by with_reducible assumption) ?_))))
    have fR1_0_0 : wR1.frozen? ⟨w.heap.size, 0, none⟩ = false := by rw [hwR1]; (first | with_reducible assumption | (repeat (first | with_reducible assumption | with_reducible refine fdrew ?_ | with_reducible refine fdrewN ?_ | with_reducible refine fset ?_ | ((with_reducible refine fallocNew ?_) <;> (first | with_reducible rfl | (simp; done))) | ((with_reducible refine kfro (by with_reducible assumption) ?_ ?_); focus (first | with_reducible assumption | omega | (simp; done) | (simp; omega))) | ((with_reducible refine falloc ?_ ?_); focus (first | with_reducible assumption | omega | (simp; done) | (simp; omega))))))
    have fR1_0_1 : wR1.frozen? ⟨w.heap.size, 1, none⟩ = false := by rw [hwR1]; (first | with_reducible assumption | (repeat (first | with_reducible assumption | with_reducible refine fdrew ?_ | with_reducible refine fdrewN ?_ | with_reducible refine fset ?_ | ((with_reducible refine fallocNew ?_) <;> (first | with_reducible rfl | (simp; done))) | ((with_reducible refine kfro (by with_reducible assumption) ?_ ?_); focus (first | with_reducible assumption | omega | (simp; done) | (simp; omega))) | ((with_reducible refine falloc ?_ ?_); focus (first | with_reducible assumption | omega | (simp; done) | (simp; omega))))))
    have fR1_0_2 : wR1.frozen? ⟨w.heap.size, 2, none⟩ = false := by rw [hwR1]; (first | with_reducible assumption | (repeat (first | with_reducible assumption | with_reducible refine fdrew ?_ | with_reducible refine fdrewN ?_ | with_reducible refine fset ?_ | ((with_reducible refine fallocNew ?_) <;> (first | with_reducible rfl | (simp; done))) | ((with_reducible refine kfro (by with_reducible assumption) ?_ ?_); focus (first | with_reducible assumption | omega | (simp; done) | (simp; omega))) | ((with_reducible refine falloc ?_ ?_); focus (first | with_reducible assumption | omega | (simp; done) | (simp; omega))))))
    have lR1_0 : w.heap.size < wR1.heap.size := by omega
    clear hwR1
    go_wp2_with fail
    refine Calls.mono (numbers_any _ _ _ _ _ [x, y, z] _ rfl (by simp) (by exact cells_at (by simp) [x, y, z] _)) ?_
    rintro e w' ⟨rfl, rfl⟩
    go_upto_region 2 with fail
    refine wp_name (fun wR2 hwR2 => ?_)
    have sR2 : wR1.heap.size + 1 ≤ wR2.heap.size := by rw [hwR2]; (first | exact Nat.le_refl _ | (simp; done) | (simp; omega))
    have hxR2 : Below w.heap.size w wR2 := by rw [hwR2]; (repeat (first | with_reducible exact Below.refl _ _ | with_reducible exact hxR1 | with_reducible refine balloc ?_ _ | with_reducible refine bdrewN ?_ _ | with_reducible refine Below.drew ?_ | with_reducible refine bthen ?_ (by with_reducible assumption) | with_reducible refine Below.setCell ?_ (by first | (simp; done) | (simp; omega)) _))
    have kR2_0_0 : wR2.cell? ⟨w.heap.size, 0, none⟩ = some (.int .i64 0) := by rw [hwR2]; with_reducible exact (kalloc _ kR1_0_0)
    have kR2_0_1 : wR2.cell? ⟨w.heap.size, 1, none⟩ = some (.int .i64 0) := by rw [hwR2]; with_reducible exact (kalloc _ kR1_0_1)
    have kR2_0_2 : wR2.cell? ⟨w.heap.size, 2, none⟩ = some (.int .i64 0) := by rw [hwR2]; with_reducible exact (kalloc _ kR1_0_2)
    have fR2_0_0 : wR2.frozen? ⟨w.heap.size, 0, none⟩ = false := by rw [hwR2]; with_reducible exact (falloc (by first | omega | (simp; omega)) fR1_0_0)
    have fR2_0_1 : wR2.frozen? ⟨w.heap.size, 1, none⟩ = false := by rw [hwR2]; with_reducible exact (falloc (by first | omega | (simp; omega)) fR1_0_1)
    have fR2_0_2 : wR2.frozen? ⟨w.heap.size, 2, none⟩ = false := by rw [hwR2]; with_reducible exact (falloc (by first | omega | (simp; omega)) fR1_0_2)
    have lR2_0 : w.heap.size < wR2.heap.size := by omega
    clear kR1_0_0 kR1_0_1 kR1_0_2 fR1_0_0 fR1_0_1 fR1_0_2
    clear hwR2
    have HV := Lib.hid (py_no (x := x) (y := y) (z := z) hd1)
    go_wp2
    (refine bodyPost_ret (v := .tuple #[.agg #[.int .i64 (pyV1 p x y z), .int .i64 (pyV2 p x y z), .int .i64 (pyV3 p x y z)], .int .i64 (pyC p x y z)]) (by simp [results, Try.results12, go_sem, HV.out.1, HV.out.2.1, HV.out.2.2.1, HV.out.2.2.2, *]) rfl ⟨?_, ?_⟩)
    · rfl
    · (repeat (first | with_reducible exact Below.refl _ _ | with_reducible exact hxR2 | with_reducible refine balloc ?_ _ | with_reducible refine bdrewN ?_ _ | with_reducible refine Below.drew ?_ | with_reducible refine bthen ?_ (by with_reducible assumption) | with_reducible refine Below.setCell ?_ (by first | (simp; done) | (simp; omega)) _))
  · have hp := hd1
    have hr := isP_range hp
    rcases bool_ways (numsIn p [x, y, z]) with hd2 | hd2
    · skip
      have c_1 : codeOf p (numsIn p [x, y, z]) = 2 := codeOf_out hp (by simp [hd2])
      have cT : codeOf p true = 0 := codeOf_in hp rfl
      have cF : codeOf p false = 2 := codeOf_out hp rfl
      go_upto_region 1 with fail
      refine wp_name (fun wR1 hwR1 => ?_)
      have sR1 : w.heap.size + 1 ≤ wR1.heap.size := by rw [hwR1]; (first | exact Nat.le_refl _ | (simp; done) | (simp; omega))
      have hxR1 : Below w.heap.size w wR1 := by rw [hwR1]; (repeat (first | with_reducible exact Below.refl _ _ | with_reducible refine balloc ?_ _ | with_reducible refine bdrewN ?_ _ | with_reducible refine Below.drew ?_ | with_reducible refine bthen ?_ (by with_reducible assumption) | with_reducible refine Below.setCell ?_ (by first | (simp; done) | (simp; omega)) _))
      have kR1_0_0 : wR1.cell? ⟨w.heap.size, 0, none⟩ = some (.int .i64 0) := by (first | (rw [hwR1]; with_reducible assumption) | (rw [hwR1]; (repeat (first | with_reducible assumption | ((with_reducible refine kfresh ?_ ?_) <;> (first | with_reducible rfl | (simp; done))) | ((with_reducible refine ksameS ?_); focus ((repeat (first | with_reducible exact kis_of (by with_reducible assumption) | with_reducible refine kis_set ?_ | ((with_reducible refine kis_new ?_ ?_) <;> (first | with_reducible rfl | rfl | (simp; done))) | with_reducible refine kis_alloc _ ?_ | with_reducible refine kis_drew ?_ | with_reducible refine kis_call (by with_reducible assumption) ?_ | with_reducible exact kis_of (kcall (by with_reducible assumption) (by with_reducible assumption)))); done)) | with_reducible refine kother (by decide) ?_ | with_reducible refine kset (by first | omega | (simp; done) | (simp; omega)) ?_ | with_reducible refine kalloc _ ?_ | with_reducible refine kdrew ?_ | with_reducible refine kdrewN ?_ | with_reducible refine kcall (by with_reducible assumption) ?_)); done) | (rw [hwR1]; (repeat (first | with_reducible assumption | ((with_reducible refine kfresh ?_ ?_) <;> (first | with_reducible rfl | (simp; done))) | ((with_reducible refine ksameS ?_); focus ((repeat (first | with_reducible exact kis_of (by with_reducible assumption) | with_reducible refine kis_set ?_ | ((with_reducible refine kis_new ?_ ?_) <;> (first | with_reducible rfl | rfl | (simp; done))) | with_reducible refine kis_alloc _ ?_ | with_reducible refine kis_drew ?_ | with_reducible refine kis_call (by with_reducible assumption) ?_ | with_reducible exact kis_of (kcall (by with_reducible assumption) (by with_reducible assumption)))); done)) | with_reducible refine kother (by decide) ?_ | with_reducible refine kset (by first | omega | (simp; done) | (simp; omega)) ?_ | with_reducible refine kalloc _ ?_ | with_reducible refine kdrew ?_ | with_reducible refine kdrewN ?_ | with_reducible refine kcall (by with_reducible assumption) ?_))))
      have kR1_0_1 : wR1.cell? ⟨w.heap.size, 1, none⟩ = some (.int .i64 0) := by (first | (rw [hwR1]; with_reducible assumption) | (rw [hwR1]; (repeat (first | with_reducible assumption | ((with_reducible refine kfresh ?_ ?_) <;> (first | with_reducible rfl | (simp; done))) | ((with_reducible refine ksameS ?_); focus ((repeat (first | with_reducible exact kis_of (by with_reducible assumption) | with_reducible refine kis_set ?_ | ((with_reducible refine kis_new ?_ ?_) <;> (first | with_reducible rfl | rfl | (simp; done))) | with_reducible refine kis_alloc _ ?_ | with_reducible refine kis_drew ?_ | with_reducible refine kis_call (by with_reducible assumption) ?_ | with_reducible exact kis_of (kcall (by with_reducible assumption) (by with_reducible assumption)))); done)) | with_reducible refine kother (by decide) ?_ | with_reducible refine kset (by first | omega | (simp; done) | (simp; omega)) ?_ | with_reducible refine kalloc _ ?_ | with_reducible refine kdrew ?_ | with_reducible refine kdrewN ?_ | with_reducible refine kcall (by with_reducible assumption) ?_)); done) | (rw [hwR1]; (repeat (first | with_reducible assumption | ((with_reducible refine kfresh ?_ ?_) <;> (first | with_reducible rfl | (simp; done))) | ((with_reducible refine ksameS ?_); focus ((repeat (first | with_reducible exact kis_of (by with_reducible assumption) | with_reducible refine kis_set ?_ | ((with_reducible refine kis_new ?_ ?_) <;> (first | with_reducible rfl | rfl | (simp; done))) | with_reducible refine kis_alloc _ ?_ | with_reducible refine kis_drew ?_ | with_reducible refine kis_call (by with_reducible assumption) ?_ | with_reducible exact kis_of (kcall (by with_reducible assumption) (by with_reducible assumption)))); done)) | with_reducible refine kother (by decide) ?_ | with_reducible refine kset (by first | omega | (simp; done) | (simp; omega)) ?_ | with_reducible refine kalloc _ ?_ | with_reducible refine kdrew ?_ | with_reducible refine kdrewN ?_ | with_reducible refine kcall (by with_reducible assumption) ?_))))
      have kR1_0_2 : wR1.cell? ⟨w.heap.size, 2, none⟩ = some (.int .i64 0) := by (first | (rw [hwR1]; with_reducible assumption) | (rw [hwR1]; (repeat (first | with_reducible assumption | ((with_reducible refine kfresh ?_ ?_) <;> (first | with_reducible rfl | (simp; done))) | ((with_reducible refine ksameS ?_); focus ((repeat (first | with_reducible exact kis_of (by with_reducible assumption) | with_reducible refine kis_set ?_ | ((with_reducible refine kis_new ?_ ?_) <;> (first | with_reducible rfl | rfl | (simp; done))) | with_reducible refine kis_alloc _ ?_ | with_reducible refine kis_drew ?_ | with_reducible refine kis_call (by with_reducible assumption) ?_ | with_reducible exact kis_of (kcall (by with_reducible assumption) (by with_reducible assumption)))); done)) | with_reducible refine kother (by decide) ?_ | with_reducible refine kset (by first | omega | (simp; done) | (simp; omega)) ?_ | with_reducible refine kalloc _ ?_ | with_reducible refine kdrew ?_ | with_reducible refine kdrewN ?_ | with_reducible refine kcall (by with_reducible assumption) ?_)); done) | (rw [hwR1]; (repeat (first | with_reducible assumption | ((with_reducible refine kfresh ?_ ?_) <;> (first | with_reducible rfl | (simp; done))) | ((with_reducible refine ksameS ?_); focus ((repeat (first | with_reducible exact kis_of (by with_reducible assumption) | with_reducible refine kis_set ?_ | ((with_reducible refine kis_new ?_ ?_) <;> (first | with_reducible rfl | rfl | (simp; done))) | with_reducible refine kis_alloc _ ?_ | with_reducible refine kis_drew ?_ | with_reducible refine kis_call (by with_reducible assumption) ?_ | with_reducible exact kis_of (kcall (by with_reducible assumption) (by with_reducible assumption)))); done)) | with_reducible refine kother (by decide) ?_ | with_reducible refine kset (by first | omega | (simp; done) | (simp; omega)) ?_ | with_reducible refine kalloc _ ?_ | with_reducible refine kdrew ?_ | with_reducible refine kdrewN ?_ | with_reducible refine kcall (by with_reducible assumption) ?_))))
      have fR1_0_0 : wR1.frozen? ⟨w.heap.size, 0, none⟩ = false := by rw [hwR1]; (first | with_reducible assumption | (repeat (first | with_reducible assumption | with_reducible refine fdrew ?_ | with_reducible refine fdrewN ?_ | with_reducible refine fset ?_ | ((with_reducible refine fallocNew ?_) <;> (first | with_reducible rfl | (simp; done))) | ((with_reducible refine kfro (by with_reducible assumption) ?_ ?_); focus (first | with_reducible assumption | omega | (simp; done) | (simp; omega))) | ((with_reducible refine falloc ?_ ?_); focus (first | with_reducible assumption | omega | (simp; done) | (simp; omega))))))
      have fR1_0_1 : wR1.frozen? ⟨w.heap.size, 1, none⟩ = false := by rw [hwR1]; (first | with_reducible assumption | (repeat (first | with_reducible assumption | with_reducible refine fdrew ?_ | with_reducible refine fdrewN ?_ | with_reducible refine fset ?_ | ((with_reducible refine fallocNew ?_) <;> (first | with_reducible rfl | (simp; done))) | ((with_reducible refine kfro (by with_reducible assumption) ?_ ?_); focus (first | with_reducible assumption | omega | (simp; done) | (simp; omega))) | ((with_reducible refine falloc ?_ ?_); focus (first | with_reducible assumption | omega | (simp; done) | (simp; omega))))))
      have fR1_0_2 : wR1.frozen? ⟨w.heap.size, 2, none⟩ = false := by rw [hwR1]; (first | with_reducible assumption | (repeat (first | with_reducible assumption | with_reducible refine fdrew ?_ | with_reducible refine fdrewN ?_ | with_reducible refine fset ?_ | ((with_reducible refine fallocNew ?_) <;> (first | with_reducible rfl | (simp; done))) | ((with_reducible refine kfro (by with_reducible assumption) ?_ ?_); focus (first | with_reducible assumption | omega | (simp; done) | (simp; omega))) | ((with_reducible refine falloc ?_ ?_); focus (first | with_reducible assumption | omega | (simp; done) | (simp; omega))))))
      have lR1_0 : w.heap.size < wR1.heap.size := by omega
      clear hwR1
      go_wp2_with fail
      refine Calls.mono (numbers_any _ _ _ _ _ [x, y, z] _ rfl (by simp) (by exact cells_at (by simp) [x, y, z] _)) ?_
      rintro e w' ⟨rfl, rfl⟩
      go_upto_region 2 with fail
      refine wp_name (fun wR2 hwR2 => ?_)
      have sR2 : wR1.heap.size + 1 ≤ wR2.heap.size := by rw [hwR2]; (first | exact Nat.le_refl _ | (simp; done) | (simp; omega))
      have hxR2 : Below w.heap.size w wR2 := by rw [hwR2]; (repeat (first | with_reducible exact Below.refl _ _ | with_reducible exact hxR1 | with_reducible refine balloc ?_ _ | with_reducible refine bdrewN ?_ _ | with_reducible refine Below.drew ?_ | with_reducible refine bthen ?_ (by with_reducible assumption) | with_reducible refine Below.setCell ?_ (by first | (simp; done) | (simp; omega)) _))
      have kR2_0_0 : wR2.cell? ⟨w.heap.size, 0, none⟩ = some (.int .i64 0) := by rw [hwR2]; with_reducible exact (kalloc _ kR1_0_0)
      have kR2_0_1 : wR2.cell? ⟨w.heap.size, 1, none⟩ = some (.int .i64 0) := by rw [hwR2]; with_reducible exact (kalloc _ kR1_0_1)
      have kR2_0_2 : wR2.cell? ⟨w.heap.size, 2, none⟩ = some (.int .i64 0) := by rw [hwR2]; with_reducible exact (kalloc _ kR1_0_2)
      have fR2_0_0 : wR2.frozen? ⟨w.heap.size, 0, none⟩ = false := by rw [hwR2]; with_reducible exact (falloc (by first | omega | (simp; omega)) fR1_0_0)
      have fR2_0_1 : wR2.frozen? ⟨w.heap.size, 1, none⟩ = false := by rw [hwR2]; with_reducible exact (falloc (by first | omega | (simp; omega)) fR1_0_1)
      have fR2_0_2 : wR2.frozen? ⟨w.heap.size, 2, none⟩ = false := by rw [hwR2]; with_reducible exact (falloc (by first | omega | (simp; omega)) fR1_0_2)
      have lR2_0 : w.heap.size < wR2.heap.size := by omega
      clear kR1_0_0 kR1_0_1 kR1_0_2 fR1_0_0 fR1_0_1 fR1_0_2
      clear hwR2
      have HV := Lib.hid (py_out (x := x) (y := y) (z := z) hp (by simp [pyB, hd1, hd2]))
      go_wp2
      (refine bodyPost_ret (v := .tuple #[.agg #[.int .i64 (pyV1 p x y z), .int .i64 (pyV2 p x y z), .int .i64 (pyV3 p x y z)], .int .i64 (pyC p x y z)]) (by simp [results, Try.results12, go_sem, HV.out.1, HV.out.2.1, HV.out.2.2.1, HV.out.2.2.2, *]) rfl ⟨?_, ?_⟩)
      · rfl
      · (repeat (first | with_reducible exact Below.refl _ _ | with_reducible exact hxR2 | with_reducible refine balloc ?_ _ | with_reducible refine bdrewN ?_ _ | with_reducible refine Below.drew ?_ | with_reducible refine bthen ?_ (by with_reducible assumption) | with_reducible refine Below.setCell ?_ (by first | (simp; done) | (simp; omega)) _))
    · have hd2q := nums3 hd2
      have c_1 : codeOf p (numsIn p [x, y, z]) = 0 := codeOf_in hp (by simp [hd2])
      have cT : codeOf p true = 0 := codeOf_in hp rfl
      go_upto_region 1 with fail
      refine wp_name (fun wR1 hwR1 => ?_)
      have sR1 : w.heap.size + 1 ≤ wR1.heap.size := by rw [hwR1]; (first | exact Nat.le_refl _ | (simp; done) | (simp; omega))
      have hxR1 : Below w.heap.size w wR1 := by rw [hwR1]; (repeat (first | with_reducible exact Below.refl _ _ | with_reducible refine balloc ?_ _ | with_reducible refine bdrewN ?_ _ | with_reducible refine Below.drew ?_ | with_reducible refine bthen ?_ (by with_reducible assumption) | with_reducible refine Below.setCell ?_ (by first | (simp; done) | (simp; omega)) _))
      have kR1_0_0 : wR1.cell? ⟨w.heap.size, 0, none⟩ = some (.int .i64 0) := by (first | (rw [hwR1]; with_reducible assumption) | (rw [hwR1]; (repeat (first | with_reducible assumption | ((with_reducible refine kfresh ?_ ?_) <;> (first | with_reducible rfl | (simp; done))) | ((with_reducible refine ksameS ?_); focus ((repeat (first | with_reducible exact kis_of (by with_reducible assumption) | with_reducible refine kis_set ?_ | ((with_reducible refine kis_new ?_ ?_) <;> (first | with_reducible rfl | rfl | (simp; done))) | with_reducible refine kis_alloc _ ?_ | with_reducible refine kis_drew ?_ | with_reducible refine kis_call (by with_reducible assumption) ?_ | with_reducible exact kis_of (kcall (by with_reducible assumption) (by with_reducible assumption)))); done)) | with_reducible refine kother (by decide) ?_ | with_reducible refine kset (by first | omega | (simp; done) | (simp; omega)) ?_ | with_reducible refine kalloc _ ?_ | with_reducible refine kdrew ?_ | with_reducible refine kdrewN ?_ | with_reducible refine kcall (by with_reducible assumption) ?_)); done) | (rw [hwR1]; (repeat (first | with_reducible assumption | ((with_reducible refine kfresh ?_ ?_) <;> (first | with_reducible rfl | (simp; done))) | ((with_reducible refine ksameS ?_); focus ((repeat (first | with_reducible exact kis_of (by with_reducible assumption) | with_reducible refine kis_set ?_ | ((with_reducible refine kis_new ?_ ?_) <;> (first | with_reducible rfl | rfl | (simp; done))) | with_reducible refine kis_alloc _ ?_ | with_reducible refine kis_drew ?_ | with_reducible refine kis_call (by with_reducible assumption) ?_ | with_reducible exact kis_of (kcall (by with_reducible assumption) (by with_reducible assumption)))); done)) | with_reducible refine kother (by decide) ?_ | with_reducible refine kset (by first | omega | (simp; done) | (simp; omega)) ?_ | with_reducible refine kalloc _ ?_ | with_reducible refine kdrew ?_ | with_reducible refine kdrewN ?_ | with_reducible refine kcall (by with_reducible assumption) ?_))))
      have kR1_0_1 : wR1.cell? ⟨w.heap.size, 1, none⟩ = some (.int .i64 0) := by (first | (rw [hwR1]; with_reducible assumption) | (rw [hwR1]; (repeat (first | with_reducible assumption | ((with_reducible refine kfresh ?_ ?_) <;> (first | with_reducible rfl | (simp; done))) | ((with_reducible refine ksameS ?_); focus ((repeat (first | with_reducible exact kis_of (by with_reducible assumption) | with_reducible refine kis_set ?_ | ((with_reducible refine kis_new ?_ ?_) <;> (first | with_reducible rfl | rfl | (simp; done))) | with_reducible refine kis_alloc _ ?_ | with_reducible refine kis_drew ?_ | with_reducible refine kis_call (by with_reducible assumption) ?_ | with_reducible exact kis_of (kcall (by with_reducible assumption) (by with_reducible assumption)))); done)) | with_reducible refine kother (by decide) ?_ | with_reducible refine kset (by first | omega | (simp; done) | (simp; omega)) ?_ | with_reducible refine kalloc _ ?_ | with_reducible refine kdrew ?_ | with_reducible refine kdrewN ?_ | with_reducible refine kcall (by with_reducible assumption) ?_)); done) | (rw [hwR1]; (repeat (first | with_reducible assumption | ((with_reducible refine kfresh ?_ ?_) <;> (first | with_reducible rfl | (simp; done))) | ((with_reducible refine ksameS ?_); focus ((repeat (first | with_reducible exact kis_of (by with_reducible assumption) | with_reducible refine kis_set ?_ | ((with_reducible refine kis_new ?_ ?_) <;> (first | with_reducible rfl | rfl | (simp; done))) | with_reducible refine kis_alloc _ ?_ | with_reducible refine kis_drew ?_ | with_reducible refine kis_call (by with_reducible assumption) ?_ | with_reducible exact kis_of (kcall (by with_reducible assumption) (by with_reducible assumption)))); done)) | with_reducible refine kother (by decide) ?_ | with_reducible refine kset (by first | omega | (simp; done) | (simp; omega)) ?_ | with_reducible refine kalloc _ ?_ | with_reducible refine kdrew ?_ | with_reducible refine kdrewN ?_ | with_reducible refine kcall (by with_reducible assumption) ?_))))
      have kR1_0_2 : wR1.cell? ⟨w.heap.size, 2, none⟩ = some (.int .i64 0) := by (first | (rw [hwR1]; with_reducible assumption) | (rw [hwR1]; (repeat (first | with_reducible assumption | ((with_reducible refine kfresh ?_ ?_) <;> (first | with_reducible rfl | (simp; done))) | ((with_reducible refine ksameS ?_); focus ((repeat (first | with_reducible exact kis_of (by with_reducible assumption) | with_reducible refine kis_set ?_ | ((with_reducible refine kis_new ?_ ?_) <;> (first | with_reducible rfl | rfl | (simp; done))) | with_reducible refine kis_alloc _ ?_ | with_reducible refine kis_drew ?_ | with_reducible refine kis_call (by with_reducible assumption) ?_ | with_reducible exact kis_of (kcall (by with_reducible assumption) (by with_reducible assumption)))); done)) | with_reducible refine kother (by decide) ?_ | with_reducible refine kset (by first | omega | (simp; done) | (simp; omega)) ?_ | with_reducible refine kalloc _ ?_ | with_reducible refine kdrew ?_ | with_reducible refine kdrewN ?_ | with_reducible refine kcall (by with_reducible assumption) ?_)); done) | (rw [hwR1]; (repeat (first | with_reducible assumption | ((with_reducible refine kfresh ?_ ?_) <;> (first | with_reducible rfl | (simp; done))) | ((with_reducible refine ksameS ?_); focus ((repeat (first | with_reducible exact kis_of (by with_reducible assumption) | with_reducible refine kis_set ?_ | ((with_reducible refine kis_new ?_ ?_) <;> (first | with_reducible rfl | rfl | (simp; done))) | with_reducible refine kis_alloc _ ?_ | with_reducible refine kis_drew ?_ | with_reducible refine kis_call (by with_reducible assumption) ?_ | with_reducible exact kis_of (kcall (by with_reducible assumption) (by with_reducible assumption)))); done)) | with_reducible refine kother (by decide) ?_ | with_reducible refine kset (by first | omega | (simp; done) | (simp; omega)) ?_ | with_reducible refine kalloc _ ?_ | with_reducible refine kdrew ?_ | with_reducible refine kdrewN ?_ | with_reducible refine kcall (by with_reducible assumption) ?_))))
      have fR1_0_0 : wR1.frozen? ⟨w.heap.size, 0, none⟩ = false := by rw [hwR1]; (first | with_reducible assumption | (repeat (first | with_reducible assumption | with_reducible refine fdrew ?_ | with_reducible refine fdrewN ?_ | with_reducible refine fset ?_ | ((with_reducible refine fallocNew ?_) <;> (first | with_reducible rfl | (simp; done))) | ((with_reducible refine kfro (by with_reducible assumption) ?_ ?_); focus (first | with_reducible assumption | omega | (simp; done) | (simp; omega))) | ((with_reducible refine falloc ?_ ?_); focus (first | with_reducible assumption | omega | (simp; done) | (simp; omega))))))
      have fR1_0_1 : wR1.frozen? ⟨w.heap.size, 1, none⟩ = false := by rw [hwR1]; (first | with_reducible assumption | (repeat (first | with_reducible assumption | with_reducible refine fdrew ?_ | with_reducible refine fdrewN ?_ | with_reducible refine fset ?_ | ((with_reducible refine fallocNew ?_) <;> (first | with_reducible rfl | (simp; done))) | ((with_reducible refine kfro (by with_reducible assumption) ?_ ?_); focus (first | with_reducible assumption | omega | (simp; done) | (simp; omega))) | ((with_reducible refine falloc ?_ ?_); focus (first | with_reducible assumption | omega | (simp; done) | (simp; omega))))))
      have fR1_0_2 : wR1.frozen? ⟨w.heap.size, 2, none⟩ = false := by rw [hwR1]; (first | with_reducible assumption | (repeat (first | with_reducible assumption | with_reducible refine fdrew ?_ | with_reducible refine fdrewN ?_ | with_reducible refine fset ?_ | ((with_reducible refine fallocNew ?_) <;> (first | with_reducible rfl | (simp; done))) | ((with_reducible refine kfro (by with_reducible assumption) ?_ ?_); focus (first | with_reducible assumption | omega | (simp; done) | (simp; omega))) | ((with_reducible refine falloc ?_ ?_); focus (first | with_reducible assumption | omega | (simp; done) | (simp; omega))))))
      have lR1_0 : w.heap.size < wR1.heap.size := by omega
      clear hwR1
      go_wp2_with fail
      refine Calls.mono (numbers_any _ _ _ _ _ [x, y, z] _ rfl (by simp) (by exact cells_at (by simp) [x, y, z] _)) ?_
      rintro e w' ⟨rfl, rfl⟩
      go_upto_region 2 with fail
      refine wp_name (fun wR2 hwR2 => ?_)
      have sR2 : wR1.heap.size + 1 ≤ wR2.heap.size := by rw [hwR2]; (first | exact Nat.le_refl _ | (simp; done) | (simp; omega))
      have hxR2 : Below w.heap.size w wR2 := by rw [hwR2]; (repeat (first | with_reducible exact Below.refl _ _ | with_reducible exact hxR1 | with_reducible refine balloc ?_ _ | with_reducible refine bdrewN ?_ _ | with_reducible refine Below.drew ?_ | with_reducible refine bthen ?_ (by with_reducible assumption) | with_reducible refine Below.setCell ?_ (by first | (simp; done) | (simp; omega)) _))
      have kR2_0_0 : wR2.cell? ⟨w.heap.size, 0, none⟩ = some (.int .i64 0) := by rw [hwR2]; with_reducible exact (kalloc _ kR1_0_0)
      have kR2_0_1 : wR2.cell? ⟨w.heap.size, 1, none⟩ = some (.int .i64 0) := by rw [hwR2]; with_reducible exact (kalloc _ kR1_0_1)
      have kR2_0_2 : wR2.cell? ⟨w.heap.size, 2, none⟩ = some (.int .i64 0) := by rw [hwR2]; with_reducible exact (kalloc _ kR1_0_2)
      have fR2_0_0 : wR2.frozen? ⟨w.heap.size, 0, none⟩ = false := by rw [hwR2]; with_reducible exact (falloc (by first | omega | (simp; omega)) fR1_0_0)
      have fR2_0_1 : wR2.frozen? ⟨w.heap.size, 1, none⟩ = false := by rw [hwR2]; with_reducible exact (falloc (by first | omega | (simp; omega)) fR1_0_1)
      have fR2_0_2 : wR2.frozen? ⟨w.heap.size, 2, none⟩ = false := by rw [hwR2]; with_reducible exact (falloc (by first | omega | (simp; omega)) fR1_0_2)
      have lR2_0 : w.heap.size < wR2.heap.size := by omega
      clear kR1_0_0 kR1_0_1 kR1_0_2 fR1_0_0 fR1_0_1 fR1_0_2
      clear hwR2
      rcases bool_ways (x == 0) with hd3 | hd3
      · have hd3n : (x != 0) = true := by rw [bne, hd3]; rfl
        have Hhd3p := Lib.hid (beq_eq_false_iff_ne.1 hd3)
        obtain ⟨v1, hv1⟩ : ∃ v : Int, v = ck p (x % p) (y % p) (z % p) (x % p) := ⟨_, rfl⟩
        have rv1 := ck_r (x % p) (y % p) (z % p) (x % p) hp
        rw [← hv1] at rv1
        have Hv1 := Lib.hid hv1
        clear hv1
        obtain ⟨v2, hv2⟩ : ∃ v : Int, v = ck p (x % p) (y % p) (z % p) (y % p) := ⟨_, rfl⟩
        have rv2 := ck_r (x % p) (y % p) (z % p) (y % p) hp
        rw [← hv2] at rv2
        have Hv2 := Lib.hid hv2
        clear hv2
        obtain ⟨v3, hv3⟩ : ∃ v : Int, v = ck p (x % p) (y % p) (z % p) (z % p) := ⟨_, rfl⟩
        have rv3 := ck_r (x % p) (y % p) (z % p) (z % p) hp
        rw [← hv3] at rv3
        have Hv3 := Lib.hid hv3
        clear hv3
        go_wp2_with fail
        refine Calls.mono (specPlMade_any _ _ _ _ _ hp (by omega) (by omega) (by omega)) ?_
        rw [← Hv1.out, ← Hv2.out, ← Hv3.out]
        rintro e w1 ⟨rfl, hB1⟩
        (obtain ⟨hB1c, hB1f⟩ := bcell hB1; have hB1s := hB1.size; (try simp at hB1s); (try have hB1q1 := Nat.lt_of_succ_le hB1s); (try have hB1q2 := Nat.lt_of_succ_lt hB1q1); (try have hB1q3 := Nat.lt_of_succ_lt hB1q2); (try have hB1zw0 : w.heap.size < w1.heap.size := (by omega)); (try have hB1zw1 : w.heap.size + 1 < w1.heap.size := (by omega)); (try have hB1zw2 : w.heap.size + 1 + 1 < w1.heap.size := (by omega)); (try have hB1zw3 : w.heap.size + 1 + 1 + 1 < w1.heap.size := (by omega)); (try have hB1zw4 : w.heap.size + 1 + 1 + 1 + 1 < w1.heap.size := (by omega)); (try have hB1zwR20 : wR2.heap.size < w1.heap.size := (by omega)); (try have hB1zwR21 : wR2.heap.size + 1 < w1.heap.size := (by omega)); (try have hB1zwR22 : wR2.heap.size + 1 + 1 < w1.heap.size := (by omega)); (try have hB1zwR23 : wR2.heap.size + 1 + 1 + 1 < w1.heap.size := (by omega)); (try have hB1zwR24 : wR2.heap.size + 1 + 1 + 1 + 1 < w1.heap.size := (by omega)))
        have HB : pyB p x y z = true := by simp [pyB, hd1, hd2, hd3]
        have HS : pyS p x y z = 0 := by (unfold pyS; simp [hd1, hd2, hd3])
        have HV := Lib.hid (show pyV1 p x y z = v1 ∧ pyV2 p x y z = v2 ∧ pyV3 p x y z = v3 ∧ pyC p x y z = 0 from by
          have HG := py_good (x := x) (y := y) (z := z) hp HB HS
          refine ⟨(HG.1).trans ?_, (HG.2.1).trans ?_, (HG.2.2.1).trans ?_, HG.2.2.2⟩
          all_goals (have q := nums3 hd2; simp only [Hv3.out, Hv2.out, Hv1.out, Int.emod_eq_of_lt q.1.1 q.1.2, Int.emod_eq_of_lt q.2.1.1 q.2.1.2, Int.emod_eq_of_lt q.2.2.1 q.2.2.2]))
        clear HB HS
        go_wp2
        (refine bodyPost_ret (v := .tuple #[.agg #[.int .i64 (pyV1 p x y z), .int .i64 (pyV2 p x y z), .int .i64 (pyV3 p x y z)], .int .i64 (pyC p x y z)]) (by simp [results, Try.results12, go_sem, HV.out.1, HV.out.2.1, HV.out.2.2.1, HV.out.2.2.2, *]) rfl ⟨?_, ?_⟩)
        · rfl
        · (repeat (first | with_reducible exact Below.refl _ _ | with_reducible exact hxR2 | with_reducible refine balloc ?_ _ | with_reducible refine bdrewN ?_ _ | with_reducible refine Below.drew ?_ | with_reducible refine bthen ?_ (by with_reducible assumption) | with_reducible refine Below.setCell ?_ (by first | (simp; done) | (simp; omega)) _))
      · have hd3n : (x != 0) = false := by rw [bne, hd3]; rfl
        have Hhd3p := Lib.hid (beq_iff_eq.1 hd3)
        rcases bool_ways (y == 0) with hd4 | hd4
        · have hd4n : (y != 0) = true := by rw [bne, hd4]; rfl
          have Hhd4p := Lib.hid (beq_eq_false_iff_ne.1 hd4)
          obtain ⟨v1, hv1⟩ : ∃ v : Int, v = ck p (x % p) (y % p) (z % p) (x % p) := ⟨_, rfl⟩
          have rv1 := ck_r (x % p) (y % p) (z % p) (x % p) hp
          rw [← hv1] at rv1
          have Hv1 := Lib.hid hv1
          clear hv1
          obtain ⟨v2, hv2⟩ : ∃ v : Int, v = ck p (x % p) (y % p) (z % p) (y % p) := ⟨_, rfl⟩
          have rv2 := ck_r (x % p) (y % p) (z % p) (y % p) hp
          rw [← hv2] at rv2
          have Hv2 := Lib.hid hv2
          clear hv2
          obtain ⟨v3, hv3⟩ : ∃ v : Int, v = ck p (x % p) (y % p) (z % p) (z % p) := ⟨_, rfl⟩
          have rv3 := ck_r (x % p) (y % p) (z % p) (z % p) hp
          rw [← hv3] at rv3
          have Hv3 := Lib.hid hv3
          clear hv3
          go_wp2_with fail
          refine Calls.mono (specPlMade_any _ _ _ _ _ hp (by omega) (by omega) (by omega)) ?_
          rw [← Hv1.out, ← Hv2.out, ← Hv3.out]
          rintro e w1 ⟨rfl, hB1⟩
          (obtain ⟨hB1c, hB1f⟩ := bcell hB1; have hB1s := hB1.size; (try simp at hB1s); (try have hB1q1 := Nat.lt_of_succ_le hB1s); (try have hB1q2 := Nat.lt_of_succ_lt hB1q1); (try have hB1q3 := Nat.lt_of_succ_lt hB1q2); (try have hB1zw0 : w.heap.size < w1.heap.size := (by omega)); (try have hB1zw1 : w.heap.size + 1 < w1.heap.size := (by omega)); (try have hB1zw2 : w.heap.size + 1 + 1 < w1.heap.size := (by omega)); (try have hB1zw3 : w.heap.size + 1 + 1 + 1 < w1.heap.size := (by omega)); (try have hB1zw4 : w.heap.size + 1 + 1 + 1 + 1 < w1.heap.size := (by omega)); (try have hB1zwR20 : wR2.heap.size < w1.heap.size := (by omega)); (try have hB1zwR21 : wR2.heap.size + 1 < w1.heap.size := (by omega)); (try have hB1zwR22 : wR2.heap.size + 1 + 1 < w1.heap.size := (by omega)); (try have hB1zwR23 : wR2.heap.size + 1 + 1 + 1 < w1.heap.size := (by omega)); (try have hB1zwR24 : wR2.heap.size + 1 + 1 + 1 + 1 < w1.heap.size := (by omega)))
          have HB : pyB p x y z = true := by simp [pyB, hd1, hd2, hd3, hd4]
          have HS : pyS p x y z = 0 := by (unfold pyS; simp [hd1, hd2, hd3, hd4, beq_iff_eq.1 hd3])
          have HV := Lib.hid (show pyV1 p x y z = v1 ∧ pyV2 p x y z = v2 ∧ pyV3 p x y z = v3 ∧ pyC p x y z = 0 from by
            have HG := py_good (x := x) (y := y) (z := z) hp HB HS
            refine ⟨(HG.1).trans ?_, (HG.2.1).trans ?_, (HG.2.2.1).trans ?_, HG.2.2.2⟩
            all_goals (have q := nums3 hd2; simp only [Hv3.out, Hv2.out, Hv1.out, Int.emod_eq_of_lt q.1.1 q.1.2, Int.emod_eq_of_lt q.2.1.1 q.2.1.2, Int.emod_eq_of_lt q.2.2.1 q.2.2.2]))
          clear HB HS
          go_wp2
          (refine bodyPost_ret (v := .tuple #[.agg #[.int .i64 (pyV1 p x y z), .int .i64 (pyV2 p x y z), .int .i64 (pyV3 p x y z)], .int .i64 (pyC p x y z)]) (by simp [results, Try.results12, go_sem, HV.out.1, HV.out.2.1, HV.out.2.2.1, HV.out.2.2.2, *]) rfl ⟨?_, ?_⟩)
          · rfl
          · (repeat (first | with_reducible exact Below.refl _ _ | with_reducible exact hxR2 | with_reducible refine balloc ?_ _ | with_reducible refine bdrewN ?_ _ | with_reducible refine Below.drew ?_ | with_reducible refine bthen ?_ (by with_reducible assumption) | with_reducible refine Below.setCell ?_ (by first | (simp; done) | (simp; omega)) _))
        · have hd4n : (y != 0) = false := by rw [bne, hd4]; rfl
          have Hhd4p := Lib.hid (beq_iff_eq.1 hd4)
          rcases bool_ways (z == 0) with hd5 | hd5
          · have hd5n : (z != 0) = true := by rw [bne, hd5]; rfl
            have Hhd5p := Lib.hid (beq_eq_false_iff_ne.1 hd5)
            obtain ⟨v1, hv1⟩ : ∃ v : Int, v = ck p (x % p) (y % p) (z % p) (x % p) := ⟨_, rfl⟩
            have rv1 := ck_r (x % p) (y % p) (z % p) (x % p) hp
            rw [← hv1] at rv1
            have Hv1 := Lib.hid hv1
            clear hv1
            obtain ⟨v2, hv2⟩ : ∃ v : Int, v = ck p (x % p) (y % p) (z % p) (y % p) := ⟨_, rfl⟩
            have rv2 := ck_r (x % p) (y % p) (z % p) (y % p) hp
            rw [← hv2] at rv2
            have Hv2 := Lib.hid hv2
            clear hv2
            obtain ⟨v3, hv3⟩ : ∃ v : Int, v = ck p (x % p) (y % p) (z % p) (z % p) := ⟨_, rfl⟩
            have rv3 := ck_r (x % p) (y % p) (z % p) (z % p) hp
            rw [← hv3] at rv3
            have Hv3 := Lib.hid hv3
            clear hv3
            go_wp2_with fail
            refine Calls.mono (specPlMade_any _ _ _ _ _ hp (by omega) (by omega) (by omega)) ?_
            rw [← Hv1.out, ← Hv2.out, ← Hv3.out]
            rintro e w1 ⟨rfl, hB1⟩
            (obtain ⟨hB1c, hB1f⟩ := bcell hB1; have hB1s := hB1.size; (try simp at hB1s); (try have hB1q1 := Nat.lt_of_succ_le hB1s); (try have hB1q2 := Nat.lt_of_succ_lt hB1q1); (try have hB1q3 := Nat.lt_of_succ_lt hB1q2); (try have hB1zw0 : w.heap.size < w1.heap.size := (by omega)); (try have hB1zw1 : w.heap.size + 1 < w1.heap.size := (by omega)); (try have hB1zw2 : w.heap.size + 1 + 1 < w1.heap.size := (by omega)); (try have hB1zw3 : w.heap.size + 1 + 1 + 1 < w1.heap.size := (by omega)); (try have hB1zw4 : w.heap.size + 1 + 1 + 1 + 1 < w1.heap.size := (by omega)); (try have hB1zwR20 : wR2.heap.size < w1.heap.size := (by omega)); (try have hB1zwR21 : wR2.heap.size + 1 < w1.heap.size := (by omega)); (try have hB1zwR22 : wR2.heap.size + 1 + 1 < w1.heap.size := (by omega)); (try have hB1zwR23 : wR2.heap.size + 1 + 1 + 1 < w1.heap.size := (by omega)); (try have hB1zwR24 : wR2.heap.size + 1 + 1 + 1 + 1 < w1.heap.size := (by omega)))
            have HB : pyB p x y z = true := by simp [pyB, hd1, hd2, hd3, hd4, hd5]
            have HS : pyS p x y z = 0 := by (unfold pyS; simp [hd1, hd2, hd3, hd4, hd5, beq_iff_eq.1 hd3, beq_iff_eq.1 hd4])
            have HV := Lib.hid (show pyV1 p x y z = v1 ∧ pyV2 p x y z = v2 ∧ pyV3 p x y z = v3 ∧ pyC p x y z = 0 from by
              have HG := py_good (x := x) (y := y) (z := z) hp HB HS
              refine ⟨(HG.1).trans ?_, (HG.2.1).trans ?_, (HG.2.2.1).trans ?_, HG.2.2.2⟩
              all_goals (have q := nums3 hd2; simp only [Hv3.out, Hv2.out, Hv1.out, Int.emod_eq_of_lt q.1.1 q.1.2, Int.emod_eq_of_lt q.2.1.1 q.2.1.2, Int.emod_eq_of_lt q.2.2.1 q.2.2.2]))
            clear HB HS
            go_wp2
            (refine bodyPost_ret (v := .tuple #[.agg #[.int .i64 (pyV1 p x y z), .int .i64 (pyV2 p x y z), .int .i64 (pyV3 p x y z)], .int .i64 (pyC p x y z)]) (by simp [results, Try.results12, go_sem, HV.out.1, HV.out.2.1, HV.out.2.2.1, HV.out.2.2.2, *]) rfl ⟨?_, ?_⟩)
            · rfl
            · (repeat (first | with_reducible exact Below.refl _ _ | with_reducible exact hxR2 | with_reducible refine balloc ?_ _ | with_reducible refine bdrewN ?_ _ | with_reducible refine Below.drew ?_ | with_reducible refine bthen ?_ (by with_reducible assumption) | with_reducible refine Below.setCell ?_ (by first | (simp; done) | (simp; omega)) _))
          · have hd5n : (z != 0) = false := by rw [bne, hd5]; rfl
            have Hhd5p := Lib.hid (beq_iff_eq.1 hd5)
            have HB : pyB p x y z = true := by simp [pyB, hd1, hd2, hd3, hd4, hd5]
            have HS : pyS p x y z = 5 := by (unfold pyS; simp [hd1, hd2, hd3, hd4, hd5, beq_iff_eq.1 hd3, beq_iff_eq.1 hd4, beq_iff_eq.1 hd5])
            have HV := Lib.hid (py_st (x := x) (y := y) (z := z) hp HB HS (by decide))
            clear HB HS
            go_wp2
            (refine bodyPost_ret (v := .tuple #[.agg #[.int .i64 (pyV1 p x y z), .int .i64 (pyV2 p x y z), .int .i64 (pyV3 p x y z)], .int .i64 (pyC p x y z)]) (by simp [results, Try.results12, go_sem, HV.out.1, HV.out.2.1, HV.out.2.2.1, HV.out.2.2.2, *]) rfl ⟨?_, ?_⟩)
            · rfl
            · (repeat (first | with_reducible exact Below.refl _ _ | with_reducible exact hxR2 | with_reducible refine balloc ?_ _ | with_reducible refine bdrewN ?_ _ | with_reducible refine Below.drew ?_ | with_reducible refine bthen ?_ (by with_reducible assumption) | with_reducible refine Below.setCell ?_ (by first | (simp; done) | (simp; omega)) _))

set_option linter.unusedVariables false in
set_option linter.unusedSimpArgs false in
set_option maxRecDepth 20000 in
set_option maxHeartbeats 4000000 in
theorem implPlaceOf_any (p x y z : Int)  (w : World) :
    Calls Try.prog 13 #[.int .i64 p, .int .i64 x, .int .i64 y, .int .i64 z] w fun e w' =>
      e = .returned (.tuple #[.agg #[.int .i64 (pyV1 p x y z), .int .i64 (pyV2 p x y z), .int .i64 (pyV3 p x y z)], .int .i64 (pyC p x y z)]) ∧ Below w.heap.size w w' := by
  have heq := equalPlace
  go_enter Try.func13, Try.ntmps13
  rcases bool_ways (isP p) with hd1 | hd1
  · skip
    have c_1 : codeOf p (numsIn p [x, y, z]) = 1 := codeOf_no hd1
    have cN : ∀ b, codeOf p b = 1 := fun b => codeOf_no hd1
    go_upto_region 1 with fail
    refine wp_name (fun wR1 hwR1 => ?_)
    have sR1 : w.heap.size + 1 ≤ wR1.heap.size := by rw [hwR1]; (first | exact Nat.le_refl _ | (simp; done) | (simp; omega))
    have hxR1 : Below w.heap.size w wR1 := by rw [hwR1]; (repeat (first | with_reducible exact Below.refl _ _ | with_reducible refine balloc ?_ _ | with_reducible refine bdrewN ?_ _ | with_reducible refine Below.drew ?_ | with_reducible refine bthen ?_ (by with_reducible assumption) | with_reducible refine Below.setCell ?_ (by first | (simp; done) | (simp; omega)) _))
    have kR1_0_0 : wR1.cell? ⟨w.heap.size, 0, none⟩ = some (.int .i64 0) := by (first | (rw [hwR1]; with_reducible assumption) | (rw [hwR1]; (repeat (first | with_reducible assumption | ((with_reducible refine kfresh ?_ ?_) <;> (first | with_reducible rfl | (simp; done))) | ((with_reducible refine ksameS ?_); focus ((repeat (first | with_reducible exact kis_of (by with_reducible assumption) | with_reducible refine kis_set ?_ | ((with_reducible refine kis_new ?_ ?_) <;> (first | with_reducible rfl | rfl | (simp; done))) | with_reducible refine kis_alloc _ ?_ | with_reducible refine kis_drew ?_ | with_reducible refine kis_call (by with_reducible assumption) ?_ | with_reducible exact kis_of (kcall (by with_reducible assumption) (by with_reducible assumption)))); done)) | with_reducible refine kother (by decide) ?_ | with_reducible refine kset (by first | omega | (simp; done) | (simp; omega)) ?_ | with_reducible refine kalloc _ ?_ | with_reducible refine kdrew ?_ | with_reducible refine kdrewN ?_ | with_reducible refine kcall (by with_reducible assumption) ?_)); done) | (rw [hwR1]; (repeat (first | with_reducible assumption | ((with_reducible refine kfresh ?_ ?_) <;> (first | with_reducible rfl | (simp; done))) | ((with_reducible refine ksameS ?_); focus ((repeat (first | with_reducible exact kis_of (by with_reducible assumption) | with_reducible refine kis_set ?_ | ((with_reducible refine kis_new ?_ ?_) <;> (first | with_reducible rfl | rfl | (simp; done))) | with_reducible refine kis_alloc _ ?_ | with_reducible refine kis_drew ?_ | with_reducible refine kis_call (by with_reducible assumption) ?_ | with_reducible exact kis_of (kcall (by with_reducible assumption) (by with_reducible assumption)))); done)) | with_reducible refine kother (by decide) ?_ | with_reducible refine kset (by first | omega | (simp; done) | (simp; omega)) ?_ | with_reducible refine kalloc _ ?_ | with_reducible refine kdrew ?_ | with_reducible refine kdrewN ?_ | with_reducible refine kcall (by with_reducible assumption) ?_))))
    have kR1_0_1 : wR1.cell? ⟨w.heap.size, 1, none⟩ = some (.int .i64 0) := by (first | (rw [hwR1]; with_reducible assumption) | (rw [hwR1]; (repeat (first | with_reducible assumption | ((with_reducible refine kfresh ?_ ?_) <;> (first | with_reducible rfl | (simp; done))) | ((with_reducible refine ksameS ?_); focus ((repeat (first | with_reducible exact kis_of (by with_reducible assumption) | with_reducible refine kis_set ?_ | ((with_reducible refine kis_new ?_ ?_) <;> (first | with_reducible rfl | rfl | (simp; done))) | with_reducible refine kis_alloc _ ?_ | with_reducible refine kis_drew ?_ | with_reducible refine kis_call (by with_reducible assumption) ?_ | with_reducible exact kis_of (kcall (by with_reducible assumption) (by with_reducible assumption)))); done)) | with_reducible refine kother (by decide) ?_ | with_reducible refine kset (by first | omega | (simp; done) | (simp; omega)) ?_ | with_reducible refine kalloc _ ?_ | with_reducible refine kdrew ?_ | with_reducible refine kdrewN ?_ | with_reducible refine kcall (by with_reducible assumption) ?_)); done) | (rw [hwR1]; (repeat (first | with_reducible assumption | ((with_reducible refine kfresh ?_ ?_) <;> (first | with_reducible rfl | (simp; done))) | ((with_reducible refine ksameS ?_); focus ((repeat (first | with_reducible exact kis_of (by with_reducible assumption) | with_reducible refine kis_set ?_ | ((with_reducible refine kis_new ?_ ?_) <;> (first | with_reducible rfl | rfl | (simp; done))) | with_reducible refine kis_alloc _ ?_ | with_reducible refine kis_drew ?_ | with_reducible refine kis_call (by with_reducible assumption) ?_ | with_reducible exact kis_of (kcall (by with_reducible assumption) (by with_reducible assumption)))); done)) | with_reducible refine kother (by decide) ?_ | with_reducible refine kset (by first | omega | (simp; done) | (simp; omega)) ?_ | with_reducible refine kalloc _ ?_ | with_reducible refine kdrew ?_ | with_reducible refine kdrewN ?_ | with_reducible refine kcall (by with_reducible assumption) ?_))))
    have kR1_0_2 : wR1.cell? ⟨w.heap.size, 2, none⟩ = some (.int .i64 0) := by (first | (rw [hwR1]; with_reducible assumption) | (rw [hwR1]; (repeat (first | with_reducible assumption | ((with_reducible refine kfresh ?_ ?_) <;> (first | with_reducible rfl | (simp; done))) | ((with_reducible refine ksameS ?_); focus ((repeat (first | with_reducible exact kis_of (by with_reducible assumption) | with_reducible refine kis_set ?_ | ((with_reducible refine kis_new ?_ ?_) <;> (first | with_reducible rfl | rfl | (simp; done))) | with_reducible refine kis_alloc _ ?_ | with_reducible refine kis_drew ?_ | with_reducible refine kis_call (by with_reducible assumption) ?_ | with_reducible exact kis_of (kcall (by with_reducible assumption) (by with_reducible assumption)))); done)) | with_reducible refine kother (by decide) ?_ | with_reducible refine kset (by first | omega | (simp; done) | (simp; omega)) ?_ | with_reducible refine kalloc _ ?_ | with_reducible refine kdrew ?_ | with_reducible refine kdrewN ?_ | with_reducible refine kcall (by with_reducible assumption) ?_)); done) | (rw [hwR1]; (repeat (first | with_reducible assumption | ((with_reducible refine kfresh ?_ ?_) <;> (first | with_reducible rfl | (simp; done))) | ((with_reducible refine ksameS ?_); focus ((repeat (first | with_reducible exact kis_of (by with_reducible assumption) | with_reducible refine kis_set ?_ | ((with_reducible refine kis_new ?_ ?_) <;> (first | with_reducible rfl | rfl | (simp; done))) | with_reducible refine kis_alloc _ ?_ | with_reducible refine kis_drew ?_ | with_reducible refine kis_call (by with_reducible assumption) ?_ | with_reducible exact kis_of (kcall (by with_reducible assumption) (by with_reducible assumption)))); done)) | with_reducible refine kother (by decide) ?_ | with_reducible refine kset (by first | omega | (simp; done) | (simp; omega)) ?_ | with_reducible refine kalloc _ ?_ | with_reducible refine kdrew ?_ | with_reducible refine kdrewN ?_ | with_reducible refine kcall (by with_reducible assumption) ?_))))
    have fR1_0_0 : wR1.frozen? ⟨w.heap.size, 0, none⟩ = false := by rw [hwR1]; (first | with_reducible assumption | (repeat (first | with_reducible assumption | with_reducible refine fdrew ?_ | with_reducible refine fdrewN ?_ | with_reducible refine fset ?_ | ((with_reducible refine fallocNew ?_) <;> (first | with_reducible rfl | (simp; done))) | ((with_reducible refine kfro (by with_reducible assumption) ?_ ?_); focus (first | with_reducible assumption | omega | (simp; done) | (simp; omega))) | ((with_reducible refine falloc ?_ ?_); focus (first | with_reducible assumption | omega | (simp; done) | (simp; omega))))))
    have fR1_0_1 : wR1.frozen? ⟨w.heap.size, 1, none⟩ = false := by rw [hwR1]; (first | with_reducible assumption | (repeat (first | with_reducible assumption | with_reducible refine fdrew ?_ | with_reducible refine fdrewN ?_ | with_reducible refine fset ?_ | ((with_reducible refine fallocNew ?_) <;> (first | with_reducible rfl | (simp; done))) | ((with_reducible refine kfro (by with_reducible assumption) ?_ ?_); focus (first | with_reducible assumption | omega | (simp; done) | (simp; omega))) | ((with_reducible refine falloc ?_ ?_); focus (first | with_reducible assumption | omega | (simp; done) | (simp; omega))))))
    have fR1_0_2 : wR1.frozen? ⟨w.heap.size, 2, none⟩ = false := by rw [hwR1]; (first | with_reducible assumption | (repeat (first | with_reducible assumption | with_reducible refine fdrew ?_ | with_reducible refine fdrewN ?_ | with_reducible refine fset ?_ | ((with_reducible refine fallocNew ?_) <;> (first | with_reducible rfl | (simp; done))) | ((with_reducible refine kfro (by with_reducible assumption) ?_ ?_); focus (first | with_reducible assumption | omega | (simp; done) | (simp; omega))) | ((with_reducible refine falloc ?_ ?_); focus (first | with_reducible assumption | omega | (simp; done) | (simp; omega))))))
    have lR1_0 : w.heap.size < wR1.heap.size := by omega
    clear hwR1
    go_wp2_with fail
    refine Calls.mono (areNums_any _ _ _ _ _ [x, y, z] _ rfl (by simp) (by exact cells_at (by simp) [x, y, z] _)) ?_
    rintro e w' ⟨rfl, rfl⟩
    go_wp2_with fail
    refine Calls.mono (codeFor_any _ _ _) ?_
    rintro e w' ⟨rfl, rfl⟩
    go_upto_region 2 with fail
    refine wp_name (fun wR2 hwR2 => ?_)
    have sR2 : wR1.heap.size + 1 ≤ wR2.heap.size := by rw [hwR2]; (first | exact Nat.le_refl _ | (simp; done) | (simp; omega))
    have hxR2 : Below w.heap.size w wR2 := by rw [hwR2]; (repeat (first | with_reducible exact Below.refl _ _ | with_reducible exact hxR1 | with_reducible refine balloc ?_ _ | with_reducible refine bdrewN ?_ _ | with_reducible refine Below.drew ?_ | with_reducible refine bthen ?_ (by with_reducible assumption) | with_reducible refine Below.setCell ?_ (by first | (simp; done) | (simp; omega)) _))
    have kR2_0_0 : wR2.cell? ⟨w.heap.size, 0, none⟩ = some (.int .i64 0) := by rw [hwR2]; with_reducible exact (kalloc _ kR1_0_0)
    have kR2_0_1 : wR2.cell? ⟨w.heap.size, 1, none⟩ = some (.int .i64 0) := by rw [hwR2]; with_reducible exact (kalloc _ kR1_0_1)
    have kR2_0_2 : wR2.cell? ⟨w.heap.size, 2, none⟩ = some (.int .i64 0) := by rw [hwR2]; with_reducible exact (kalloc _ kR1_0_2)
    have fR2_0_0 : wR2.frozen? ⟨w.heap.size, 0, none⟩ = false := by rw [hwR2]; with_reducible exact (falloc (by first | omega | (simp; omega)) fR1_0_0)
    have fR2_0_1 : wR2.frozen? ⟨w.heap.size, 1, none⟩ = false := by rw [hwR2]; with_reducible exact (falloc (by first | omega | (simp; omega)) fR1_0_1)
    have fR2_0_2 : wR2.frozen? ⟨w.heap.size, 2, none⟩ = false := by rw [hwR2]; with_reducible exact (falloc (by first | omega | (simp; omega)) fR1_0_2)
    have lR2_0 : w.heap.size < wR2.heap.size := by omega
    clear kR1_0_0 kR1_0_1 kR1_0_2 fR1_0_0 fR1_0_1 fR1_0_2
    clear hwR2
    have HV := Lib.hid (py_no (x := x) (y := y) (z := z) hd1)
    go_wp2
    (refine bodyPost_ret (v := .tuple #[.agg #[.int .i64 (pyV1 p x y z), .int .i64 (pyV2 p x y z), .int .i64 (pyV3 p x y z)], .int .i64 (pyC p x y z)]) (by simp [results, Try.results13, go_sem, HV.out.1, HV.out.2.1, HV.out.2.2.1, HV.out.2.2.2, *]) rfl ⟨?_, ?_⟩)
    · rfl
    · (repeat (first | with_reducible exact Below.refl _ _ | with_reducible exact hxR2 | with_reducible refine balloc ?_ _ | with_reducible refine bdrewN ?_ _ | with_reducible refine Below.drew ?_ | with_reducible refine bthen ?_ (by with_reducible assumption) | with_reducible refine Below.setCell ?_ (by first | (simp; done) | (simp; omega)) _))
  · have hp := hd1
    have hr := isP_range hp
    rcases bool_ways (numsIn p [x, y, z]) with hd2 | hd2
    · skip
      have c_1 : codeOf p (numsIn p [x, y, z]) = 2 := codeOf_out hp (by simp [hd2])
      have cT : codeOf p true = 0 := codeOf_in hp rfl
      have cF : codeOf p false = 2 := codeOf_out hp rfl
      go_upto_region 1 with fail
      refine wp_name (fun wR1 hwR1 => ?_)
      have sR1 : w.heap.size + 1 ≤ wR1.heap.size := by rw [hwR1]; (first | exact Nat.le_refl _ | (simp; done) | (simp; omega))
      have hxR1 : Below w.heap.size w wR1 := by rw [hwR1]; (repeat (first | with_reducible exact Below.refl _ _ | with_reducible refine balloc ?_ _ | with_reducible refine bdrewN ?_ _ | with_reducible refine Below.drew ?_ | with_reducible refine bthen ?_ (by with_reducible assumption) | with_reducible refine Below.setCell ?_ (by first | (simp; done) | (simp; omega)) _))
      have kR1_0_0 : wR1.cell? ⟨w.heap.size, 0, none⟩ = some (.int .i64 0) := by (first | (rw [hwR1]; with_reducible assumption) | (rw [hwR1]; (repeat (first | with_reducible assumption | ((with_reducible refine kfresh ?_ ?_) <;> (first | with_reducible rfl | (simp; done))) | ((with_reducible refine ksameS ?_); focus ((repeat (first | with_reducible exact kis_of (by with_reducible assumption) | with_reducible refine kis_set ?_ | ((with_reducible refine kis_new ?_ ?_) <;> (first | with_reducible rfl | rfl | (simp; done))) | with_reducible refine kis_alloc _ ?_ | with_reducible refine kis_drew ?_ | with_reducible refine kis_call (by with_reducible assumption) ?_ | with_reducible exact kis_of (kcall (by with_reducible assumption) (by with_reducible assumption)))); done)) | with_reducible refine kother (by decide) ?_ | with_reducible refine kset (by first | omega | (simp; done) | (simp; omega)) ?_ | with_reducible refine kalloc _ ?_ | with_reducible refine kdrew ?_ | with_reducible refine kdrewN ?_ | with_reducible refine kcall (by with_reducible assumption) ?_)); done) | (rw [hwR1]; (repeat (first | with_reducible assumption | ((with_reducible refine kfresh ?_ ?_) <;> (first | with_reducible rfl | (simp; done))) | ((with_reducible refine ksameS ?_); focus ((repeat (first | with_reducible exact kis_of (by with_reducible assumption) | with_reducible refine kis_set ?_ | ((with_reducible refine kis_new ?_ ?_) <;> (first | with_reducible rfl | rfl | (simp; done))) | with_reducible refine kis_alloc _ ?_ | with_reducible refine kis_drew ?_ | with_reducible refine kis_call (by with_reducible assumption) ?_ | with_reducible exact kis_of (kcall (by with_reducible assumption) (by with_reducible assumption)))); done)) | with_reducible refine kother (by decide) ?_ | with_reducible refine kset (by first | omega | (simp; done) | (simp; omega)) ?_ | with_reducible refine kalloc _ ?_ | with_reducible refine kdrew ?_ | with_reducible refine kdrewN ?_ | with_reducible refine kcall (by with_reducible assumption) ?_))))
      have kR1_0_1 : wR1.cell? ⟨w.heap.size, 1, none⟩ = some (.int .i64 0) := by (first | (rw [hwR1]; with_reducible assumption) | (rw [hwR1]; (repeat (first | with_reducible assumption | ((with_reducible refine kfresh ?_ ?_) <;> (first | with_reducible rfl | (simp; done))) | ((with_reducible refine ksameS ?_); focus ((repeat (first | with_reducible exact kis_of (by with_reducible assumption) | with_reducible refine kis_set ?_ | ((with_reducible refine kis_new ?_ ?_) <;> (first | with_reducible rfl | rfl | (simp; done))) | with_reducible refine kis_alloc _ ?_ | with_reducible refine kis_drew ?_ | with_reducible refine kis_call (by with_reducible assumption) ?_ | with_reducible exact kis_of (kcall (by with_reducible assumption) (by with_reducible assumption)))); done)) | with_reducible refine kother (by decide) ?_ | with_reducible refine kset (by first | omega | (simp; done) | (simp; omega)) ?_ | with_reducible refine kalloc _ ?_ | with_reducible refine kdrew ?_ | with_reducible refine kdrewN ?_ | with_reducible refine kcall (by with_reducible assumption) ?_)); done) | (rw [hwR1]; (repeat (first | with_reducible assumption | ((with_reducible refine kfresh ?_ ?_) <;> (first | with_reducible rfl | (simp; done))) | ((with_reducible refine ksameS ?_); focus ((repeat (first | with_reducible exact kis_of (by with_reducible assumption) | with_reducible refine kis_set ?_ | ((with_reducible refine kis_new ?_ ?_) <;> (first | with_reducible rfl | rfl | (simp; done))) | with_reducible refine kis_alloc _ ?_ | with_reducible refine kis_drew ?_ | with_reducible refine kis_call (by with_reducible assumption) ?_ | with_reducible exact kis_of (kcall (by with_reducible assumption) (by with_reducible assumption)))); done)) | with_reducible refine kother (by decide) ?_ | with_reducible refine kset (by first | omega | (simp; done) | (simp; omega)) ?_ | with_reducible refine kalloc _ ?_ | with_reducible refine kdrew ?_ | with_reducible refine kdrewN ?_ | with_reducible refine kcall (by with_reducible assumption) ?_))))
      have kR1_0_2 : wR1.cell? ⟨w.heap.size, 2, none⟩ = some (.int .i64 0) := by (first | (rw [hwR1]; with_reducible assumption) | (rw [hwR1]; (repeat (first | with_reducible assumption | ((with_reducible refine kfresh ?_ ?_) <;> (first | with_reducible rfl | (simp; done))) | ((with_reducible refine ksameS ?_); focus ((repeat (first | with_reducible exact kis_of (by with_reducible assumption) | with_reducible refine kis_set ?_ | ((with_reducible refine kis_new ?_ ?_) <;> (first | with_reducible rfl | rfl | (simp; done))) | with_reducible refine kis_alloc _ ?_ | with_reducible refine kis_drew ?_ | with_reducible refine kis_call (by with_reducible assumption) ?_ | with_reducible exact kis_of (kcall (by with_reducible assumption) (by with_reducible assumption)))); done)) | with_reducible refine kother (by decide) ?_ | with_reducible refine kset (by first | omega | (simp; done) | (simp; omega)) ?_ | with_reducible refine kalloc _ ?_ | with_reducible refine kdrew ?_ | with_reducible refine kdrewN ?_ | with_reducible refine kcall (by with_reducible assumption) ?_)); done) | (rw [hwR1]; (repeat (first | with_reducible assumption | ((with_reducible refine kfresh ?_ ?_) <;> (first | with_reducible rfl | (simp; done))) | ((with_reducible refine ksameS ?_); focus ((repeat (first | with_reducible exact kis_of (by with_reducible assumption) | with_reducible refine kis_set ?_ | ((with_reducible refine kis_new ?_ ?_) <;> (first | with_reducible rfl | rfl | (simp; done))) | with_reducible refine kis_alloc _ ?_ | with_reducible refine kis_drew ?_ | with_reducible refine kis_call (by with_reducible assumption) ?_ | with_reducible exact kis_of (kcall (by with_reducible assumption) (by with_reducible assumption)))); done)) | with_reducible refine kother (by decide) ?_ | with_reducible refine kset (by first | omega | (simp; done) | (simp; omega)) ?_ | with_reducible refine kalloc _ ?_ | with_reducible refine kdrew ?_ | with_reducible refine kdrewN ?_ | with_reducible refine kcall (by with_reducible assumption) ?_))))
      have fR1_0_0 : wR1.frozen? ⟨w.heap.size, 0, none⟩ = false := by rw [hwR1]; (first | with_reducible assumption | (repeat (first | with_reducible assumption | with_reducible refine fdrew ?_ | with_reducible refine fdrewN ?_ | with_reducible refine fset ?_ | ((with_reducible refine fallocNew ?_) <;> (first | with_reducible rfl | (simp; done))) | ((with_reducible refine kfro (by with_reducible assumption) ?_ ?_); focus (first | with_reducible assumption | omega | (simp; done) | (simp; omega))) | ((with_reducible refine falloc ?_ ?_); focus (first | with_reducible assumption | omega | (simp; done) | (simp; omega))))))
      have fR1_0_1 : wR1.frozen? ⟨w.heap.size, 1, none⟩ = false := by rw [hwR1]; (first | with_reducible assumption | (repeat (first | with_reducible assumption | with_reducible refine fdrew ?_ | with_reducible refine fdrewN ?_ | with_reducible refine fset ?_ | ((with_reducible refine fallocNew ?_) <;> (first | with_reducible rfl | (simp; done))) | ((with_reducible refine kfro (by with_reducible assumption) ?_ ?_); focus (first | with_reducible assumption | omega | (simp; done) | (simp; omega))) | ((with_reducible refine falloc ?_ ?_); focus (first | with_reducible assumption | omega | (simp; done) | (simp; omega))))))
      have fR1_0_2 : wR1.frozen? ⟨w.heap.size, 2, none⟩ = false := by rw [hwR1]; (first | with_reducible assumption | (repeat (first | with_reducible assumption | with_reducible refine fdrew ?_ | with_reducible refine fdrewN ?_ | with_reducible refine fset ?_ | ((with_reducible refine fallocNew ?_) <;> (first | with_reducible rfl | (simp; done))) | ((with_reducible refine kfro (by with_reducible assumption) ?_ ?_); focus (first | with_reducible assumption | omega | (simp; done) | (simp; omega))) | ((with_reducible refine falloc ?_ ?_); focus (first | with_reducible assumption | omega | (simp; done) | (simp; omega))))))
      have lR1_0 : w.heap.size < wR1.heap.size := by omega
      clear hwR1
      go_wp2_with fail
      refine Calls.mono (areNums_any _ _ _ _ _ [x, y, z] _ rfl (by simp) (by exact cells_at (by simp) [x, y, z] _)) ?_
      rintro e w' ⟨rfl, rfl⟩
      go_wp2_with fail
      refine Calls.mono (codeFor_any _ _ _) ?_
      rintro e w' ⟨rfl, rfl⟩
      go_upto_region 2 with fail
      refine wp_name (fun wR2 hwR2 => ?_)
      have sR2 : wR1.heap.size + 1 ≤ wR2.heap.size := by rw [hwR2]; (first | exact Nat.le_refl _ | (simp; done) | (simp; omega))
      have hxR2 : Below w.heap.size w wR2 := by rw [hwR2]; (repeat (first | with_reducible exact Below.refl _ _ | with_reducible exact hxR1 | with_reducible refine balloc ?_ _ | with_reducible refine bdrewN ?_ _ | with_reducible refine Below.drew ?_ | with_reducible refine bthen ?_ (by with_reducible assumption) | with_reducible refine Below.setCell ?_ (by first | (simp; done) | (simp; omega)) _))
      have kR2_0_0 : wR2.cell? ⟨w.heap.size, 0, none⟩ = some (.int .i64 0) := by rw [hwR2]; with_reducible exact (kalloc _ kR1_0_0)
      have kR2_0_1 : wR2.cell? ⟨w.heap.size, 1, none⟩ = some (.int .i64 0) := by rw [hwR2]; with_reducible exact (kalloc _ kR1_0_1)
      have kR2_0_2 : wR2.cell? ⟨w.heap.size, 2, none⟩ = some (.int .i64 0) := by rw [hwR2]; with_reducible exact (kalloc _ kR1_0_2)
      have fR2_0_0 : wR2.frozen? ⟨w.heap.size, 0, none⟩ = false := by rw [hwR2]; with_reducible exact (falloc (by first | omega | (simp; omega)) fR1_0_0)
      have fR2_0_1 : wR2.frozen? ⟨w.heap.size, 1, none⟩ = false := by rw [hwR2]; with_reducible exact (falloc (by first | omega | (simp; omega)) fR1_0_1)
      have fR2_0_2 : wR2.frozen? ⟨w.heap.size, 2, none⟩ = false := by rw [hwR2]; with_reducible exact (falloc (by first | omega | (simp; omega)) fR1_0_2)
      have lR2_0 : w.heap.size < wR2.heap.size := by omega
      clear kR1_0_0 kR1_0_1 kR1_0_2 fR1_0_0 fR1_0_1 fR1_0_2
      clear hwR2
      have HV := Lib.hid (py_out (x := x) (y := y) (z := z) hp (by simp [pyB, hd1, hd2]))
      go_wp2
      (refine bodyPost_ret (v := .tuple #[.agg #[.int .i64 (pyV1 p x y z), .int .i64 (pyV2 p x y z), .int .i64 (pyV3 p x y z)], .int .i64 (pyC p x y z)]) (by simp [results, Try.results13, go_sem, HV.out.1, HV.out.2.1, HV.out.2.2.1, HV.out.2.2.2, *]) rfl ⟨?_, ?_⟩)
      · rfl
      · (repeat (first | with_reducible exact Below.refl _ _ | with_reducible exact hxR2 | with_reducible refine balloc ?_ _ | with_reducible refine bdrewN ?_ _ | with_reducible refine Below.drew ?_ | with_reducible refine bthen ?_ (by with_reducible assumption) | with_reducible refine Below.setCell ?_ (by first | (simp; done) | (simp; omega)) _))
    · have hd2q := nums3 hd2
      have c_1 : codeOf p (numsIn p [x, y, z]) = 0 := codeOf_in hp (by simp [hd2])
      have cT : codeOf p true = 0 := codeOf_in hp rfl
      go_upto_region 1 with fail
      refine wp_name (fun wR1 hwR1 => ?_)
      have sR1 : w.heap.size + 1 ≤ wR1.heap.size := by rw [hwR1]; (first | exact Nat.le_refl _ | (simp; done) | (simp; omega))
      have hxR1 : Below w.heap.size w wR1 := by rw [hwR1]; (repeat (first | with_reducible exact Below.refl _ _ | with_reducible refine balloc ?_ _ | with_reducible refine bdrewN ?_ _ | with_reducible refine Below.drew ?_ | with_reducible refine bthen ?_ (by with_reducible assumption) | with_reducible refine Below.setCell ?_ (by first | (simp; done) | (simp; omega)) _))
      have kR1_0_0 : wR1.cell? ⟨w.heap.size, 0, none⟩ = some (.int .i64 0) := by (first | (rw [hwR1]; with_reducible assumption) | (rw [hwR1]; (repeat (first | with_reducible assumption | ((with_reducible refine kfresh ?_ ?_) <;> (first | with_reducible rfl | (simp; done))) | ((with_reducible refine ksameS ?_); focus ((repeat (first | with_reducible exact kis_of (by with_reducible assumption) | with_reducible refine kis_set ?_ | ((with_reducible refine kis_new ?_ ?_) <;> (first | with_reducible rfl | rfl | (simp; done))) | with_reducible refine kis_alloc _ ?_ | with_reducible refine kis_drew ?_ | with_reducible refine kis_call (by with_reducible assumption) ?_ | with_reducible exact kis_of (kcall (by with_reducible assumption) (by with_reducible assumption)))); done)) | with_reducible refine kother (by decide) ?_ | with_reducible refine kset (by first | omega | (simp; done) | (simp; omega)) ?_ | with_reducible refine kalloc _ ?_ | with_reducible refine kdrew ?_ | with_reducible refine kdrewN ?_ | with_reducible refine kcall (by with_reducible assumption) ?_)); done) | (rw [hwR1]; (repeat (first | with_reducible assumption | ((with_reducible refine kfresh ?_ ?_) <;> (first | with_reducible rfl | (simp; done))) | ((with_reducible refine ksameS ?_); focus ((repeat (first | with_reducible exact kis_of (by with_reducible assumption) | with_reducible refine kis_set ?_ | ((with_reducible refine kis_new ?_ ?_) <;> (first | with_reducible rfl | rfl | (simp; done))) | with_reducible refine kis_alloc _ ?_ | with_reducible refine kis_drew ?_ | with_reducible refine kis_call (by with_reducible assumption) ?_ | with_reducible exact kis_of (kcall (by with_reducible assumption) (by with_reducible assumption)))); done)) | with_reducible refine kother (by decide) ?_ | with_reducible refine kset (by first | omega | (simp; done) | (simp; omega)) ?_ | with_reducible refine kalloc _ ?_ | with_reducible refine kdrew ?_ | with_reducible refine kdrewN ?_ | with_reducible refine kcall (by with_reducible assumption) ?_))))
      have kR1_0_1 : wR1.cell? ⟨w.heap.size, 1, none⟩ = some (.int .i64 0) := by (first | (rw [hwR1]; with_reducible assumption) | (rw [hwR1]; (repeat (first | with_reducible assumption | ((with_reducible refine kfresh ?_ ?_) <;> (first | with_reducible rfl | (simp; done))) | ((with_reducible refine ksameS ?_); focus ((repeat (first | with_reducible exact kis_of (by with_reducible assumption) | with_reducible refine kis_set ?_ | ((with_reducible refine kis_new ?_ ?_) <;> (first | with_reducible rfl | rfl | (simp; done))) | with_reducible refine kis_alloc _ ?_ | with_reducible refine kis_drew ?_ | with_reducible refine kis_call (by with_reducible assumption) ?_ | with_reducible exact kis_of (kcall (by with_reducible assumption) (by with_reducible assumption)))); done)) | with_reducible refine kother (by decide) ?_ | with_reducible refine kset (by first | omega | (simp; done) | (simp; omega)) ?_ | with_reducible refine kalloc _ ?_ | with_reducible refine kdrew ?_ | with_reducible refine kdrewN ?_ | with_reducible refine kcall (by with_reducible assumption) ?_)); done) | (rw [hwR1]; (repeat (first | with_reducible assumption | ((with_reducible refine kfresh ?_ ?_) <;> (first | with_reducible rfl | (simp; done))) | ((with_reducible refine ksameS ?_); focus ((repeat (first | with_reducible exact kis_of (by with_reducible assumption) | with_reducible refine kis_set ?_ | ((with_reducible refine kis_new ?_ ?_) <;> (first | with_reducible rfl | rfl | (simp; done))) | with_reducible refine kis_alloc _ ?_ | with_reducible refine kis_drew ?_ | with_reducible refine kis_call (by with_reducible assumption) ?_ | with_reducible exact kis_of (kcall (by with_reducible assumption) (by with_reducible assumption)))); done)) | with_reducible refine kother (by decide) ?_ | with_reducible refine kset (by first | omega | (simp; done) | (simp; omega)) ?_ | with_reducible refine kalloc _ ?_ | with_reducible refine kdrew ?_ | with_reducible refine kdrewN ?_ | with_reducible refine kcall (by with_reducible assumption) ?_))))
      have kR1_0_2 : wR1.cell? ⟨w.heap.size, 2, none⟩ = some (.int .i64 0) := by (first | (rw [hwR1]; with_reducible assumption) | (rw [hwR1]; (repeat (first | with_reducible assumption | ((with_reducible refine kfresh ?_ ?_) <;> (first | with_reducible rfl | (simp; done))) | ((with_reducible refine ksameS ?_); focus ((repeat (first | with_reducible exact kis_of (by with_reducible assumption) | with_reducible refine kis_set ?_ | ((with_reducible refine kis_new ?_ ?_) <;> (first | with_reducible rfl | rfl | (simp; done))) | with_reducible refine kis_alloc _ ?_ | with_reducible refine kis_drew ?_ | with_reducible refine kis_call (by with_reducible assumption) ?_ | with_reducible exact kis_of (kcall (by with_reducible assumption) (by with_reducible assumption)))); done)) | with_reducible refine kother (by decide) ?_ | with_reducible refine kset (by first | omega | (simp; done) | (simp; omega)) ?_ | with_reducible refine kalloc _ ?_ | with_reducible refine kdrew ?_ | with_reducible refine kdrewN ?_ | with_reducible refine kcall (by with_reducible assumption) ?_)); done) | (rw [hwR1]; (repeat (first | with_reducible assumption | ((with_reducible refine kfresh ?_ ?_) <;> (first | with_reducible rfl | (simp; done))) | ((with_reducible refine ksameS ?_); focus ((repeat (first | with_reducible exact kis_of (by with_reducible assumption) | with_reducible refine kis_set ?_ | ((with_reducible refine kis_new ?_ ?_) <;> (first | with_reducible rfl | rfl | (simp; done))) | with_reducible refine kis_alloc _ ?_ | with_reducible refine kis_drew ?_ | with_reducible refine kis_call (by with_reducible assumption) ?_ | with_reducible exact kis_of (kcall (by with_reducible assumption) (by with_reducible assumption)))); done)) | with_reducible refine kother (by decide) ?_ | with_reducible refine kset (by first | omega | (simp; done) | (simp; omega)) ?_ | with_reducible refine kalloc _ ?_ | with_reducible refine kdrew ?_ | with_reducible refine kdrewN ?_ | with_reducible refine kcall (by with_reducible assumption) ?_))))
      have fR1_0_0 : wR1.frozen? ⟨w.heap.size, 0, none⟩ = false := by rw [hwR1]; (first | with_reducible assumption | (repeat (first | with_reducible assumption | with_reducible refine fdrew ?_ | with_reducible refine fdrewN ?_ | with_reducible refine fset ?_ | ((with_reducible refine fallocNew ?_) <;> (first | with_reducible rfl | (simp; done))) | ((with_reducible refine kfro (by with_reducible assumption) ?_ ?_); focus (first | with_reducible assumption | omega | (simp; done) | (simp; omega))) | ((with_reducible refine falloc ?_ ?_); focus (first | with_reducible assumption | omega | (simp; done) | (simp; omega))))))
      have fR1_0_1 : wR1.frozen? ⟨w.heap.size, 1, none⟩ = false := by rw [hwR1]; (first | with_reducible assumption | (repeat (first | with_reducible assumption | with_reducible refine fdrew ?_ | with_reducible refine fdrewN ?_ | with_reducible refine fset ?_ | ((with_reducible refine fallocNew ?_) <;> (first | with_reducible rfl | (simp; done))) | ((with_reducible refine kfro (by with_reducible assumption) ?_ ?_); focus (first | with_reducible assumption | omega | (simp; done) | (simp; omega))) | ((with_reducible refine falloc ?_ ?_); focus (first | with_reducible assumption | omega | (simp; done) | (simp; omega))))))
      have fR1_0_2 : wR1.frozen? ⟨w.heap.size, 2, none⟩ = false := by rw [hwR1]; (first | with_reducible assumption | (repeat (first | with_reducible assumption | with_reducible refine fdrew ?_ | with_reducible refine fdrewN ?_ | with_reducible refine fset ?_ | ((with_reducible refine fallocNew ?_) <;> (first | with_reducible rfl | (simp; done))) | ((with_reducible refine kfro (by with_reducible assumption) ?_ ?_); focus (first | with_reducible assumption | omega | (simp; done) | (simp; omega))) | ((with_reducible refine falloc ?_ ?_); focus (first | with_reducible assumption | omega | (simp; done) | (simp; omega))))))
      have lR1_0 : w.heap.size < wR1.heap.size := by omega
      clear hwR1
      go_wp2_with fail
      refine Calls.mono (areNums_any _ _ _ _ _ [x, y, z] _ rfl (by simp) (by exact cells_at (by simp) [x, y, z] _)) ?_
      rintro e w' ⟨rfl, rfl⟩
      go_wp2_with fail
      refine Calls.mono (codeFor_any _ _ _) ?_
      rintro e w' ⟨rfl, rfl⟩
      go_upto_region 2 with fail
      refine wp_name (fun wR2 hwR2 => ?_)
      have sR2 : wR1.heap.size + 1 ≤ wR2.heap.size := by rw [hwR2]; (first | exact Nat.le_refl _ | (simp; done) | (simp; omega))
      have hxR2 : Below w.heap.size w wR2 := by rw [hwR2]; (repeat (first | with_reducible exact Below.refl _ _ | with_reducible exact hxR1 | with_reducible refine balloc ?_ _ | with_reducible refine bdrewN ?_ _ | with_reducible refine Below.drew ?_ | with_reducible refine bthen ?_ (by with_reducible assumption) | with_reducible refine Below.setCell ?_ (by first | (simp; done) | (simp; omega)) _))
      have kR2_0_0 : wR2.cell? ⟨w.heap.size, 0, none⟩ = some (.int .i64 0) := by rw [hwR2]; with_reducible exact (kalloc _ kR1_0_0)
      have kR2_0_1 : wR2.cell? ⟨w.heap.size, 1, none⟩ = some (.int .i64 0) := by rw [hwR2]; with_reducible exact (kalloc _ kR1_0_1)
      have kR2_0_2 : wR2.cell? ⟨w.heap.size, 2, none⟩ = some (.int .i64 0) := by rw [hwR2]; with_reducible exact (kalloc _ kR1_0_2)
      have fR2_0_0 : wR2.frozen? ⟨w.heap.size, 0, none⟩ = false := by rw [hwR2]; with_reducible exact (falloc (by first | omega | (simp; omega)) fR1_0_0)
      have fR2_0_1 : wR2.frozen? ⟨w.heap.size, 1, none⟩ = false := by rw [hwR2]; with_reducible exact (falloc (by first | omega | (simp; omega)) fR1_0_1)
      have fR2_0_2 : wR2.frozen? ⟨w.heap.size, 2, none⟩ = false := by rw [hwR2]; with_reducible exact (falloc (by first | omega | (simp; omega)) fR1_0_2)
      have lR2_0 : w.heap.size < wR2.heap.size := by omega
      clear kR1_0_0 kR1_0_1 kR1_0_2 fR1_0_0 fR1_0_1 fR1_0_2
      clear hwR2
      go_upto_region 5 with fail
      refine wp_name (fun wR3 hwR3 => ?_)
      have sR3 : wR2.heap.size + 1 ≤ wR3.heap.size := by rw [hwR3]; (first | exact Nat.le_refl _ | (simp; done) | (simp; omega))
      have hxR3 : Below w.heap.size w wR3 := by rw [hwR3]; (repeat (first | with_reducible exact Below.refl _ _ | with_reducible exact hxR2 | with_reducible refine balloc ?_ _ | with_reducible refine bdrewN ?_ _ | with_reducible refine Below.drew ?_ | with_reducible refine bthen ?_ (by with_reducible assumption) | with_reducible refine Below.setCell ?_ (by first | (simp; done) | (simp; omega)) _))
      have kR3_0_0 : wR3.cell? ⟨w.heap.size, 0, none⟩ = some (.int .i64 0) := by rw [hwR3]; with_reducible exact (kalloc _ kR2_0_0)
      have kR3_0_1 : wR3.cell? ⟨w.heap.size, 1, none⟩ = some (.int .i64 0) := by rw [hwR3]; with_reducible exact (kalloc _ kR2_0_1)
      have kR3_0_2 : wR3.cell? ⟨w.heap.size, 2, none⟩ = some (.int .i64 0) := by rw [hwR3]; with_reducible exact (kalloc _ kR2_0_2)
      have fR3_0_0 : wR3.frozen? ⟨w.heap.size, 0, none⟩ = false := by rw [hwR3]; with_reducible exact (falloc (by first | omega | (simp; omega)) fR2_0_0)
      have fR3_0_1 : wR3.frozen? ⟨w.heap.size, 1, none⟩ = false := by rw [hwR3]; with_reducible exact (falloc (by first | omega | (simp; omega)) fR2_0_1)
      have fR3_0_2 : wR3.frozen? ⟨w.heap.size, 2, none⟩ = false := by rw [hwR3]; with_reducible exact (falloc (by first | omega | (simp; omega)) fR2_0_2)
      have lR3_0 : w.heap.size < wR3.heap.size := by omega
      have kR3_1_0 : wR3.cell? ⟨wR2.heap.size, 0, none⟩ = some (.int .i64 x) := by rw [hwR3]; with_reducible exact (kfresh (by first | rfl | simp) rfl)
      have kR3_1_1 : wR3.cell? ⟨wR2.heap.size, 1, none⟩ = some (.int .i64 y) := by rw [hwR3]; with_reducible exact (kfresh (by first | rfl | simp) rfl)
      have kR3_1_2 : wR3.cell? ⟨wR2.heap.size, 2, none⟩ = some (.int .i64 z) := by rw [hwR3]; with_reducible exact (kfresh (by first | rfl | simp) rfl)
      have lR3_1 : wR2.heap.size < wR3.heap.size := by omega
      clear kR2_0_0 kR2_0_1 kR2_0_2 fR2_0_0 fR2_0_1 fR2_0_2
      clear hwR3
      rcases bool_ways (x == 0 && y == 0 && z == 0) with hd3 | hd3
      · skip
        obtain ⟨v1, hv1⟩ : ∃ v : Int, v = ck p x y z x := ⟨_, rfl⟩
        have rv1 := ck_r x y z x hp
        rw [← hv1] at rv1
        have Hv1 := Lib.hid hv1
        clear hv1
        obtain ⟨v2, hv2⟩ : ∃ v : Int, v = ck p x y z y := ⟨_, rfl⟩
        have rv2 := ck_r x y z y hp
        rw [← hv2] at rv2
        have Hv2 := Lib.hid hv2
        clear hv2
        obtain ⟨v3, hv3⟩ : ∃ v : Int, v = ck p x y z z := ⟨_, rfl⟩
        have rv3 := ck_r x y z z hp
        rw [← hv3] at rv3
        have Hv3 := Lib.hid hv3
        clear hv3
        go_wp2_with fail
        refine Calls.mono (plMade_any _ _ _ _ _ hp (by omega) (by omega) (by omega)) ?_
        rw [← Hv1.out, ← Hv2.out, ← Hv3.out]
        rintro e w1 ⟨rfl, hB1⟩
        (obtain ⟨hB1c, hB1f⟩ := bcell hB1; have hB1s := hB1.size; (try simp at hB1s); (try have hB1q1 := Nat.lt_of_succ_le hB1s); (try have hB1q2 := Nat.lt_of_succ_lt hB1q1); (try have hB1q3 := Nat.lt_of_succ_lt hB1q2); (try have hB1zw0 : w.heap.size < w1.heap.size := (by omega)); (try have hB1zw1 : w.heap.size + 1 < w1.heap.size := (by omega)); (try have hB1zw2 : w.heap.size + 1 + 1 < w1.heap.size := (by omega)); (try have hB1zw3 : w.heap.size + 1 + 1 + 1 < w1.heap.size := (by omega)); (try have hB1zw4 : w.heap.size + 1 + 1 + 1 + 1 < w1.heap.size := (by omega)); (try have hB1zwR30 : wR3.heap.size < w1.heap.size := (by omega)); (try have hB1zwR31 : wR3.heap.size + 1 < w1.heap.size := (by omega)); (try have hB1zwR32 : wR3.heap.size + 1 + 1 < w1.heap.size := (by omega)); (try have hB1zwR33 : wR3.heap.size + 1 + 1 + 1 < w1.heap.size := (by omega)); (try have hB1zwR34 : wR3.heap.size + 1 + 1 + 1 + 1 < w1.heap.size := (by omega)))
        have HB : pyB p x y z = true := by simp [pyB, hd1, hd2, hd3]
        have HS : pyS p x y z = 0 := by (unfold pyS; simp [hd1, hd2, hd3])
        have HV := Lib.hid (show pyV1 p x y z = v1 ∧ pyV2 p x y z = v2 ∧ pyV3 p x y z = v3 ∧ pyC p x y z = 0 from by
          have HG := py_good (x := x) (y := y) (z := z) hp HB HS
          refine ⟨(HG.1).trans ?_, (HG.2.1).trans ?_, (HG.2.2.1).trans ?_, HG.2.2.2⟩
          all_goals (have q := nums3 hd2; simp only [Hv3.out, Hv2.out, Hv1.out]))
        clear HB HS
        go_wp2
        (refine bodyPost_ret (v := .tuple #[.agg #[.int .i64 (pyV1 p x y z), .int .i64 (pyV2 p x y z), .int .i64 (pyV3 p x y z)], .int .i64 (pyC p x y z)]) (by simp [results, Try.results13, go_sem, HV.out.1, HV.out.2.1, HV.out.2.2.1, HV.out.2.2.2, *]) rfl ⟨?_, ?_⟩)
        · rfl
        · (repeat (first | with_reducible exact Below.refl _ _ | with_reducible exact hxR3 | with_reducible refine balloc ?_ _ | with_reducible refine bdrewN ?_ _ | with_reducible refine Below.drew ?_ | with_reducible refine bthen ?_ (by with_reducible assumption) | with_reducible refine Below.setCell ?_ (by first | (simp; done) | (simp; omega)) _))
      · skip
        have HB : pyB p x y z = true := by simp [pyB, hd1, hd2, hd3]
        have HS : pyS p x y z = 5 := by (unfold pyS; simp [hd1, hd2, hd3])
        have HV := Lib.hid (py_st (x := x) (y := y) (z := z) hp HB HS (by decide))
        clear HB HS
        go_wp2
        (refine bodyPost_ret (v := .tuple #[.agg #[.int .i64 (pyV1 p x y z), .int .i64 (pyV2 p x y z), .int .i64 (pyV3 p x y z)], .int .i64 (pyC p x y z)]) (by simp [results, Try.results13, go_sem, HV.out.1, HV.out.2.1, HV.out.2.2.1, HV.out.2.2.2, *]) rfl ⟨?_, ?_⟩)
        · rfl
        · (repeat (first | with_reducible exact Below.refl _ _ | with_reducible exact hxR3 | with_reducible refine balloc ?_ _ | with_reducible refine bdrewN ?_ _ | with_reducible refine Below.drew ?_ | with_reducible refine bthen ?_ (by with_reducible assumption) | with_reducible refine Below.setCell ?_ (by first | (simp; done) | (simp; omega)) _))

end Go.Proofs.Ytgklnlblghookaa
