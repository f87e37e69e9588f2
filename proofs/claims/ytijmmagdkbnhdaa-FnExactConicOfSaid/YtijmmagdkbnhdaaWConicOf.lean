/-
  The law's walk: ConicOf.
-/
import Derived.Test.YtijmmagdkbnhdaaEConicOf
import Derived.Test.YtijmmagdkbnhdaaToInts
import Derived.Test.YtijmmagdkbnhdaaArrConic
import Derived.Test.YtijmmagdkbnhdaaArrIntsE
import Derived.Test.YtijmmagdkbnhdaaLast
import Derived.Deep.RegionHeld3
import Derived.Deep.DeepCutAuto
import Derived.Test.YtijmmagdkbnhdaaBaseMath
namespace Go.Proofs.Ytijmmagdkbnhdaa
open Go.RowKit

set_option maxRecDepth 20000 in
set_option maxHeartbeats 8000000 in
theorem exactConicOf_walk (a0 : Int) (v : Value) (n : Nat) (f : Nat → Int) (w : World) (hv : SliceIn w v n f) :
    Calls Try.prog 5 #[.int .i64 a0, v] w fun e w' => e = .returned (.bool true) ∧ Below w.heap.size w w' := by
  have hsh : ∃ ad c, v = .slice ad n c := by
    rcases hv with ⟨rfl, a, c, rfl⟩ | ⟨_, b, o, c, rfl, _⟩
    · exact ⟨_, _, rfl⟩
    · exact ⟨_, _, rfl⟩
  obtain ⟨ad, c, rfl⟩ := hsh
  have HV := Lib.hid hv
  clear hv
  obtain ⟨y1, hy1⟩ : ∃ y, y = coG1 a0 n f := ⟨_, rfl⟩
  have Hy1 := Lib.hid hy1
  clear hy1
  obtain ⟨y2, hy2⟩ : ∃ y, y = coG2 a0 n f := ⟨_, rfl⟩
  have Hy2 := Lib.hid hy2
  clear hy2
  obtain ⟨y3, hy3⟩ : ∃ y, y = coG3 a0 n f := ⟨_, rfl⟩
  have Hy3 := Lib.hid hy3
  clear hy3
  obtain ⟨y4, hy4⟩ : ∃ y, y = coG4 a0 n f := ⟨_, rfl⟩
  have Hy4 := Lib.hid hy4
  clear hy4
  obtain ⟨y5, hy5⟩ : ∃ y, y = coG5 a0 n f := ⟨_, rfl⟩
  have Hy5 := Lib.hid hy5
  clear hy5
  obtain ⟨y6, hy6⟩ : ∃ y, y = coG6 a0 n f := ⟨_, rfl⟩
  have Hy6 := Lib.hid hy6
  clear hy6
  obtain ⟨yc, hyc⟩ : ∃ y, y = coGC a0 n f := ⟨_, rfl⟩
  have Hyc := Lib.hid hyc
  clear hyc
  by_cases hn : n ≤ 1048576
  · have hlen : ¬ ((1048576 : Int) < (n : Int)) := by omega
    go_enter Try.func5, Try.ntmps5
    go_wp2_with fail
    refine Calls.mono (toInts_any _ n f _ hn HV.out) ?_
    rintro e w1 ⟨rfl, ho1, hB1⟩
    have HO1 := Lib.hid ho1
    clear ho1
    go_wp2_with fail
    refine Calls.mono (specConicOf_any a0 n f _ _ _ hn HO1.out) ?_
    rw [← Hy1.out, ← Hy2.out, ← Hy3.out, ← Hy4.out, ← Hy5.out, ← Hy6.out, ← Hyc.out]
    rintro e w2 ⟨rfl, hB2⟩
    have hw2 : Below w.heap.size w w2 := bthen hB1 hB2
    go_upto_region 4 with fail
    refine wp_name (fun wN hwN => ?_)
    have hN : Below w.heap.size w wN := by rw [hwN]; (repeat (first | with_reducible exact Below.refl _ _ | with_reducible exact hw2 | with_reducible refine balloc ?_ _ | with_reducible refine bdrewN ?_ _ | with_reducible refine Below.drew ?_ | with_reducible refine bthen ?_ (by with_reducible assumption) | with_reducible refine Below.setCell ?_ (by first | (simp; done) | (simp; omega)) _))
    have sN : w2.heap.size < wN.heap.size := by rw [hwN]; simp
    have k0 : wN.cell? ⟨w2.heap.size, 0, none⟩ = some (.int .i64 y1) := by rw [hwN]; (repeat (first | with_reducible assumption | ((with_reducible refine kfresh ?_ ?_) <;> (first | with_reducible rfl | (simp; done))) | ((with_reducible refine ksameS ?_); focus ((repeat (first | with_reducible exact kis_of (by with_reducible assumption) | with_reducible refine kis_set ?_ | ((with_reducible refine kis_new ?_ ?_) <;> (first | with_reducible rfl | rfl | (simp; done))) | with_reducible refine kis_alloc _ ?_ | with_reducible refine kis_drew ?_ | with_reducible refine kis_call (by with_reducible assumption) ?_ | with_reducible exact kis_of (kcall (by with_reducible assumption) (by with_reducible assumption)))); done)) | with_reducible refine kother (by decide) ?_ | with_reducible refine kset (by first | omega | (simp; done) | (simp; omega)) ?_ | with_reducible refine kalloc _ ?_ | with_reducible refine kdrew ?_ | with_reducible refine kdrewN ?_ | with_reducible refine kcall (by with_reducible assumption) ?_))
    have k1 : wN.cell? ⟨w2.heap.size, 1, none⟩ = some (.int .i64 y2) := by rw [hwN]; (repeat (first | with_reducible assumption | ((with_reducible refine kfresh ?_ ?_) <;> (first | with_reducible rfl | (simp; done))) | ((with_reducible refine ksameS ?_); focus ((repeat (first | with_reducible exact kis_of (by with_reducible assumption) | with_reducible refine kis_set ?_ | ((with_reducible refine kis_new ?_ ?_) <;> (first | with_reducible rfl | rfl | (simp; done))) | with_reducible refine kis_alloc _ ?_ | with_reducible refine kis_drew ?_ | with_reducible refine kis_call (by with_reducible assumption) ?_ | with_reducible exact kis_of (kcall (by with_reducible assumption) (by with_reducible assumption)))); done)) | with_reducible refine kother (by decide) ?_ | with_reducible refine kset (by first | omega | (simp; done) | (simp; omega)) ?_ | with_reducible refine kalloc _ ?_ | with_reducible refine kdrew ?_ | with_reducible refine kdrewN ?_ | with_reducible refine kcall (by with_reducible assumption) ?_))
    have k2 : wN.cell? ⟨w2.heap.size, 2, none⟩ = some (.int .i64 y3) := by rw [hwN]; (repeat (first | with_reducible assumption | ((with_reducible refine kfresh ?_ ?_) <;> (first | with_reducible rfl | (simp; done))) | ((with_reducible refine ksameS ?_); focus ((repeat (first | with_reducible exact kis_of (by with_reducible assumption) | with_reducible refine kis_set ?_ | ((with_reducible refine kis_new ?_ ?_) <;> (first | with_reducible rfl | rfl | (simp; done))) | with_reducible refine kis_alloc _ ?_ | with_reducible refine kis_drew ?_ | with_reducible refine kis_call (by with_reducible assumption) ?_ | with_reducible exact kis_of (kcall (by with_reducible assumption) (by with_reducible assumption)))); done)) | with_reducible refine kother (by decide) ?_ | with_reducible refine kset (by first | omega | (simp; done) | (simp; omega)) ?_ | with_reducible refine kalloc _ ?_ | with_reducible refine kdrew ?_ | with_reducible refine kdrewN ?_ | with_reducible refine kcall (by with_reducible assumption) ?_))
    have k3 : wN.cell? ⟨w2.heap.size, 3, none⟩ = some (.int .i64 y4) := by rw [hwN]; (repeat (first | with_reducible assumption | ((with_reducible refine kfresh ?_ ?_) <;> (first | with_reducible rfl | (simp; done))) | ((with_reducible refine ksameS ?_); focus ((repeat (first | with_reducible exact kis_of (by with_reducible assumption) | with_reducible refine kis_set ?_ | ((with_reducible refine kis_new ?_ ?_) <;> (first | with_reducible rfl | rfl | (simp; done))) | with_reducible refine kis_alloc _ ?_ | with_reducible refine kis_drew ?_ | with_reducible refine kis_call (by with_reducible assumption) ?_ | with_reducible exact kis_of (kcall (by with_reducible assumption) (by with_reducible assumption)))); done)) | with_reducible refine kother (by decide) ?_ | with_reducible refine kset (by first | omega | (simp; done) | (simp; omega)) ?_ | with_reducible refine kalloc _ ?_ | with_reducible refine kdrew ?_ | with_reducible refine kdrewN ?_ | with_reducible refine kcall (by with_reducible assumption) ?_))
    have k4 : wN.cell? ⟨w2.heap.size, 4, none⟩ = some (.int .i64 y5) := by rw [hwN]; (repeat (first | with_reducible assumption | ((with_reducible refine kfresh ?_ ?_) <;> (first | with_reducible rfl | (simp; done))) | ((with_reducible refine ksameS ?_); focus ((repeat (first | with_reducible exact kis_of (by with_reducible assumption) | with_reducible refine kis_set ?_ | ((with_reducible refine kis_new ?_ ?_) <;> (first | with_reducible rfl | rfl | (simp; done))) | with_reducible refine kis_alloc _ ?_ | with_reducible refine kis_drew ?_ | with_reducible refine kis_call (by with_reducible assumption) ?_ | with_reducible exact kis_of (kcall (by with_reducible assumption) (by with_reducible assumption)))); done)) | with_reducible refine kother (by decide) ?_ | with_reducible refine kset (by first | omega | (simp; done) | (simp; omega)) ?_ | with_reducible refine kalloc _ ?_ | with_reducible refine kdrew ?_ | with_reducible refine kdrewN ?_ | with_reducible refine kcall (by with_reducible assumption) ?_))
    have k5 : wN.cell? ⟨w2.heap.size, 5, none⟩ = some (.int .i64 y6) := by rw [hwN]; (repeat (first | with_reducible assumption | ((with_reducible refine kfresh ?_ ?_) <;> (first | with_reducible rfl | (simp; done))) | ((with_reducible refine ksameS ?_); focus ((repeat (first | with_reducible exact kis_of (by with_reducible assumption) | with_reducible refine kis_set ?_ | ((with_reducible refine kis_new ?_ ?_) <;> (first | with_reducible rfl | rfl | (simp; done))) | with_reducible refine kis_alloc _ ?_ | with_reducible refine kis_drew ?_ | with_reducible refine kis_call (by with_reducible assumption) ?_ | with_reducible exact kis_of (kcall (by with_reducible assumption) (by with_reducible assumption)))); done)) | with_reducible refine kother (by decide) ?_ | with_reducible refine kset (by first | omega | (simp; done) | (simp; omega)) ?_ | with_reducible refine kalloc _ ?_ | with_reducible refine kdrew ?_ | with_reducible refine kdrewN ?_ | with_reducible refine kcall (by with_reducible assumption) ?_))
    clear hwN
    go_wp2_with fail
    refine Calls.mono (toInts_any _ n f _ hn (sliceIn_below HV.out hN)) ?_
    rintro e w3 ⟨rfl, ho3, hB3⟩
    have HO3 := Lib.hid ho3
    clear ho3
    have hN3 : Below w.heap.size w w3 := bthen hN hB3
    have l3 : w2.heap.size < w3.heap.size := by have := hB3.size; omega
    go_wp2_with fail
    refine Calls.mono (implConicOf_any a0 n f _ _ _ hn HO3.out) ?_
    rw [← Hy1.out, ← Hy2.out, ← Hy3.out, ← Hy4.out, ← Hy5.out, ← Hy6.out, ← Hyc.out]
    rintro e w4 ⟨rfl, hB4⟩
    have l4 : w2.heap.size < w4.heap.size := by have := hB4.size; omega
    have hN4 : Below w.heap.size w w4 := bthen hN3 hB4
    have n0 : w4.cell? ⟨w2.heap.size, 0, none⟩ = some (.int .i64 y1) := (cell_back hB4 l3 0).trans ((cell_back hB3 sN 0).trans k0)
    have n1 : w4.cell? ⟨w2.heap.size, 1, none⟩ = some (.int .i64 y2) := (cell_back hB4 l3 1).trans ((cell_back hB3 sN 1).trans k1)
    have n2 : w4.cell? ⟨w2.heap.size, 2, none⟩ = some (.int .i64 y3) := (cell_back hB4 l3 2).trans ((cell_back hB3 sN 2).trans k2)
    have n3 : w4.cell? ⟨w2.heap.size, 3, none⟩ = some (.int .i64 y4) := (cell_back hB4 l3 3).trans ((cell_back hB3 sN 3).trans k3)
    have n4 : w4.cell? ⟨w2.heap.size, 4, none⟩ = some (.int .i64 y5) := (cell_back hB4 l3 4).trans ((cell_back hB3 sN 4).trans k4)
    have n5 : w4.cell? ⟨w2.heap.size, 5, none⟩ = some (.int .i64 y6) := (cell_back hB4 l3 5).trans ((cell_back hB3 sN 5).trans k5)
    have HO4 := Lib.hid (own_call HO3.out hB4)
    go_upto_region 6 with fail
    refine wp_name (fun wM hwM => ?_)
    have hM : Below w4.heap.size w4 wM := by rw [hwM]; (repeat (first | with_reducible exact Below.refl _ _ | with_reducible refine balloc ?_ _ | with_reducible refine bdrewN ?_ _ | with_reducible refine Below.drew ?_ | with_reducible refine bthen ?_ (by with_reducible assumption) | with_reducible refine Below.setCell ?_ (by first | (simp; done) | (simp; omega)) _))
    have sM : w4.heap.size < wM.heap.size := by rw [hwM]; simp
    have q0 : wM.cell? ⟨w4.heap.size, 0, none⟩ = some (.int .i64 y1) := by rw [hwM]; (repeat (first | with_reducible assumption | ((with_reducible refine kfresh ?_ ?_) <;> (first | with_reducible rfl | (simp; done))) | ((with_reducible refine ksameS ?_); focus ((repeat (first | with_reducible exact kis_of (by with_reducible assumption) | with_reducible refine kis_set ?_ | ((with_reducible refine kis_new ?_ ?_) <;> (first | with_reducible rfl | rfl | (simp; done))) | with_reducible refine kis_alloc _ ?_ | with_reducible refine kis_drew ?_ | with_reducible refine kis_call (by with_reducible assumption) ?_ | with_reducible exact kis_of (kcall (by with_reducible assumption) (by with_reducible assumption)))); done)) | with_reducible refine kother (by decide) ?_ | with_reducible refine kset (by first | omega | (simp; done) | (simp; omega)) ?_ | with_reducible refine kalloc _ ?_ | with_reducible refine kdrew ?_ | with_reducible refine kdrewN ?_ | with_reducible refine kcall (by with_reducible assumption) ?_))
    have q1 : wM.cell? ⟨w4.heap.size, 1, none⟩ = some (.int .i64 y2) := by rw [hwM]; (repeat (first | with_reducible assumption | ((with_reducible refine kfresh ?_ ?_) <;> (first | with_reducible rfl | (simp; done))) | ((with_reducible refine ksameS ?_); focus ((repeat (first | with_reducible exact kis_of (by with_reducible assumption) | with_reducible refine kis_set ?_ | ((with_reducible refine kis_new ?_ ?_) <;> (first | with_reducible rfl | rfl | (simp; done))) | with_reducible refine kis_alloc _ ?_ | with_reducible refine kis_drew ?_ | with_reducible refine kis_call (by with_reducible assumption) ?_ | with_reducible exact kis_of (kcall (by with_reducible assumption) (by with_reducible assumption)))); done)) | with_reducible refine kother (by decide) ?_ | with_reducible refine kset (by first | omega | (simp; done) | (simp; omega)) ?_ | with_reducible refine kalloc _ ?_ | with_reducible refine kdrew ?_ | with_reducible refine kdrewN ?_ | with_reducible refine kcall (by with_reducible assumption) ?_))
    have q2 : wM.cell? ⟨w4.heap.size, 2, none⟩ = some (.int .i64 y3) := by rw [hwM]; (repeat (first | with_reducible assumption | ((with_reducible refine kfresh ?_ ?_) <;> (first | with_reducible rfl | (simp; done))) | ((with_reducible refine ksameS ?_); focus ((repeat (first | with_reducible exact kis_of (by with_reducible assumption) | with_reducible refine kis_set ?_ | ((with_reducible refine kis_new ?_ ?_) <;> (first | with_reducible rfl | rfl | (simp; done))) | with_reducible refine kis_alloc _ ?_ | with_reducible refine kis_drew ?_ | with_reducible refine kis_call (by with_reducible assumption) ?_ | with_reducible exact kis_of (kcall (by with_reducible assumption) (by with_reducible assumption)))); done)) | with_reducible refine kother (by decide) ?_ | with_reducible refine kset (by first | omega | (simp; done) | (simp; omega)) ?_ | with_reducible refine kalloc _ ?_ | with_reducible refine kdrew ?_ | with_reducible refine kdrewN ?_ | with_reducible refine kcall (by with_reducible assumption) ?_))
    have q3 : wM.cell? ⟨w4.heap.size, 3, none⟩ = some (.int .i64 y4) := by rw [hwM]; (repeat (first | with_reducible assumption | ((with_reducible refine kfresh ?_ ?_) <;> (first | with_reducible rfl | (simp; done))) | ((with_reducible refine ksameS ?_); focus ((repeat (first | with_reducible exact kis_of (by with_reducible assumption) | with_reducible refine kis_set ?_ | ((with_reducible refine kis_new ?_ ?_) <;> (first | with_reducible rfl | rfl | (simp; done))) | with_reducible refine kis_alloc _ ?_ | with_reducible refine kis_drew ?_ | with_reducible refine kis_call (by with_reducible assumption) ?_ | with_reducible exact kis_of (kcall (by with_reducible assumption) (by with_reducible assumption)))); done)) | with_reducible refine kother (by decide) ?_ | with_reducible refine kset (by first | omega | (simp; done) | (simp; omega)) ?_ | with_reducible refine kalloc _ ?_ | with_reducible refine kdrew ?_ | with_reducible refine kdrewN ?_ | with_reducible refine kcall (by with_reducible assumption) ?_))
    have q4 : wM.cell? ⟨w4.heap.size, 4, none⟩ = some (.int .i64 y5) := by rw [hwM]; (repeat (first | with_reducible assumption | ((with_reducible refine kfresh ?_ ?_) <;> (first | with_reducible rfl | (simp; done))) | ((with_reducible refine ksameS ?_); focus ((repeat (first | with_reducible exact kis_of (by with_reducible assumption) | with_reducible refine kis_set ?_ | ((with_reducible refine kis_new ?_ ?_) <;> (first | with_reducible rfl | rfl | (simp; done))) | with_reducible refine kis_alloc _ ?_ | with_reducible refine kis_drew ?_ | with_reducible refine kis_call (by with_reducible assumption) ?_ | with_reducible exact kis_of (kcall (by with_reducible assumption) (by with_reducible assumption)))); done)) | with_reducible refine kother (by decide) ?_ | with_reducible refine kset (by first | omega | (simp; done) | (simp; omega)) ?_ | with_reducible refine kalloc _ ?_ | with_reducible refine kdrew ?_ | with_reducible refine kdrewN ?_ | with_reducible refine kcall (by with_reducible assumption) ?_))
    have q5 : wM.cell? ⟨w4.heap.size, 5, none⟩ = some (.int .i64 y6) := by rw [hwM]; (repeat (first | with_reducible assumption | ((with_reducible refine kfresh ?_ ?_) <;> (first | with_reducible rfl | (simp; done))) | ((with_reducible refine ksameS ?_); focus ((repeat (first | with_reducible exact kis_of (by with_reducible assumption) | with_reducible refine kis_set ?_ | ((with_reducible refine kis_new ?_ ?_) <;> (first | with_reducible rfl | rfl | (simp; done))) | with_reducible refine kis_alloc _ ?_ | with_reducible refine kis_drew ?_ | with_reducible refine kis_call (by with_reducible assumption) ?_ | with_reducible exact kis_of (kcall (by with_reducible assumption) (by with_reducible assumption)))); done)) | with_reducible refine kother (by decide) ?_ | with_reducible refine kset (by first | omega | (simp; done) | (simp; omega)) ?_ | with_reducible refine kalloc _ ?_ | with_reducible refine kdrew ?_ | with_reducible refine kdrewN ?_ | with_reducible refine kcall (by with_reducible assumption) ?_))
    clear hwM
    have r0 : wM.cell? ⟨w2.heap.size, 0, none⟩ = some (.int .i64 y1) := (cell_back hM l4 0).trans n0
    have r1 : wM.cell? ⟨w2.heap.size, 1, none⟩ = some (.int .i64 y2) := (cell_back hM l4 1).trans n1
    have r2 : wM.cell? ⟨w2.heap.size, 2, none⟩ = some (.int .i64 y3) := (cell_back hM l4 2).trans n2
    have r3 : wM.cell? ⟨w2.heap.size, 3, none⟩ = some (.int .i64 y4) := (cell_back hM l4 3).trans n3
    have r4 : wM.cell? ⟨w2.heap.size, 4, none⟩ = some (.int .i64 y5) := (cell_back hM l4 4).trans n4
    have r5 : wM.cell? ⟨w2.heap.size, 5, none⟩ = some (.int .i64 y6) := (cell_back hM l4 5).trans n5
    have HO5 := Lib.hid (own_call HO4.out hM)
    have hN5 : Below w.heap.size w wM := bthen hN4 hM
    go_wp2_with fail
    refine Calls.mono (eqConic_same _ _ _ _ _ _ _) ?_
    rintro e w5 ⟨rfl, hB5⟩
    have HO6 := Lib.hid (own_call HO5.out hB5)
    have hN6 : Below w.heap.size w w5 := bthen hN5 hB5
    go_wp2_with fail
    refine Calls.mono (toInts_any _ n f _ hn (sliceIn_below HV.out hN6)) ?_
    rintro e w6 ⟨rfl, ho6, hB6⟩
    have HO7 := Lib.hid ho6
    have HO8 := Lib.hid (own_call HO6.out hB6)
    clear ho6
    go_wp2_with fail
    refine Calls.mono (eqInts_same HO8.out HO7.out) ?_
    rintro e w7 ⟨rfl, hB7⟩
    go_wp2
    go_ret
    exact ⟨rfl, bthen (bthen hN6 hB6) hB7⟩
  · have hlen : (1048576 : Int) < (n : Int) := by omega
    go_enter Try.func5, Try.ntmps5
    go_wp2
    go_ret
    exact ⟨rfl, Below.refl _ _⟩

end Go.Proofs.Ytijmmagdkbnhdaa
