/-
  The closure of impl.radicalLine.
-/
import Derived.Test.YtcebhcamegdmaaaRadVals
import Derived.Test.YtcebhcamegdmaaaImplPower
import Derived.Deep.RegionHeld3
import Derived.Deep.DeepCutAuto
import Derived.Test.YtcebhcamegdmaaaBaseMath
import Derived.Test.YtcebhcamegdmaaaKeepDrew
namespace Go.Proofs.Ytcebhcamegdmaaa
open Go.RowKit

set_option linter.unusedSimpArgs false in
set_option maxRecDepth 20000 in
set_option maxHeartbeats 4000000 in
theorem lss_any (p c k1 k2 k3 m1 m2 m3 a1 a2 : Int) (b0 b1 b2 b3 : Nat) (w : World) (hp : isP p = true) (hc : colB c = true) (hk1 : 0 ≤ k1 ∧ k1 < p) (hk2 : 0 ≤ k2 ∧ k2 < p) (hk3 : 0 ≤ k3 ∧ k3 < p) (hm1 : 0 ≤ m1 ∧ m1 < p) (hm2 : 0 ≤ m2 ∧ m2 < p) (hm3 : 0 ≤ m3 ∧ m3 < p) (ha1 : 0 ≤ a1 ∧ a1 < p) (ha2 : 0 ≤ a2 ∧ a2 < p) (kb0_0 : w.cell? ⟨b0, 0, none⟩ = some (.int .i64 p)) (kb1_0 : w.cell? ⟨b1, 0, none⟩ = some (.int .i64 c)) (kb2_0 : w.cell? ⟨b2, 0, none⟩ = some (.int .i64 k1)) (kb2_1 : w.cell? ⟨b2, 1, none⟩ = some (.int .i64 k2)) (kb2_2 : w.cell? ⟨b2, 2, none⟩ = some (.int .i64 k3)) (kb3_0 : w.cell? ⟨b3, 0, none⟩ = some (.int .i64 m1)) (kb3_1 : w.cell? ⟨b3, 1, none⟩ = some (.int .i64 m2)) (kb3_2 : w.cell? ⟨b3, 2, none⟩ = some (.int .i64 m3)) :
    Calls Try.prog 121 #[.agg #[.int .i64 a1, .int .i64 a2], .pointer (some ⟨b0, 0, none⟩), .pointer (some ⟨b1, 0, none⟩), .pointer (some ⟨b2, 0, none⟩), .pointer (some ⟨b3, 0, none⟩)] w fun e w' =>
      e = .returned (.int .i64 (lss p c k1 k2 k3 m1 m2 m3 a1 a2)) ∧ Below w.heap.size w w' := by
  have hr := isP_range hp
  have lb0 := World.block_lt_of_cell? w ⟨b0, 0, none⟩ kb0_0
  simp only at lb0
  have lb1 := World.block_lt_of_cell? w ⟨b1, 0, none⟩ kb1_0
  simp only at lb1
  have lb2 := World.block_lt_of_cell? w ⟨b2, 0, none⟩ kb2_0
  simp only at lb2
  have lb3 := World.block_lt_of_cell? w ⟨b3, 0, none⟩ kb3_0
  simp only at lb3
  obtain ⟨v1, hv1⟩ : ∃ v : Int, v = pw p c k1 k2 k3 a1 a2 := ⟨_, rfl⟩
  have rv1 := pw_r c k1 k2 k3 a1 a2 hp
  rw [← hv1] at rv1
  have Hv1 := Lib.hid hv1
  clear hv1
  obtain ⟨v2, hv2⟩ : ∃ v : Int, v = pw p c m1 m2 m3 a1 a2 := ⟨_, rfl⟩
  have rv2 := pw_r c m1 m2 m3 a1 a2 hp
  rw [← hv2] at rv2
  have Hv2 := Lib.hid hv2
  clear hv2
  have e_1 : IntKind.i64.wrap (v1 - v2) = v1 - v2 := wrapI _ (by omega)
  go_enter Try.func121, Try.ntmps121
  go_upto_region 0 with fail
  go_cut [5, 6] (fun s5 s6 wx => s5 = .pointer (some ⟨w.heap.size, 0, none⟩) ∧ s6 = .int .i64 0 ∧ wx.cell? ⟨w.heap.size, 0, none⟩ = some (.int .i64 a1) ∧ wx.cell? ⟨w.heap.size, 1, none⟩ = some (.int .i64 a2) ∧ wx.frozen? ⟨w.heap.size, 0, none⟩ = false ∧ wx.frozen? ⟨w.heap.size, 1, none⟩ = false ∧ Below w.heap.size w wx ∧ w.heap.size + 1 ≤ wx.heap.size)
  case first =>
    go_wp2
    go_meet
    refine ⟨rfl, rfl, ?_, ?_, ?_, ?_, ?_, ?_⟩
    · (repeat (first | with_reducible assumption | ((with_reducible refine kfresh ?_ ?_) <;> (first | with_reducible rfl | (simp; done))) | ((with_reducible refine ksameS ?_); focus ((repeat (first | with_reducible exact kis_of (by with_reducible assumption) | with_reducible refine kis_set ?_ | ((with_reducible refine kis_new ?_ ?_) <;> (first | with_reducible rfl | rfl | (simp; done))) | with_reducible refine kis_alloc _ ?_ | with_reducible refine kis_drew ?_ | with_reducible refine kis_call (by with_reducible assumption) ?_ | with_reducible exact kis_of (kcall (by with_reducible assumption) (by with_reducible assumption)))); done)) | with_reducible refine kother (by decide) ?_ | with_reducible refine kset (by first | omega | (simp; done) | (simp; omega)) ?_ | with_reducible refine kalloc _ ?_ | with_reducible refine kdrew ?_ | with_reducible refine kcall (by with_reducible assumption) ?_))
    · (repeat (first | with_reducible assumption | ((with_reducible refine kfresh ?_ ?_) <;> (first | with_reducible rfl | (simp; done))) | ((with_reducible refine ksameS ?_); focus ((repeat (first | with_reducible exact kis_of (by with_reducible assumption) | with_reducible refine kis_set ?_ | ((with_reducible refine kis_new ?_ ?_) <;> (first | with_reducible rfl | rfl | (simp; done))) | with_reducible refine kis_alloc _ ?_ | with_reducible refine kis_drew ?_ | with_reducible refine kis_call (by with_reducible assumption) ?_ | with_reducible exact kis_of (kcall (by with_reducible assumption) (by with_reducible assumption)))); done)) | with_reducible refine kother (by decide) ?_ | with_reducible refine kset (by first | omega | (simp; done) | (simp; omega)) ?_ | with_reducible refine kalloc _ ?_ | with_reducible refine kdrew ?_ | with_reducible refine kcall (by with_reducible assumption) ?_))
    · (repeat (first | with_reducible assumption | with_reducible refine fdrew ?_ | with_reducible refine fset ?_ | ((with_reducible refine fallocNew ?_) <;> (first | with_reducible rfl | (simp; done))) | ((with_reducible refine kfro (by with_reducible assumption) ?_ ?_); focus (first | with_reducible assumption | (simp; done) | (simp; omega))) | ((with_reducible refine falloc ?_ ?_); focus (first | with_reducible assumption | (simp; done) | (simp; omega)))))
    · (repeat (first | with_reducible assumption | with_reducible refine fdrew ?_ | with_reducible refine fset ?_ | ((with_reducible refine fallocNew ?_) <;> (first | with_reducible rfl | (simp; done))) | ((with_reducible refine kfro (by with_reducible assumption) ?_ ?_); focus (first | with_reducible assumption | (simp; done) | (simp; omega))) | ((with_reducible refine falloc ?_ ?_); focus (first | with_reducible assumption | (simp; done) | (simp; omega)))))
    · (repeat (first | with_reducible exact Below.refl _ _ | with_reducible refine balloc ?_ _ | with_reducible refine bdrewN ?_ _ | with_reducible refine Below.drew ?_ | with_reducible refine bthen ?_ (by with_reducible assumption) | with_reducible refine Below.setCell ?_ (by first | (simp; done) | (simp; omega)) _))
    · (first | omega | (simp; done) | (simp; omega))
  case' rest => obtain ⟨rfl, rfl, cO0, cO1, fO0, fO1, hxO, hsO⟩ := hcut
  obtain ⟨wO, rfl⟩ : ∃ wO : World, wO = wc := ⟨_, rfl⟩
  have lO0 : w.heap.size < wO.heap.size := by omega
  have hWA : Below w.heap.size w wO := by (repeat (first | with_reducible exact Below.refl _ _ | with_reducible exact hxO | with_reducible refine balloc ?_ _ | with_reducible refine bdrewN ?_ _ | with_reducible refine Below.drew ?_ | with_reducible refine bthen ?_ (by with_reducible assumption) | with_reducible refine Below.setCell ?_ (by first | (simp; done) | (simp; omega)) _))
  have kA0 : wO.cell? ⟨b0, 0, none⟩ = some (.int .i64 p) := by (first | with_reducible assumption | (repeat (first | with_reducible assumption | ((with_reducible refine kfresh ?_ ?_) <;> (first | with_reducible rfl | (simp; done))) | ((with_reducible refine ksameS ?_); focus ((repeat (first | with_reducible exact kis_of (by with_reducible assumption) | with_reducible refine kis_set ?_ | ((with_reducible refine kis_new ?_ ?_) <;> (first | with_reducible rfl | rfl | (simp; done))) | with_reducible refine kis_alloc _ ?_ | with_reducible refine kis_drew ?_ | with_reducible refine kis_call (by with_reducible assumption) ?_ | with_reducible exact kis_of (kcall (by with_reducible assumption) (by with_reducible assumption)))); done)) | with_reducible refine kother (by decide) ?_ | with_reducible refine kset (by first | omega | (simp; done) | (simp; omega)) ?_ | with_reducible refine kalloc _ ?_ | with_reducible refine kdrew ?_ | with_reducible refine kcall (by with_reducible assumption) ?_)))
  have qA0 : ∀ W : World, Below wO.heap.size wO W → W.cell? ⟨b0, 0, none⟩ = some (.int .i64 p) := fun W h => bholds kA0 h
  have kA1 : wO.cell? ⟨b1, 0, none⟩ = some (.int .i64 c) := by (first | with_reducible assumption | (repeat (first | with_reducible assumption | ((with_reducible refine kfresh ?_ ?_) <;> (first | with_reducible rfl | (simp; done))) | ((with_reducible refine ksameS ?_); focus ((repeat (first | with_reducible exact kis_of (by with_reducible assumption) | with_reducible refine kis_set ?_ | ((with_reducible refine kis_new ?_ ?_) <;> (first | with_reducible rfl | rfl | (simp; done))) | with_reducible refine kis_alloc _ ?_ | with_reducible refine kis_drew ?_ | with_reducible refine kis_call (by with_reducible assumption) ?_ | with_reducible exact kis_of (kcall (by with_reducible assumption) (by with_reducible assumption)))); done)) | with_reducible refine kother (by decide) ?_ | with_reducible refine kset (by first | omega | (simp; done) | (simp; omega)) ?_ | with_reducible refine kalloc _ ?_ | with_reducible refine kdrew ?_ | with_reducible refine kcall (by with_reducible assumption) ?_)))
  have qA1 : ∀ W : World, Below wO.heap.size wO W → W.cell? ⟨b1, 0, none⟩ = some (.int .i64 c) := fun W h => bholds kA1 h
  have kA2 : wO.cell? ⟨b2, 0, none⟩ = some (.int .i64 k1) := by (first | with_reducible assumption | (repeat (first | with_reducible assumption | ((with_reducible refine kfresh ?_ ?_) <;> (first | with_reducible rfl | (simp; done))) | ((with_reducible refine ksameS ?_); focus ((repeat (first | with_reducible exact kis_of (by with_reducible assumption) | with_reducible refine kis_set ?_ | ((with_reducible refine kis_new ?_ ?_) <;> (first | with_reducible rfl | rfl | (simp; done))) | with_reducible refine kis_alloc _ ?_ | with_reducible refine kis_drew ?_ | with_reducible refine kis_call (by with_reducible assumption) ?_ | with_reducible exact kis_of (kcall (by with_reducible assumption) (by with_reducible assumption)))); done)) | with_reducible refine kother (by decide) ?_ | with_reducible refine kset (by first | omega | (simp; done) | (simp; omega)) ?_ | with_reducible refine kalloc _ ?_ | with_reducible refine kdrew ?_ | with_reducible refine kcall (by with_reducible assumption) ?_)))
  have qA2 : ∀ W : World, Below wO.heap.size wO W → W.cell? ⟨b2, 0, none⟩ = some (.int .i64 k1) := fun W h => bholds kA2 h
  have kA3 : wO.cell? ⟨b2, 1, none⟩ = some (.int .i64 k2) := by (first | with_reducible assumption | (repeat (first | with_reducible assumption | ((with_reducible refine kfresh ?_ ?_) <;> (first | with_reducible rfl | (simp; done))) | ((with_reducible refine ksameS ?_); focus ((repeat (first | with_reducible exact kis_of (by with_reducible assumption) | with_reducible refine kis_set ?_ | ((with_reducible refine kis_new ?_ ?_) <;> (first | with_reducible rfl | rfl | (simp; done))) | with_reducible refine kis_alloc _ ?_ | with_reducible refine kis_drew ?_ | with_reducible refine kis_call (by with_reducible assumption) ?_ | with_reducible exact kis_of (kcall (by with_reducible assumption) (by with_reducible assumption)))); done)) | with_reducible refine kother (by decide) ?_ | with_reducible refine kset (by first | omega | (simp; done) | (simp; omega)) ?_ | with_reducible refine kalloc _ ?_ | with_reducible refine kdrew ?_ | with_reducible refine kcall (by with_reducible assumption) ?_)))
  have qA3 : ∀ W : World, Below wO.heap.size wO W → W.cell? ⟨b2, 1, none⟩ = some (.int .i64 k2) := fun W h => bholds kA3 h
  have kA4 : wO.cell? ⟨b2, 2, none⟩ = some (.int .i64 k3) := by (first | with_reducible assumption | (repeat (first | with_reducible assumption | ((with_reducible refine kfresh ?_ ?_) <;> (first | with_reducible rfl | (simp; done))) | ((with_reducible refine ksameS ?_); focus ((repeat (first | with_reducible exact kis_of (by with_reducible assumption) | with_reducible refine kis_set ?_ | ((with_reducible refine kis_new ?_ ?_) <;> (first | with_reducible rfl | rfl | (simp; done))) | with_reducible refine kis_alloc _ ?_ | with_reducible refine kis_drew ?_ | with_reducible refine kis_call (by with_reducible assumption) ?_ | with_reducible exact kis_of (kcall (by with_reducible assumption) (by with_reducible assumption)))); done)) | with_reducible refine kother (by decide) ?_ | with_reducible refine kset (by first | omega | (simp; done) | (simp; omega)) ?_ | with_reducible refine kalloc _ ?_ | with_reducible refine kdrew ?_ | with_reducible refine kcall (by with_reducible assumption) ?_)))
  have qA4 : ∀ W : World, Below wO.heap.size wO W → W.cell? ⟨b2, 2, none⟩ = some (.int .i64 k3) := fun W h => bholds kA4 h
  have kA5 : wO.cell? ⟨b3, 0, none⟩ = some (.int .i64 m1) := by (first | with_reducible assumption | (repeat (first | with_reducible assumption | ((with_reducible refine kfresh ?_ ?_) <;> (first | with_reducible rfl | (simp; done))) | ((with_reducible refine ksameS ?_); focus ((repeat (first | with_reducible exact kis_of (by with_reducible assumption) | with_reducible refine kis_set ?_ | ((with_reducible refine kis_new ?_ ?_) <;> (first | with_reducible rfl | rfl | (simp; done))) | with_reducible refine kis_alloc _ ?_ | with_reducible refine kis_drew ?_ | with_reducible refine kis_call (by with_reducible assumption) ?_ | with_reducible exact kis_of (kcall (by with_reducible assumption) (by with_reducible assumption)))); done)) | with_reducible refine kother (by decide) ?_ | with_reducible refine kset (by first | omega | (simp; done) | (simp; omega)) ?_ | with_reducible refine kalloc _ ?_ | with_reducible refine kdrew ?_ | with_reducible refine kcall (by with_reducible assumption) ?_)))
  have qA5 : ∀ W : World, Below wO.heap.size wO W → W.cell? ⟨b3, 0, none⟩ = some (.int .i64 m1) := fun W h => bholds kA5 h
  have kA6 : wO.cell? ⟨b3, 1, none⟩ = some (.int .i64 m2) := by (first | with_reducible assumption | (repeat (first | with_reducible assumption | ((with_reducible refine kfresh ?_ ?_) <;> (first | with_reducible rfl | (simp; done))) | ((with_reducible refine ksameS ?_); focus ((repeat (first | with_reducible exact kis_of (by with_reducible assumption) | with_reducible refine kis_set ?_ | ((with_reducible refine kis_new ?_ ?_) <;> (first | with_reducible rfl | rfl | (simp; done))) | with_reducible refine kis_alloc _ ?_ | with_reducible refine kis_drew ?_ | with_reducible refine kis_call (by with_reducible assumption) ?_ | with_reducible exact kis_of (kcall (by with_reducible assumption) (by with_reducible assumption)))); done)) | with_reducible refine kother (by decide) ?_ | with_reducible refine kset (by first | omega | (simp; done) | (simp; omega)) ?_ | with_reducible refine kalloc _ ?_ | with_reducible refine kdrew ?_ | with_reducible refine kcall (by with_reducible assumption) ?_)))
  have qA6 : ∀ W : World, Below wO.heap.size wO W → W.cell? ⟨b3, 1, none⟩ = some (.int .i64 m2) := fun W h => bholds kA6 h
  have kA7 : wO.cell? ⟨b3, 2, none⟩ = some (.int .i64 m3) := by (first | with_reducible assumption | (repeat (first | with_reducible assumption | ((with_reducible refine kfresh ?_ ?_) <;> (first | with_reducible rfl | (simp; done))) | ((with_reducible refine ksameS ?_); focus ((repeat (first | with_reducible exact kis_of (by with_reducible assumption) | with_reducible refine kis_set ?_ | ((with_reducible refine kis_new ?_ ?_) <;> (first | with_reducible rfl | rfl | (simp; done))) | with_reducible refine kis_alloc _ ?_ | with_reducible refine kis_drew ?_ | with_reducible refine kis_call (by with_reducible assumption) ?_ | with_reducible exact kis_of (kcall (by with_reducible assumption) (by with_reducible assumption)))); done)) | with_reducible refine kother (by decide) ?_ | with_reducible refine kset (by first | omega | (simp; done) | (simp; omega)) ?_ | with_reducible refine kalloc _ ?_ | with_reducible refine kdrew ?_ | with_reducible refine kcall (by with_reducible assumption) ?_)))
  have qA7 : ∀ W : World, Below wO.heap.size wO W → W.cell? ⟨b3, 2, none⟩ = some (.int .i64 m3) := fun W h => bholds kA7 h
  have kA8 : wO.cell? ⟨w.heap.size, 0, none⟩ = some (.int .i64 a1) := by (first | with_reducible assumption | (repeat (first | with_reducible assumption | ((with_reducible refine kfresh ?_ ?_) <;> (first | with_reducible rfl | (simp; done))) | ((with_reducible refine ksameS ?_); focus ((repeat (first | with_reducible exact kis_of (by with_reducible assumption) | with_reducible refine kis_set ?_ | ((with_reducible refine kis_new ?_ ?_) <;> (first | with_reducible rfl | rfl | (simp; done))) | with_reducible refine kis_alloc _ ?_ | with_reducible refine kis_drew ?_ | with_reducible refine kis_call (by with_reducible assumption) ?_ | with_reducible exact kis_of (kcall (by with_reducible assumption) (by with_reducible assumption)))); done)) | with_reducible refine kother (by decide) ?_ | with_reducible refine kset (by first | omega | (simp; done) | (simp; omega)) ?_ | with_reducible refine kalloc _ ?_ | with_reducible refine kdrew ?_ | with_reducible refine kcall (by with_reducible assumption) ?_)))
  have qA8 : ∀ W : World, Below wO.heap.size wO W → W.cell? ⟨w.heap.size, 0, none⟩ = some (.int .i64 a1) := fun W h => bholds kA8 h
  have kA9 : wO.cell? ⟨w.heap.size, 1, none⟩ = some (.int .i64 a2) := by (first | with_reducible assumption | (repeat (first | with_reducible assumption | ((with_reducible refine kfresh ?_ ?_) <;> (first | with_reducible rfl | (simp; done))) | ((with_reducible refine ksameS ?_); focus ((repeat (first | with_reducible exact kis_of (by with_reducible assumption) | with_reducible refine kis_set ?_ | ((with_reducible refine kis_new ?_ ?_) <;> (first | with_reducible rfl | rfl | (simp; done))) | with_reducible refine kis_alloc _ ?_ | with_reducible refine kis_drew ?_ | with_reducible refine kis_call (by with_reducible assumption) ?_ | with_reducible exact kis_of (kcall (by with_reducible assumption) (by with_reducible assumption)))); done)) | with_reducible refine kother (by decide) ?_ | with_reducible refine kset (by first | omega | (simp; done) | (simp; omega)) ?_ | with_reducible refine kalloc _ ?_ | with_reducible refine kdrew ?_ | with_reducible refine kcall (by with_reducible assumption) ?_)))
  have qA9 : ∀ W : World, Below wO.heap.size wO W → W.cell? ⟨w.heap.size, 1, none⟩ = some (.int .i64 a2) := fun W h => bholds kA9 h
  go_upto_region 1 with fail
  go_cut [6] (fun s6 wx => s6 = .int .i64 (v1 - v2) ∧ Below wO.heap.size wO wx)
  case first =>
    go_region_held3 (fun W => Below wO.heap.size wO W) (first | with_reducible assumption | with_reducible exact bthen (by with_reducible assumption) hB | with_reducible exact bfromdrew hB | with_reducible exact balloc (by with_reducible assumption) _ | with_reducible exact Below.drew (balloc (bundrew (by with_reducible assumption)) _) | with_reducible exact brealloc (by first | exact Nat.le_refl _ | omega | (simp; done) | (simp; omega)) (by with_reducible assumption) | with_reducible exact Below.drew (brealloc (by first | exact Nat.le_refl _ | omega | (simp; done) | (simp; omega)) (bundrew (by with_reducible assumption))) | ((repeat with_reducible refine Below.setCell ?_ (by first | exact Nat.le_refl _ | omega | (simp; done) | (simp; omega)) _); with_reducible assumption) | with_reducible exact Below.refl _ _ | with_reducible exact Below.drew (Below.refl _ _) | with_reducible exact Below.drew (by with_reducible assumption)) (first | (go_at_call 64; refine Calls.mono (implPower_any _ _ _ _ _ _ _ _ hp hc (by omega) (by omega) (by omega) (by omega) (by omega)) ?_; (first | rw [← Hv1.out] | rw [← Hv2.out]); rintro e wq ⟨rfl, hB⟩; have hBs := hB.size; (try simp at hBs)))
    all_goals
      go_wp2_with fail
      go_meet
      refine ⟨rfl, ?_⟩
      · (first | with_reducible assumption | exact Below.drew (by with_reducible assumption) | exact bundrew (by with_reducible assumption) | (repeat (first | with_reducible exact Below.refl _ _ | with_reducible refine balloc ?_ _ | with_reducible refine bdrewN ?_ _ | with_reducible refine Below.drew ?_ | with_reducible refine bthen ?_ (by with_reducible assumption) | with_reducible refine Below.setCell ?_ (by first | (simp; done) | (simp; omega)) _)))
  case' rest => obtain ⟨rfl, hzA⟩ := hcut
  obtain ⟨wA, rfl⟩ : ∃ wA : World, wA = wc := ⟨_, rfl⟩
  have hsA := hzA.size
  have hxA : Below w.heap.size w wA := bthen hWA hzA
  have bA0 := qA0 wA hzA
  have bA1 := qA1 wA hzA
  have bA2 := qA2 wA hzA
  have bA3 := qA3 wA hzA
  have bA4 := qA4 wA hzA
  have bA5 := qA5 wA hzA
  have bA6 := qA6 wA hzA
  have bA7 := qA7 wA hzA
  have bA8 := qA8 wA hzA
  have bA9 := qA9 wA hzA
  clear qA0 qA1 qA2 qA3 qA4 qA5 qA6 qA7 qA8 qA9
  have lA_1 : b0 < wA.heap.size := by omega
  have lA_2 : b1 < wA.heap.size := by omega
  have lA_3 : b2 < wA.heap.size := by omega
  have lA_4 : b3 < wA.heap.size := by omega
  have lA_5 : w.heap.size < wA.heap.size := by omega
  have HV := Lib.hid (show lss p c k1 k2 k3 m1 m2 m3 a1 a2 = v1 - v2 from by
    try rw [Hv2.out]
    try rw [Hv1.out]
    all_goals (rfl))
  go_wp2
  (refine bodyPost_ret (v := .int .i64 (lss p c k1 k2 k3 m1 m2 m3 a1 a2)) (by simp [results, Try.results121, go_sem, HV.out, *]) rfl ⟨?_, ?_⟩)
  · rfl
  · (repeat (first | with_reducible exact Below.refl _ _ | with_reducible exact hxA | with_reducible refine balloc ?_ _ | with_reducible refine bdrewN ?_ _ | with_reducible refine Below.drew ?_ | with_reducible refine bthen ?_ (by with_reducible assumption) | with_reducible refine Below.setCell ?_ (by first | (simp; done) | (simp; omega)) _))

end Go.Proofs.Ytcebhcamegdmaaa
