/-
  The law's walk: PoleOf.
-/
import Derived.Test.YtmpgpmcmhbpjeaaEPoleOf
import Derived.Test.YtmpgpmcmhbpjeaaArr
import Derived.Test.YtmpgpmcmhbpjeaaArrLine
import Derived.Test.YtmpgpmcmhbpjeaaArrConic
import Derived.Test.YtmpgpmcmhbpjeaaArrPtEq
import Derived.Test.YtmpgpmcmhbpjeaaBaseMath
import Derived.Deep.RegionHeld3
import Derived.Deep.DeepCutAuto
namespace Go.Proofs.Ytmpgpmcmhbpjeaa
open Go.RowKit

set_option maxRecDepth 20000 in
set_option maxHeartbeats 8000000 in
theorem exactPoleOf_walk (a0 a1x a1y a1z a1u a1v a1w a2x a2y a2z : Int) (w : World) :
    Calls Try.prog 3 #[.int .i64 a0, .agg #[.int .i64 a1x, .int .i64 a1y, .int .i64 a1z, .int .i64 a1u, .int .i64 a1v, .int .i64 a1w], .agg #[.int .i64 a2x, .int .i64 a2y, .int .i64 a2z]] w fun e w' => e = .returned (.bool true) ∧ Below w.heap.size w w' := by
  go_enter Try.func3, Try.ntmps3
  go_upto_region 0 with fail
  go_cut [4, 5, 6] (fun s4 s5 s6 wx => ∃ p0 p1 : Nat, s4 = .pointer (some ⟨p0, 0, none⟩) ∧ s5 = .pointer (some ⟨p1, 0, none⟩) ∧ s6 = .bool false ∧ wx.cell? ⟨p0, 0, none⟩ = some (.int .i64 a1x) ∧ wx.cell? ⟨p0, 1, none⟩ = some (.int .i64 a1y) ∧ wx.cell? ⟨p0, 2, none⟩ = some (.int .i64 a1z) ∧ wx.cell? ⟨p0, 3, none⟩ = some (.int .i64 a1u) ∧ wx.cell? ⟨p0, 4, none⟩ = some (.int .i64 a1v) ∧ wx.cell? ⟨p0, 5, none⟩ = some (.int .i64 a1w) ∧ wx.cell? ⟨p1, 0, none⟩ = some (.int .i64 a2x) ∧ wx.cell? ⟨p1, 1, none⟩ = some (.int .i64 a2y) ∧ wx.cell? ⟨p1, 2, none⟩ = some (.int .i64 a2z) ∧ Below w.heap.size w wx)
  case first =>
    go_wp2
    go_meet
    refine ⟨_, _, rfl, rfl, rfl, ?_, ?_, ?_, ?_, ?_, ?_, ?_, ?_, ?_, ?_⟩
    · (repeat (first | with_reducible assumption | ((with_reducible refine kfresh ?_ ?_) <;> (first | with_reducible rfl | (simp; done))) | ((with_reducible refine ksameS ?_); focus ((repeat (first | with_reducible exact kis_of (by with_reducible assumption) | with_reducible refine kis_set ?_ | ((with_reducible refine kis_new ?_ ?_) <;> (first | with_reducible rfl | rfl | (simp; done))) | with_reducible refine kis_alloc _ ?_ | with_reducible refine kis_drew ?_ | with_reducible refine kis_call (by with_reducible assumption) ?_ | with_reducible exact kis_of (kcall (by with_reducible assumption) (by with_reducible assumption)))); done)) | with_reducible refine kother (by decide) ?_ | with_reducible refine kset (by first | omega | (simp; done) | (simp; omega)) ?_ | with_reducible refine kalloc _ ?_ | with_reducible refine kdrew ?_ | with_reducible refine kdrewN ?_ | with_reducible refine kcall (by with_reducible assumption) ?_))
    · (repeat (first | with_reducible assumption | ((with_reducible refine kfresh ?_ ?_) <;> (first | with_reducible rfl | (simp; done))) | ((with_reducible refine ksameS ?_); focus ((repeat (first | with_reducible exact kis_of (by with_reducible assumption) | with_reducible refine kis_set ?_ | ((with_reducible refine kis_new ?_ ?_) <;> (first | with_reducible rfl | rfl | (simp; done))) | with_reducible refine kis_alloc _ ?_ | with_reducible refine kis_drew ?_ | with_reducible refine kis_call (by with_reducible assumption) ?_ | with_reducible exact kis_of (kcall (by with_reducible assumption) (by with_reducible assumption)))); done)) | with_reducible refine kother (by decide) ?_ | with_reducible refine kset (by first | omega | (simp; done) | (simp; omega)) ?_ | with_reducible refine kalloc _ ?_ | with_reducible refine kdrew ?_ | with_reducible refine kdrewN ?_ | with_reducible refine kcall (by with_reducible assumption) ?_))
    · (repeat (first | with_reducible assumption | ((with_reducible refine kfresh ?_ ?_) <;> (first | with_reducible rfl | (simp; done))) | ((with_reducible refine ksameS ?_); focus ((repeat (first | with_reducible exact kis_of (by with_reducible assumption) | with_reducible refine kis_set ?_ | ((with_reducible refine kis_new ?_ ?_) <;> (first | with_reducible rfl | rfl | (simp; done))) | with_reducible refine kis_alloc _ ?_ | with_reducible refine kis_drew ?_ | with_reducible refine kis_call (by with_reducible assumption) ?_ | with_reducible exact kis_of (kcall (by with_reducible assumption) (by with_reducible assumption)))); done)) | with_reducible refine kother (by decide) ?_ | with_reducible refine kset (by first | omega | (simp; done) | (simp; omega)) ?_ | with_reducible refine kalloc _ ?_ | with_reducible refine kdrew ?_ | with_reducible refine kdrewN ?_ | with_reducible refine kcall (by with_reducible assumption) ?_))
    · (repeat (first | with_reducible assumption | ((with_reducible refine kfresh ?_ ?_) <;> (first | with_reducible rfl | (simp; done))) | ((with_reducible refine ksameS ?_); focus ((repeat (first | with_reducible exact kis_of (by with_reducible assumption) | with_reducible refine kis_set ?_ | ((with_reducible refine kis_new ?_ ?_) <;> (first | with_reducible rfl | rfl | (simp; done))) | with_reducible refine kis_alloc _ ?_ | with_reducible refine kis_drew ?_ | with_reducible refine kis_call (by with_reducible assumption) ?_ | with_reducible exact kis_of (kcall (by with_reducible assumption) (by with_reducible assumption)))); done)) | with_reducible refine kother (by decide) ?_ | with_reducible refine kset (by first | omega | (simp; done) | (simp; omega)) ?_ | with_reducible refine kalloc _ ?_ | with_reducible refine kdrew ?_ | with_reducible refine kdrewN ?_ | with_reducible refine kcall (by with_reducible assumption) ?_))
    · (repeat (first | with_reducible assumption | ((with_reducible refine kfresh ?_ ?_) <;> (first | with_reducible rfl | (simp; done))) | ((with_reducible refine ksameS ?_); focus ((repeat (first | with_reducible exact kis_of (by with_reducible assumption) | with_reducible refine kis_set ?_ | ((with_reducible refine kis_new ?_ ?_) <;> (first | with_reducible rfl | rfl | (simp; done))) | with_reducible refine kis_alloc _ ?_ | with_reducible refine kis_drew ?_ | with_reducible refine kis_call (by with_reducible assumption) ?_ | with_reducible exact kis_of (kcall (by with_reducible assumption) (by with_reducible assumption)))); done)) | with_reducible refine kother (by decide) ?_ | with_reducible refine kset (by first | omega | (simp; done) | (simp; omega)) ?_ | with_reducible refine kalloc _ ?_ | with_reducible refine kdrew ?_ | with_reducible refine kdrewN ?_ | with_reducible refine kcall (by with_reducible assumption) ?_))
    · (repeat (first | with_reducible assumption | ((with_reducible refine kfresh ?_ ?_) <;> (first | with_reducible rfl | (simp; done))) | ((with_reducible refine ksameS ?_); focus ((repeat (first | with_reducible exact kis_of (by with_reducible assumption) | with_reducible refine kis_set ?_ | ((with_reducible refine kis_new ?_ ?_) <;> (first | with_reducible rfl | rfl | (simp; done))) | with_reducible refine kis_alloc _ ?_ | with_reducible refine kis_drew ?_ | with_reducible refine kis_call (by with_reducible assumption) ?_ | with_reducible exact kis_of (kcall (by with_reducible assumption) (by with_reducible assumption)))); done)) | with_reducible refine kother (by decide) ?_ | with_reducible refine kset (by first | omega | (simp; done) | (simp; omega)) ?_ | with_reducible refine kalloc _ ?_ | with_reducible refine kdrew ?_ | with_reducible refine kdrewN ?_ | with_reducible refine kcall (by with_reducible assumption) ?_))
    · (repeat (first | with_reducible assumption | ((with_reducible refine kfresh ?_ ?_) <;> (first | with_reducible rfl | (simp; done))) | ((with_reducible refine ksameS ?_); focus ((repeat (first | with_reducible exact kis_of (by with_reducible assumption) | with_reducible refine kis_set ?_ | ((with_reducible refine kis_new ?_ ?_) <;> (first | with_reducible rfl | rfl | (simp; done))) | with_reducible refine kis_alloc _ ?_ | with_reducible refine kis_drew ?_ | with_reducible refine kis_call (by with_reducible assumption) ?_ | with_reducible exact kis_of (kcall (by with_reducible assumption) (by with_reducible assumption)))); done)) | with_reducible refine kother (by decide) ?_ | with_reducible refine kset (by first | omega | (simp; done) | (simp; omega)) ?_ | with_reducible refine kalloc _ ?_ | with_reducible refine kdrew ?_ | with_reducible refine kdrewN ?_ | with_reducible refine kcall (by with_reducible assumption) ?_))
    · (repeat (first | with_reducible assumption | ((with_reducible refine kfresh ?_ ?_) <;> (first | with_reducible rfl | (simp; done))) | ((with_reducible refine ksameS ?_); focus ((repeat (first | with_reducible exact kis_of (by with_reducible assumption) | with_reducible refine kis_set ?_ | ((with_reducible refine kis_new ?_ ?_) <;> (first | with_reducible rfl | rfl | (simp; done))) | with_reducible refine kis_alloc _ ?_ | with_reducible refine kis_drew ?_ | with_reducible refine kis_call (by with_reducible assumption) ?_ | with_reducible exact kis_of (kcall (by with_reducible assumption) (by with_reducible assumption)))); done)) | with_reducible refine kother (by decide) ?_ | with_reducible refine kset (by first | omega | (simp; done) | (simp; omega)) ?_ | with_reducible refine kalloc _ ?_ | with_reducible refine kdrew ?_ | with_reducible refine kdrewN ?_ | with_reducible refine kcall (by with_reducible assumption) ?_))
    · (repeat (first | with_reducible assumption | ((with_reducible refine kfresh ?_ ?_) <;> (first | with_reducible rfl | (simp; done))) | ((with_reducible refine ksameS ?_); focus ((repeat (first | with_reducible exact kis_of (by with_reducible assumption) | with_reducible refine kis_set ?_ | ((with_reducible refine kis_new ?_ ?_) <;> (first | with_reducible rfl | rfl | (simp; done))) | with_reducible refine kis_alloc _ ?_ | with_reducible refine kis_drew ?_ | with_reducible refine kis_call (by with_reducible assumption) ?_ | with_reducible exact kis_of (kcall (by with_reducible assumption) (by with_reducible assumption)))); done)) | with_reducible refine kother (by decide) ?_ | with_reducible refine kset (by first | omega | (simp; done) | (simp; omega)) ?_ | with_reducible refine kalloc _ ?_ | with_reducible refine kdrew ?_ | with_reducible refine kdrewN ?_ | with_reducible refine kcall (by with_reducible assumption) ?_))
    · (repeat (first | with_reducible exact Below.refl _ _ | with_reducible refine balloc ?_ _ | with_reducible refine bdrewN ?_ _ | with_reducible refine Below.drew ?_ | with_reducible refine bthen ?_ (by with_reducible assumption) | with_reducible refine Below.setCell ?_ (by first | (simp; done) | (simp; omega)) _))
  case' rest => obtain ⟨p0, p1, rfl, rfl, rfl, c0, c1, c2, c3, c4, c5, c6, c7, c8, hwA⟩ := hcut
  obtain ⟨wA, rfl⟩ : ∃ wA : World, wA = wc := ⟨_, rfl⟩
  have k0 : ∀ W : World, Below wA.heap.size wA W → W.cell? ⟨p0, 0, none⟩ = some (.int .i64 a1x) := fun W h => bholds c0 h
  have k1 : ∀ W : World, Below wA.heap.size wA W → W.cell? ⟨p0, 1, none⟩ = some (.int .i64 a1y) := fun W h => bholds c1 h
  have k2 : ∀ W : World, Below wA.heap.size wA W → W.cell? ⟨p0, 2, none⟩ = some (.int .i64 a1z) := fun W h => bholds c2 h
  have k3 : ∀ W : World, Below wA.heap.size wA W → W.cell? ⟨p0, 3, none⟩ = some (.int .i64 a1u) := fun W h => bholds c3 h
  have k4 : ∀ W : World, Below wA.heap.size wA W → W.cell? ⟨p0, 4, none⟩ = some (.int .i64 a1v) := fun W h => bholds c4 h
  have k5 : ∀ W : World, Below wA.heap.size wA W → W.cell? ⟨p0, 5, none⟩ = some (.int .i64 a1w) := fun W h => bholds c5 h
  have k6 : ∀ W : World, Below wA.heap.size wA W → W.cell? ⟨p1, 0, none⟩ = some (.int .i64 a2x) := fun W h => bholds c6 h
  have k7 : ∀ W : World, Below wA.heap.size wA W → W.cell? ⟨p1, 1, none⟩ = some (.int .i64 a2y) := fun W h => bholds c7 h
  have k8 : ∀ W : World, Below wA.heap.size wA W → W.cell? ⟨p1, 2, none⟩ = some (.int .i64 a2z) := fun W h => bholds c8 h
  go_upto_region 1 with fail
  go_cut [7, 8] (fun s7 s8 wx => ∃ g0 : Nat, s7 = .pointer (some ⟨g0, 0, none⟩) ∧ s8 = .int .i64 (peC a0 a1x a1y a1z a1u a1v a1w a2x a2y a2z) ∧ wx.cell? ⟨g0, 0, none⟩ = some (.int .i64 (peV1 a0 a1x a1y a1z a1u a1v a1w a2x a2y a2z)) ∧ wx.cell? ⟨g0, 1, none⟩ = some (.int .i64 (peV2 a0 a1x a1y a1z a1u a1v a1w a2x a2y a2z)) ∧ Below wA.heap.size wA wx)
  case first =>
    go_region_held3 (fun W => Below wA.heap.size wA W) (first | with_reducible assumption | with_reducible exact bthen (by with_reducible assumption) hB | with_reducible exact balloc (by with_reducible assumption) _ | with_reducible exact Below.drew (balloc (bundrew (by with_reducible assumption)) _) | with_reducible exact brealloc (by first | exact Nat.le_refl _ | omega | (simp; done) | (simp; omega)) (by with_reducible assumption) | with_reducible exact Below.drew (brealloc (by first | exact Nat.le_refl _ | omega | (simp; done) | (simp; omega)) (bundrew (by with_reducible assumption))) | ((repeat with_reducible refine Below.setCell ?_ (by first | exact Nat.le_refl _ | omega | (simp; done) | (simp; omega)) _); with_reducible assumption) | with_reducible exact Below.drew (by with_reducible assumption) | with_reducible exact Below.refl _ _ | with_reducible exact Below.drew (Below.refl _ _))
      (first
        | (go_at_call 9; with_reducible refine Calls.mono (toConic_any a1x a1y a1z a1u a1v a1w _) ?_; rintro e wq0 ⟨rfl, hB⟩; obtain ⟨hBc, hBf⟩ := bcell hB; have hBs := hB.size; (try simp at hBs); (try have hz_wAwq0 : wA.heap.size < wq0.heap.size := (by omega)))
        | (go_at_call 10; with_reducible refine Calls.mono (toLine_any a2x a2y a2z _) ?_; rintro e wq1 ⟨rfl, hB⟩; obtain ⟨hBc, hBf⟩ := bcell hB; have hBs := hB.size; (try simp at hBs); (try have hz_wAwq1 : wA.heap.size < wq1.heap.size := (by omega)); (try have hz_wq0wq1 : wq0.heap.size < wq1.heap.size := (by omega)))
        | (go_at_call 8; with_reducible refine Calls.mono (specPoleOf_any _ _ _ _ _ _ _ _ _ _ _) ?_; rintro e wq ⟨rfl, hB⟩; obtain ⟨hBc, hBf⟩ := bcell hB; have hBs := hB.size; (try simp at hBs); (try have hz_wAwq : wA.heap.size < wq.heap.size := (by omega)); (try have hz_wq0wq : wq0.heap.size < wq.heap.size := (by omega)); (try have hz_wq1wq : wq1.heap.size < wq.heap.size := (by omega))))
    all_goals
      go_wp2_with fail
      go_meet
      refine ⟨_, rfl, rfl, ?_, ?_, by with_reducible assumption⟩
      · (first | (simp; done) | (refine (kset2 (u0 := .int .i64 0) (u1 := .int .i64 0) ?_ ?_).1 <;> repeat (first | (simp; done) | exact kfresh (by first | rfl | (simp; done)) (by rfl) | refine kcall (by with_reducible assumption) ?_ | refine kdrew ?_)))
      · (first | (simp; done) | (refine (kset2 (u0 := .int .i64 0) (u1 := .int .i64 0) ?_ ?_).2 <;> repeat (first | (simp; done) | exact kfresh (by first | rfl | (simp; done)) (by rfl) | refine kcall (by with_reducible assumption) ?_ | refine kdrew ?_)))
  case' rest => obtain ⟨g0, rfl, rfl, g10, g11, hwB⟩ := hcut
  obtain ⟨wB, rfl⟩ : ∃ wB : World, wB = wc := ⟨_, rfl⟩
  have m0 : ∀ W : World, Below wB.heap.size wB W → W.cell? ⟨p0, 0, none⟩ = some (.int .i64 a1x) := fun W h => bholds (k0 wB hwB) h
  have m1 : ∀ W : World, Below wB.heap.size wB W → W.cell? ⟨p0, 1, none⟩ = some (.int .i64 a1y) := fun W h => bholds (k1 wB hwB) h
  have m2 : ∀ W : World, Below wB.heap.size wB W → W.cell? ⟨p0, 2, none⟩ = some (.int .i64 a1z) := fun W h => bholds (k2 wB hwB) h
  have m3 : ∀ W : World, Below wB.heap.size wB W → W.cell? ⟨p0, 3, none⟩ = some (.int .i64 a1u) := fun W h => bholds (k3 wB hwB) h
  have m4 : ∀ W : World, Below wB.heap.size wB W → W.cell? ⟨p0, 4, none⟩ = some (.int .i64 a1v) := fun W h => bholds (k4 wB hwB) h
  have m5 : ∀ W : World, Below wB.heap.size wB W → W.cell? ⟨p0, 5, none⟩ = some (.int .i64 a1w) := fun W h => bholds (k5 wB hwB) h
  have m6 : ∀ W : World, Below wB.heap.size wB W → W.cell? ⟨p1, 0, none⟩ = some (.int .i64 a2x) := fun W h => bholds (k6 wB hwB) h
  have m7 : ∀ W : World, Below wB.heap.size wB W → W.cell? ⟨p1, 1, none⟩ = some (.int .i64 a2y) := fun W h => bholds (k7 wB hwB) h
  have m8 : ∀ W : World, Below wB.heap.size wB W → W.cell? ⟨p1, 2, none⟩ = some (.int .i64 a2z) := fun W h => bholds (k8 wB hwB) h
  have n0 : ∀ W : World, Below wB.heap.size wB W → W.cell? ⟨g0, 0, none⟩ = some (.int .i64 (peV1 a0 a1x a1y a1z a1u a1v a1w a2x a2y a2z)) := fun W h => bholds g10 h
  have n1 : ∀ W : World, Below wB.heap.size wB W → W.cell? ⟨g0, 1, none⟩ = some (.int .i64 (peV2 a0 a1x a1y a1z a1u a1v a1w a2x a2y a2z)) := fun W h => bholds g11 h
  clear k0 k1 k2 k3 k4 k5 k6 k7 k8
  go_upto_region 2 with fail
  go_cut [9, 10] (fun s9 s10 wx => ∃ q0 : Nat, s9 = .pointer (some ⟨q0, 0, none⟩) ∧ s10 = .int .i64 (peC a0 a1x a1y a1z a1u a1v a1w a2x a2y a2z) ∧ wx.cell? ⟨q0, 0, none⟩ = some (.int .i64 (peV1 a0 a1x a1y a1z a1u a1v a1w a2x a2y a2z)) ∧ wx.cell? ⟨q0, 1, none⟩ = some (.int .i64 (peV2 a0 a1x a1y a1z a1u a1v a1w a2x a2y a2z)) ∧ Below wB.heap.size wB wx)
  case first =>
    go_region_held3 (fun W => Below wB.heap.size wB W) (first | with_reducible assumption | with_reducible exact bthen (by with_reducible assumption) hB | with_reducible exact balloc (by with_reducible assumption) _ | with_reducible exact Below.drew (balloc (bundrew (by with_reducible assumption)) _) | with_reducible exact brealloc (by first | exact Nat.le_refl _ | omega | (simp; done) | (simp; omega)) (by with_reducible assumption) | with_reducible exact Below.drew (brealloc (by first | exact Nat.le_refl _ | omega | (simp; done) | (simp; omega)) (bundrew (by with_reducible assumption))) | ((repeat with_reducible refine Below.setCell ?_ (by first | exact Nat.le_refl _ | omega | (simp; done) | (simp; omega)) _); with_reducible assumption) | with_reducible exact Below.drew (by with_reducible assumption) | with_reducible exact Below.refl _ _ | with_reducible exact Below.drew (Below.refl _ _))
      (first
        | (go_at_call 9; with_reducible refine Calls.mono (toConic_any a1x a1y a1z a1u a1v a1w _) ?_; rintro e wq0 ⟨rfl, hB⟩; obtain ⟨hBc, hBf⟩ := bcell hB; have hBs := hB.size; (try simp at hBs); (try have hz_wBwq0 : wB.heap.size < wq0.heap.size := (by omega)))
        | (go_at_call 10; with_reducible refine Calls.mono (toLine_any a2x a2y a2z _) ?_; rintro e wq1 ⟨rfl, hB⟩; obtain ⟨hBc, hBf⟩ := bcell hB; have hBs := hB.size; (try simp at hBs); (try have hz_wBwq1 : wB.heap.size < wq1.heap.size := (by omega)); (try have hz_wq0wq1 : wq0.heap.size < wq1.heap.size := (by omega)))
        | (go_at_call 11; with_reducible refine Calls.mono (implPoleOf_any _ _ _ _ _ _ _ _ _ _ _) ?_; rintro e wq ⟨rfl, hB⟩; obtain ⟨hBc, hBf⟩ := bcell hB; have hBs := hB.size; (try simp at hBs); (try have hz_wBwq : wB.heap.size < wq.heap.size := (by omega)); (try have hz_wq0wq : wq0.heap.size < wq.heap.size := (by omega)); (try have hz_wq1wq : wq1.heap.size < wq.heap.size := (by omega))))
    all_goals
      go_wp2_with fail
      go_meet
      refine ⟨_, rfl, rfl, ?_, ?_, by with_reducible assumption⟩
      · (first | (simp; done) | (refine (kset2 (u0 := .int .i64 0) (u1 := .int .i64 0) ?_ ?_).1 <;> repeat (first | (simp; done) | exact kfresh (by first | rfl | (simp; done)) (by rfl) | refine kcall (by with_reducible assumption) ?_ | refine kdrew ?_)))
      · (first | (simp; done) | (refine (kset2 (u0 := .int .i64 0) (u1 := .int .i64 0) ?_ ?_).2 <;> repeat (first | (simp; done) | exact kfresh (by first | rfl | (simp; done)) (by rfl) | refine kcall (by with_reducible assumption) ?_ | refine kdrew ?_)))
  case' rest => obtain ⟨q0, rfl, rfl, q10, q11, hwC⟩ := hcut
  obtain ⟨wC, rfl⟩ : ∃ wC : World, wC = wc := ⟨_, rfl⟩
  have o0 := n0 wC hwC
  have o1 := n1 wC hwC
  clear m0 m1 m2 m3 m4 m5 m6 m7 m8 n0 n1
  (go_wp2_with fail; refine Calls.mono (eqPoint_same _ _ _) ?_; rintro e w3 ⟨rfl, hB3⟩)
  go_wp2
  go_ret
  exact ⟨rfl, ((bthen (bthen hwA hwB) hwC).trans (hB3.mono (by have := hwA.size; have := hwB.size; have := hwC.size; omega)))⟩

end Go.Proofs.Ytmpgpmcmhbpjeaa
