/-
  The law's walk: TangentsFrom.
-/
import Derived.Test.YtmpgpmcmhbpjeabETangentsFromq
import Derived.Test.YtmpgpmcmhbpjeabArrLinesq
import Derived.Test.YtmpgpmcmhbpjeabArrq
import Derived.Test.YtmpgpmcmhbpjeabArrCircTq
import Derived.Test.YtmpgpmcmhbpjeabMgq0
import Derived.Test.YtmpgpmcmhbpjeabKeepDrewq
import Derived.Deep.RegionHeld3
import Derived.Deep.DeepCutAuto

namespace Go.Proofs.Ytmpgpmcmhbpjeab
open Go.RowKit

set_option maxRecDepth 20000 in
set_option maxHeartbeats 8000000 in
theorem exactTangentsFrom_walk (a0 a1 a2x a2y a2z a3x a3y : Int) (w : World) :
    Calls Try.prog 3 #[.int .i64 a0, .int .i64 a1, .agg #[.int .i64 a2x, .int .i64 a2y, .int .i64 a2z], .agg #[.int .i64 a3x, .int .i64 a3y]] w fun e w' => e = .returned (.bool true) ∧ Below w.heap.size w w' := by
  have hlen := Lib.hid (tf_len a0 a1 a2x a2y a2z a3x a3y)
  go_enter Try.func3, Try.ntmps3
  go_upto_region 0 with fail
  go_cut [6, 7, 8] (fun s6 s7 s8 wx => ∃ p0 p1 : Nat, s6 = .pointer (some ⟨p0, 0, none⟩) ∧ s7 = .pointer (some ⟨p1, 0, none⟩) ∧ s8 = .bool false ∧ wx.cell? ⟨p0, 0, none⟩ = some (.int .i64 a2x) ∧ wx.cell? ⟨p0, 1, none⟩ = some (.int .i64 a2y) ∧ wx.cell? ⟨p0, 2, none⟩ = some (.int .i64 a2z) ∧ wx.cell? ⟨p1, 0, none⟩ = some (.int .i64 a3x) ∧ wx.cell? ⟨p1, 1, none⟩ = some (.int .i64 a3y) ∧ Below w.heap.size w wx)
  case first =>
    go_wp2
    go_meet
    refine ⟨_, _, rfl, rfl, rfl, ?_, ?_, ?_, ?_, ?_, ?_⟩
    · (repeat (first | with_reducible assumption | ((with_reducible refine kfresh ?_ ?_) <;> (first | with_reducible rfl | (simp; done))) | ((with_reducible refine ksameS ?_); focus ((repeat (first | with_reducible exact kis_of (by with_reducible assumption) | with_reducible refine kis_set ?_ | ((with_reducible refine kis_new ?_ ?_) <;> (first | with_reducible rfl | rfl | (simp; done))) | with_reducible refine kis_alloc _ ?_ | with_reducible refine kis_drew ?_ | with_reducible refine kis_call (by with_reducible assumption) ?_ | with_reducible exact kis_of (kcall (by with_reducible assumption) (by with_reducible assumption)))); done)) | with_reducible refine kother (by decide) ?_ | with_reducible refine kset (by first | omega | (simp; done) | (simp; omega)) ?_ | with_reducible refine kalloc _ ?_ | with_reducible refine kdrew ?_ | with_reducible refine kdrewN ?_ | with_reducible refine kcall (by with_reducible assumption) ?_))
    · (repeat (first | with_reducible assumption | ((with_reducible refine kfresh ?_ ?_) <;> (first | with_reducible rfl | (simp; done))) | ((with_reducible refine ksameS ?_); focus ((repeat (first | with_reducible exact kis_of (by with_reducible assumption) | with_reducible refine kis_set ?_ | ((with_reducible refine kis_new ?_ ?_) <;> (first | with_reducible rfl | rfl | (simp; done))) | with_reducible refine kis_alloc _ ?_ | with_reducible refine kis_drew ?_ | with_reducible refine kis_call (by with_reducible assumption) ?_ | with_reducible exact kis_of (kcall (by with_reducible assumption) (by with_reducible assumption)))); done)) | with_reducible refine kother (by decide) ?_ | with_reducible refine kset (by first | omega | (simp; done) | (simp; omega)) ?_ | with_reducible refine kalloc _ ?_ | with_reducible refine kdrew ?_ | with_reducible refine kdrewN ?_ | with_reducible refine kcall (by with_reducible assumption) ?_))
    · (repeat (first | with_reducible assumption | ((with_reducible refine kfresh ?_ ?_) <;> (first | with_reducible rfl | (simp; done))) | ((with_reducible refine ksameS ?_); focus ((repeat (first | with_reducible exact kis_of (by with_reducible assumption) | with_reducible refine kis_set ?_ | ((with_reducible refine kis_new ?_ ?_) <;> (first | with_reducible rfl | rfl | (simp; done))) | with_reducible refine kis_alloc _ ?_ | with_reducible refine kis_drew ?_ | with_reducible refine kis_call (by with_reducible assumption) ?_ | with_reducible exact kis_of (kcall (by with_reducible assumption) (by with_reducible assumption)))); done)) | with_reducible refine kother (by decide) ?_ | with_reducible refine kset (by first | omega | (simp; done) | (simp; omega)) ?_ | with_reducible refine kalloc _ ?_ | with_reducible refine kdrew ?_ | with_reducible refine kdrewN ?_ | with_reducible refine kcall (by with_reducible assumption) ?_))
    · (repeat (first | with_reducible assumption | ((with_reducible refine kfresh ?_ ?_) <;> (first | with_reducible rfl | (simp; done))) | ((with_reducible refine ksameS ?_); focus ((repeat (first | with_reducible exact kis_of (by with_reducible assumption) | with_reducible refine kis_set ?_ | ((with_reducible refine kis_new ?_ ?_) <;> (first | with_reducible rfl | rfl | (simp; done))) | with_reducible refine kis_alloc _ ?_ | with_reducible refine kis_drew ?_ | with_reducible refine kis_call (by with_reducible assumption) ?_ | with_reducible exact kis_of (kcall (by with_reducible assumption) (by with_reducible assumption)))); done)) | with_reducible refine kother (by decide) ?_ | with_reducible refine kset (by first | omega | (simp; done) | (simp; omega)) ?_ | with_reducible refine kalloc _ ?_ | with_reducible refine kdrew ?_ | with_reducible refine kdrewN ?_ | with_reducible refine kcall (by with_reducible assumption) ?_))
    · (repeat (first | with_reducible assumption | ((with_reducible refine kfresh ?_ ?_) <;> (first | with_reducible rfl | (simp; done))) | ((with_reducible refine ksameS ?_); focus ((repeat (first | with_reducible exact kis_of (by with_reducible assumption) | with_reducible refine kis_set ?_ | ((with_reducible refine kis_new ?_ ?_) <;> (first | with_reducible rfl | rfl | (simp; done))) | with_reducible refine kis_alloc _ ?_ | with_reducible refine kis_drew ?_ | with_reducible refine kis_call (by with_reducible assumption) ?_ | with_reducible exact kis_of (kcall (by with_reducible assumption) (by with_reducible assumption)))); done)) | with_reducible refine kother (by decide) ?_ | with_reducible refine kset (by first | omega | (simp; done) | (simp; omega)) ?_ | with_reducible refine kalloc _ ?_ | with_reducible refine kdrew ?_ | with_reducible refine kdrewN ?_ | with_reducible refine kcall (by with_reducible assumption) ?_))
    · (repeat (first | with_reducible exact Below.refl _ _ | with_reducible refine balloc ?_ _ | with_reducible refine bdrewN ?_ _ | with_reducible refine Below.drew ?_ | with_reducible refine bthen ?_ (by with_reducible assumption) | with_reducible refine Below.setCell ?_ (by first | (simp; done) | (simp; omega)) _))
  case' rest => obtain ⟨p0, p1, rfl, rfl, rfl, c0, c1, c2, c3, c4, hwA⟩ := hcut
  obtain ⟨wA, rfl⟩ : ∃ wA : World, wA = wc := ⟨_, rfl⟩
  have lwA0 : p0 < wA.heap.size := World.block_lt_of_cell? wA ⟨p0, 0, none⟩ c0
  have lwA1 : p1 < wA.heap.size := World.block_lt_of_cell? wA ⟨p1, 0, none⟩ c3
  have k0 : ∀ W : World, Below wA.heap.size wA W → W.cell? ⟨p0, 0, none⟩ = some (.int .i64 a2x) := fun W h => bholds c0 h
  have k1 : ∀ W : World, Below wA.heap.size wA W → W.cell? ⟨p0, 1, none⟩ = some (.int .i64 a2y) := fun W h => bholds c1 h
  have k2 : ∀ W : World, Below wA.heap.size wA W → W.cell? ⟨p0, 2, none⟩ = some (.int .i64 a2z) := fun W h => bholds c2 h
  have k3 : ∀ W : World, Below wA.heap.size wA W → W.cell? ⟨p1, 0, none⟩ = some (.int .i64 a3x) := fun W h => bholds c3 h
  have k4 : ∀ W : World, Below wA.heap.size wA W → W.cell? ⟨p1, 1, none⟩ = some (.int .i64 a3y) := fun W h => bholds c4 h
  go_upto_region 1 with fail
  go_cut [9, 10] (fun s9 s10 wx => ∃ n, s10 = .int .i64 (tfC a0 a1 a2x a2y a2z a3x a3y) ∧ wx.ownsRow wA.heap.size 49 3 s9 n (ints (tfL a0 a1 a2x a2y a2z a3x a3y)) ∧ Below wA.heap.size wA wx)
  case first =>
    go_region_held3 (fun W => Below wA.heap.size wA W) (first | with_reducible assumption | with_reducible exact bthen (by with_reducible assumption) hB | with_reducible exact bfromdrew hB | with_reducible exact balloc (by with_reducible assumption) _ | with_reducible exact Below.drew (balloc (bundrew (by with_reducible assumption)) _) | with_reducible exact Below.refl _ _ | with_reducible exact Below.drew (Below.refl _ _) | with_reducible exact Below.drew (by with_reducible assumption))
      (first
        | (go_at_call 7; refine Calls.mono (toCircle_any _ _ _ _) ?_; rintro e wq ⟨rfl, hB⟩; have hBs := hB.size; (try simp at hBs))
        | (go_at_call 8; refine Calls.mono (toPoint_any _ _ _) ?_; rintro e wq ⟨rfl, hB⟩; have hBs := hB.size; (try simp at hBs))
        | (go_at_call 6; refine Calls.mono (specTangentsFrom_any _ _ _ _ _ _ _ _) ?_; rintro e wq ⟨vq, nq, rfl, hoq, hB⟩; have hBs := hB.size; (try simp at hBs)))
    all_goals
      go_wp2_with fail
      go_meet
      exact ⟨_, rfl, own_base hoq (by first | exact Nat.le_refl _ | omega | (simp; done) | (simp; omega)), by with_reducible assumption⟩
  case' rest => obtain ⟨n0, rfl, ho0, hAB⟩ := hcut
  obtain ⟨wa, rfl⟩ : ∃ wa : World, wa = wc := ⟨_, rfl⟩
  replace c0 := k0 wa hAB
  replace c1 := k1 wa hAB
  replace c2 := k2 wa hAB
  replace c3 := k3 wa hAB
  replace c4 := k4 wa hAB
  clear k0 k1 k2 k3 k4
  have hw : Below w.heap.size w wa := bthen hwA hAB
  have lwa0 : p0 < wa.heap.size := World.block_lt_of_cell? wa ⟨p0, 0, none⟩ c0
  have lwa1 : p1 < wa.heap.size := World.block_lt_of_cell? wa ⟨p1, 0, none⟩ c3
  have k0 : ∀ W : World, Below wa.heap.size wa W → W.cell? ⟨p0, 0, none⟩ = some (.int .i64 a2x) := fun W h => bholds c0 h
  have k1 : ∀ W : World, Below wa.heap.size wa W → W.cell? ⟨p0, 1, none⟩ = some (.int .i64 a2y) := fun W h => bholds c1 h
  have k2 : ∀ W : World, Below wa.heap.size wa W → W.cell? ⟨p0, 2, none⟩ = some (.int .i64 a2z) := fun W h => bholds c2 h
  have k3 : ∀ W : World, Below wa.heap.size wa W → W.cell? ⟨p1, 0, none⟩ = some (.int .i64 a3x) := fun W h => bholds c3 h
  have k4 : ∀ W : World, Below wa.heap.size wa W → W.cell? ⟨p1, 1, none⟩ = some (.int .i64 a3y) := fun W h => bholds c4 h
  go_upto_region 2 with fail
  go_cut [11, 12] (fun s11 s12 wx => ∃ n, s12 = .int .i64 (tfC a0 a1 a2x a2y a2z a3x a3y) ∧ wx.ownsRow wa.heap.size 49 3 s11 n (ints (tfL a0 a1 a2x a2y a2z a3x a3y)) ∧ Below wa.heap.size wa wx)
  case first =>
    go_region_held3 (fun W => Below wa.heap.size wa W) (first | with_reducible assumption | with_reducible exact bthen (by with_reducible assumption) hB | with_reducible exact bfromdrew hB | with_reducible exact balloc (by with_reducible assumption) _ | with_reducible exact Below.drew (balloc (bundrew (by with_reducible assumption)) _) | with_reducible exact Below.refl _ _ | with_reducible exact Below.drew (Below.refl _ _) | with_reducible exact Below.drew (by with_reducible assumption))
      (first
        | (go_at_call 7; refine Calls.mono (toCircle_any _ _ _ _) ?_; rintro e wq ⟨rfl, hB⟩; have hBs := hB.size; (try simp at hBs))
        | (go_at_call 8; refine Calls.mono (toPoint_any _ _ _) ?_; rintro e wq ⟨rfl, hB⟩; have hBs := hB.size; (try simp at hBs))
        | (go_at_call 9; refine Calls.mono (implTangentsFrom_any _ _ _ _ _ _ _ _) ?_; rintro e wq ⟨vq, nq, rfl, hoq, hB⟩; have hBs := hB.size; (try simp at hBs)))
    all_goals
      go_wp2_with fail
      go_meet
      exact ⟨_, rfl, own_base hoq (by first | exact Nat.le_refl _ | omega | (simp; done) | (simp; omega)), by with_reducible assumption⟩
  case' rest => obtain ⟨n1, rfl, hg, hab⟩ := hcut
  obtain ⟨wb, rfl⟩ : ∃ wb : World, wb = wc := ⟨_, rfl⟩
  replace c0 := k0 wb hab
  replace c1 := k1 wb hab
  replace c2 := k2 wb hab
  replace c3 := k3 wb hab
  replace c4 := k4 wb hab
  clear k0 k1 k2 k3 k4
  have lwb0 : p0 < wb.heap.size := World.block_lt_of_cell? wb ⟨p0, 0, none⟩ c0
  have lwb1 : p1 < wb.heap.size := World.block_lt_of_cell? wb ⟨p1, 0, none⟩ c3
  have hx : Below w.heap.size w wb := bthen hw hab
  have hs1 := hab.size
  have ho0lt := Lib.hid (fun g (hg : u9.ownBlock = some g) => (ho0.lt g hg).2)
  have ho0b := own_call ho0 hab
  obtain rfl : n1 = n0 := own_same hg ho0b
  have hn : n1 ≤ 4096 := own_few hg hlen.out (by decide)
  have hnn : (0 : Int) ≤ 1 + (n1 : Int) * 3 := by omega
  (go_wp2_with fail; refine Calls.mono (eqLines_same hg ho0b) ?_; rintro e w3 ⟨rfl, hB3e⟩; obtain ⟨hB3ec, hB3ef⟩ := bcell hB3e; have hB3es := hB3e.size; (try simp at hB3es); (try have hB3eq1 := Nat.lt_of_succ_le hB3es); (try have hB3eq2 := Nat.lt_of_succ_lt hB3eq1); (try have hB3eq3 := Nat.lt_of_succ_lt hB3eq2); (try have hB3ezw0 : w.heap.size < w3.heap.size := (by omega)); (try have hB3ezw1 : w.heap.size + 1 < w3.heap.size := (by omega)); (try have hB3ezw2 : w.heap.size + 1 + 1 < w3.heap.size := (by omega)); (try have hB3ezw3 : w.heap.size + 1 + 1 + 1 < w3.heap.size := (by omega)); (try have hB3ezw4 : w.heap.size + 1 + 1 + 1 + 1 < w3.heap.size := (by omega)); (try have hB3ezwb0 : wb.heap.size < w3.heap.size := (by omega)); (try have hB3ezwb1 : wb.heap.size + 1 < w3.heap.size := (by omega)); (try have hB3ezwb2 : wb.heap.size + 1 + 1 < w3.heap.size := (by omega)); (try have hB3ezwb3 : wb.heap.size + 1 + 1 + 1 < w3.heap.size := (by omega)); (try have hB3ezwb4 : wb.heap.size + 1 + 1 + 1 + 1 < w3.heap.size := (by omega)))
  have hg3 := own_call hg hB3e
  have ho3 := own_call ho0b hB3e
  clear hg ho0b ho0
  (go_wp2_with fail; refine Calls.mono (markLines_1 hg3 (by omega)) ?_; rintro e w4 ⟨rfl, hg4, hB4⟩)
  have hs3 := hB3e.size
  have hs4 := hB4.size
  have ho4 := own_below ho3 hB4 ho0lt.out
  clear ho3
  have hx4 : Below w.heap.size w w4 := (bthen hx hB3e).trans (hB4.mono (by have := hw.size; omega))
  (go_wp2_with fail; refine Calls.mono (heldLines_1 hg4 (by omega)) ?_; rintro e w' ⟨rfl, rfl⟩)
  replace c0 := (cell_old hB4 (by omega) 0).trans ((cell_back hB3e (by omega) 0).trans c0)
  replace c1 := (cell_old hB4 (by omega) 1).trans ((cell_back hB3e (by omega) 1).trans c1)
  replace c2 := (cell_old hB4 (by omega) 2).trans ((cell_back hB3e (by omega) 2).trans c2)
  replace c3 := (cell_old hB4 (by omega) 0).trans ((cell_back hB3e (by omega) 0).trans c3)
  replace c4 := (cell_old hB4 (by omega) 1).trans ((cell_back hB3e (by omega) 1).trans c4)
  have lw40 : p0 < w4.heap.size := World.block_lt_of_cell? w4 ⟨p0, 0, none⟩ c0
  have lw41 : p1 < w4.heap.size := World.block_lt_of_cell? w4 ⟨p1, 0, none⟩ c3
  have hs4w : w.heap.size ≤ w4.heap.size := hx4.size
  have k0 : ∀ W : World, Below w4.heap.size w4 W → W.cell? ⟨p0, 0, none⟩ = some (.int .i64 a2x) := fun W h => bholds c0 h
  have k1 : ∀ W : World, Below w4.heap.size w4 W → W.cell? ⟨p0, 1, none⟩ = some (.int .i64 a2y) := fun W h => bholds c1 h
  have k2 : ∀ W : World, Below w4.heap.size w4 W → W.cell? ⟨p0, 2, none⟩ = some (.int .i64 a2z) := fun W h => bholds c2 h
  have k3 : ∀ W : World, Below w4.heap.size w4 W → W.cell? ⟨p1, 0, none⟩ = some (.int .i64 a3x) := fun W h => bholds c3 h
  have k4 : ∀ W : World, Below w4.heap.size w4 W → W.cell? ⟨p1, 1, none⟩ = some (.int .i64 a3y) := fun W h => bholds c4 h
  go_upto_region 13 with fail
  go_cut [15, 16] (fun s15 s16 wx => ∃ n, s16 = .int .i64 (tfC a0 a1 a2x a2y a2z a3x a3y) ∧ wx.ownsRow w4.heap.size 49 3 s15 n (ints (tfL a0 a1 a2x a2y a2z a3x a3y)) ∧ Below w4.heap.size w4 wx)
  case first =>
    go_region_held3 (fun W => Below w4.heap.size w4 W) (first | with_reducible assumption | with_reducible exact bthen (by with_reducible assumption) hB | with_reducible exact bfromdrew hB | with_reducible exact balloc (by with_reducible assumption) _ | with_reducible exact Below.drew (balloc (bundrew (by with_reducible assumption)) _) | with_reducible exact Below.refl _ _ | with_reducible exact Below.drew (Below.refl _ _) | with_reducible exact Below.drew (by with_reducible assumption))
      (first
        | (go_at_call 7; refine Calls.mono (toCircle_any _ _ _ _) ?_; rintro e wq ⟨rfl, hB⟩; have hBs := hB.size; (try simp at hBs))
        | (go_at_call 8; refine Calls.mono (toPoint_any _ _ _) ?_; rintro e wq ⟨rfl, hB⟩; have hBs := hB.size; (try simp at hBs))
        | (go_at_call 9; refine Calls.mono (implTangentsFrom_any _ _ _ _ _ _ _ _) ?_; rintro e wq ⟨vq, nq, rfl, hoq, hB⟩; have hBs := hB.size; (try simp at hBs)))
    all_goals
      go_wp2_with fail
      go_meet
      exact ⟨_, rfl, own_base hoq (by first | exact Nat.le_refl _ | omega | (simp; done) | (simp; omega)), by with_reducible assumption⟩
  case' rest => obtain ⟨n2, rfl, ho2, h46⟩ := hcut
  obtain ⟨w6, rfl⟩ : ∃ w6 : World, w6 = wc := ⟨_, rfl⟩
  clear k0 k1 k2 k3 k4
  have hg6 := own_call hg4 h46
  have ho6 := own_call ho4 h46
  clear hg4 ho4
  obtain rfl : n2 = n1 := own_same ho2 ho6
  (go_wp2_with fail; refine Calls.mono (eqLines_same ho2 ho6) ?_; rintro e w7 ⟨rfl, hB7⟩; obtain ⟨hB7c, hB7f⟩ := bcell hB7; have hB7s := hB7.size; (try simp at hB7s); (try have hB7q1 := Nat.lt_of_succ_le hB7s); (try have hB7q2 := Nat.lt_of_succ_lt hB7q1); (try have hB7q3 := Nat.lt_of_succ_lt hB7q2); (try have hB7zw0 : w.heap.size < w7.heap.size := (by omega)); (try have hB7zw1 : w.heap.size + 1 < w7.heap.size := (by omega)); (try have hB7zw2 : w.heap.size + 1 + 1 < w7.heap.size := (by omega)); (try have hB7zw3 : w.heap.size + 1 + 1 + 1 < w7.heap.size := (by omega)); (try have hB7zw4 : w.heap.size + 1 + 1 + 1 + 1 < w7.heap.size := (by omega)); (try have hB7zw60 : w6.heap.size < w7.heap.size := (by omega)); (try have hB7zw61 : w6.heap.size + 1 < w7.heap.size := (by omega)); (try have hB7zw62 : w6.heap.size + 1 + 1 < w7.heap.size := (by omega)); (try have hB7zw63 : w6.heap.size + 1 + 1 + 1 < w7.heap.size := (by omega)); (try have hB7zw64 : w6.heap.size + 1 + 1 + 1 + 1 < w7.heap.size := (by omega)))
  have hg7 := own_call hg6 hB7
  clear hg6 ho6 ho2
  (go_wp2_with fail; refine Calls.mono (heldLines_1 hg7 (by omega)) ?_; rintro e w' ⟨rfl, rfl⟩)
  go_wp2
  go_ret
  exact ⟨rfl, bthen (bthen hx4 h46) hB7⟩

end Go.Proofs.Ytmpgpmcmhbpjeab
