/-
  spec.l08Points: a conic's points, row by row.
-/
import Derived.Test.YtijmmagdkbnhdaaConPtsMath
import Derived.Test.YtijmmagdkbnhdaaSpecCv
import Derived.Test.YtijmmagdkbnhdaaSpecAt0
import Derived.Test.YtijmmagdkbnhdaaPtCells
import Derived.Test.YtijmmagdkbnhdaaGrow
import Derived.Test.YtijmmagdkbnhdaaArrEq
import Derived.Test.YtijmmagdkbnhdaaLast
import Derived.Test.YtijmmagdkbnhdaaKeepDrew
import Derived.Test.YtijmmagdkbnhdaaSlice
import Derived.Deep.RegionHeld3
import Derived.Deep.DeepCutAuto
import Derived.Test.YtijmmagdkbnhdaaBaseMath
namespace Go.Proofs.Ytijmmagdkbnhdaa
open Go.RowKit

set_option linter.unusedVariables false in
set_option maxRecDepth 20000 in
set_option maxHeartbeats 4000000 in
theorem specConPts_any (p m1 m2 m3 m4 m5 m6 : Int) (w : World) (hp : isP p = true) (hm1 : 0 ≤ m1 ∧ m1 ≤ 31) (hm2 : 0 ≤ m2 ∧ m2 ≤ 31) (hm3 : 0 ≤ m3 ∧ m3 ≤ 31) (hm4 : 0 ≤ m4 ∧ m4 ≤ 31) (hm5 : 0 ≤ m5 ∧ m5 ≤ 31) (hm6 : 0 ≤ m6 ∧ m6 ≤ 31) :
    Calls Try.prog 73 #[.int .i64 p, .agg #[.int .i64 m1, .int .i64 m2, .int .i64 m3, .int .i64 m4, .int .i64 m5, .int .i64 m6]] w fun e w' =>
      OnePost 25 2 (flat (cpR p m1 m2 m3 m4 m5 m6)) (cpR p m1 m2 m3 m4 m5 m6).length w e w' := by
  have hr := isP_range hp
  have heq := equalPoint
  have hc0 : (p.toNat : Int) = p := Int.toNat_of_nonneg (by omega)
  have HC0 := Lib.hid hc0
  clear hc0
  have hon : ∀ (x y : Int) (w : World), 0 ≤ x ∧ x ≤ 31 → 0 ≤ y ∧ y ≤ 31 → Calls Try.prog 93 #[.int .i64 p, .agg #[.int .i64 m1, .int .i64 m2, .int .i64 m3, .int .i64 m4, .int .i64 m5, .int .i64 m6], .agg #[.int .i64 x, .int .i64 y]] w fun e w' => e = .returned (.int .i64 (cvl p m1 m2 m3 m4 m5 m6 x y)) ∧ Below w.heap.size w w' := fun x y w hx hy => specCv_any p m1 m2 m3 m4 m5 m6 x y w hp hm1 hm2 hm3 hm4 hm5 hm6 hx hy
  obtain ⟨f, hf⟩ : ∃ f : Int → Int → Bool, f = fun x y => onC p m1 m2 m3 m4 m5 m6 x y := ⟨_, rfl⟩
  have HFE := Lib.hid (show ∀ x y, (cvl p m1 m2 m3 m4 m5 m6 x y == 0) = f x y from fun x y => by rw [hf]; rfl)
  unfold cpR
  rw [← hf]
  clear hf
  have HON := Lib.hid hon
  clear hon
  obtain ⟨i0, hi, hz0, hz1, hz2⟩ := info_parts infoPt
  go_enter Try.func73, Try.ntmps73
  go_wp2_with fail
  have l0 : (w.alloc (.cells #[.int .i64 m1, .int .i64 m2, .int .i64 m3, .int .i64 m4, .int .i64 m5, .int .i64 m6] 37)).cell? ⟨w.heap.size, 0, none⟩ = some (.int .i64 m1) := kfresh rfl rfl
  have l1 : (w.alloc (.cells #[.int .i64 m1, .int .i64 m2, .int .i64 m3, .int .i64 m4, .int .i64 m5, .int .i64 m6] 37)).cell? ⟨w.heap.size, 1, none⟩ = some (.int .i64 m2) := kfresh rfl rfl
  have l2 : (w.alloc (.cells #[.int .i64 m1, .int .i64 m2, .int .i64 m3, .int .i64 m4, .int .i64 m5, .int .i64 m6] 37)).cell? ⟨w.heap.size, 2, none⟩ = some (.int .i64 m3) := kfresh rfl rfl
  have l3 : (w.alloc (.cells #[.int .i64 m1, .int .i64 m2, .int .i64 m3, .int .i64 m4, .int .i64 m5, .int .i64 m6] 37)).cell? ⟨w.heap.size, 3, none⟩ = some (.int .i64 m4) := kfresh rfl rfl
  have l4 : (w.alloc (.cells #[.int .i64 m1, .int .i64 m2, .int .i64 m3, .int .i64 m4, .int .i64 m5, .int .i64 m6] 37)).cell? ⟨w.heap.size, 4, none⟩ = some (.int .i64 m5) := kfresh rfl rfl
  have l5 : (w.alloc (.cells #[.int .i64 m1, .int .i64 m2, .int .i64 m3, .int .i64 m4, .int .i64 m5, .int .i64 m6] 37)).cell? ⟨w.heap.size, 5, none⟩ = some (.int .i64 m6) := kfresh rfl rfl
  have hbw : Below w.heap.size w (w.alloc (.cells #[.int .i64 m1, .int .i64 m2, .int .i64 m3, .int .i64 m4, .int .i64 m5, .int .i64 m6] 37)) := (Below.refl _ _).alloc (Nat.le_refl _) _
  have hsw : (w.alloc (.cells #[.int .i64 m1, .int .i64 m2, .int .i64 m3, .int .i64 m4, .int .i64 m5, .int .i64 m6] 37)).heap.size = w.heap.size + 1 := by simp
  obtain ⟨w0, hw0⟩ : ∃ w0, w0 = (w.alloc (.cells #[.int .i64 m1, .int .i64 m2, .int .i64 m3, .int .i64 m4, .int .i64 m5, .int .i64 m6] 37)) := ⟨_, rfl⟩
  rw [← hw0] at l0 l1 l2 l3 l4 l5 hbw hsw ⊢
  clear hw0
  have HL0 := Lib.hid l0
  clear l0
  have HL1 := Lib.hid l1
  clear l1
  have HL2 := Lib.hid l2
  clear l2
  have HL3 := Lib.hid l3
  clear l3
  have HL4 := Lib.hid l4
  clear l4
  have HL5 := Lib.hid l5
  clear l5
  go_loopw [5, 6, 7] (fun v i _ wr => ∃ x : Nat, (x : Int) ≤ p ∧ i = .int .i64 x ∧ wr.ownsRow (w.heap.size + 1) 25 2 v (gridL f p.toNat x).length (ints (flat (gridL f p.toNat x))) ∧ Below (w.heap.size + 1) w0 wr) (fun _ i _ _ => p.toNat - (intOf i).toNat)
  case atStart => exact ⟨0, by omega, rfl, (own_lit0 (base := w.heap.size + 1) (b := w.heap.size + 1) w0 25 2 (by omega) hsw.symm), (Below.refl _ _).alloc (by omega) _⟩
  case round =>
    obtain ⟨x, hx, rfl, hown, hbel⟩ := hrel
    have hgl := gridL_le f p.toNat x
    by_cases hlt : (x : Int) < p
    · have HG := Lib.hid (gridL_succ f p.toNat x)
      have hxm : x * p.toNat ≤ 961 := Nat.le_trans (Nat.mul_le_mul (by omega : x ≤ 31) (by omega : p.toNat ≤ 31)) (by decide)
      obtain ⟨wo, rfl⟩ : ∃ wo : World, wo = wr := ⟨_, rfl⟩
      go_wp2_with fail
      go_loopw [5, 7] (fun v i wr => ∃ y : Nat, (y : Int) ≤ p ∧ i = .int .i64 y ∧ wr.ownsRow (w.heap.size + 1) 25 2 v (gridL f p.toNat x ++ rowL f x y).length (ints (flat (gridL f p.toNat x ++ rowL f x y))) ∧ Below (w.heap.size + 1) w0 wr) (fun _ i _ => p.toNat - (intOf i).toNat)
      case atStart => exact ⟨0, by omega, rfl, by simpa [rowL] using hown, hbel⟩
      case round =>
        obtain ⟨y, hy, rfl, hown, hbel⟩ := hrel
        have hrl := rowL_le f x y
        by_cases hlty : (y : Int) < p
        · have hsr := hbel.size
          have hlw : w.heap.size < wr.heap.size := by omega
          have k0 : wr.cell? ⟨w.heap.size, 0, none⟩ = some (.int .i64 m1) := (cell_old hbel (by omega) 0).trans HL0.out
          have k1 : wr.cell? ⟨w.heap.size, 1, none⟩ = some (.int .i64 m2) := (cell_old hbel (by omega) 1).trans HL1.out
          have k2 : wr.cell? ⟨w.heap.size, 2, none⟩ = some (.int .i64 m3) := (cell_old hbel (by omega) 2).trans HL2.out
          have k3 : wr.cell? ⟨w.heap.size, 3, none⟩ = some (.int .i64 m4) := (cell_old hbel (by omega) 3).trans HL3.out
          have k4 : wr.cell? ⟨w.heap.size, 4, none⟩ = some (.int .i64 m5) := (cell_old hbel (by omega) 4).trans HL4.out
          have k5 : wr.cell? ⟨w.heap.size, 5, none⟩ = some (.int .i64 m6) := (cell_old hbel (by omega) 5).trans HL5.out
          obtain ⟨z1, hz1'⟩ : ∃ z, z = cvl p m1 m2 m3 m4 m5 m6 (x : Int) (y : Int) := ⟨_, rfl⟩
          have hfz : (z1 == 0) = f x y := by rw [hz1']; exact HFE.out _ _
          have hcall := fun w' => HON.out (x : Int) (y : Int) w' (by omega) (by omega)
          rw [← hz1'] at hcall
          have HCL := Lib.hid hcall
          clear hz1' hcall
          have hyes := rowL_yes (f := f) (x := x) (y := y)
          have hno := rowL_no (f := f) (x := x) (y := y)
          obtain ⟨bo, hbo⟩ : ∃ b, b = f x y := ⟨_, rfl⟩
          rw [← hbo] at hfz hyes hno
          clear hbo
          go_upto_region 9 with fail
          refine wp_name (fun wN hwN => ?_)
          have hN : Below wr.heap.size wr wN := by rw [hwN]; exact (Below.refl _ _).alloc (Nat.le_refl _) _
          have sN : wr.heap.size < wN.heap.size := by rw [hwN]; simp
          have ownN := hown.alloc (.cells #[.int .i64 (x : Int), .int .i64 (y : Int)] 25)
          rw [← hwN] at ownN
          have n0 : wN.cell? ⟨wr.heap.size, 0, none⟩ = some (.int .i64 (x : Int)) := by rw [hwN]; (repeat (first | with_reducible assumption | ((with_reducible refine kfresh ?_ ?_) <;> (first | with_reducible rfl | (simp; done))) | ((with_reducible refine ksameS ?_); focus ((repeat (first | with_reducible exact kis_of (by with_reducible assumption) | with_reducible refine kis_set ?_ | ((with_reducible refine kis_new ?_ ?_) <;> (first | with_reducible rfl | rfl | (simp; done))) | with_reducible refine kis_alloc _ ?_ | with_reducible refine kis_drew ?_ | with_reducible refine kis_call (by with_reducible assumption) ?_ | with_reducible exact kis_of (kcall (by with_reducible assumption) (by with_reducible assumption)))); done)) | with_reducible refine kother (by decide) ?_ | with_reducible refine kset (by first | omega | (simp; done) | (simp; omega)) ?_ | with_reducible refine kalloc _ ?_ | with_reducible refine kdrew ?_ | with_reducible refine kdrewN ?_ | with_reducible refine kcall (by with_reducible assumption) ?_))
          have n1 : wN.cell? ⟨wr.heap.size, 1, none⟩ = some (.int .i64 (y : Int)) := by rw [hwN]; (repeat (first | with_reducible assumption | ((with_reducible refine kfresh ?_ ?_) <;> (first | with_reducible rfl | (simp; done))) | ((with_reducible refine ksameS ?_); focus ((repeat (first | with_reducible exact kis_of (by with_reducible assumption) | with_reducible refine kis_set ?_ | ((with_reducible refine kis_new ?_ ?_) <;> (first | with_reducible rfl | rfl | (simp; done))) | with_reducible refine kis_alloc _ ?_ | with_reducible refine kis_drew ?_ | with_reducible refine kis_call (by with_reducible assumption) ?_ | with_reducible exact kis_of (kcall (by with_reducible assumption) (by with_reducible assumption)))); done)) | with_reducible refine kother (by decide) ?_ | with_reducible refine kset (by first | omega | (simp; done) | (simp; omega)) ?_ | with_reducible refine kalloc _ ?_ | with_reducible refine kdrew ?_ | with_reducible refine kdrewN ?_ | with_reducible refine kcall (by with_reducible assumption) ?_))
          clear hwN
          have m0' : wN.cell? ⟨w.heap.size, 0, none⟩ = some (.int .i64 m1) := (cell_back hN (by omega) 0).trans k0
          have m1' : wN.cell? ⟨w.heap.size, 1, none⟩ = some (.int .i64 m2) := (cell_back hN (by omega) 1).trans k1
          have m2' : wN.cell? ⟨w.heap.size, 2, none⟩ = some (.int .i64 m3) := (cell_back hN (by omega) 2).trans k2
          have m3' : wN.cell? ⟨w.heap.size, 3, none⟩ = some (.int .i64 m4) := (cell_back hN (by omega) 3).trans k3
          have m4' : wN.cell? ⟨w.heap.size, 4, none⟩ = some (.int .i64 m5) := (cell_back hN (by omega) 4).trans k4
          have m5' : wN.cell? ⟨w.heap.size, 5, none⟩ = some (.int .i64 m6) := (cell_back hN (by omega) 5).trans k5
          have hbN : Below (w.heap.size + 1) w0 wN := hbel.trans (hN.mono (by omega))
          have q0 : ∀ W : World, Below wN.heap.size wN W → W.cell? ⟨w.heap.size, 0, none⟩ = some (.int .i64 m1) := fun W h => bholds m0' h
          have q1 : ∀ W : World, Below wN.heap.size wN W → W.cell? ⟨w.heap.size, 1, none⟩ = some (.int .i64 m2) := fun W h => bholds m1' h
          have q2 : ∀ W : World, Below wN.heap.size wN W → W.cell? ⟨w.heap.size, 2, none⟩ = some (.int .i64 m3) := fun W h => bholds m2' h
          have q3 : ∀ W : World, Below wN.heap.size wN W → W.cell? ⟨w.heap.size, 3, none⟩ = some (.int .i64 m4) := fun W h => bholds m3' h
          have q4 : ∀ W : World, Below wN.heap.size wN W → W.cell? ⟨w.heap.size, 4, none⟩ = some (.int .i64 m5) := fun W h => bholds m4' h
          have q5 : ∀ W : World, Below wN.heap.size wN W → W.cell? ⟨w.heap.size, 5, none⟩ = some (.int .i64 m6) := fun W h => bholds m5' h
          have qn0 : ∀ W : World, Below wN.heap.size wN W → W.cell? ⟨wr.heap.size, 0, none⟩ = some (.int .i64 (x : Int)) := fun W h => bholds n0 h
          have qn1 : ∀ W : World, Below wN.heap.size wN W → W.cell? ⟨wr.heap.size, 1, none⟩ = some (.int .i64 (y : Int)) := fun W h => bholds n1 h
          cases bo
          · have HU := Lib.hid (hno rfl)
            clear hyes hno
            go_wp2_with fail
            refine Calls.mono (HCL.out _) ?_
            rintro e wq ⟨rfl, hB⟩
            · have hBs := hB.size
              have hb1 : Below wN.heap.size wN wq := hB
              have ho1 := own_call ownN hb1
              have hb2 : Below (w.heap.size + 1) w0 wq := hbN.trans (hb1.mono (by omega))
              go_wp2
              go_roundw
              case rel => exact ⟨y + 1, by omega, by go_num, by rw [HU.out]; exact ho1, hb2⟩
              case measure => have := HC0.out; simp [intOf]; omega
          · have HU := Lib.hid (hyes rfl)
            clear hyes hno
            go_wp2_with fail
            refine Calls.mono (HCL.out _) ?_
            rintro e wq ⟨rfl, hB⟩
            · have hBs := hB.size
              have hb1 : Below wN.heap.size wN wq := hB
              have ho1 := own_call ownN hb1
              have hb2 : Below (w.heap.size + 1) w0 wq := hbN.trans (hb1.mono (by omega))
              have hs2 := hb2.size
              have c0 := qn0 wq hb1
              have c1 := qn1 wq hb1
              clear qn0 qn1
              go_wp2_with (at_builtin; refine wpList_append_own _ rfl _ _ 47 rfl (w.heap.size + 1) 25 i0 _ 2 16 Try.underlying47 hi hz0 hz1 hz2 rfl (by decide) _ _ _ rfl (ho1.alloc _) ⟨wq.heap.size, 0, none⟩ 1 1 [.int .i64 (x : Int), .int .i64 (y : Int)] rfl rfl (pt_cells rfl) (pt_one _ _) ?c3 ?c4 ?c5 ?_)
              case c3 => rw [List.length_append]; unfold maxLen; omega
              case c4 => rw [List.length_append]; omega
              case c5 => simp; omega
              intro v' w3 hown' hgrow _
              have hb3 : Below (w.heap.size + 1) w0 w3 := (hb2.alloc (by omega) _).grown hgrow (by simp; omega) (fun g hg => (ho1.lt g hg).1)
              have HN := Lib.hid (show w3.ownsRow (w.heap.size + 1) 25 2 v' (gridL f p.toNat x ++ rowL f x (y + 1)).length (ints (flat (gridL f p.toNat x ++ rowL f x (y + 1)))) from by
                rw [HU.out, ← List.append_assoc, flat_append, ints_append, List.length_append, List.length_append]; exact hown')
              clear hown' hgrow ho1 hown hbel
              go_wp2
              go_roundw
              case rel => exact ⟨y + 1, by omega, by go_num, HN.out, hb3⟩
              case measure => have := HC0.out; simp [intOf]; omega
        · have hy' : y = p.toNat := by have := HC0.out; omega
          subst hy'
          have HN := Lib.hid (show wr.ownsRow (w.heap.size + 1) 25 2 _ (gridL f p.toNat (x + 1)).length (ints (flat (gridL f p.toNat (x + 1)))) from by rw [HG.out]; exact hown)
          clear hown
          go_wp2
          go_roundw
          case rel => exact ⟨x + 1, by omega, by go_num, HN.out, hbel⟩
          case measure => have := HC0.out; simp [intOf]; omega
    · have hx' : x = p.toNat := by have := HC0.out; omega
      subst hx'
      have HO := Lib.hid hown
      clear hown
      go_wp2
      (refine bodyPost_ret (v := u5) (by simp [results, Try.results73, go_sem]) rfl ⟨_, rfl, own_base HO.out (by omega), hbw.trans (hbel.mono (by omega))⟩)

end Go.Proofs.Ytijmmagdkbnhdaa
