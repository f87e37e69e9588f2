/-
  spec.l09On: the places on the line with a pole.
-/
import Derived.Test.YtkkaicneabkkdaaSiftQq
import Derived.Test.YtkkaicneabkkdaaSpecPpdq
import Derived.Test.YtkkaicneabkkdaaMgq0
import Derived.Deep.RegionHeld3
import Derived.Deep.DeepCutAuto

namespace Go.Proofs.Ytkkaicneabkkdaa
open Go.RowKit

set_option maxRecDepth 20000 in
set_option maxHeartbeats 4000000 in
theorem specOnQ_any (p q1 q2 q3 : Int) (w : World) (hp : isP p = true) (hq1 : 0 ≤ q1 ∧ q1 ≤ 31) (hq2 : 0 ≤ q2 ∧ q2 ≤ 31) (hq3 : 0 ≤ q3 ∧ q3 ≤ 31) :
    Calls Try.prog 44 #[.int .i64 p, .agg #[.int .i64 q1, .int .i64 q2, .int .i64 q3]] w fun e w' => OnePost 23 3 (flatQ (onL p q1 q2 q3)) (onL p q1 q2 q3).length w e w' := by
  have hr := isP_range hp
  go_enter Try.func44, Try.ntmps44
  go_upto_region 1 with fail
  refine wp_name (fun wN hwN => ?_)
  have hN : Below w.heap.size w wN := by rw [hwN]; exact (Below.refl _ _).alloc (Nat.le_refl _) _
  have sN : w.heap.size < wN.heap.size := by rw [hwN]; simp
  have n0 : wN.cell? ⟨w.heap.size, 0, none⟩ = some (.int .i64 q1) := by rw [hwN]; (repeat (first | with_reducible assumption | ((with_reducible refine kfresh ?_ ?_) <;> (first | with_reducible rfl | (simp; done))) | ((with_reducible refine ksameS ?_); focus ((repeat (first | with_reducible exact kis_of (by with_reducible assumption) | with_reducible refine kis_set ?_ | ((with_reducible refine kis_new ?_ ?_) <;> (first | with_reducible rfl | rfl | (simp; done))) | with_reducible refine kis_alloc _ ?_ | with_reducible refine kis_drew ?_ | with_reducible refine kis_call (by with_reducible assumption) ?_ | with_reducible exact kis_of (kcall (by with_reducible assumption) (by with_reducible assumption)))); done)) | with_reducible refine kother (by decide) ?_ | with_reducible refine kset (by first | omega | (simp; done) | (simp; omega)) ?_ | with_reducible refine kalloc _ ?_ | with_reducible refine kdrew ?_ | with_reducible refine kdrewN ?_ | with_reducible refine kcall (by with_reducible assumption) ?_))
  have n1 : wN.cell? ⟨w.heap.size, 1, none⟩ = some (.int .i64 q2) := by rw [hwN]; (repeat (first | with_reducible assumption | ((with_reducible refine kfresh ?_ ?_) <;> (first | with_reducible rfl | (simp; done))) | ((with_reducible refine ksameS ?_); focus ((repeat (first | with_reducible exact kis_of (by with_reducible assumption) | with_reducible refine kis_set ?_ | ((with_reducible refine kis_new ?_ ?_) <;> (first | with_reducible rfl | rfl | (simp; done))) | with_reducible refine kis_alloc _ ?_ | with_reducible refine kis_drew ?_ | with_reducible refine kis_call (by with_reducible assumption) ?_ | with_reducible exact kis_of (kcall (by with_reducible assumption) (by with_reducible assumption)))); done)) | with_reducible refine kother (by decide) ?_ | with_reducible refine kset (by first | omega | (simp; done) | (simp; omega)) ?_ | with_reducible refine kalloc _ ?_ | with_reducible refine kdrew ?_ | with_reducible refine kdrewN ?_ | with_reducible refine kcall (by with_reducible assumption) ?_))
  have n2 : wN.cell? ⟨w.heap.size, 2, none⟩ = some (.int .i64 q3) := by rw [hwN]; (repeat (first | with_reducible assumption | ((with_reducible refine kfresh ?_ ?_) <;> (first | with_reducible rfl | (simp; done))) | ((with_reducible refine ksameS ?_); focus ((repeat (first | with_reducible exact kis_of (by with_reducible assumption) | with_reducible refine kis_set ?_ | ((with_reducible refine kis_new ?_ ?_) <;> (first | with_reducible rfl | rfl | (simp; done))) | with_reducible refine kis_alloc _ ?_ | with_reducible refine kis_drew ?_ | with_reducible refine kis_call (by with_reducible assumption) ?_ | with_reducible exact kis_of (kcall (by with_reducible assumption) (by with_reducible assumption)))); done)) | with_reducible refine kother (by decide) ?_ | with_reducible refine kset (by first | omega | (simp; done) | (simp; omega)) ?_ | with_reducible refine kalloc _ ?_ | with_reducible refine kdrew ?_ | with_reducible refine kdrewN ?_ | with_reducible refine kcall (by with_reducible assumption) ?_))
  clear hwN
  obtain ⟨i0, hi, hz0, hz1, hz2⟩ := info_parts infoPl
  (go_wp2_with fail; refine Calls.mono (specAllQ_any _ _ hp) ?_; rintro e wz ⟨vz, rfl, hoz, hBz⟩)
  have hgl := allQ_le (m := p.toNat) (by omega)
  obtain ⟨ps, hps⟩ : ∃ ps : List Pl32, ps = allQ p.toNat := ⟨_, rfl⟩
  rw [← hps] at hoz hgl
  have HPS := Lib.hid (show onL p q1 q2 q3 = ps.filter (onQ p q1 q2 q3) from by rw [hps]; rfl)
  clear hps
  obtain ⟨ft, hft⟩ : ∃ ft : Pl32 → Bool, ft = onQ p q1 q2 q3 := ⟨_, rfl⟩
  rw [← hft] at HPS
  have HFT := Lib.hid (show ∀ x : Pl32, ft x = (ppd p (toQ x).1 (toQ x).2.1 (toQ x).2.2 q1 q2 q3 == 0) from fun x => by rw [hft]; rfl)
  clear hft
  obtain ⟨ao, cz, rfl, hnz, hsh⟩ := own_shapeQ hoz
  have HSH := Lib.hid hsh
  clear hsh
  have hbz := hBz.size
  have kz0 := (cell_back hBz sN 0).trans n0
  have kz1 := (cell_back hBz sN 1).trans n1
  have kz2 := (cell_back hBz sN 2).trans n2
  go_wp2_with fail
  go_loopw [6, 7] (fun v i wr => ∃ j : Nat, j ≤ ps.length ∧ i = .int .i64 j ∧ wr.ownsRow wz.heap.size 23 3 v ((ps.take j).filter ft).length (ints (flatQ ((ps.take j).filter ft))) ∧ Below wz.heap.size wz wr) (fun _ i _ => ps.length - (intOf i).toNat)
  case atStart => exact ⟨0, by omega, rfl, by simpa [flatQ] using (own_lit0 (base := wz.heap.size) (b := wz.heap.size) wz 23 3 (Nat.le_refl _) rfl), (Below.refl _ _).alloc (Nat.le_refl _) _⟩
  case round =>
    obtain ⟨j, hj, rfl, hown, hbel⟩ := hrel
    have hle := siftQ_le ft ps j
    have hsr := hbel.size
    by_cases hlt : j < ps.length
    · obtain ⟨g, rfl, hg0, hgl'⟩ := HSH.out (by omega)
      have hozr := own_below hoz hbel (fun g' e => by cases e; exact hgl')
      have hget := flatQ_getD ps j hlt
      have hmem := toQ_r ps[j]
      have c0 := (own_cell hozr (j := j * 3) (by omega)).trans (by rw [hget.1])
      have c1 := (own_cell hozr (j := j * 3 + 1) (by omega)).trans (by rw [hget.2.1])
      have c2 := (own_cell hozr (j := j * 3 + 2) (by omega)).trans (by rw [hget.2.2])
      have hYes := siftQ_yes (f := ft) (xs := ps) hlt
      have hNo := siftQ_no (f := ft) (xs := ps) hlt
      have hft := HFT.out ps[j]
      have HFl := Lib.hid (flatQ_append ((ps.take j).filter ft) ps[j])
      obtain ⟨x, hx⟩ : ∃ x, x = ps[j] := ⟨_, rfl⟩
      rw [← hx] at c0 c1 c2 hYes hNo hft hmem HFl
      clear hx hget hozr
      obtain ⟨bo, hbo⟩ : ∃ b, b = ft x := ⟨_, rfl⟩
      rw [← hbo] at hYes hNo hft
      clear hbo
      obtain ⟨tx, htx⟩ : ∃ t, t = toQ x := ⟨_, rfl⟩
      rw [← htx] at c0 c1 c2 hft hmem HFl
      clear htx
      obtain ⟨x1, x2, x3⟩ := tx
      simp only at c0 c1 c2 hft hmem HFl
      have kk0 := (cell_old hbel (by omega) 0).trans kz0
      have kk1 := (cell_old hbel (by omega) 1).trans kz1
      have kk2 := (cell_old hbel (by omega) 2).trans kz2
      obtain ⟨z, hz⟩ : ∃ z, z = ppd p x1 x2 x3 q1 q2 q3 := ⟨_, rfl⟩
      rw [← hz] at hft
      have hcall := fun w' => (show Calls Try.prog 38 #[.int .i64 p, .agg #[.int .i64 x1, .int .i64 x2, .int .i64 x3], .agg #[.int .i64 q1, .int .i64 q2, .int .i64 q3]] w' fun e w'' => e = .returned (.int .i64 (ppd p x1 x2 x3 q1 q2 q3)) ∧ Below w'.heap.size w' w'' from specPpd_any p x1 x2 x3 q1 q2 q3 w' hp (by omega) (by omega) (by omega) (by omega) (by omega) (by omega))
      rw [← hz] at hcall
      clear hz
      have hzb := hft.symm
      clear hft
      have HC := Lib.hid hcall
      clear hcall
      have hgr : g < wr.heap.size := by omega
      have hjn : (j : Int) < (ps.length : Int) := by omega
      have q0 : ∀ W : World, Below wr.heap.size wr W → W.cell? ⟨w.heap.size, 0, none⟩ = some (.int .i64 q1) := fun W h => bholds kk0 h
      have q1 : ∀ W : World, Below wr.heap.size wr W → W.cell? ⟨w.heap.size, 1, none⟩ = some (.int .i64 q2) := fun W h => bholds kk1 h
      have q2 : ∀ W : World, Below wr.heap.size wr W → W.cell? ⟨w.heap.size, 2, none⟩ = some (.int .i64 q3) := fun W h => bholds kk2 h
      have qc0 : ∀ W : World, Below wr.heap.size wr W → W.cell? ⟨g, j * 3, none⟩ = some (.int .i64 x1) := fun W h => bholds c0 h
      have qc1 : ∀ W : World, Below wr.heap.size wr W → W.cell? ⟨g, j * 3 + 1, none⟩ = some (.int .i64 x2) := fun W h => bholds c1 h
      have qc2 : ∀ W : World, Below wr.heap.size wr W → W.cell? ⟨g, j * 3 + 2, none⟩ = some (.int .i64 x3) := fun W h => bholds c2 h
      cases bo
      · have HN := Lib.hid (hNo rfl)
        clear hYes hNo
        go_upto_region 5 with fail
        go_region_held3 (fun W => Below wr.heap.size wr W) (first | with_reducible assumption | with_reducible exact bthen (by with_reducible assumption) hB | with_reducible exact bfromdrew hB | with_reducible exact balloc (by with_reducible assumption) _ | with_reducible exact Below.drew (balloc (bundrew (by with_reducible assumption)) _) | with_reducible exact Below.drew (Below.refl _ _) | with_reducible exact Below.refl _ _ | with_reducible exact Below.drew (by with_reducible assumption)) (first | (go_at_call 38; refine Calls.mono (HC.out _) ?_; rintro e wq ⟨rfl, hB⟩; have hBs := hB.size))
        all_goals
          have hb1 : Below wr.heap.size wr wq := by first | with_reducible assumption | exact bundrew (by with_reducible assumption) | exact bthen (Below.refl _ _) hB | (repeat (first | with_reducible exact Below.refl _ _ | with_reducible refine balloc ?_ _ | with_reducible refine bdrewN ?_ _ | with_reducible refine Below.drew ?_ | with_reducible refine bthen ?_ (by with_reducible assumption) | with_reducible refine Below.setCell ?_ (by first | (simp; done) | (simp; omega)) _))
          have hs1 := hb1.size
          have ho1 := own_call hown hb1
          have hb2 : Below wz.heap.size wz wq := hbel.trans (hb1.mono (by omega))
          have m0 := (cell_back hb1 (by omega) 0).trans kk0
          have m1 := (cell_back hb1 (by omega) 1).trans kk1
          have m2 := (cell_back hb1 (by omega) 2).trans kk2
          have d0 := (cell_back hb1 hgr (j * 3)).trans c0
          have d1 := (cell_back hb1 hgr (j * 3 + 1)).trans c1
          have d2 := (cell_back hb1 hgr (j * 3 + 2)).trans c2
          have hgq : g < wq.heap.size := by omega
          go_wp2
          go_roundw
          case rel => exact ⟨j + 1, by omega, by go_num, by rw [HN.out]; exact ho1, hb2⟩
          case measure => simp [intOf]; omega
      · have HN := Lib.hid (hYes rfl)
        clear hYes hNo
        go_upto_region 5 with fail
        go_region_held3 (fun W => Below wr.heap.size wr W) (first | with_reducible assumption | with_reducible exact bthen (by with_reducible assumption) hB | with_reducible exact bfromdrew hB | with_reducible exact balloc (by with_reducible assumption) _ | with_reducible exact Below.drew (balloc (bundrew (by with_reducible assumption)) _) | with_reducible exact Below.drew (Below.refl _ _) | with_reducible exact Below.refl _ _ | with_reducible exact Below.drew (by with_reducible assumption)) (first | (go_at_call 38; refine Calls.mono (HC.out _) ?_; rintro e wq ⟨rfl, hB⟩; have hBs := hB.size))
        all_goals
          have hb1 : Below wr.heap.size wr wq := by first | with_reducible assumption | exact bundrew (by with_reducible assumption) | exact bthen (Below.refl _ _) hB | (repeat (first | with_reducible exact Below.refl _ _ | with_reducible refine balloc ?_ _ | with_reducible refine bdrewN ?_ _ | with_reducible refine Below.drew ?_ | with_reducible refine bthen ?_ (by with_reducible assumption) | with_reducible refine Below.setCell ?_ (by first | (simp; done) | (simp; omega)) _))
          have hs1 := hb1.size
          have ho1 := own_call hown hb1
          have hb2 : Below wz.heap.size wz wq := hbel.trans (hb1.mono (by omega))
          have m0 := (cell_back hb1 (by omega) 0).trans kk0
          have m1 := (cell_back hb1 (by omega) 1).trans kk1
          have m2 := (cell_back hb1 (by omega) 2).trans kk2
          have d0 := (cell_back hb1 hgr (j * 3)).trans c0
          have d1 := (cell_back hb1 hgr (j * 3 + 1)).trans c1
          have d2 := (cell_back hb1 hgr (j * 3 + 2)).trans c2
          have hgq : g < wq.heap.size := by omega
          go_wp2_with (at_builtin; refine wpList_append_own _ rfl _ _ 34 rfl wz.heap.size 23 i0 _ 3 24 Try.underlying34 hi hz0 hz1 hz2 rfl (by decide) _ _ _ rfl (ho1.alloc _) ⟨wq.heap.size, 0, none⟩ 1 1 [.int .i64 x1, .int .i64 x2, .int .i64 x3] rfl rfl (pl_cells rfl) (pl_one _ _ _) ?c3 ?c4 ?c5 ?_)
          case c3 => unfold maxLen; omega
          case c4 => omega
          case c5 => simp; omega
          intro v' w3 hown' hgrow _
          have hb3 : Below wz.heap.size wz w3 := (hb2.alloc (by omega) _).grown hgrow (by simp; omega) (fun g' hg' => (ho1.lt g' hg').1)
          have HO := Lib.hid (show w3.ownsRow wz.heap.size 23 3 v' ((ps.take (j + 1)).filter ft).length (ints (flatQ ((ps.take (j + 1)).filter ft))) from by rw [HN.out, HFl.out, ints_append, List.length_append]; exact hown')
          clear hown' hgrow ho1 hown hbel hb2
          go_wp2
          go_roundw
          case rel => exact ⟨j + 1, by omega, by go_num, HO.out, hb3⟩
          case measure => simp [intOf]; omega
    · have ej : j = ps.length := by omega
      subst ej
      rw [List.take_length] at hown
      have HO := Lib.hid hown
      clear hown
      go_wp2
      (refine bodyPost_ret (v := u6) (by simp [results, Try.results44, go_sem]) rfl ⟨_, rfl, by rw [HPS.out]; exact own_base HO.out (by have := hN.size; omega), (hN.trans (hBz.mono hN.size)).trans (hbel.mono (by have := hN.size; omega))⟩)

end Go.Proofs.Ytkkaicneabkkdaa
