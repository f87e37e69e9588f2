/-
  NullPlaces: the program's and the model's.
-/
import Derived.Test.YtgklnlblghookaaSiftQ
import Derived.Test.YtgklnlblghookaaSpecNull
import Derived.Test.YtgklnlblghookaaNulMk
import Derived.Test.YtgklnlblghookaaListIn
import Derived.Test.YtgklnlblghookaaSpecPlCode0
import Derived.Test.YtgklnlblghookaaSlice
import Derived.Test.YtgklnlblghookaaCode
import Derived.Test.YtgklnlblghookaaLast
import Derived.Deep.RegionHeld3
import Derived.Deep.DeepCutAuto
import Derived.Test.YtgklnlblghookaaBaseMath
namespace Go.Proofs.Ytgklnlblghookaa
open Go.RowKit

set_option linter.unusedVariables false in
def nploB (p : Int) : Bool := isP p || true
set_option linter.unusedVariables false in
def nploS (p : Int) : Int := 0
set_option linter.unusedVariables false in
def nploC (p : Int) : Int := if isP p = true then (if nploB p = true then nploS p else 2) else 1
set_option linter.unusedVariables false in
def nploL (p : Int) : List Int := if nploC p = 0 then flatQ (nulL p) else []
theorem nplo_zero {p k : Int} (h : nploC p = k) (hk : k ≠ 0) : nploL p = [] ∧ nploC p = k := ⟨if_neg fun e => hk (h.symm.trans e), h⟩
theorem nplo_no {p : Int} (h : isP p = false) : nploL p = [] ∧ nploC p = 1 := nplo_zero (by simp [nploC, h]) (by decide)
theorem nplo_out {p : Int} (hp : isP p = true) (h : nploB p = false) : nploL p = [] ∧ nploC p = 2 := nplo_zero (by simp [nploC, hp, h]) (by decide)
theorem nplo_st {p k : Int} (hp : isP p = true) (h : nploB p = true) (hs : nploS p = k) (hk : k ≠ 0) : nploL p = [] ∧ nploC p = k := nplo_zero (by simp [nploC, hp, h, hs]) hk
theorem nplo_good {p : Int} (hp : isP p = true) (h : nploB p = true) (hs : nploS p = 0) : nploL p = flatQ (nulL p) ∧ nploC p = 0 := by
  have h' : nploC p = 0 := by simp [nploC, hp, h, hs]
  exact ⟨if_pos h', h'⟩

set_option linter.unusedVariables false in
set_option linter.unusedSimpArgs false in
set_option maxRecDepth 20000 in
set_option maxHeartbeats 4000000 in
theorem specNullPlaces_any (p : Int)  (w : World) :
    Calls Try.prog 20 #[.int .i64 p] w fun e w' =>
      SlicePost 23 3 (nploL p) (nploC p) w e w' := by
  go_enter Try.func20, Try.ntmps20
  rcases bool_ways (isP p) with hd1 | hd1
  · skip
    have c_1 : codeOf p true = 1 := codeOf_no hd1
    have cN : ∀ b, codeOf p b = 1 := fun b => codeOf_no hd1
    go_wp2_with fail
    refine Calls.mono (specPlCode0 _ _) ?_
    rintro e w' ⟨rfl, rfl⟩
    have HV := Lib.hid (nplo_no  hd1)
    go_wp2
    (refine bodyPost_ret (v := .tuple #[.slice none 0 0, .int .i64 (nploC p)]) (by simp [results, Try.results20, go_sem, HV.out.2]) rfl (slicePost_nil HV.out.1 ?_))
    (repeat (first | with_reducible exact Below.refl _ _ | with_reducible refine balloc ?_ _ | with_reducible refine bdrewN ?_ _ | with_reducible refine Below.drew ?_ | with_reducible refine bthen ?_ (by with_reducible assumption) | with_reducible refine Below.setCell ?_ (by first | (simp; done) | (simp; omega)) _))
  · have hp := hd1
    have hr := isP_range hp
    have c_1 : codeOf p true = 0 := codeOf_in hp (by simp [hd1])
    have cT : codeOf p true = 0 := codeOf_in hp rfl
    go_wp2_with fail
    refine Calls.mono (specPlCode0 _ _) ?_
    rintro e w' ⟨rfl, rfl⟩
    have HB : nploB p = true := by simp [nploB, hd1]
    have HS : nploS p = 0 := by rfl
    have HV := Lib.hid (nplo_good  hp HB HS)
    clear HB HS
    have hW0 : Below w.heap.size w w := by (repeat (first | with_reducible exact Below.refl _ _ | with_reducible refine balloc ?_ _ | with_reducible refine bdrewN ?_ _ | with_reducible refine Below.drew ?_ | with_reducible refine bthen ?_ (by with_reducible assumption) | with_reducible refine Below.setCell ?_ (by first | (simp; done) | (simp; omega)) _))
    obtain ⟨i0, hi, hz0, hz1, hz2⟩ := info_parts infoPl
    (go_wp2_with fail; refine Calls.mono (specAllQ_any _ _ hp) ?_; rintro e wz ⟨vz, rfl, hoz, hBz⟩)
    have hgl := allQ_le (m := p.toNat) (by omega)
    obtain ⟨ps, hps⟩ : ∃ ps : List Pl32, ps = allQ p.toNat := ⟨_, rfl⟩
    rw [← hps] at hoz hgl
    have HPS := Lib.hid (show nulL p = ps.filter (nulQ p) from by rw [hps]; rfl)
    clear hps
    obtain ⟨ft, hft⟩ : ∃ ft : Pl32 → Bool, ft = nulQ p := ⟨_, rfl⟩
    rw [← hft] at HPS
    have HFT := Lib.hid (show ∀ x : Pl32, ft x = (ppd p (toQ x).1 (toQ x).2.1 (toQ x).2.2 (toQ x).1 (toQ x).2.1 (toQ x).2.2 == 0) from fun x => by rw [hft]; rfl)
    clear hft
    obtain ⟨ao, cz, rfl, hnz, hsh⟩ := own_shapeQ hoz
    have HSH := Lib.hid hsh
    clear hsh
    have hbz := hBz.size
    go_wp2_with fail
    go_loopw [6, 7] (fun v i wr => ∃ j : Nat, j ≤ ps.length ∧ i = .int .i64 j ∧ wr.ownsRow wz.heap.size 23 3 v ((ps.take j).filter ft).length (ints (flatQ ((ps.take j).filter ft))) ∧ Below wz.heap.size wz wr) (fun _ i _ => ps.length - (intOf i).toNat)
    case atStart => exact ⟨0, by omega, rfl, by simpa [flatQ] using (own_lit0 (base := wz.heap.size) (b := wz.heap.size) wz 23 3 (Nat.le_refl _) rfl), (Below.refl _ _).alloc (Nat.le_refl _) _⟩
    case round =>
      obtain ⟨j, hj, rfl, hown, hbel⟩ := hrel
      have hle := siftQ_le ft ps j
      have hsr := hbel.size
      by_cases hlt : j < ps.length
      · obtain ⟨g, rfl, hg0, hgl'⟩ := HSH.out (by omega)
        have hozr := own_below hoz hbel (fun g' e => by cases e; exact hgl')
        have hget := flatQ_getD ps j hlt
        have hmem := toQ_r ps[j]
        have c0 := (own_cell hozr (j := j * 3) (by omega)).trans (by rw [hget.1])
        have c1 := (own_cell hozr (j := j * 3 + 1) (by omega)).trans (by rw [hget.2.1])
        have c2 := (own_cell hozr (j := j * 3 + 2) (by omega)).trans (by rw [hget.2.2])
        have hYes := siftQ_yes (f := ft) (xs := ps) hlt
        have hNo := siftQ_no (f := ft) (xs := ps) hlt
        have hft := HFT.out ps[j]
        have HFl := Lib.hid (flatQ_append ((ps.take j).filter ft) ps[j])
        obtain ⟨x, hx⟩ : ∃ x, x = ps[j] := ⟨_, rfl⟩
        rw [← hx] at c0 c1 c2 hYes hNo hft hmem HFl
        clear hx hget hozr
        obtain ⟨bo, hbo⟩ : ∃ b, b = ft x := ⟨_, rfl⟩
        rw [← hbo] at hYes hNo hft
        clear hbo
        obtain ⟨tx, htx⟩ : ∃ t, t = toQ x := ⟨_, rfl⟩
        rw [← htx] at c0 c1 c2 hft hmem HFl
        clear htx
        obtain ⟨x1, x2, x3⟩ := tx
        simp only at c0 c1 c2 hft hmem HFl
        have hcall := fun w' => (show Calls Try.prog 47 #[.int .i64 p, .agg #[.int .i64 x1, .int .i64 x2, .int .i64 x3]] w' fun e w'' => e = .returned (.bool (ppd p x1 x2 x3 x1 x2 x3 == 0)) ∧ Below w'.heap.size w' w'' from specNull_any p x1 x2 x3 w' hp (by omega) (by omega) (by omega))
        rw [← hft] at hcall
        clear hft
        have HC := Lib.hid hcall
        clear hcall
        have hgr : g < wr.heap.size := by omega
        have hjn : (j : Int) < (ps.length : Int) := by omega
        cases bo
        · have HN := Lib.hid (hNo rfl)
          clear hYes hNo
          go_wp2_with fail
          refine Calls.mono (HC.out _) ?_
          rintro e wq ⟨rfl, hb1⟩
          all_goals
            skip
            have hs1 := hb1.size
            have ho1 := own_call hown hb1
            have hb2 : Below wz.heap.size wz wq := hbel.trans (hb1.mono (by omega))
            have d0 := (cell_back hb1 hgr (j * 3)).trans c0
            have d1 := (cell_back hb1 hgr (j * 3 + 1)).trans c1
            have d2 := (cell_back hb1 hgr (j * 3 + 2)).trans c2
            have hgq : g < wq.heap.size := by omega
            go_wp2
            go_roundw
            case rel => exact ⟨j + 1, by omega, by go_num, by rw [HN.out]; exact ho1, hb2⟩
            case measure => simp [intOf]; omega
        · have HN := Lib.hid (hYes rfl)
          clear hYes hNo
          go_wp2_with fail
          refine Calls.mono (HC.out _) ?_
          rintro e wq ⟨rfl, hb1⟩
          all_goals
            skip
            have hs1 := hb1.size
            have ho1 := own_call hown hb1
            have hb2 : Below wz.heap.size wz wq := hbel.trans (hb1.mono (by omega))
            have d0 := (cell_back hb1 hgr (j * 3)).trans c0
            have d1 := (cell_back hb1 hgr (j * 3 + 1)).trans c1
            have d2 := (cell_back hb1 hgr (j * 3 + 2)).trans c2
            have hgq : g < wq.heap.size := by omega
            go_wp2_with (at_builtin; refine wpList_append_own _ rfl _ _ 35 rfl wz.heap.size 23 i0 _ 3 24 Try.underlying35 hi hz0 hz1 hz2 rfl (by decide) _ _ _ rfl (ho1.alloc _) ⟨wq.heap.size, 0, none⟩ 1 1 [.int .i64 x1, .int .i64 x2, .int .i64 x3] rfl rfl (pl_cells rfl) (pl_one _ _ _) ?c3 ?c4 ?c5 ?_)
            case c3 => unfold maxLen; omega
            case c4 => omega
            case c5 => simp; omega
            intro v' w3 hown' hgrow _
            have hb3 : Below wz.heap.size wz w3 := (hb2.alloc (by omega) _).grown hgrow (by simp; omega) (fun g' hg' => (ho1.lt g' hg').1)
            have HO := Lib.hid (show w3.ownsRow wz.heap.size 23 3 v' ((ps.take (j + 1)).filter ft).length (ints (flatQ ((ps.take (j + 1)).filter ft))) from by rw [HN.out, HFl.out, ints_append, List.length_append]; exact hown')
            clear hown' hgrow ho1 hown hbel hb2
            go_wp2
            go_roundw
            case rel => exact ⟨j + 1, by omega, by go_num, HO.out, hb3⟩
            case measure => simp [intOf]; omega
      · have ej : j = ps.length := by omega
        subst ej
        rw [List.take_length] at hown
        have HO := Lib.hid hown
        clear hown
        go_wp2
        (refine bodyPost_ret (v := .tuple #[u6, .int .i64 (nploC p)]) (by simp [results, Try.results20, go_sem, HV.out.2]) rfl (slicePost_mk (by rw [HV.out.1, HPS.out]; exact own_base HO.out (by have := hW0.size; omega)) ((hW0.trans (hBz.mono hW0.size)).trans (hbel.mono (by have := hW0.size; omega)))))

set_option linter.unusedVariables false in
set_option linter.unusedSimpArgs false in
set_option maxRecDepth 20000 in
set_option maxHeartbeats 4000000 in
theorem implNullPlaces_any (p : Int)  (w : World) :
    Calls Try.prog 21 #[.int .i64 p] w fun e w' =>
      SlicePost 23 3 (nploL p) (nploC p) w e w' := by
  go_enter Try.func21, Try.ntmps21
  go_upto_region 0 with fail
  go_cut [1, 2, 3] (fun s1 s2 s3 wx => s1 = .pointer (some ⟨w.heap.size, 0, none⟩) ∧ s2 = .slice none 0 0 ∧ s3 = .int .i64 0 ∧ wx.cell? ⟨w.heap.size, 0, none⟩ = some (.int .i64 p) ∧ wx.frozen? ⟨w.heap.size, 0, none⟩ = false ∧ Below w.heap.size w wx ∧ w.heap.size + 1 ≤ wx.heap.size)
  case first =>
    go_wp2
    go_meet
    refine ⟨rfl, rfl, rfl, ?_, ?_, ?_, ?_⟩
    · (repeat (first | with_reducible assumption | ((with_reducible refine kfresh ?_ ?_) <;> (first | with_reducible rfl | (simp; done))) | ((with_reducible refine ksameS ?_); focus ((repeat (first | with_reducible exact kis_of (by with_reducible assumption) | with_reducible refine kis_set ?_ | ((with_reducible refine kis_new ?_ ?_) <;> (first | with_reducible rfl | rfl | (simp; done))) | with_reducible refine kis_alloc _ ?_ | with_reducible refine kis_drew ?_ | with_reducible refine kis_call (by with_reducible assumption) ?_ | with_reducible exact kis_of (kcall (by with_reducible assumption) (by with_reducible assumption)))); done)) | with_reducible refine kother (by decide) ?_ | with_reducible refine kset (by first | omega | (simp; done) | (simp; omega)) ?_ | with_reducible refine kalloc _ ?_ | with_reducible refine kdrew ?_ | with_reducible refine kdrewN ?_ | with_reducible refine kcall (by with_reducible assumption) ?_))
    · (repeat (first | with_reducible assumption | with_reducible refine fdrew ?_ | with_reducible refine fdrewN ?_ | with_reducible refine fset ?_ | ((with_reducible refine fallocNew ?_) <;> (first | with_reducible rfl | (simp; done))) | ((with_reducible refine kfro (by with_reducible assumption) ?_ ?_); focus (first | with_reducible assumption | omega | (simp; done) | (simp; omega))) | ((with_reducible refine falloc ?_ ?_); focus (first | with_reducible assumption | omega | (simp; done) | (simp; omega)))))
    · (repeat (first | with_reducible exact Below.refl _ _ | with_reducible refine balloc ?_ _ | with_reducible refine bdrewN ?_ _ | with_reducible refine Below.drew ?_ | with_reducible refine bthen ?_ (by with_reducible assumption) | with_reducible refine Below.setCell ?_ (by first | (simp; done) | (simp; omega)) _))
    · (first | omega | (simp; done) | (simp; omega))
  case' rest => obtain ⟨rfl, rfl, rfl, cO0, fO0, hxO, hsO⟩ := hcut
  obtain ⟨wO, rfl⟩ : ∃ wO : World, wO = wc := ⟨_, rfl⟩
  have lO0 : w.heap.size < wO.heap.size := by omega
  go_wp2_with fail
  refine Calls.mono (isField_any _ _ ) ?_
  rintro e w' ⟨rfl, rfl⟩
  rcases bool_ways (isP p) with hd1 | hd1
  · skip
    have HV := Lib.hid (nplo_no  hd1)
    go_wp2
    (refine bodyPost_ret (v := .tuple #[.slice none 0 0, .int .i64 (nploC p)]) (by simp [results, Try.results21, go_sem, HV.out.2]) rfl (slicePost_nil HV.out.1 ?_))
    (repeat (first | with_reducible exact Below.refl _ _ | with_reducible exact hxO | with_reducible refine balloc ?_ _ | with_reducible refine bdrewN ?_ _ | with_reducible refine Below.drew ?_ | with_reducible refine bthen ?_ (by with_reducible assumption) | with_reducible refine Below.setCell ?_ (by first | (simp; done) | (simp; omega)) _))
  · have hp := hd1
    have hr := isP_range hp
    have HB : nploB p = true := by simp [nploB, hd1]
    have HS : nploS p = 0 := by rfl
    have HV := Lib.hid (nplo_good  hp HB HS)
    clear HB HS
    have ka0 : wO.cell? ⟨w.heap.size, 0, none⟩ = some (.int .i64 p) := by (first | with_reducible assumption | (repeat (first | with_reducible assumption | ((with_reducible refine kfresh ?_ ?_) <;> (first | with_reducible rfl | (simp; done))) | ((with_reducible refine ksameS ?_); focus ((repeat (first | with_reducible exact kis_of (by with_reducible assumption) | with_reducible refine kis_set ?_ | ((with_reducible refine kis_new ?_ ?_) <;> (first | with_reducible rfl | rfl | (simp; done))) | with_reducible refine kis_alloc _ ?_ | with_reducible refine kis_drew ?_ | with_reducible refine kis_call (by with_reducible assumption) ?_ | with_reducible exact kis_of (kcall (by with_reducible assumption) (by with_reducible assumption)))); done)) | with_reducible refine kother (by decide) ?_ | with_reducible refine kset (by first | omega | (simp; done) | (simp; omega)) ?_ | with_reducible refine kalloc _ ?_ | with_reducible refine kdrew ?_ | with_reducible refine kdrewN ?_ | with_reducible refine kcall (by with_reducible assumption) ?_)))
    have hW0 : Below w.heap.size w wO := by (repeat (first | with_reducible exact Below.refl _ _ | with_reducible exact hxO | with_reducible refine balloc ?_ _ | with_reducible refine bdrewN ?_ _ | with_reducible refine Below.drew ?_ | with_reducible refine bthen ?_ (by with_reducible assumption) | with_reducible refine Below.setCell ?_ (by first | (simp; done) | (simp; omega)) _))
    have hl0 : w.heap.size < wO.heap.size := World.block_lt_of_cell? wO ⟨w.heap.size, 0, none⟩ ka0
    (go_wp2_with fail; refine Calls.mono (allPlaces_mk _ _) ?_; rintro e wa ⟨b0, rfl, g0, z0, hBa⟩)
    have k0 := (cell_back hBa hl0 0).trans ka0
    (go_wp2_with fail; refine Calls.mono (listedAll (nulQ p) 53 b0 _ p wa hp (enters_of Try.func53 (by kernel_rfl) rfl) g0 (nulClo_pl hp k0)) ?_; rintro e wc ⟨vc, rfl, hoc, hBc⟩)
    have hWc : Below w.heap.size w wc := bthen (bthen hW0 hBa) hBc
    have hsa := hBa.size
    go_wp2
    (refine bodyPost_ret (v := .tuple #[vc, .int .i64 (nploC p)]) (by simp [results, Try.results21, go_sem, HV.out.2]) rfl (slicePost_mk (by rw [HV.out.1]; exact own_base hoc (by have := hW0.size; omega)) hWc))

theorem nplo_len (p : Int) : (nploL p).length ≤ 4096 := by
  unfold nploL
  split
  · rename_i h
    have hp : isP p = true := by
      cases hh : isP p
      · simp [nploC, hh] at h
      · rfl
    have hl := nulL_le hp
    rw [flatQ_length]
    omega
  · simp

end Go.Proofs.Ytgklnlblghookaa
