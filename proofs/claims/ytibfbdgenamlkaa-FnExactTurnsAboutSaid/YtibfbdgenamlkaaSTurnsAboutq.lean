/-
  TurnsAbout: the model's.
-/
import Derived.Test.YtibfbdgenamlkaaMgq0
import Derived.Test.YtibfbdgenamlkaaSpec3Pts1q
import Derived.Test.YtibfbdgenamlkaaSpecAll7q
import Derived.Test.YtibfbdgenamlkaaSpecAbout7q
import Derived.Test.YtibfbdgenamlkaaSpecPut7q
import Derived.Test.YtibfbdgenamlkaaPtCellsq
import Derived.Test.YtibfbdgenamlkaaGrowq
import Derived.Test.YtibfbdgenamlkaaCodeq
import Derived.Test.YtibfbdgenamlkaaArrEqq
import Derived.Test.YtibfbdgenamlkaaLastq
import Derived.Test.YtibfbdgenamlkaaKeepDrewq
import Derived.Deep.RegionHeld3
import Derived.Deep.DeepCutAuto

namespace Go.Proofs.Ytibfbdgenamlkaa
open Go.RowKit

set_option linter.unusedVariables false in
def taB (p col a1 a2 : Int) : Bool := colB col && numsIn p [a1, a2]
set_option linter.unusedVariables false in
def taS (p col a1 a2 : Int) : Int := 0
set_option linter.unusedVariables false in
def taC (p col a1 a2 : Int) : Int := if isP p = true then (if taB p col a1 a2 = true then taS p col a1 a2 else 2) else 1
set_option linter.unusedVariables false in
def taL (p col a1 a2 : Int) : List Int := if taC p col a1 a2 = 0 then flat6 (tuM p col a1 a2) else []
theorem ta_zero {p col a1 a2 k : Int} (h : taC p col a1 a2 = k) (hk : k ≠ 0) : taL p col a1 a2 = [] ∧ taC p col a1 a2 = k := ⟨if_neg fun e => hk (h.symm.trans e), h⟩
theorem ta_no {p col a1 a2 : Int} (h : isP p = false) : taL p col a1 a2 = [] ∧ taC p col a1 a2 = 1 := ta_zero (by simp [taC, h]) (by decide)
theorem ta_out {p col a1 a2 : Int} (hp : isP p = true) (h : taB p col a1 a2 = false) : taL p col a1 a2 = [] ∧ taC p col a1 a2 = 2 := ta_zero (by simp [taC, hp, h]) (by decide)
theorem ta_st {p col a1 a2 k : Int} (hp : isP p = true) (h : taB p col a1 a2 = true) (hs : taS p col a1 a2 = k) (hk : k ≠ 0) : taL p col a1 a2 = [] ∧ taC p col a1 a2 = k := ta_zero (by simp [taC, hp, h, hs]) hk
theorem ta_good {p col a1 a2 : Int} (hp : isP p = true) (h : taB p col a1 a2 = true) (hs : taS p col a1 a2 = 0) : taL p col a1 a2 = flat6 (tuM p col a1 a2) ∧ taC p col a1 a2 = 0 := by
  have h' : taC p col a1 a2 = 0 := by simp [taC, hp, h, hs]
  exact ⟨if_pos h', h'⟩

set_option linter.unusedVariables false in
set_option linter.unusedSimpArgs false in
set_option maxRecDepth 20000 in
set_option maxHeartbeats 4000000 in
theorem specTurnsAbout_any (p col a1 a2 : Int)  (w : World) :
    Calls Try.prog 8 #[.int .i64 p, .int .i64 col, .agg #[.int .i64 a1, .int .i64 a2]] w fun e w' =>
      SlicePost 62 6 (taL p col a1 a2) (taC p col a1 a2) w e w' := by
  go_enter Try.func8, Try.ntmps8
  go_upto_region 0 with fail
  go_cut [5, 6, 7] (fun s5 s6 s7 wx => s5 = .pointer (some ⟨w.heap.size, 0, none⟩) ∧ s6 = .slice none 0 0 ∧ s7 = .int .i64 0 ∧ wx.cell? ⟨w.heap.size, 0, none⟩ = some (.int .i64 a1) ∧ wx.cell? ⟨w.heap.size, 1, none⟩ = some (.int .i64 a2) ∧ wx.frozen? ⟨w.heap.size, 0, none⟩ = false ∧ wx.frozen? ⟨w.heap.size, 1, none⟩ = false ∧ Below w.heap.size w wx ∧ w.heap.size + 1 ≤ wx.heap.size)
  case first =>
    go_wp2
    go_meet
    refine ⟨rfl, rfl, rfl, ?_, ?_, ?_, ?_, ?_, ?_⟩
    · (repeat (first | with_reducible assumption | ((with_reducible refine kfresh ?_ ?_) <;> (first | with_reducible rfl | (simp; done))) | ((with_reducible refine ksameS ?_); focus ((repeat (first | with_reducible exact kis_of (by with_reducible assumption) | with_reducible refine kis_set ?_ | ((with_reducible refine kis_new ?_ ?_) <;> (first | with_reducible rfl | rfl | (simp; done))) | with_reducible refine kis_alloc _ ?_ | with_reducible refine kis_drew ?_ | with_reducible refine kis_call (by with_reducible assumption) ?_ | with_reducible exact kis_of (kcall (by with_reducible assumption) (by with_reducible assumption)))); done)) | with_reducible refine kother (by decide) ?_ | with_reducible refine kset (by first | omega | (simp; done) | (simp; omega)) ?_ | with_reducible refine kalloc _ ?_ | with_reducible refine kdrew ?_ | with_reducible refine kdrewN ?_ | with_reducible refine kcall (by with_reducible assumption) ?_))
    · (repeat (first | with_reducible assumption | ((with_reducible refine kfresh ?_ ?_) <;> (first | with_reducible rfl | (simp; done))) | ((with_reducible refine ksameS ?_); focus ((repeat (first | with_reducible exact kis_of (by with_reducible assumption) | with_reducible refine kis_set ?_ | ((with_reducible refine kis_new ?_ ?_) <;> (first | with_reducible rfl | rfl | (simp; done))) | with_reducible refine kis_alloc _ ?_ | with_reducible refine kis_drew ?_ | with_reducible refine kis_call (by with_reducible assumption) ?_ | with_reducible exact kis_of (kcall (by with_reducible assumption) (by with_reducible assumption)))); done)) | with_reducible refine kother (by decide) ?_ | with_reducible refine kset (by first | omega | (simp; done) | (simp; omega)) ?_ | with_reducible refine kalloc _ ?_ | with_reducible refine kdrew ?_ | with_reducible refine kdrewN ?_ | with_reducible refine kcall (by with_reducible assumption) ?_))
    · (repeat (first | with_reducible assumption | with_reducible refine fdrew ?_ | with_reducible refine fdrewN ?_ | with_reducible refine fset ?_ | ((with_reducible refine fallocNew ?_) <;> (first | with_reducible rfl | (simp; done))) | ((with_reducible refine kfro (by with_reducible assumption) ?_ ?_); focus (first | with_reducible assumption | omega | (simp; done) | (simp; omega))) | ((with_reducible refine falloc ?_ ?_); focus (first | with_reducible assumption | omega | (simp; done) | (simp; omega)))))
    · (repeat (first | with_reducible assumption | with_reducible refine fdrew ?_ | with_reducible refine fdrewN ?_ | with_reducible refine fset ?_ | ((with_reducible refine fallocNew ?_) <;> (first | with_reducible rfl | (simp; done))) | ((with_reducible refine kfro (by with_reducible assumption) ?_ ?_); focus (first | with_reducible assumption | omega | (simp; done) | (simp; omega))) | ((with_reducible refine falloc ?_ ?_); focus (first | with_reducible assumption | omega | (simp; done) | (simp; omega)))))
    · (repeat (first | with_reducible exact Below.refl _ _ | with_reducible refine balloc ?_ _ | with_reducible refine bdrewN ?_ _ | with_reducible refine Below.drew ?_ | with_reducible refine bthen ?_ (by with_reducible assumption) | with_reducible refine Below.setCell ?_ (by first | (simp; done) | (simp; omega)) _))
    · (first | omega | (simp; done) | (simp; omega))
  case' rest => obtain ⟨rfl, rfl, rfl, cO0, cO1, fO0, fO1, hxO, hsO⟩ := hcut
  obtain ⟨wO, rfl⟩ : ∃ wO : World, wO = wc := ⟨_, rfl⟩
  have lO0 : w.heap.size < wO.heap.size := by omega
  rcases bool_ways (isP p) with hd1 | hd1
  · skip
    have c_1 : codeOf p (colB col && numsIn p [a1, a2]) = 1 := codeOf_no hd1
    have cN : ∀ b, codeOf p b = 1 := fun b => codeOf_no hd1
    go_wp2_with fail
    refine Calls.mono (spec3Code1 _ _ _ _ _ _ (by first | rfl | (simp; done))) ?_
    rintro e w1 ⟨rfl, hB1⟩
    (obtain ⟨hB1c, hB1f⟩ := bcell hB1; have hB1s := hB1.size; (try simp at hB1s); (try have hB1q1 := Nat.lt_of_succ_le hB1s); (try have hB1q2 := Nat.lt_of_succ_lt hB1q1); (try have hB1q3 := Nat.lt_of_succ_lt hB1q2); (try have hB1zw0 : w.heap.size < w1.heap.size := (by omega)); (try have hB1zw1 : w.heap.size + 1 < w1.heap.size := (by omega)); (try have hB1zw2 : w.heap.size + 1 + 1 < w1.heap.size := (by omega)); (try have hB1zw3 : w.heap.size + 1 + 1 + 1 < w1.heap.size := (by omega)); (try have hB1zw4 : w.heap.size + 1 + 1 + 1 + 1 < w1.heap.size := (by omega)); (try have hB1zwO0 : wO.heap.size < w1.heap.size := (by omega)); (try have hB1zwO1 : wO.heap.size + 1 < w1.heap.size := (by omega)); (try have hB1zwO2 : wO.heap.size + 1 + 1 < w1.heap.size := (by omega)); (try have hB1zwO3 : wO.heap.size + 1 + 1 + 1 < w1.heap.size := (by omega)); (try have hB1zwO4 : wO.heap.size + 1 + 1 + 1 + 1 < w1.heap.size := (by omega)))
    have HV := Lib.hid (ta_no (col := col) (a1 := a1) (a2 := a2) hd1)
    go_wp2
    (refine bodyPost_ret (v := .tuple #[.slice none 0 0, .int .i64 (taC p col a1 a2)]) (by simp [results, Try.results8, go_sem, HV.out.2]) rfl (slicePost_nil HV.out.1 ?_))
    (repeat (first | with_reducible exact Below.refl _ _ | with_reducible exact hxO | with_reducible refine balloc ?_ _ | with_reducible refine bdrewN ?_ _ | with_reducible refine Below.drew ?_ | with_reducible refine bthen ?_ (by with_reducible assumption) | with_reducible refine Below.setCell ?_ (by first | (simp; done) | (simp; omega)) _))
  · have hp := hd1
    have hr := isP_range hp
    rcases bool_ways (colB col) with hd2 | hd2
    · skip
      have c_1 : codeOf p (colB col && numsIn p [a1, a2]) = 2 := codeOf_out hp (by simp [hd2])
      have cT : codeOf p true = 0 := codeOf_in hp rfl
      have cF : codeOf p false = 2 := codeOf_out hp rfl
      go_wp2_with fail
      refine Calls.mono (spec3Code1 _ _ _ _ _ _ (by first | rfl | (simp; done))) ?_
      rintro e w1 ⟨rfl, hB1⟩
      (obtain ⟨hB1c, hB1f⟩ := bcell hB1; have hB1s := hB1.size; (try simp at hB1s); (try have hB1q1 := Nat.lt_of_succ_le hB1s); (try have hB1q2 := Nat.lt_of_succ_lt hB1q1); (try have hB1q3 := Nat.lt_of_succ_lt hB1q2); (try have hB1zw0 : w.heap.size < w1.heap.size := (by omega)); (try have hB1zw1 : w.heap.size + 1 < w1.heap.size := (by omega)); (try have hB1zw2 : w.heap.size + 1 + 1 < w1.heap.size := (by omega)); (try have hB1zw3 : w.heap.size + 1 + 1 + 1 < w1.heap.size := (by omega)); (try have hB1zw4 : w.heap.size + 1 + 1 + 1 + 1 < w1.heap.size := (by omega)); (try have hB1zwO0 : wO.heap.size < w1.heap.size := (by omega)); (try have hB1zwO1 : wO.heap.size + 1 < w1.heap.size := (by omega)); (try have hB1zwO2 : wO.heap.size + 1 + 1 < w1.heap.size := (by omega)); (try have hB1zwO3 : wO.heap.size + 1 + 1 + 1 < w1.heap.size := (by omega)); (try have hB1zwO4 : wO.heap.size + 1 + 1 + 1 + 1 < w1.heap.size := (by omega)))
      have HV := Lib.hid (ta_out (col := col) (a1 := a1) (a2 := a2) hp (by simp [taB, hd1, hd2]))
      go_wp2
      (refine bodyPost_ret (v := .tuple #[.slice none 0 0, .int .i64 (taC p col a1 a2)]) (by simp [results, Try.results8, go_sem, HV.out.2]) rfl (slicePost_nil HV.out.1 ?_))
      (repeat (first | with_reducible exact Below.refl _ _ | with_reducible exact hxO | with_reducible refine balloc ?_ _ | with_reducible refine bdrewN ?_ _ | with_reducible refine Below.drew ?_ | with_reducible refine bthen ?_ (by with_reducible assumption) | with_reducible refine Below.setCell ?_ (by first | (simp; done) | (simp; omega)) _))
    · have hc := hd2
      have hcr := colB_range hc
      rcases bool_ways (numsIn p [a1, a2]) with hd3 | hd3
      · skip
        have c_1 : codeOf p (colB col && numsIn p [a1, a2]) = 2 := codeOf_out hp (by simp [hd2, hd3])
        have cT : codeOf p true = 0 := codeOf_in hp rfl
        have cF : codeOf p false = 2 := codeOf_out hp rfl
        go_wp2_with fail
        refine Calls.mono (spec3Code1 _ _ _ _ _ _ (by first | rfl | (simp; done))) ?_
        rintro e w1 ⟨rfl, hB1⟩
        (obtain ⟨hB1c, hB1f⟩ := bcell hB1; have hB1s := hB1.size; (try simp at hB1s); (try have hB1q1 := Nat.lt_of_succ_le hB1s); (try have hB1q2 := Nat.lt_of_succ_lt hB1q1); (try have hB1q3 := Nat.lt_of_succ_lt hB1q2); (try have hB1zw0 : w.heap.size < w1.heap.size := (by omega)); (try have hB1zw1 : w.heap.size + 1 < w1.heap.size := (by omega)); (try have hB1zw2 : w.heap.size + 1 + 1 < w1.heap.size := (by omega)); (try have hB1zw3 : w.heap.size + 1 + 1 + 1 < w1.heap.size := (by omega)); (try have hB1zw4 : w.heap.size + 1 + 1 + 1 + 1 < w1.heap.size := (by omega)); (try have hB1zwO0 : wO.heap.size < w1.heap.size := (by omega)); (try have hB1zwO1 : wO.heap.size + 1 < w1.heap.size := (by omega)); (try have hB1zwO2 : wO.heap.size + 1 + 1 < w1.heap.size := (by omega)); (try have hB1zwO3 : wO.heap.size + 1 + 1 + 1 < w1.heap.size := (by omega)); (try have hB1zwO4 : wO.heap.size + 1 + 1 + 1 + 1 < w1.heap.size := (by omega)))
        have HV := Lib.hid (ta_out (col := col) (a1 := a1) (a2 := a2) hp (by simp [taB, hd1, hd2, hd3]))
        go_wp2
        (refine bodyPost_ret (v := .tuple #[.slice none 0 0, .int .i64 (taC p col a1 a2)]) (by simp [results, Try.results8, go_sem, HV.out.2]) rfl (slicePost_nil HV.out.1 ?_))
        (repeat (first | with_reducible exact Below.refl _ _ | with_reducible exact hxO | with_reducible refine balloc ?_ _ | with_reducible refine bdrewN ?_ _ | with_reducible refine Below.drew ?_ | with_reducible refine bthen ?_ (by with_reducible assumption) | with_reducible refine Below.setCell ?_ (by first | (simp; done) | (simp; omega)) _))
      · have hd3q := nums2 hd3
        have c_1 : codeOf p (colB col && numsIn p [a1, a2]) = 0 := codeOf_in hp (by simp [hd2, hd3])
        have cT : codeOf p true = 0 := codeOf_in hp rfl
        go_wp2_with fail
        refine Calls.mono (spec3Code1 _ _ _ _ _ _ (by first | rfl | (simp; done))) ?_
        rintro e w1 ⟨rfl, hB1⟩
        (obtain ⟨hB1c, hB1f⟩ := bcell hB1; have hB1s := hB1.size; (try simp at hB1s); (try have hB1q1 := Nat.lt_of_succ_le hB1s); (try have hB1q2 := Nat.lt_of_succ_lt hB1q1); (try have hB1q3 := Nat.lt_of_succ_lt hB1q2); (try have hB1zw0 : w.heap.size < w1.heap.size := (by omega)); (try have hB1zw1 : w.heap.size + 1 < w1.heap.size := (by omega)); (try have hB1zw2 : w.heap.size + 1 + 1 < w1.heap.size := (by omega)); (try have hB1zw3 : w.heap.size + 1 + 1 + 1 < w1.heap.size := (by omega)); (try have hB1zw4 : w.heap.size + 1 + 1 + 1 + 1 < w1.heap.size := (by omega)); (try have hB1zwO0 : wO.heap.size < w1.heap.size := (by omega)); (try have hB1zwO1 : wO.heap.size + 1 < w1.heap.size := (by omega)); (try have hB1zwO2 : wO.heap.size + 1 + 1 < w1.heap.size := (by omega)); (try have hB1zwO3 : wO.heap.size + 1 + 1 + 1 < w1.heap.size := (by omega)); (try have hB1zwO4 : wO.heap.size + 1 + 1 + 1 + 1 < w1.heap.size := (by omega)))
        have HB : taB p col a1 a2 = true := by simp [taB, hd1, hd2, hd3]
        have HS : taS p col a1 a2 = 0 := by rfl
        have HV := Lib.hid (ta_good (col := col) (a1 := a1) (a2 := a2) hp HB HS)
        clear HB HS
        have ra := nums2 hd3
        have hle := allM_le col 1 hp
        obtain ⟨N, hN⟩ : ∃ N, N = allM p col 1 := ⟨_, rfl⟩
        have hNr : ∀ z ∈ N, (0 ≤ z.1 ∧ z.1 ≤ 31) ∧ (0 ≤ z.2.1 ∧ z.2.1 ≤ 31) ∧ (0 ≤ z.2.2.1 ∧ z.2.2.1 ≤ 31) ∧ (0 ≤ z.2.2.2.1 ∧ z.2.2.2.1 ≤ 31) ∧ z.2.2.2.2.1 = 0 ∧ z.2.2.2.2.2 = 0 := fun z hz => allM_r hp (by rw [← hN]; exact hz)
        have hND : (N.map (aboutM p a1 a2)).Nodup := by rw [hN]; exact about_nodup hp
        have hTU : tuM p col a1 a2 = tkM p a1 a2 N N.length := by rw [tkM, List.take_length, hN]; rfl
        have HTU := Lib.hid hTU
        clear hTU
        have HNR := Lib.hid hNr
        clear hNr
        have HND := Lib.hid hND
        clear hND
        go_upto_region 4 with fail
        refine wp_name (fun wN hwN => ?_)
        have ka0 : wN.cell? ⟨w.heap.size, 0, none⟩ = some (.int .i64 a1) := by rw [hwN]; (first | with_reducible assumption | (repeat (first | with_reducible assumption | ((with_reducible refine kfresh ?_ ?_) <;> (first | with_reducible rfl | (simp; done))) | ((with_reducible refine ksameS ?_); focus ((repeat (first | with_reducible exact kis_of (by with_reducible assumption) | with_reducible refine kis_set ?_ | ((with_reducible refine kis_new ?_ ?_) <;> (first | with_reducible rfl | rfl | (simp; done))) | with_reducible refine kis_alloc _ ?_ | with_reducible refine kis_drew ?_ | with_reducible refine kis_call (by with_reducible assumption) ?_ | with_reducible exact kis_of (kcall (by with_reducible assumption) (by with_reducible assumption)))); done)) | with_reducible refine kother (by decide) ?_ | with_reducible refine kset (by first | omega | (simp; done) | (simp; omega)) ?_ | with_reducible refine kalloc _ ?_ | with_reducible refine kdrew ?_ | with_reducible refine kdrewN ?_ | with_reducible refine kcall (by with_reducible assumption) ?_)))
        have ka1 : wN.cell? ⟨w.heap.size, 1, none⟩ = some (.int .i64 a2) := by rw [hwN]; (first | with_reducible assumption | (repeat (first | with_reducible assumption | ((with_reducible refine kfresh ?_ ?_) <;> (first | with_reducible rfl | (simp; done))) | ((with_reducible refine ksameS ?_); focus ((repeat (first | with_reducible exact kis_of (by with_reducible assumption) | with_reducible refine kis_set ?_ | ((with_reducible refine kis_new ?_ ?_) <;> (first | with_reducible rfl | rfl | (simp; done))) | with_reducible refine kis_alloc _ ?_ | with_reducible refine kis_drew ?_ | with_reducible refine kis_call (by with_reducible assumption) ?_ | with_reducible exact kis_of (kcall (by with_reducible assumption) (by with_reducible assumption)))); done)) | with_reducible refine kother (by decide) ?_ | with_reducible refine kset (by first | omega | (simp; done) | (simp; omega)) ?_ | with_reducible refine kalloc _ ?_ | with_reducible refine kdrew ?_ | with_reducible refine kdrewN ?_ | with_reducible refine kcall (by with_reducible assumption) ?_)))
        have hW0 : Below w.heap.size w wN := by rw [hwN]; (repeat (first | with_reducible exact Below.refl _ _ | with_reducible exact hxO | with_reducible refine balloc ?_ _ | with_reducible refine bdrewN ?_ _ | with_reducible refine Below.drew ?_ | with_reducible refine bthen ?_ (by with_reducible assumption) | with_reducible refine Below.setCell ?_ (by first | (simp; done) | (simp; omega)) _))
        clear hwN
        have hW0s := hW0.size
        have hl0 : w.heap.size < wN.heap.size := World.block_lt_of_cell? wN ⟨w.heap.size, 0, none⟩ ka0
        go_wp2_with fail
        refine Calls.mono (specAll7_any p col 1 _ hp hc (by decide)) ?_
        rintro e wz ⟨gz, cz, rfl, hoz, hBz⟩
        rw [← hN] at hoz hle ⊢
        have HNE := Lib.hid hN
        clear hN
        have kz0 := kcall hBz ka0
        have kz1 := kcall hBz ka1
        have hWz := bthen hW0 hBz
        have hsz := hBz.size
        have hlz : w.heap.size < wz.heap.size := by omega
        have hgz : gz < wz.heap.size := (hoz.lt gz rfl).2
        clear ka0 ka1
        go_wp2_with fail
        go_loopw [10, 11] (fun v i wr => ∃ (j g m cap : Nat), j ≤ N.length ∧ i = .int .i64 j ∧ m = (tkM p a1 a2 N j).length ∧ v = .slice (some ⟨g, 0, none⟩) m cap ∧ wr.ownsRow wz.heap.size 62 6 (.slice (some ⟨g, 0, none⟩) m cap) m (ints (flat6 (tkM p a1 a2 N j))) ∧ Below wz.heap.size wz wr) (fun _ i _ => N.length - (intOf i).toNat)
        case atStart => exact ⟨0, wz.heap.size, 0, 0, by omega, rfl, by simp [tkM, srtM], rfl, by simpa [tkM, srtM, flat6] using (own_lit0 (base := wz.heap.size) (b := wz.heap.size) wz 62 6 (Nat.le_refl _) rfl), (Below.refl _ _).alloc (Nat.le_refl _) _⟩
        case round =>
          obtain ⟨j, g, m, cap, hj, rfl, hm, rfl, hown, hbel⟩ := hrel
          have hsr := hbel.size
          have hlm := tkM_le p a1 a2 N j
          by_cases hlt : j < N.length
          · have hozr := own_below hoz hbel (fun g' e => by cases e; exact hgz)
            have hget := flat6_getD N j hlt
            have hmem := HNR.out N[j] (List.getElem_mem hlt)
            have c0 := (own_cell hozr (j := j * 6) (by omega)).trans (by rw [hget.1])
            have c1 := (own_cell hozr (j := j * 6 + 1) (by omega)).trans (by rw [hget.2.1])
            have c2 := (own_cell hozr (j := j * 6 + 2) (by omega)).trans (by rw [hget.2.2.1])
            have c3 := (own_cell hozr (j := j * 6 + 3) (by omega)).trans (by rw [hget.2.2.2.1])
            have c4 := (own_cell hozr (j := j * 6 + 4) (by omega)).trans (by rw [hget.2.2.2.2.1])
            have c5 := (own_cell hozr (j := j * 6 + 5) (by omega)).trans (by rw [hget.2.2.2.2.2])
            have hsn : (N.take (j + 1)).map (aboutM p a1 a2) = (N.take j).map (aboutM p a1 a2) ++ [aboutM p a1 a2 N[j]] := by rw [List.take_succ_eq_append_getElem hlt, List.map_append]; rfl
            have hnew : aboutM p a1 a2 N[j] ∉ tkM p a1 a2 N j := about_new HND.out hlt
            obtain ⟨z, hz⟩ : ∃ z, z = N[j] := ⟨_, rfl⟩
            rw [← hz] at c0 c1 c2 c3 c4 c5 hmem hsn hnew
            clear hz hget hozr
            obtain ⟨z1, z2, z3, z4, z5, z6⟩ := z
            simp only at c0 c1 c2 c3 c4 c5 hmem
            obtain ⟨rz1, rz2, rz3, rz4, rfl, rfl⟩ := hmem
            have hab := fun w' => specAbout_any p z1 z2 z3 z4 0 0 a1 a2 w' hp (by omega) (by omega) (by omega) (by omega) (by omega) (by omega) (by omega) (by omega)
            simp only [aboutM] at hsn hnew
            obtain ⟨u1, hu1⟩ : ∃ v, v = (a1 - ld p z1 z2 a1 a2) % p := ⟨_, rfl⟩
            obtain ⟨u2, hu2⟩ : ∃ v, v = (a2 - ld p z3 z4 a1 a2) % p := ⟨_, rfl⟩
            rw [← hu1, ← hu2] at hsn hnew hab
            clear hu1 hu2
            have HE := Lib.hid (show insM (tkM p a1 a2 N j) (z1, z2, z3, z4, u1, u2) = tkM p a1 a2 N (j + 1) by rw [tkM, tkM, show (N.take (j + 1)).map (aboutM p a1 a2) = _ from hsn, srtM_snoc])
            have HNW := Lib.hid hnew
            have HAB := Lib.hid hab
            clear hab hnew hsn
            have HM := Lib.hid hm
            clear hm
            have kk0 := (cell_old hbel hlz 0).trans kz0
            have kk1 := (cell_old hbel hlz 1).trans kz1
            have hgr : gz < wr.heap.size := by omega
            have hjn : (j : Int) < (N.length : Int) := by omega
            have hlr : w.heap.size < wr.heap.size := by omega
            have q0 : ∀ W : World, Below wr.heap.size wr W → W.cell? ⟨w.heap.size, 0, none⟩ = some (.int .i64 a1) := fun W h => bholds kk0 h
            have q1 : ∀ W : World, Below wr.heap.size wr W → W.cell? ⟨w.heap.size, 1, none⟩ = some (.int .i64 a2) := fun W h => bholds kk1 h
            have qc0 : ∀ W : World, Below wr.heap.size wr W → W.cell? ⟨gz, j * 6, none⟩ = some (.int .i64 z1) := fun W h => bholds c0 h
            have qc1 : ∀ W : World, Below wr.heap.size wr W → W.cell? ⟨gz, j * 6 + 1, none⟩ = some (.int .i64 z2) := fun W h => bholds c1 h
            have qc2 : ∀ W : World, Below wr.heap.size wr W → W.cell? ⟨gz, j * 6 + 2, none⟩ = some (.int .i64 z3) := fun W h => bholds c2 h
            have qc3 : ∀ W : World, Below wr.heap.size wr W → W.cell? ⟨gz, j * 6 + 3, none⟩ = some (.int .i64 z4) := fun W h => bholds c3 h
            have qc4 : ∀ W : World, Below wr.heap.size wr W → W.cell? ⟨gz, j * 6 + 4, none⟩ = some (.int .i64 0) := fun W h => bholds c4 h
            have qc5 : ∀ W : World, Below wr.heap.size wr W → W.cell? ⟨gz, j * 6 + 5, none⟩ = some (.int .i64 0) := fun W h => bholds c5 h
            go_upto_region 8 with fail
            go_region_held3 (fun W => Below wr.heap.size wr W) (first | with_reducible assumption | with_reducible exact bthen (by with_reducible assumption) hB | with_reducible exact bfromdrew hB | with_reducible exact balloc (by with_reducible assumption) _ | with_reducible exact Below.drew (balloc (bundrew (by with_reducible assumption)) _) | with_reducible exact Below.drew (Below.refl _ _) | with_reducible exact Below.refl _ _ | with_reducible exact Below.drew (by with_reducible assumption)) (first | (go_at_call 31; with_reducible refine Calls.mono (HAB.out _) ?_; rintro e wq ⟨rfl, hB⟩; have hBs := hB.size; have hbq : Below wr.heap.size wr wq := by (first | with_reducible assumption | exact bundrew (by with_reducible assumption) | exact bthen (Below.refl _ _) hB | (repeat (first | with_reducible exact Below.refl _ _ | with_reducible refine balloc ?_ _ | with_reducible refine bdrewN ?_ _ | with_reducible refine Below.drew ?_ | with_reducible refine bthen ?_ (by with_reducible assumption) | with_reducible refine Below.setCell ?_ (by first | (simp; done) | (simp; omega)) _)))); have hbqs := hbq.size | (go_at_call 30; with_reducible refine Calls.mono (put7_any (tkM p a1 a2 N j) z1 z2 z3 z4 u1 u2 g m cap wz.heap.size _ HM.out (by omega) (tkM_sorted _ _ _ _ _) HNW.out (by omega) (own_call hown (by with_reducible assumption))) ?_; rintro e wp ⟨g', cap', rfl, ho', hB2⟩; rw [HE.out] at ho' ⊢; have hbp : Below wr.heap.size wr wp := bthen (by with_reducible assumption) hB2))
            all_goals
              have hb3 := hbel.trans (hbp.mono hsr)
              have HOQ := Lib.hid ho'
              clear ho'
              go_wp2
              go_roundw
              case rel => exact ⟨j + 1, g', _, cap', by omega, by go_num, rfl, rfl, HOQ.out, hb3⟩
              case measure => simp [intOf]; omega
          · have hj' : j = N.length := by omega
            subst hj'
            rw [← HTU.out] at hown hm
            have HO := Lib.hid hown
            clear hown
            have hBw := hWz.trans (hbel.mono (by omega))
            go_wp2
            (refine bodyPost_ret (v := .tuple #[.slice (some ⟨g, 0, none⟩) m cap, .int .i64 (taC p col a1 a2)]) (by simp [results, Try.results8, go_sem, HV.out.2]) rfl (slicePost_mk (by rw [HV.out.1]; exact own_base HO.out (by omega)) hBw))

end Go.Proofs.Ytibfbdgenamlkaa
