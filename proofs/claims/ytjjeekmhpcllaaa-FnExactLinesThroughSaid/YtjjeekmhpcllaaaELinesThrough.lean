/-
  LinesThrough: the program's and the model's.
-/
import Derived.Test.YtjjeekmhpcllaaaSLinesThrough
import Derived.Test.YtjjeekmhpcllaaaImplLinesThrough
import Derived.Test.YtjjeekmhpcllaaaBaseMath
import Derived.Test.YtjjeekmhpcllaaaKeepDrew
namespace Go.Proofs.Ytjjeekmhpcllaaa
open Go.RowKit

set_option linter.unusedSimpArgs false in
set_option maxRecDepth 20000 in
set_option maxHeartbeats 4000000 in
theorem implLinesThrough_bad (p a1 a2 : Int) (w : World) (hbad : RowKit.Hid (isP p = true → numsIn p [a1, a2] = true → False)) :
    Calls Try.prog 45 #[.int .i64 p, .agg #[.int .i64 a1, .int .i64 a2]] w fun e w' =>
      SlicePost 29 3 (lnL p a1 a2) (lnC p a1 a2) w e w' := by
  go_enter Try.func45, Try.ntmps45
  go_upto_region 0 with fail
  go_cut [2, 3, 4, 5] (fun s2 s3 s4 s5 wx => s2 = .pointer (some ⟨w.heap.size, 0, none⟩) ∧ s3 = .pointer (some ⟨w.heap.size + 1, 0, none⟩) ∧ s4 = .slice none 0 0 ∧ s5 = .int .i64 0 ∧ wx.cell? ⟨w.heap.size, 0, none⟩ = some (.int .i64 p) ∧ wx.cell? ⟨w.heap.size + 1, 0, none⟩ = some (.int .i64 a1) ∧ wx.cell? ⟨w.heap.size + 1, 1, none⟩ = some (.int .i64 a2) ∧ wx.frozen? ⟨w.heap.size, 0, none⟩ = false ∧ wx.frozen? ⟨w.heap.size + 1, 0, none⟩ = false ∧ wx.frozen? ⟨w.heap.size + 1, 1, none⟩ = false ∧ Below w.heap.size w wx ∧ w.heap.size + 1 + 1 ≤ wx.heap.size)
  case first =>
    go_wp2
    go_meet
    refine ⟨rfl, rfl, rfl, rfl, ?_, ?_, ?_, ?_, ?_, ?_, ?_, ?_⟩
    · (repeat (first | with_reducible assumption | ((with_reducible refine kfresh ?_ ?_) <;> (first | with_reducible rfl | (simp; done))) | ((with_reducible refine ksameS ?_); focus ((repeat (first | with_reducible exact kis_of (by with_reducible assumption) | with_reducible refine kis_set ?_ | ((with_reducible refine kis_new ?_ ?_) <;> (first | with_reducible rfl | rfl | (simp; done))) | with_reducible refine kis_alloc _ ?_ | with_reducible refine kis_drew ?_ | with_reducible refine kis_call (by with_reducible assumption) ?_ | with_reducible exact kis_of (kcall (by with_reducible assumption) (by with_reducible assumption)))); done)) | with_reducible refine kother (by decide) ?_ | with_reducible refine kset (by first | omega | (simp; done) | (simp; omega)) ?_ | with_reducible refine kalloc _ ?_ | with_reducible refine kdrew ?_ | with_reducible refine kcall (by with_reducible assumption) ?_))
    · (repeat (first | with_reducible assumption | ((with_reducible refine kfresh ?_ ?_) <;> (first | with_reducible rfl | (simp; done))) | ((with_reducible refine ksameS ?_); focus ((repeat (first | with_reducible exact kis_of (by with_reducible assumption) | with_reducible refine kis_set ?_ | ((with_reducible refine kis_new ?_ ?_) <;> (first | with_reducible rfl | rfl | (simp; done))) | with_reducible refine kis_alloc _ ?_ | with_reducible refine kis_drew ?_ | with_reducible refine kis_call (by with_reducible assumption) ?_ | with_reducible exact kis_of (kcall (by with_reducible assumption) (by with_reducible assumption)))); done)) | with_reducible refine kother (by decide) ?_ | with_reducible refine kset (by first | omega | (simp; done) | (simp; omega)) ?_ | with_reducible refine kalloc _ ?_ | with_reducible refine kdrew ?_ | with_reducible refine kcall (by with_reducible assumption) ?_))
    · (repeat (first | with_reducible assumption | ((with_reducible refine kfresh ?_ ?_) <;> (first | with_reducible rfl | (simp; done))) | ((with_reducible refine ksameS ?_); focus ((repeat (first | with_reducible exact kis_of (by with_reducible assumption) | with_reducible refine kis_set ?_ | ((with_reducible refine kis_new ?_ ?_) <;> (first | with_reducible rfl | rfl | (simp; done))) | with_reducible refine kis_alloc _ ?_ | with_reducible refine kis_drew ?_ | with_reducible refine kis_call (by with_reducible assumption) ?_ | with_reducible exact kis_of (kcall (by with_reducible assumption) (by with_reducible assumption)))); done)) | with_reducible refine kother (by decide) ?_ | with_reducible refine kset (by first | omega | (simp; done) | (simp; omega)) ?_ | with_reducible refine kalloc _ ?_ | with_reducible refine kdrew ?_ | with_reducible refine kcall (by with_reducible assumption) ?_))
    · (repeat (first | with_reducible assumption | with_reducible refine fdrew ?_ | with_reducible refine fset ?_ | ((with_reducible refine fallocNew ?_) <;> (first | with_reducible rfl | (simp; done))) | ((with_reducible refine kfro (by with_reducible assumption) ?_ ?_); focus (first | with_reducible assumption | (simp; done) | (simp; omega))) | ((with_reducible refine falloc ?_ ?_); focus (first | with_reducible assumption | (simp; done) | (simp; omega)))))
    · (repeat (first | with_reducible assumption | with_reducible refine fdrew ?_ | with_reducible refine fset ?_ | ((with_reducible refine fallocNew ?_) <;> (first | with_reducible rfl | (simp; done))) | ((with_reducible refine kfro (by with_reducible assumption) ?_ ?_); focus (first | with_reducible assumption | (simp; done) | (simp; omega))) | ((with_reducible refine falloc ?_ ?_); focus (first | with_reducible assumption | (simp; done) | (simp; omega)))))
    · (repeat (first | with_reducible assumption | with_reducible refine fdrew ?_ | with_reducible refine fset ?_ | ((with_reducible refine fallocNew ?_) <;> (first | with_reducible rfl | (simp; done))) | ((with_reducible refine kfro (by with_reducible assumption) ?_ ?_); focus (first | with_reducible assumption | (simp; done) | (simp; omega))) | ((with_reducible refine falloc ?_ ?_); focus (first | with_reducible assumption | (simp; done) | (simp; omega)))))
    · (repeat (first | with_reducible exact Below.refl _ _ | with_reducible refine balloc ?_ _ | with_reducible refine bdrewN ?_ _ | with_reducible refine Below.drew ?_ | with_reducible refine bthen ?_ (by with_reducible assumption) | with_reducible refine Below.setCell ?_ (by first | (simp; done) | (simp; omega)) _))
    · (first | omega | (simp; done) | (simp; omega))
  case' rest => obtain ⟨rfl, rfl, rfl, rfl, cO0, cO1, cO2, fO0, fO1, fO2, hxO, hsO⟩ := hcut
  obtain ⟨wO, rfl⟩ : ∃ wO : World, wO = wc := ⟨_, rfl⟩
  have lO0 : w.heap.size < wO.heap.size := by omega
  have lO1 : w.heap.size + 1 < wO.heap.size := by omega
  rcases bool_ways (isP p) with hd1 | hd1
  · skip
    have c_1 : codeOf p (numsIn p [a1, a2]) = 1 := codeOf_no hd1
    have cN : ∀ b, codeOf p b = 1 := fun b => codeOf_no hd1
    have hWA : Below w.heap.size w wO := by (repeat (first | with_reducible exact Below.refl _ _ | with_reducible exact hxO | with_reducible refine balloc ?_ _ | with_reducible refine bdrewN ?_ _ | with_reducible refine Below.drew ?_ | with_reducible refine bthen ?_ (by with_reducible assumption) | with_reducible refine Below.setCell ?_ (by first | (simp; done) | (simp; omega)) _))
    have kA0 : wO.cell? ⟨w.heap.size, 0, none⟩ = some (.int .i64 p) := by (first | with_reducible assumption | (repeat (first | with_reducible assumption | ((with_reducible refine kfresh ?_ ?_) <;> (first | with_reducible rfl | (simp; done))) | ((with_reducible refine ksameS ?_); focus ((repeat (first | with_reducible exact kis_of (by with_reducible assumption) | with_reducible refine kis_set ?_ | ((with_reducible refine kis_new ?_ ?_) <;> (first | with_reducible rfl | rfl | (simp; done))) | with_reducible refine kis_alloc _ ?_ | with_reducible refine kis_drew ?_ | with_reducible refine kis_call (by with_reducible assumption) ?_ | with_reducible exact kis_of (kcall (by with_reducible assumption) (by with_reducible assumption)))); done)) | with_reducible refine kother (by decide) ?_ | with_reducible refine kset (by first | omega | (simp; done) | (simp; omega)) ?_ | with_reducible refine kalloc _ ?_ | with_reducible refine kdrew ?_ | with_reducible refine kcall (by with_reducible assumption) ?_)))
    have qA0 : ∀ W : World, Below wO.heap.size wO W → W.cell? ⟨w.heap.size, 0, none⟩ = some (.int .i64 p) := fun W h => bholds kA0 h
    have kA1 : wO.cell? ⟨w.heap.size + 1, 0, none⟩ = some (.int .i64 a1) := by (first | with_reducible assumption | (repeat (first | with_reducible assumption | ((with_reducible refine kfresh ?_ ?_) <;> (first | with_reducible rfl | (simp; done))) | ((with_reducible refine ksameS ?_); focus ((repeat (first | with_reducible exact kis_of (by with_reducible assumption) | with_reducible refine kis_set ?_ | ((with_reducible refine kis_new ?_ ?_) <;> (first | with_reducible rfl | rfl | (simp; done))) | with_reducible refine kis_alloc _ ?_ | with_reducible refine kis_drew ?_ | with_reducible refine kis_call (by with_reducible assumption) ?_ | with_reducible exact kis_of (kcall (by with_reducible assumption) (by with_reducible assumption)))); done)) | with_reducible refine kother (by decide) ?_ | with_reducible refine kset (by first | omega | (simp; done) | (simp; omega)) ?_ | with_reducible refine kalloc _ ?_ | with_reducible refine kdrew ?_ | with_reducible refine kcall (by with_reducible assumption) ?_)))
    have qA1 : ∀ W : World, Below wO.heap.size wO W → W.cell? ⟨w.heap.size + 1, 0, none⟩ = some (.int .i64 a1) := fun W h => bholds kA1 h
    have kA2 : wO.cell? ⟨w.heap.size + 1, 1, none⟩ = some (.int .i64 a2) := by (first | with_reducible assumption | (repeat (first | with_reducible assumption | ((with_reducible refine kfresh ?_ ?_) <;> (first | with_reducible rfl | (simp; done))) | ((with_reducible refine ksameS ?_); focus ((repeat (first | with_reducible exact kis_of (by with_reducible assumption) | with_reducible refine kis_set ?_ | ((with_reducible refine kis_new ?_ ?_) <;> (first | with_reducible rfl | rfl | (simp; done))) | with_reducible refine kis_alloc _ ?_ | with_reducible refine kis_drew ?_ | with_reducible refine kis_call (by with_reducible assumption) ?_ | with_reducible exact kis_of (kcall (by with_reducible assumption) (by with_reducible assumption)))); done)) | with_reducible refine kother (by decide) ?_ | with_reducible refine kset (by first | omega | (simp; done) | (simp; omega)) ?_ | with_reducible refine kalloc _ ?_ | with_reducible refine kdrew ?_ | with_reducible refine kcall (by with_reducible assumption) ?_)))
    have qA2 : ∀ W : World, Below wO.heap.size wO W → W.cell? ⟨w.heap.size + 1, 1, none⟩ = some (.int .i64 a2) := fun W h => bholds kA2 h
    go_upto_region 1 with fail
    go_cut [6] (fun s6 wx => s6 = .int .i64 1 ∧ Below wO.heap.size wO wx)
    case first =>
      go_region_held3 (fun W => Below wO.heap.size wO W) (first | with_reducible assumption | with_reducible exact bthen (by with_reducible assumption) hB | with_reducible exact bfromdrew hB | with_reducible exact balloc (by with_reducible assumption) _ | with_reducible exact Below.drew (balloc (bundrew (by with_reducible assumption)) _) | with_reducible exact brealloc (by first | exact Nat.le_refl _ | omega | (simp; done) | (simp; omega)) (by with_reducible assumption) | with_reducible exact Below.drew (brealloc (by first | exact Nat.le_refl _ | omega | (simp; done) | (simp; omega)) (bundrew (by with_reducible assumption))) | ((repeat with_reducible refine Below.setCell ?_ (by first | exact Nat.le_refl _ | omega | (simp; done) | (simp; omega)) _); with_reducible assumption) | with_reducible exact Below.refl _ _ | with_reducible exact Below.drew (Below.refl _ _) | with_reducible exact Below.drew (by with_reducible assumption)) (first | (go_at_call 79; refine Calls.mono (implPoints1 _ _ _ _ _ (by first | rfl | (simp; done))) ?_; rintro e wq ⟨rfl, hB⟩; (obtain ⟨hBc, hBf⟩ := bcell hB; have hBs := hB.size; (try simp at hBs); (try have hBq1 := Nat.lt_of_succ_le hBs); (try have hBq2 := Nat.lt_of_succ_lt hBq1); (try have hBq3 := Nat.lt_of_succ_lt hBq2); (try have hBzw0 : w.heap.size < wq.heap.size := (by omega)); (try have hBzw1 : w.heap.size + 1 < wq.heap.size := (by omega)); (try have hBzw2 : w.heap.size + 1 + 1 < wq.heap.size := (by omega)); (try have hBzw3 : w.heap.size + 1 + 1 + 1 < wq.heap.size := (by omega)); (try have hBzw4 : w.heap.size + 1 + 1 + 1 + 1 < wq.heap.size := (by omega)); (try have hBzw__heap_size : wO.heap.size < wq.heap.size := (by omega)))) | (go_at_call 79; refine Calls.mono (implPoints1 _ _ _ _ (World.drew wO) (by first | rfl | (simp; done))) ?_; rintro e wq ⟨rfl, hB⟩; (obtain ⟨hBc, hBf⟩ := bcell hB; have hBs := hB.size; (try simp at hBs); (try have hBq1 := Nat.lt_of_succ_le hBs); (try have hBq2 := Nat.lt_of_succ_lt hBq1); (try have hBq3 := Nat.lt_of_succ_lt hBq2); (try have hBzw0 : w.heap.size < wq.heap.size := (by omega)); (try have hBzw1 : w.heap.size + 1 < wq.heap.size := (by omega)); (try have hBzw2 : w.heap.size + 1 + 1 < wq.heap.size := (by omega)); (try have hBzw3 : w.heap.size + 1 + 1 + 1 < wq.heap.size := (by omega)); (try have hBzw4 : w.heap.size + 1 + 1 + 1 + 1 < wq.heap.size := (by omega)); (try have hBzw__heap_size : wO.heap.size < wq.heap.size := (by omega)))) | (go_at_call 83; refine Calls.mono (codeFor_any _ _ _) ?_; rintro e wq ⟨rfl, rfl⟩))
      all_goals
        go_wp2_with fail
        go_meet
        refine ⟨rfl, ?_⟩
        · (first | with_reducible assumption | exact Below.drew (by with_reducible assumption) | exact bundrew (by with_reducible assumption) | (repeat (first | with_reducible exact Below.refl _ _ | with_reducible refine balloc ?_ _ | with_reducible refine bdrewN ?_ _ | with_reducible refine Below.drew ?_ | with_reducible refine bthen ?_ (by with_reducible assumption) | with_reducible refine Below.setCell ?_ (by first | (simp; done) | (simp; omega)) _)))
    case' rest => obtain ⟨rfl, hzA⟩ := hcut
    obtain ⟨wA, rfl⟩ : ∃ wA : World, wA = wc := ⟨_, rfl⟩
    have hsA := hzA.size
    have hxA : Below w.heap.size w wA := bthen hWA hzA
    have bA0 := qA0 wA hzA
    have bA1 := qA1 wA hzA
    have bA2 := qA2 wA hzA
    clear qA0 qA1 qA2
    have lA_1 : w.heap.size < wA.heap.size := by omega
    have lA_2 : w.heap.size + 1 < wA.heap.size := by omega
    have HV := Lib.hid (ln_no (a1 := a1) (a2 := a2) hd1)
    go_wp2
    (refine bodyPost_ret (v := .tuple #[.slice none 0 0, .int .i64 (lnC p a1 a2)]) (by simp [results, Try.results45, go_sem, HV.out.2]) rfl (slicePost_nil HV.out.1 ?_))
    (repeat (first | with_reducible exact Below.refl _ _ | with_reducible exact hxA | with_reducible refine balloc ?_ _ | with_reducible refine bdrewN ?_ _ | with_reducible refine Below.drew ?_ | with_reducible refine bthen ?_ (by with_reducible assumption) | with_reducible refine Below.setCell ?_ (by first | (simp; done) | (simp; omega)) _))
  · have hp := hd1
    have hr := isP_range hp
    rcases bool_ways (numsIn p [a1, a2]) with hd2 | hd2
    · skip
      have c_1 : codeOf p (numsIn p [a1, a2]) = 2 := codeOf_out hp (by simp [hd2])
      have cT : codeOf p true = 0 := codeOf_in hp rfl
      have cF : codeOf p false = 2 := codeOf_out hp rfl
      have hWA : Below w.heap.size w wO := by (repeat (first | with_reducible exact Below.refl _ _ | with_reducible exact hxO | with_reducible refine balloc ?_ _ | with_reducible refine bdrewN ?_ _ | with_reducible refine Below.drew ?_ | with_reducible refine bthen ?_ (by with_reducible assumption) | with_reducible refine Below.setCell ?_ (by first | (simp; done) | (simp; omega)) _))
      have kA0 : wO.cell? ⟨w.heap.size, 0, none⟩ = some (.int .i64 p) := by (first | with_reducible assumption | (repeat (first | with_reducible assumption | ((with_reducible refine kfresh ?_ ?_) <;> (first | with_reducible rfl | (simp; done))) | ((with_reducible refine ksameS ?_); focus ((repeat (first | with_reducible exact kis_of (by with_reducible assumption) | with_reducible refine kis_set ?_ | ((with_reducible refine kis_new ?_ ?_) <;> (first | with_reducible rfl | rfl | (simp; done))) | with_reducible refine kis_alloc _ ?_ | with_reducible refine kis_drew ?_ | with_reducible refine kis_call (by with_reducible assumption) ?_ | with_reducible exact kis_of (kcall (by with_reducible assumption) (by with_reducible assumption)))); done)) | with_reducible refine kother (by decide) ?_ | with_reducible refine kset (by first | omega | (simp; done) | (simp; omega)) ?_ | with_reducible refine kalloc _ ?_ | with_reducible refine kdrew ?_ | with_reducible refine kcall (by with_reducible assumption) ?_)))
      have qA0 : ∀ W : World, Below wO.heap.size wO W → W.cell? ⟨w.heap.size, 0, none⟩ = some (.int .i64 p) := fun W h => bholds kA0 h
      have kA1 : wO.cell? ⟨w.heap.size + 1, 0, none⟩ = some (.int .i64 a1) := by (first | with_reducible assumption | (repeat (first | with_reducible assumption | ((with_reducible refine kfresh ?_ ?_) <;> (first | with_reducible rfl | (simp; done))) | ((with_reducible refine ksameS ?_); focus ((repeat (first | with_reducible exact kis_of (by with_reducible assumption) | with_reducible refine kis_set ?_ | ((with_reducible refine kis_new ?_ ?_) <;> (first | with_reducible rfl | rfl | (simp; done))) | with_reducible refine kis_alloc _ ?_ | with_reducible refine kis_drew ?_ | with_reducible refine kis_call (by with_reducible assumption) ?_ | with_reducible exact kis_of (kcall (by with_reducible assumption) (by with_reducible assumption)))); done)) | with_reducible refine kother (by decide) ?_ | with_reducible refine kset (by first | omega | (simp; done) | (simp; omega)) ?_ | with_reducible refine kalloc _ ?_ | with_reducible refine kdrew ?_ | with_reducible refine kcall (by with_reducible assumption) ?_)))
      have qA1 : ∀ W : World, Below wO.heap.size wO W → W.cell? ⟨w.heap.size + 1, 0, none⟩ = some (.int .i64 a1) := fun W h => bholds kA1 h
      have kA2 : wO.cell? ⟨w.heap.size + 1, 1, none⟩ = some (.int .i64 a2) := by (first | with_reducible assumption | (repeat (first | with_reducible assumption | ((with_reducible refine kfresh ?_ ?_) <;> (first | with_reducible rfl | (simp; done))) | ((with_reducible refine ksameS ?_); focus ((repeat (first | with_reducible exact kis_of (by with_reducible assumption) | with_reducible refine kis_set ?_ | ((with_reducible refine kis_new ?_ ?_) <;> (first | with_reducible rfl | rfl | (simp; done))) | with_reducible refine kis_alloc _ ?_ | with_reducible refine kis_drew ?_ | with_reducible refine kis_call (by with_reducible assumption) ?_ | with_reducible exact kis_of (kcall (by with_reducible assumption) (by with_reducible assumption)))); done)) | with_reducible refine kother (by decide) ?_ | with_reducible refine kset (by first | omega | (simp; done) | (simp; omega)) ?_ | with_reducible refine kalloc _ ?_ | with_reducible refine kdrew ?_ | with_reducible refine kcall (by with_reducible assumption) ?_)))
      have qA2 : ∀ W : World, Below wO.heap.size wO W → W.cell? ⟨w.heap.size + 1, 1, none⟩ = some (.int .i64 a2) := fun W h => bholds kA2 h
      go_upto_region 1 with fail
      go_cut [6] (fun s6 wx => s6 = .int .i64 2 ∧ Below wO.heap.size wO wx)
      case first =>
        go_region_held3 (fun W => Below wO.heap.size wO W) (first | with_reducible assumption | with_reducible exact bthen (by with_reducible assumption) hB | with_reducible exact bfromdrew hB | with_reducible exact balloc (by with_reducible assumption) _ | with_reducible exact Below.drew (balloc (bundrew (by with_reducible assumption)) _) | with_reducible exact brealloc (by first | exact Nat.le_refl _ | omega | (simp; done) | (simp; omega)) (by with_reducible assumption) | with_reducible exact Below.drew (brealloc (by first | exact Nat.le_refl _ | omega | (simp; done) | (simp; omega)) (bundrew (by with_reducible assumption))) | ((repeat with_reducible refine Below.setCell ?_ (by first | exact Nat.le_refl _ | omega | (simp; done) | (simp; omega)) _); with_reducible assumption) | with_reducible exact Below.refl _ _ | with_reducible exact Below.drew (Below.refl _ _) | with_reducible exact Below.drew (by with_reducible assumption)) (first | (go_at_call 79; refine Calls.mono (implPoints1 _ _ _ _ _ (by first | rfl | (simp; done))) ?_; rintro e wq ⟨rfl, hB⟩; (obtain ⟨hBc, hBf⟩ := bcell hB; have hBs := hB.size; (try simp at hBs); (try have hBq1 := Nat.lt_of_succ_le hBs); (try have hBq2 := Nat.lt_of_succ_lt hBq1); (try have hBq3 := Nat.lt_of_succ_lt hBq2); (try have hBzw0 : w.heap.size < wq.heap.size := (by omega)); (try have hBzw1 : w.heap.size + 1 < wq.heap.size := (by omega)); (try have hBzw2 : w.heap.size + 1 + 1 < wq.heap.size := (by omega)); (try have hBzw3 : w.heap.size + 1 + 1 + 1 < wq.heap.size := (by omega)); (try have hBzw4 : w.heap.size + 1 + 1 + 1 + 1 < wq.heap.size := (by omega)); (try have hBzw__heap_size : wO.heap.size < wq.heap.size := (by omega)))) | (go_at_call 79; refine Calls.mono (implPoints1 _ _ _ _ (World.drew wO) (by first | rfl | (simp; done))) ?_; rintro e wq ⟨rfl, hB⟩; (obtain ⟨hBc, hBf⟩ := bcell hB; have hBs := hB.size; (try simp at hBs); (try have hBq1 := Nat.lt_of_succ_le hBs); (try have hBq2 := Nat.lt_of_succ_lt hBq1); (try have hBq3 := Nat.lt_of_succ_lt hBq2); (try have hBzw0 : w.heap.size < wq.heap.size := (by omega)); (try have hBzw1 : w.heap.size + 1 < wq.heap.size := (by omega)); (try have hBzw2 : w.heap.size + 1 + 1 < wq.heap.size := (by omega)); (try have hBzw3 : w.heap.size + 1 + 1 + 1 < wq.heap.size := (by omega)); (try have hBzw4 : w.heap.size + 1 + 1 + 1 + 1 < wq.heap.size := (by omega)); (try have hBzw__heap_size : wO.heap.size < wq.heap.size := (by omega)))) | (go_at_call 83; refine Calls.mono (codeFor_any _ _ _) ?_; rintro e wq ⟨rfl, rfl⟩))
        all_goals
          go_wp2_with fail
          go_meet
          refine ⟨rfl, ?_⟩
          · (first | with_reducible assumption | exact Below.drew (by with_reducible assumption) | exact bundrew (by with_reducible assumption) | (repeat (first | with_reducible exact Below.refl _ _ | with_reducible refine balloc ?_ _ | with_reducible refine bdrewN ?_ _ | with_reducible refine Below.drew ?_ | with_reducible refine bthen ?_ (by with_reducible assumption) | with_reducible refine Below.setCell ?_ (by first | (simp; done) | (simp; omega)) _)))
      case' rest => obtain ⟨rfl, hzA⟩ := hcut
      obtain ⟨wA, rfl⟩ : ∃ wA : World, wA = wc := ⟨_, rfl⟩
      have hsA := hzA.size
      have hxA : Below w.heap.size w wA := bthen hWA hzA
      have bA0 := qA0 wA hzA
      have bA1 := qA1 wA hzA
      have bA2 := qA2 wA hzA
      clear qA0 qA1 qA2
      have lA_1 : w.heap.size < wA.heap.size := by omega
      have lA_2 : w.heap.size + 1 < wA.heap.size := by omega
      have HV := Lib.hid (ln_out (a1 := a1) (a2 := a2) hp (by simp [lnB, hd1, hd2]))
      go_wp2
      (refine bodyPost_ret (v := .tuple #[.slice none 0 0, .int .i64 (lnC p a1 a2)]) (by simp [results, Try.results45, go_sem, HV.out.2]) rfl (slicePost_nil HV.out.1 ?_))
      (repeat (first | with_reducible exact Below.refl _ _ | with_reducible exact hxA | with_reducible refine balloc ?_ _ | with_reducible refine bdrewN ?_ _ | with_reducible refine Below.drew ?_ | with_reducible refine bthen ?_ (by with_reducible assumption) | with_reducible refine Below.setCell ?_ (by first | (simp; done) | (simp; omega)) _))
    · have hd2q := nums2 hd2
      have c_1 : codeOf p (numsIn p [a1, a2]) = 0 := codeOf_in hp (by simp [hd2])
      have cT : codeOf p true = 0 := codeOf_in hp rfl
      have hWA : Below w.heap.size w wO := by (repeat (first | with_reducible exact Below.refl _ _ | with_reducible exact hxO | with_reducible refine balloc ?_ _ | with_reducible refine bdrewN ?_ _ | with_reducible refine Below.drew ?_ | with_reducible refine bthen ?_ (by with_reducible assumption) | with_reducible refine Below.setCell ?_ (by first | (simp; done) | (simp; omega)) _))
      have kA0 : wO.cell? ⟨w.heap.size, 0, none⟩ = some (.int .i64 p) := by (first | with_reducible assumption | (repeat (first | with_reducible assumption | ((with_reducible refine kfresh ?_ ?_) <;> (first | with_reducible rfl | (simp; done))) | ((with_reducible refine ksameS ?_); focus ((repeat (first | with_reducible exact kis_of (by with_reducible assumption) | with_reducible refine kis_set ?_ | ((with_reducible refine kis_new ?_ ?_) <;> (first | with_reducible rfl | rfl | (simp; done))) | with_reducible refine kis_alloc _ ?_ | with_reducible refine kis_drew ?_ | with_reducible refine kis_call (by with_reducible assumption) ?_ | with_reducible exact kis_of (kcall (by with_reducible assumption) (by with_reducible assumption)))); done)) | with_reducible refine kother (by decide) ?_ | with_reducible refine kset (by first | omega | (simp; done) | (simp; omega)) ?_ | with_reducible refine kalloc _ ?_ | with_reducible refine kdrew ?_ | with_reducible refine kcall (by with_reducible assumption) ?_)))
      have qA0 : ∀ W : World, Below wO.heap.size wO W → W.cell? ⟨w.heap.size, 0, none⟩ = some (.int .i64 p) := fun W h => bholds kA0 h
      have kA1 : wO.cell? ⟨w.heap.size + 1, 0, none⟩ = some (.int .i64 a1) := by (first | with_reducible assumption | (repeat (first | with_reducible assumption | ((with_reducible refine kfresh ?_ ?_) <;> (first | with_reducible rfl | (simp; done))) | ((with_reducible refine ksameS ?_); focus ((repeat (first | with_reducible exact kis_of (by with_reducible assumption) | with_reducible refine kis_set ?_ | ((with_reducible refine kis_new ?_ ?_) <;> (first | with_reducible rfl | rfl | (simp; done))) | with_reducible refine kis_alloc _ ?_ | with_reducible refine kis_drew ?_ | with_reducible refine kis_call (by with_reducible assumption) ?_ | with_reducible exact kis_of (kcall (by with_reducible assumption) (by with_reducible assumption)))); done)) | with_reducible refine kother (by decide) ?_ | with_reducible refine kset (by first | omega | (simp; done) | (simp; omega)) ?_ | with_reducible refine kalloc _ ?_ | with_reducible refine kdrew ?_ | with_reducible refine kcall (by with_reducible assumption) ?_)))
      have qA1 : ∀ W : World, Below wO.heap.size wO W → W.cell? ⟨w.heap.size + 1, 0, none⟩ = some (.int .i64 a1) := fun W h => bholds kA1 h
      have kA2 : wO.cell? ⟨w.heap.size + 1, 1, none⟩ = some (.int .i64 a2) := by (first | with_reducible assumption | (repeat (first | with_reducible assumption | ((with_reducible refine kfresh ?_ ?_) <;> (first | with_reducible rfl | (simp; done))) | ((with_reducible refine ksameS ?_); focus ((repeat (first | with_reducible exact kis_of (by with_reducible assumption) | with_reducible refine kis_set ?_ | ((with_reducible refine kis_new ?_ ?_) <;> (first | with_reducible rfl | rfl | (simp; done))) | with_reducible refine kis_alloc _ ?_ | with_reducible refine kis_drew ?_ | with_reducible refine kis_call (by with_reducible assumption) ?_ | with_reducible exact kis_of (kcall (by with_reducible assumption) (by with_reducible assumption)))); done)) | with_reducible refine kother (by decide) ?_ | with_reducible refine kset (by first | omega | (simp; done) | (simp; omega)) ?_ | with_reducible refine kalloc _ ?_ | with_reducible refine kdrew ?_ | with_reducible refine kcall (by with_reducible assumption) ?_)))
      have qA2 : ∀ W : World, Below wO.heap.size wO W → W.cell? ⟨w.heap.size + 1, 1, none⟩ = some (.int .i64 a2) := fun W h => bholds kA2 h
      go_upto_region 1 with fail
      go_cut [6] (fun s6 wx => s6 = .int .i64 0 ∧ Below wO.heap.size wO wx)
      case first =>
        go_region_held3 (fun W => Below wO.heap.size wO W) (first | with_reducible assumption | with_reducible exact bthen (by with_reducible assumption) hB | with_reducible exact bfromdrew hB | with_reducible exact balloc (by with_reducible assumption) _ | with_reducible exact Below.drew (balloc (bundrew (by with_reducible assumption)) _) | with_reducible exact brealloc (by first | exact Nat.le_refl _ | omega | (simp; done) | (simp; omega)) (by with_reducible assumption) | with_reducible exact Below.drew (brealloc (by first | exact Nat.le_refl _ | omega | (simp; done) | (simp; omega)) (bundrew (by with_reducible assumption))) | ((repeat with_reducible refine Below.setCell ?_ (by first | exact Nat.le_refl _ | omega | (simp; done) | (simp; omega)) _); with_reducible assumption) | with_reducible exact Below.refl _ _ | with_reducible exact Below.drew (Below.refl _ _) | with_reducible exact Below.drew (by with_reducible assumption)) (first | (go_at_call 79; refine Calls.mono (implPoints1 _ _ _ _ _ (by first | rfl | (simp; done))) ?_; rintro e wq ⟨rfl, hB⟩; (obtain ⟨hBc, hBf⟩ := bcell hB; have hBs := hB.size; (try simp at hBs); (try have hBq1 := Nat.lt_of_succ_le hBs); (try have hBq2 := Nat.lt_of_succ_lt hBq1); (try have hBq3 := Nat.lt_of_succ_lt hBq2); (try have hBzw0 : w.heap.size < wq.heap.size := (by omega)); (try have hBzw1 : w.heap.size + 1 < wq.heap.size := (by omega)); (try have hBzw2 : w.heap.size + 1 + 1 < wq.heap.size := (by omega)); (try have hBzw3 : w.heap.size + 1 + 1 + 1 < wq.heap.size := (by omega)); (try have hBzw4 : w.heap.size + 1 + 1 + 1 + 1 < wq.heap.size := (by omega)); (try have hBzw__heap_size : wO.heap.size < wq.heap.size := (by omega)))) | (go_at_call 79; refine Calls.mono (implPoints1 _ _ _ _ (World.drew wO) (by first | rfl | (simp; done))) ?_; rintro e wq ⟨rfl, hB⟩; (obtain ⟨hBc, hBf⟩ := bcell hB; have hBs := hB.size; (try simp at hBs); (try have hBq1 := Nat.lt_of_succ_le hBs); (try have hBq2 := Nat.lt_of_succ_lt hBq1); (try have hBq3 := Nat.lt_of_succ_lt hBq2); (try have hBzw0 : w.heap.size < wq.heap.size := (by omega)); (try have hBzw1 : w.heap.size + 1 < wq.heap.size := (by omega)); (try have hBzw2 : w.heap.size + 1 + 1 < wq.heap.size := (by omega)); (try have hBzw3 : w.heap.size + 1 + 1 + 1 < wq.heap.size := (by omega)); (try have hBzw4 : w.heap.size + 1 + 1 + 1 + 1 < wq.heap.size := (by omega)); (try have hBzw__heap_size : wO.heap.size < wq.heap.size := (by omega)))) | (go_at_call 83; refine Calls.mono (codeFor_any _ _ _) ?_; rintro e wq ⟨rfl, rfl⟩))
        all_goals
          go_wp2_with fail
          go_meet
          refine ⟨rfl, ?_⟩
          · (first | with_reducible assumption | exact Below.drew (by with_reducible assumption) | exact bundrew (by with_reducible assumption) | (repeat (first | with_reducible exact Below.refl _ _ | with_reducible refine balloc ?_ _ | with_reducible refine bdrewN ?_ _ | with_reducible refine Below.drew ?_ | with_reducible refine bthen ?_ (by with_reducible assumption) | with_reducible refine Below.setCell ?_ (by first | (simp; done) | (simp; omega)) _)))
      case' rest => obtain ⟨rfl, hzA⟩ := hcut
      obtain ⟨wA, rfl⟩ : ∃ wA : World, wA = wc := ⟨_, rfl⟩
      have hsA := hzA.size
      have hxA : Below w.heap.size w wA := bthen hWA hzA
      have bA0 := qA0 wA hzA
      have bA1 := qA1 wA hzA
      have bA2 := qA2 wA hzA
      clear qA0 qA1 qA2
      have lA_1 : w.heap.size < wA.heap.size := by omega
      have lA_2 : w.heap.size + 1 < wA.heap.size := by omega
      have HB : lnB p a1 a2 = true := by simp [lnB, hd1, hd2]
      have HS : lnS p a1 a2 = 0 := by rfl
      have HV := Lib.hid (ln_good (a1 := a1) (a2 := a2) hp HB HS)
      clear HB HS
      exact (hbad.out hp hd2).elim

theorem implLinesThrough_any (p a1 a2 : Int) (w : World) :
    Calls Try.prog 45 #[.int .i64 p, .agg #[.int .i64 a1, .int .i64 a2]] w fun e w' => SlicePost 29 3 (lnL p a1 a2) (lnC p a1 a2) w e w' := by
  by_cases h : isP p = true ∧ numsIn p [a1, a2] = true
  · have HV := ln_good (a1 := a1) (a2 := a2) h.1 (by rw [lnB]; exact h.2) rfl
    rw [HV.1, HV.2]
    exact implLinesThrough_good p a1 a2 w h.1 h.2
  · exact implLinesThrough_bad p a1 a2 w (Lib.hid fun h1 h2 => h ⟨h1, h2⟩)

theorem ln_len (p a1 a2 : Int) : (lnL p a1 a2).length ≤ 4096 := by
  unfold lnL
  split
  · rename_i h
    have hp : isP p = true := by
      cases hh : isP p
      · simp [lnC, hh] at h
      · rfl
    have hr := isP_range hp
    rw [flat3_length, pencil_length]
    omega
  · simp

end Go.Proofs.Ytjjeekmhpcllaaa
