/-
  impl.compareMoves.
-/
import Derived.Test.YtibfbdgenamlkaaSortBaseq
import Derived.Test.YtibfbdgenamlkaaKeepDrewq
import Derived.Deep.QuietTactic
import Derived.BigQuiet
import Derived.Sort.Grow

namespace Go.Proofs.Ytibfbdgenamlkaa
open Go.RowKit Go.Sort

set_option maxRecDepth 20000 in
set_option maxHeartbeats 1000000 in
theorem comparePts7_any (x1 x2 y1 y2 : Int) (w : World) :
    Calls Try.prog 89 #[.agg #[.int .i64 x1, .int .i64 x2], .agg #[.int .i64 y1, .int .i64 y2]] w fun e w' =>
      e = .returned (.int .i64 (lexC [x1, x2] [y1, y2])) ∧ w' = ((w.alloc (.cells #[.int .i64 x1, .int .i64 x2] 26)).alloc (.cells #[.int .i64 y1, .int .i64 y2] 26)).drew := by
  have hcc := fun (a b ca cb : Nat) w' => compare_any a b 2 ca cb [x1, x2] [y1, y2] w' rfl rfl (by decide)
  obtain ⟨c, hc⟩ : ∃ c, c = lexC [x1, x2] [y1, y2] := ⟨_, rfl⟩
  rw [← hc] at hcc ⊢
  clear hc
  go_enter Try.func89, Try.ntmps89
  go_wp2_with fail
  (refine region_tail 3 (by kernel_rfl) (by kernel_rfl) ?_; simp only [List.take_succ_cons, List.take_zero, List.drop_succ_cons, List.drop_zero]; repeat still_step)
  have hA : Cells (((w.alloc (.cells #[.int .i64 x1, .int .i64 x2] 26)).alloc (.cells #[.int .i64 y1, .int .i64 y2] 26)).drew) w.heap.size 0 [x1, x2] := fun i hi => kdrew (kalloc _ (cells_at rfl [x1, x2] _ i hi))
  have hB : Cells (((w.alloc (.cells #[.int .i64 x1, .int .i64 x2] 26)).alloc (.cells #[.int .i64 y1, .int .i64 y2] 26)).drew) (w.heap.size + 1) 0 [y1, y2] := fun i hi => kdrew (cells_at (by simp) [y1, y2] _ i hi)
  (still_call (stillOf (hcc _ _ _ _ _ hA hB)); repeat still_step)
  refine wpStill_nil ?_
  go_wp2
  (refine bodyPost_ret (v := .int .i64 c) (by simp [results, Try.results89, go_sem]) rfl ⟨?_, ?_⟩)
  · rfl
  · rfl

theorem lexC_six (x1 x2 x3 x4 x5 x6 y1 y2 y3 y4 y5 y6 : Int) : lexC [x1, x2, x3, x4, x5, x6] [y1, y2, y3, y4, y5, y6] = if lexC [x1, x2, x3, x4] [y1, y2, y3, y4] = 0 then lexC [x5, x6] [y5, y6] else lexC [x1, x2, x3, x4] [y1, y2, y3, y4] := by
  simp only [lexC]
  by_cases h1 : cmpI x1 y1 = 0
  · by_cases h2 : cmpI x2 y2 = 0
    · by_cases h3 : cmpI x3 y3 = 0
      · by_cases h4 : cmpI x4 y4 = 0 <;> simp [h1, h2, h3, h4]
      · simp [h1, h2, h3]
    · simp [h1, h2]
  · simp [h1]

set_option maxRecDepth 20000 in
set_option maxHeartbeats 2000000 in
theorem compareMoves_any (x1 x2 x3 x4 x5 x6 y1 y2 y3 y4 y5 y6 : Int) (w : World) :
    Calls Try.prog 66 #[.agg #[.int .i64 x1, .int .i64 x2, .int .i64 x3, .int .i64 x4, .int .i64 x5, .int .i64 x6], .agg #[.int .i64 y1, .int .i64 y2, .int .i64 y3, .int .i64 y4, .int .i64 y5, .int .i64 y6]] w fun e w' =>
      e = .returned (.int .i64 (lexC [x1, x2, x3, x4, x5, x6] [y1, y2, y3, y4, y5, y6])) ∧ ∃ q os, w' = grow (w.drewN q) os := by
  have hcc := fun (a b ca cb : Nat) w' => compare_any a b 4 ca cb [x1, x2, x3, x4] [y1, y2, y3, y4] w' rfl rfl (by decide)
  have hpp := fun w' => comparePts7_any x5 x6 y5 y6 w'
  rw [lexC_six]
  obtain ⟨c, hc⟩ : ∃ c, c = lexC [x1, x2, x3, x4] [y1, y2, y3, y4] := ⟨_, rfl⟩
  obtain ⟨d, hd⟩ : ∃ d, d = lexC [x5, x6] [y5, y6] := ⟨_, rfl⟩
  rw [← hc] at hcc ⊢
  rw [← hd] at hpp ⊢
  clear hc hd
  go_enter Try.func66, Try.ntmps66
  go_wp2_with fail
  (refine region_tail 5 (by kernel_rfl) (by kernel_rfl) ?_; simp only [List.take_succ_cons, List.take_zero, List.drop_succ_cons, List.drop_zero]; repeat still_step)
  have hA : Cells (((w.alloc (.cells #[.int .i64 x1, .int .i64 x2, .int .i64 x3, .int .i64 x4, .int .i64 x5, .int .i64 x6] 62)).alloc (.cells #[.int .i64 y1, .int .i64 y2, .int .i64 y3, .int .i64 y4, .int .i64 y5, .int .i64 y6] 62)).drew) w.heap.size 0 [x1, x2, x3, x4] := fun i hi => by
    have : i = 0 ∨ i = 1 ∨ i = 2 ∨ i = 3 := by simp at hi; omega
    rcases this with rfl | rfl | rfl | rfl <;> exact kdrew (kalloc _ (kfresh rfl rfl))
  have hB : Cells (((w.alloc (.cells #[.int .i64 x1, .int .i64 x2, .int .i64 x3, .int .i64 x4, .int .i64 x5, .int .i64 x6] 62)).alloc (.cells #[.int .i64 y1, .int .i64 y2, .int .i64 y3, .int .i64 y4, .int .i64 y5, .int .i64 y6] 62)).drew) (w.heap.size + 1) 0 [y1, y2, y3, y4] := fun i hi => by
    have : i = 0 ∨ i = 1 ∨ i = 2 ∨ i = 3 := by simp at hi; omega
    rcases this with rfl | rfl | rfl | rfl <;> exact kdrew (kfresh (by simp) rfl)
  (still_call (stillOf (hcc _ _ _ _ _ hA hB)); repeat still_step)
  refine wpStill_nil ?_
  by_cases h0 : c = 0
  · subst h0
    go_wp2_with fail
    refine Calls.mono (hpp _) ?_
    rintro e w1 ⟨rfl, rfl⟩
    go_wp2
    (refine bodyPost_ret (v := .int .i64 d) (by simp [results, Try.results66, go_sem]) rfl ⟨?_, ?_⟩)
    · rfl
    · refine ⟨2, #[.cells #[.int .i64 x1, .int .i64 x2, .int .i64 x3, .int .i64 x4, .int .i64 x5, .int .i64 x6] 62, .cells #[.int .i64 y1, .int .i64 y2, .int .i64 y3, .int .i64 y4, .int .i64 y5, .int .i64 y6] 62, .cells #[.int .i64 x5, .int .i64 x6] 26, .cells #[.int .i64 y5, .int .i64 y6] 26], ?_⟩
      simp only [alloc_eq_grow, grow_grow]; rfl
  · have h0' : (c != 0) = true := by simpa using h0
    go_wp2
    (refine bodyPost_ret (v := .int .i64 c) (by simp [results, Try.results66, go_sem]) rfl ⟨?_, ?_⟩)
    · simp
    · refine ⟨1, #[.cells #[.int .i64 x1, .int .i64 x2, .int .i64 x3, .int .i64 x4, .int .i64 x5, .int .i64 x6] 62, .cells #[.int .i64 y1, .int .i64 y2, .int .i64 y3, .int .i64 y4, .int .i64 y5, .int .i64 y6] 62], ?_⟩
      simp only [alloc_eq_grow, grow_grow]; rfl

end Go.Proofs.Ytibfbdgenamlkaa
