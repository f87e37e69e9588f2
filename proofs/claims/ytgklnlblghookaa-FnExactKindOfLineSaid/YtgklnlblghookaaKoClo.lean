/-
  The closure of impl.KindOfLine: whether a place is on the line and null.
-/
import Derived.Test.YtgklnlblghookaaOnLineMk
import Derived.Test.YtgklnlblghookaaImplNull
namespace Go.Proofs.Ytgklnlblghookaa
open Go.RowKit Go.Shelf

set_option linter.unusedVariables false in
set_option maxRecDepth 20000 in
set_option maxHeartbeats 2000000 in
set_option linter.unusedSimpArgs false in
theorem koClo_any (x1 x2 x3 p q1 q2 q3 : Int) (k b c bp : Nat) (w : World) (hp : isP p = true) (hx1 : 0 ≤ x1 ∧ x1 ≤ 31) (hx2 : 0 ≤ x2 ∧ x2 ≤ 31) (hx3 : 0 ≤ x3 ∧ x3 ≤ 31) (hq1 : 0 ≤ q1 ∧ q1 ≤ 31) (hq2 : 0 ≤ q2 ∧ q2 ≤ 31) (hq3 : 0 ≤ q3 ∧ q3 ≤ 31)
    (hk : w.cell? ⟨k, 0, none⟩ = some (.func (.func 70) #[] #[.pointer (some ⟨b, 0, none⟩), .pointer (some ⟨c, 0, none⟩)])) (h0 : w.cell? ⟨b, 0, none⟩ = some (.int .i64 p)) (h1 : w.cell? ⟨c, 0, none⟩ = some (.int .i64 q1)) (h2 : w.cell? ⟨c, 1, none⟩ = some (.int .i64 q2)) (h3 : w.cell? ⟨c, 2, none⟩ = some (.int .i64 q3))
    (h4 : w.cell? ⟨bp, 0, none⟩ = some (.int .i64 p)) :
    Calls Try.prog 58 #[.agg #[.int .i64 x1, .int .i64 x2, .int .i64 x3], .pointer (some ⟨k, 0, none⟩), .pointer (some ⟨bp, 0, none⟩)] w fun e w' => e = .returned (.bool (ppd p x1 x2 x3 q1 q2 q3 == 0 && ppd p x1 x2 x3 x1 x2 x3 == 0)) ∧ Below w.heap.size w w' := by
  have lk := World.block_lt_of_cell? w ⟨k, 0, none⟩ hk
  have lb := World.block_lt_of_cell? w ⟨b, 0, none⟩ h0
  have lc := World.block_lt_of_cell? w ⟨c, 0, none⟩ h1
  have lp := World.block_lt_of_cell? w ⟨bp, 0, none⟩ h4
  simp only at lk lb lc lp
  go_enter Try.func58, Try.ntmps58
  have m0 : (w.alloc (.cells #[.int .i64 x1, .int .i64 x2, .int .i64 x3] 23)).cell? ⟨b, 0, none⟩ = some (.int .i64 p) := kalloc _ h0
  have m1 : (w.alloc (.cells #[.int .i64 x1, .int .i64 x2, .int .i64 x3] 23)).cell? ⟨c, 0, none⟩ = some (.int .i64 q1) := kalloc _ h1
  have m2 : (w.alloc (.cells #[.int .i64 x1, .int .i64 x2, .int .i64 x3] 23)).cell? ⟨c, 1, none⟩ = some (.int .i64 q2) := kalloc _ h2
  have m3 : (w.alloc (.cells #[.int .i64 x1, .int .i64 x2, .int .i64 x3] 23)).cell? ⟨c, 2, none⟩ = some (.int .i64 q3) := kalloc _ h3
  have mk : (w.alloc (.cells #[.int .i64 x1, .int .i64 x2, .int .i64 x3] 23)).cell? ⟨k, 0, none⟩ = some (.func (.func 70) #[] #[.pointer (some ⟨b, 0, none⟩), .pointer (some ⟨c, 0, none⟩)]) := kalloc _ hk
  have mp : (w.alloc (.cells #[.int .i64 x1, .int .i64 x2, .int .i64 x3] 23)).cell? ⟨bp, 0, none⟩ = some (.int .i64 p) := kalloc _ h4
  have mx : ∀ j v, (w.alloc (.cells #[.int .i64 x1, .int .i64 x2, .int .i64 x3] 23)).cell? ⟨w.heap.size, j, none⟩ = some v → True := fun _ _ _ => trivial
  clear mx
  go_wp2_with fail
  refine Calls.mono (onClo_any p x1 x2 x3 q1 q2 q3 _ _ _ hp hx1 hx2 hx3 hq1 hq2 hq3 m0 m1 m2 m3) ?_
  rintro e w1 ⟨rfl, hB1⟩
  have s1 := hB1.size
  simp only [World.size_alloc] at s1
  have n0 : w1.cell? ⟨w.heap.size, 0, none⟩ = some (.int .i64 x1) := (cell_back hB1 (by simp) 0).trans (kfresh rfl rfl)
  have n1 : w1.cell? ⟨w.heap.size, 1, none⟩ = some (.int .i64 x2) := (cell_back hB1 (by simp) 1).trans (kfresh rfl rfl)
  have n2 : w1.cell? ⟨w.heap.size, 2, none⟩ = some (.int .i64 x3) := (cell_back hB1 (by simp) 2).trans (kfresh rfl rfl)
  have np : w1.cell? ⟨bp, 0, none⟩ = some (.int .i64 p) := (cell_back hB1 (by simp; omega) 0).trans mp
  have hb1 : Below w.heap.size w w1 := ((Below.refl _ _).alloc (Nat.le_refl _) _).trans (hB1.mono (by simp))
  clear m0 m1 m2 m3 mk mp hB1 hk h0 h1 h2 h3 h4
  obtain ⟨bo, hbo⟩ : ∃ b, b = (ppd p x1 x2 x3 q1 q2 q3 == 0) := ⟨_, rfl⟩
  rw [← hbo]
  have HBO := Lib.hid hbo
  clear hbo
  cases bo
  · go_wp2
    (refine bodyPost_ret (v := .bool false) (by simp [results, Try.results58, go_sem]) rfl ⟨by rw [← HBO.out]; rfl, hb1⟩)
  · go_wp2_with fail
    refine Calls.mono (implNull_any p x1 x2 x3 _ hp hx1 hx2 hx3) ?_
    rintro e w2 ⟨rfl, hB2⟩
    go_wp2
    (refine bodyPost_ret (v := .bool (ppd p x1 x2 x3 x1 x2 x3 == 0)) (by simp [results, Try.results58, go_sem]) rfl ⟨by rw [← HBO.out]; rfl, bthen hb1 hB2⟩)

end Go.Proofs.Ytgklnlblghookaa
