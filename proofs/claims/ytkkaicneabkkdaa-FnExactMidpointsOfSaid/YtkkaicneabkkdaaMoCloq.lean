/-
  The closure of impl.MidpointsOf: whether a place is on the line and has equal quadrances.
-/
import Derived.Test.YtkkaicneabkkdaaOnLineMkq
import Derived.Test.YtkkaicneabkkdaaImplHeq

namespace Go.Proofs.Ytkkaicneabkkdaa
open Go.RowKit Go.Shelf

/-- The program's test, and the model's. -/
def heQ (p a1 a2 a3 b1 b2 b3 : Int) (x : Pl32) : Bool := heB p (toQ x).1 (toQ x).2.1 (toQ x).2.2 a1 a2 a3 b1 b2 b3
def moF (p a1 a2 a3 b1 b2 b3 : Int) (x : Pl32) : Bool := meB p (toQ x).1 (toQ x).2.1 (toQ x).2.2 a1 a2 a3 b1 b2 b3
set_option linter.unusedSimpArgs false in
theorem mo_both {p q1 q2 q3 a1 a2 a3 b1 b2 b3 : Int} (ha : (ppd p a1 a2 a3 a1 a2 a3 == 0) = false) (hb : (ppd p b1 b2 b3 b1 b2 b3 == 0) = false) :
    ((allQ p.toNat).filter fun x => onQ p q1 q2 q3 x && heQ p a1 a2 a3 b1 b2 b3 x) = (onL p q1 q2 q3).filter (moF p a1 a2 a3 b1 b2 b3) := by
  rw [onL, List.filter_filter]
  exact List.filter_congr fun x _ => by rw [Bool.and_comm, heQ, moF, heB_meB ha hb]

set_option linter.unusedVariables false in
set_option maxRecDepth 20000 in
set_option maxHeartbeats 2000000 in
set_option linter.unusedSimpArgs false in
theorem moClo_any (x1 x2 x3 p q1 q2 q3 a1 a2 a3 b1 b2 b3 : Int) (k b c bp A B : Nat) (w : World) (hp : isP p = true) (hx1 : 0 ≤ x1 ∧ x1 ≤ 31) (hx2 : 0 ≤ x2 ∧ x2 ≤ 31) (hx3 : 0 ≤ x3 ∧ x3 ≤ 31) (hq1 : 0 ≤ q1 ∧ q1 ≤ 31) (hq2 : 0 ≤ q2 ∧ q2 ≤ 31) (hq3 : 0 ≤ q3 ∧ q3 ≤ 31)
    (ha1 : 0 ≤ a1 ∧ a1 ≤ 31) (ha2 : 0 ≤ a2 ∧ a2 ≤ 31) (ha3 : 0 ≤ a3 ∧ a3 ≤ 31) (hb1 : 0 ≤ b1 ∧ b1 ≤ 31) (hb2 : 0 ≤ b2 ∧ b2 ≤ 31) (hb3 : 0 ≤ b3 ∧ b3 ≤ 31)
    (hk : w.cell? ⟨k, 0, none⟩ = some (.func (.func 86) #[] #[.pointer (some ⟨b, 0, none⟩), .pointer (some ⟨c, 0, none⟩)])) (h0 : w.cell? ⟨b, 0, none⟩ = some (.int .i64 p)) (h1 : w.cell? ⟨c, 0, none⟩ = some (.int .i64 q1)) (h2 : w.cell? ⟨c, 1, none⟩ = some (.int .i64 q2)) (h3 : w.cell? ⟨c, 2, none⟩ = some (.int .i64 q3))
    (h4 : w.cell? ⟨bp, 0, none⟩ = some (.int .i64 p)) (hA0 : w.cell? ⟨A, 0, none⟩ = some (.int .i64 a1)) (hA1 : w.cell? ⟨A, 1, none⟩ = some (.int .i64 a2)) (hA2 : w.cell? ⟨A, 2, none⟩ = some (.int .i64 a3)) (hB0 : w.cell? ⟨B, 0, none⟩ = some (.int .i64 b1)) (hB1' : w.cell? ⟨B, 1, none⟩ = some (.int .i64 b2)) (hB2 : w.cell? ⟨B, 2, none⟩ = some (.int .i64 b3)) :
    Calls Try.prog 49 #[.agg #[.int .i64 x1, .int .i64 x2, .int .i64 x3], .pointer (some ⟨k, 0, none⟩), .pointer (some ⟨bp, 0, none⟩), .pointer (some ⟨A, 0, none⟩), .pointer (some ⟨B, 0, none⟩)] w fun e w' => e = .returned (.bool (ppd p x1 x2 x3 q1 q2 q3 == 0 && heB p x1 x2 x3 a1 a2 a3 b1 b2 b3)) ∧ Below w.heap.size w w' := by
  have lk := World.block_lt_of_cell? w ⟨k, 0, none⟩ hk
  have lb := World.block_lt_of_cell? w ⟨b, 0, none⟩ h0
  have lc := World.block_lt_of_cell? w ⟨c, 0, none⟩ h1
  have lp := World.block_lt_of_cell? w ⟨bp, 0, none⟩ h4
  have lA := World.block_lt_of_cell? w ⟨A, 0, none⟩ hA0
  have lB := World.block_lt_of_cell? w ⟨B, 0, none⟩ hB0
  simp only at lk lb lc lp lA lB
  go_enter Try.func49, Try.ntmps49
  obtain ⟨W, hW⟩ : ∃ W, W = w.alloc (.cells #[.int .i64 x1, .int .i64 x2, .int .i64 x3] 23) := ⟨_, rfl⟩
  have m0 : W.cell? ⟨b, 0, none⟩ = some (.int .i64 p) := by rw [hW]; exact kalloc _ h0
  have m1 : W.cell? ⟨c, 0, none⟩ = some (.int .i64 q1) := by rw [hW]; exact kalloc _ h1
  have m2 : W.cell? ⟨c, 1, none⟩ = some (.int .i64 q2) := by rw [hW]; exact kalloc _ h2
  have m3 : W.cell? ⟨c, 2, none⟩ = some (.int .i64 q3) := by rw [hW]; exact kalloc _ h3
  have mk : W.cell? ⟨k, 0, none⟩ = some (.func (.func 86) #[] #[.pointer (some ⟨b, 0, none⟩), .pointer (some ⟨c, 0, none⟩)]) := by rw [hW]; exact kalloc _ hk
  have mp : W.cell? ⟨bp, 0, none⟩ = some (.int .i64 p) := by rw [hW]; exact kalloc _ h4
  have u0 : W.cell? ⟨A, 0, none⟩ = some (.int .i64 a1) := by rw [hW]; exact kalloc _ hA0
  have u1 : W.cell? ⟨A, 1, none⟩ = some (.int .i64 a2) := by rw [hW]; exact kalloc _ hA1
  have u2 : W.cell? ⟨A, 2, none⟩ = some (.int .i64 a3) := by rw [hW]; exact kalloc _ hA2
  have v0 : W.cell? ⟨B, 0, none⟩ = some (.int .i64 b1) := by rw [hW]; exact kalloc _ hB0
  have v1 : W.cell? ⟨B, 1, none⟩ = some (.int .i64 b2) := by rw [hW]; exact kalloc _ hB1'
  have v2 : W.cell? ⟨B, 2, none⟩ = some (.int .i64 b3) := by rw [hW]; exact kalloc _ hB2
  have y0 : W.cell? ⟨w.heap.size, 0, none⟩ = some (.int .i64 x1) := by rw [hW]; exact kfresh rfl rfl
  have y1 : W.cell? ⟨w.heap.size, 1, none⟩ = some (.int .i64 x2) := by rw [hW]; exact kfresh rfl rfl
  have y2 : W.cell? ⟨w.heap.size, 2, none⟩ = some (.int .i64 x3) := by rw [hW]; exact kfresh rfl rfl
  have hWb : Below w.heap.size w W := by rw [hW]; exact (Below.refl _ _).alloc (Nat.le_refl _) _
  have sW : w.heap.size < W.heap.size := by rw [hW]; simp
  go_upto_region 1 with fail
  rw [← hW]
  clear hW hk h0 h1 h2 h3 h4 hA0 hA1 hA2 hB0 hB1' hB2
  go_wp2_with fail
  refine Calls.mono (onClo_any p x1 x2 x3 q1 q2 q3 _ _ _ hp hx1 hx2 hx3 hq1 hq2 hq3 m0 m1 m2 m3) ?_
  rintro e w1 ⟨rfl, hB1⟩
  have s1 := hB1.size
  have n0 := (cell_back hB1 sW 0).trans y0
  have n1 := (cell_back hB1 sW 1).trans y1
  have n2 := (cell_back hB1 sW 2).trans y2
  have np := (cell_back hB1 (by omega) 0).trans mp
  have na0 := (cell_back hB1 (by omega) 0).trans u0
  have na1 := (cell_back hB1 (by omega) 1).trans u1
  have na2 := (cell_back hB1 (by omega) 2).trans u2
  have nb0 := (cell_back hB1 (by omega) 0).trans v0
  have nb1 := (cell_back hB1 (by omega) 1).trans v1
  have nb2 := (cell_back hB1 (by omega) 2).trans v2
  have hb1' : Below w.heap.size w w1 := bthen hWb hB1
  clear m0 m1 m2 m3 mk mp u0 u1 u2 v0 v1 v2 y0 y1 y2 hB1 hWb
  obtain ⟨bo, hbo⟩ : ∃ b, b = (ppd p x1 x2 x3 q1 q2 q3 == 0) := ⟨_, rfl⟩
  rw [← hbo]
  have HBO := Lib.hid hbo
  clear hbo
  cases bo
  · go_wp2
    (refine bodyPost_ret (v := .bool false) (by simp [results, Try.results49, go_sem]) rfl ⟨by rw [← HBO.out]; rfl, hb1'⟩)
  · go_wp2_with fail
    refine Calls.mono (heq_any p x1 x2 x3 a1 a2 a3 b1 b2 b3 _ hp hx1 hx2 hx3 ha1 ha2 ha3 hb1 hb2 hb3) ?_
    rintro e w2 ⟨rfl, hB2⟩
    go_wp2
    (refine bodyPost_ret (v := .bool (heB p x1 x2 x3 a1 a2 a3 b1 b2 b3)) (by simp [results, Try.results49, go_sem]) rfl ⟨by rw [← HBO.out]; rfl, bthen hb1' hB2⟩)

end Go.Proofs.Ytkkaicneabkkdaa
