/-
  impl.rowsOfPlaces: the rows of two places.
-/
import Derived.Test.YtkkaicneabkkdaaMgq0
import Derived.Test.YtkkaicneabkkdaaImplRowOfq
import Derived.Deep.DeepCutAuto

namespace Go.Proofs.Ytkkaicneabkkdaa
open Go.RowKit

set_option linter.unusedVariables false in
set_option linter.unusedSimpArgs false in
set_option maxRecDepth 20000 in
set_option maxHeartbeats 4000000 in
theorem rowsPl2_any (p a1 a2 a3 b1 b2 b3 : Int) (P : Nat) (w : World) (hP : P = w.heap.size) (hp : isP p = true) (ha1 : 0 ≤ a1 ∧ a1 ≤ 31) (ha2 : 0 ≤ a2 ∧ a2 ≤ 31) (ha3 : 0 ≤ a3 ∧ a3 ≤ 31) (hb1 : 0 ≤ b1 ∧ b1 ≤ 31) (hb2 : 0 ≤ b2 ∧ b2 ≤ 31) (hb3 : 0 ≤ b3 ∧ b3 ≤ 31) :
    Calls Try.prog 40 #[.int .i64 p, .slice (some ⟨P, 0, none⟩) 2 2] (w.alloc (.cells #[.int .i64 a1, .int .i64 a2, .int .i64 a3, .int .i64 b1, .int .i64 b2, .int .i64 b3] 23)) fun e w' => ∃ R B cap : Nat, e = .returned (.slice (some ⟨R, 0, none⟩) 2 cap) ∧ 2 ≤ cap ∧ w.heap.size ≤ R ∧ w.heap.size ≤ B ∧ LayM w' R B 2 3 (fun i => i * 3) (fun i j => ([a1, a2, -a3 % p, b1, b2, -b3 % p] : List Int).getD (i * 3 + j) 0) ∧ Below w.heap.size w w' := by
  subst hP
  have hr := isP_range hp
  obtain ⟨i0, hi, hz0, hz1, hz2⟩ := info_parts infoInt1
  obtain ⟨z0, hz0'⟩ : ∃ z : Int, z = -a3 % p := ⟨_, rfl⟩
  have HZ0 := Lib.hid hz0'
  obtain ⟨z1, hz1'⟩ : ∃ z : Int, z = -b3 % p := ⟨_, rfl⟩
  have HZ1 := Lib.hid hz1'
  rw [← hz0', ← hz1']
  clear hz0' hz1'
  have g0 : (w.alloc (.cells #[.int .i64 a1, .int .i64 a2, .int .i64 a3, .int .i64 b1, .int .i64 b2, .int .i64 b3] 23)).cell? ⟨w.heap.size, 0, none⟩ = some (.int .i64 a1) := kfresh rfl rfl
  have g1 : (w.alloc (.cells #[.int .i64 a1, .int .i64 a2, .int .i64 a3, .int .i64 b1, .int .i64 b2, .int .i64 b3] 23)).cell? ⟨w.heap.size, 1, none⟩ = some (.int .i64 a2) := kfresh rfl rfl
  have g2 : (w.alloc (.cells #[.int .i64 a1, .int .i64 a2, .int .i64 a3, .int .i64 b1, .int .i64 b2, .int .i64 b3] 23)).cell? ⟨w.heap.size, 2, none⟩ = some (.int .i64 a3) := kfresh rfl rfl
  have g3 : (w.alloc (.cells #[.int .i64 a1, .int .i64 a2, .int .i64 a3, .int .i64 b1, .int .i64 b2, .int .i64 b3] 23)).cell? ⟨w.heap.size, 3, none⟩ = some (.int .i64 b1) := kfresh rfl rfl
  have g4 : (w.alloc (.cells #[.int .i64 a1, .int .i64 a2, .int .i64 a3, .int .i64 b1, .int .i64 b2, .int .i64 b3] 23)).cell? ⟨w.heap.size, 4, none⟩ = some (.int .i64 b2) := kfresh rfl rfl
  have g5 : (w.alloc (.cells #[.int .i64 a1, .int .i64 a2, .int .i64 a3, .int .i64 b1, .int .i64 b2, .int .i64 b3] 23)).cell? ⟨w.heap.size, 5, none⟩ = some (.int .i64 b3) := kfresh rfl rfl
  have hWX0 : Below w.heap.size w (w.alloc (.cells #[.int .i64 a1, .int .i64 a2, .int .i64 a3, .int .i64 b1, .int .i64 b2, .int .i64 b3] 23)) := (Below.refl _ _).alloc (Nat.le_refl _) _
  have hsX : (w.alloc (.cells #[.int .i64 a1, .int .i64 a2, .int .i64 a3, .int .i64 b1, .int .i64 b2, .int .i64 b3] 23)).heap.size = w.heap.size + 1 := by simp
  obtain ⟨X0, hX0⟩ : ∃ X0, X0 = (w.alloc (.cells #[.int .i64 a1, .int .i64 a2, .int .i64 a3, .int .i64 b1, .int .i64 b2, .int .i64 b3] 23)) := ⟨_, rfl⟩
  rw [← hX0] at g0 g1 g2 g3 g4 g5 hWX0 hsX ⊢
  clear hX0
  have hlg : w.heap.size < X0.heap.size := by omega
  clear hsX
  have hown0 : X0.ownsRow X0.heap.size 2 1 (.slice none 0 0) 0 (ints []) := World.ownsRow_nil _ _ _ _
  have hP0 : Below X0.heap.size X0 X0 := Below.refl _ _
  go_enter Try.func40, Try.ntmps40
  go_wp2_with fail
  refine wp_loop_rounds 3 ?_
  rw [rounds_succ]
  have y0_0 : X0.cell? ⟨w.heap.size, 0, none⟩ = some (.int .i64 a1) := g0
  have y0_1 : X0.cell? ⟨w.heap.size, 1, none⟩ = some (.int .i64 a2) := g1
  have y0_2 : X0.cell? ⟨w.heap.size, 2, none⟩ = some (.int .i64 a3) := g2
  (go_wp2_with fail; refine Calls.mono (rowOf_any p a1 a2 a3 _ hp (by omega) (by omega) (by omega)) ?_; rw [← HZ0.out]; rintro e U0 ⟨rfl, hU0⟩)
  have hXU0 : Below X0.heap.size X0 U0 := by (repeat (first | with_reducible exact Below.refl _ _ | with_reducible exact hU0 | with_reducible refine balloc ?_ _ | with_reducible refine bdrewN ?_ _ | with_reducible refine Below.drew ?_ | with_reducible refine bthen ?_ (by with_reducible assumption) | with_reducible refine Below.setCell ?_ (by first | (simp; done) | (simp; omega)) _))
  have hXs0 := hXU0.size
  have ho0 := own_call hown0 hXU0
  go_wp2_with (at_builtin; refine wpList_append_own _ rfl _ _ 87 rfl X0.heap.size 2 i0 (.int .i64 0) 1 8 Try.underlying87 hi hz0 hz1 hz2 rfl (by decide) _ _ _ rfl (ho0.alloc _) ⟨U0.heap.size, 0, none⟩ 3 3 [.int .i64 a1, .int .i64 a2, .int .i64 z0] rfl rfl ?c1 ?c2 ?c3 ?c4 ?c5 ?_)
  case c1 =>
    intro j u hj
    match j, hj with
    | 0, hj => simp at hj; subst hj; exact kfresh (by simp) rfl
    | 1, hj => simp at hj; subst hj; exact kfresh (by simp) rfl
    | 2, hj => simp at hj; subst hj; exact kfresh (by simp) rfl
  case c2 => intro u hu; simp at hu; rcases hu with rfl | rfl | rfl <;> rfl
  case c3 => unfold maxLen; omega
  case c4 => omega
  case c5 => simp; omega
  intro zz0 X1 hown1 hgrow0 _
  have hP1 : Below X0.heap.size X0 X1 := Below.grown ((hP0.trans (hXU0.mono hP0.size)).alloc (by omega) _) hgrow0 (by simp; omega) (fun g' hg' => (ho0.lt g' hg').1)
  clear hgrow0
  have hsX1 := hP1.size
  go_wp2
  rw [rounds_succ]
  have y1_0 : X1.cell? ⟨w.heap.size, 3, none⟩ = some (.int .i64 b1) := (cell_old hP1 hlg 3).trans g3
  have y1_1 : X1.cell? ⟨w.heap.size, 4, none⟩ = some (.int .i64 b2) := (cell_old hP1 hlg 4).trans g4
  have y1_2 : X1.cell? ⟨w.heap.size, 5, none⟩ = some (.int .i64 b3) := (cell_old hP1 hlg 5).trans g5
  (go_wp2_with fail; refine Calls.mono (rowOf_any p b1 b2 b3 _ hp (by omega) (by omega) (by omega)) ?_; rw [← HZ1.out]; rintro e U1 ⟨rfl, hU1⟩)
  have hXU1 : Below X1.heap.size X1 U1 := by (repeat (first | with_reducible exact Below.refl _ _ | with_reducible exact hU1 | with_reducible refine balloc ?_ _ | with_reducible refine bdrewN ?_ _ | with_reducible refine Below.drew ?_ | with_reducible refine bthen ?_ (by with_reducible assumption) | with_reducible refine Below.setCell ?_ (by first | (simp; done) | (simp; omega)) _))
  have hXs1 := hXU1.size
  have ho1 := own_call hown1 hXU1
  go_wp2_with (at_builtin; refine wpList_append_own _ rfl _ _ 87 rfl X0.heap.size 2 i0 (.int .i64 0) 1 8 Try.underlying87 hi hz0 hz1 hz2 rfl (by decide) _ _ _ rfl (ho1.alloc _) ⟨U1.heap.size, 0, none⟩ 3 3 [.int .i64 b1, .int .i64 b2, .int .i64 z1] rfl rfl ?c1 ?c2 ?c3 ?c4 ?c5 ?_)
  case c1 =>
    intro j u hj
    match j, hj with
    | 0, hj => simp at hj; subst hj; exact kfresh (by simp) rfl
    | 1, hj => simp at hj; subst hj; exact kfresh (by simp) rfl
    | 2, hj => simp at hj; subst hj; exact kfresh (by simp) rfl
  case c2 => intro u hu; simp at hu; rcases hu with rfl | rfl | rfl <;> rfl
  case c3 => unfold maxLen; omega
  case c4 => omega
  case c5 => simp; omega
  intro zz1 X2 hown2 hgrow1 _
  have hP2 : Below X0.heap.size X0 X2 := Below.grown ((hP1.trans (hXU1.mono hP1.size)).alloc (by omega) _) hgrow1 (by simp; omega) (fun g' hg' => (ho1.lt g' hg').1)
  clear hgrow1
  have hsX2 := hP2.size
  go_wp2
  rw [rounds_succ]
  have hw' : X2.ownsRow X0.heap.size 2 1 zz1 (2 * 3) (ints [a1, a2, z0, b1, b2, z1]) := hown2
  rcases own_ways hw' with ⟨h0, _⟩ | ⟨_, T, cap0, rfl, hg1, hg2, _⟩
  · omega
  have hWk : Below w.heap.size w X2 := hWX0.trans (hP2.mono hWX0.size)
  have HW := Lib.hid hw'
  clear hw' hown2
  go_wp2_with fail
  refine Calls.mono (rowsOf3_any T cap0 2 X0.heap.size [a1, a2, z0, b1, b2, z1] _ HW.out (by decide) (by decide)) ?_
  rintro e w2 ⟨R, cap, rfl, hcap, hR, hL, hb⟩
  have HL2 := Lib.hid hL
  clear hL
  go_wp2
  (refine bodyPost_ret (v := .slice (some ⟨R, 0, none⟩) 2 cap) (by simp [results, Try.results40, go_sem]) rfl ⟨R, T, cap, rfl, hcap, by omega, by omega, HL2.out, bthen hWk hb⟩)

end Go.Proofs.Ytkkaicneabkkdaa
