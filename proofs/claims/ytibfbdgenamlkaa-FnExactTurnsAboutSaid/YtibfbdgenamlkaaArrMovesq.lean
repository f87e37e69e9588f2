/-
  The laws' own comparison, marks and look at slices: laws.eqMoveS, laws.markMoveS, laws.heldMoveS.
-/
import Derived.Test.YtibfbdgenamlkaaRows
import Derived.Test.YtibfbdgenamlkaaMgq0
import Derived.Test.YtibfbdgenamlkaaFieldq
import Derived.Test.YtibfbdgenamlkaaArrMoveEq
import Derived.WalkKit
import Derived.LoopN
import Derived.Deep.RegionHeld3
import Derived.Deep.DeepCutAuto
import Derived.Lib.Hide

namespace Go.Proofs.Ytibfbdgenamlkaa
open Go.RowKit

set_option maxRecDepth 20000 in
set_option maxHeartbeats 1000000 in
theorem heldMoves_1 {a : Value} {n ba : Nat} {e : TypeId} {w : World} (ha : w.ownsRow ba e 6 a n (ints (marks 1 (n * 6)))) (hn : n ≤ 100000) :
    Calls Try.prog 13 #[a, .int .i64 1] w fun e' w' => e' = .returned (.int .i64 (1 + (n : Int) * 6)) ∧ w = w' := by
  rcases own_ways ha with ⟨rfl, ao, ac, rfl⟩ | ⟨h0, g, gc, rfl, hg1, hg2, _⟩
  · clear ha
    go_enter Try.func13, Try.ntmps13
    go_wp2
    refine wp_loop_rounds 1 ?_
    rw [rounds_succ]
    go_wp2
    go_ret
    exact ⟨rfl, rfl⟩
  · have hc : ∀ j, j < n * 6 → w.cell? ⟨g, j, none⟩ = some (.int .i64 (1 + (j : Int))) := fun j hj => by
      rw [own_cell ha (by omega), marks_getD hj, Int.natCast_add]; rfl
    have HC := Lib.hid hc
    clear ha hc
    go_enter Try.func13, Try.ntmps13
    go_wp2
    go_loop [1, 5, 6, 7] (fun v i _ _ => ∃ j : Nat, j ≤ n ∧ i = .int .i64 j ∧ v = .int .i64 (1 + ((j : Int) * 6))) (fun _ i _ _ => n - (intOf i).toNat)
    case atStart => exact ⟨0, by omega, rfl, by simp⟩
    case round =>
      obtain ⟨j, hj, rfl, rfl⟩ := hrel
      by_cases hlt : j < n
      · have c0 : w.cell? ⟨g, j * 6, none⟩ = some (.int .i64 (1 + (j : Int) * 6)) := by rw [HC.out (j * 6) (by omega)]; first | (simp; done) | (simp; omega)
        have c1 : w.cell? ⟨g, j * 6 + 1, none⟩ = some (.int .i64 (1 + (j : Int) * 6 + 1)) := by rw [HC.out (j * 6 + 1) (by omega)]; first | (simp; done) | (simp; omega)
        have c2 : w.cell? ⟨g, j * 6 + 2, none⟩ = some (.int .i64 (1 + (j : Int) * 6 + 1 + 1)) := by rw [HC.out (j * 6 + 2) (by omega)]; first | (simp; done) | (simp; omega)
        have c3 : w.cell? ⟨g, j * 6 + 3, none⟩ = some (.int .i64 (1 + (j : Int) * 6 + 1 + 1 + 1)) := by rw [HC.out (j * 6 + 3) (by omega)]; first | (simp; done) | (simp; omega)
        have c4 : w.cell? ⟨g, j * 6 + 4, none⟩ = some (.int .i64 (1 + (j : Int) * 6 + 1 + 1 + 1 + 1)) := by rw [HC.out (j * 6 + 4) (by omega)]; first | (simp; done) | (simp; omega)
        have c5 : w.cell? ⟨g, j * 6 + 5, none⟩ = some (.int .i64 (1 + (j : Int) * 6 + 1 + 1 + 1 + 1 + 1)) := by rw [HC.out (j * 6 + 5) (by omega)]; first | (simp; done) | (simp; omega)
        go_wp2
        refine wp_loop_rounds 5 ?_
        rw [rounds_succ]
        go_wp2
        rw [rounds_succ]
        go_wp2
        rw [rounds_succ]
        go_wp2
        rw [rounds_succ]
        go_wp2
        rw [rounds_succ]
        go_wp2
        refine wp_loop_rounds 3 ?_
        rw [rounds_succ]
        go_wp2
        rw [rounds_succ]
        go_wp2
        rw [rounds_succ]
        go_wp2
        go_round
        case rel => exact ⟨j + 1, by omega, by go_num, by go_num⟩
        case measure => simp [intOf]; omega
      · obtain rfl : j = n := by omega
        go_wp2
        go_ret
        exact ⟨rfl, rfl⟩

set_option maxRecDepth 20000 in
set_option maxHeartbeats 1000000 in
theorem markMoves_1 {a : Value} {n ba : Nat} {e : TypeId} {xs : List Int} {w : World} (ha : w.ownsRow ba e 6 a n (ints xs)) (hn : n ≤ 100000) :
    Calls Try.prog 12 #[a, .int .i64 1] w fun e' w' => e' = .returned (.int .i64 (1 + (n : Int) * 6)) ∧ w'.ownsRow ba e 6 a n (ints (marks 1 (n * 6))) ∧ Below ba w w' := by
  have hl : xs.length = n * 6 := by have := ha.1; rwa [ints_length] at this
  rcases own_ways ha with ⟨rfl, ao, ac, rfl⟩ | ⟨h0, g, gc, rfl, hg1, hg2, _⟩
  · obtain rfl : xs = [] := List.length_eq_zero_iff.1 (by omega)
    have HA := Lib.hid ha
    clear ha hl
    go_enter Try.func12, Try.ntmps12
    go_wp2
    refine wp_loop_rounds 1 ?_
    rw [rounds_succ]
    go_wp2
    go_ret
    exact ⟨rfl, by simpa [marks] using HA.out, Below.refl _ _⟩
  · have HA := Lib.hid ha
    have HL := Lib.hid hl
    clear ha hl
    go_enter Try.func12, Try.ntmps12
    go_wp2
    go_loopw [1, 5, 6, 7] (fun v i _ _ wr => ∃ j : Nat, j ≤ n ∧ i = .int .i64 j ∧ v = .int .i64 (1 + ((j : Int) * 6)) ∧ wr.ownsRow ba e 6 (.slice (some ⟨g, 0, none⟩) n gc) n (ints (marks 1 (j * 6) ++ xs.drop (j * 6))) ∧ Below ba w wr) (fun _ i _ _ _ => n - (intOf i).toNat)
    case atStart => exact ⟨0, by omega, rfl, by simp, by simpa [marks] using HA.out, Below.refl _ _⟩
    case round =>
      obtain ⟨j, hj, rfl, rfl, hown, hbel⟩ := hrel
      by_cases hlt : j < n
      · have hlen : j * 6 + 6 ≤ xs.length := by rw [HL.out]; omega
        have z0 := hown.frozenAt (j * 6)
        have c0 := own_cell hown (j := j * 6) (by omega)
        have z1 := hown.frozenAt (j * 6 + 1)
        have c1 := own_cell hown (j := j * 6 + 1) (by omega)
        have z2 := hown.frozenAt (j * 6 + 2)
        have c2 := own_cell hown (j := j * 6 + 2) (by omega)
        have z3 := hown.frozenAt (j * 6 + 3)
        have c3 := own_cell hown (j := j * 6 + 3) (by omega)
        have z4 := hown.frozenAt (j * 6 + 4)
        have c4 := own_cell hown (j := j * 6 + 4) (by omega)
        have z5 := hown.frozenAt (j * 6 + 5)
        have c5 := own_cell hown (j := j * 6 + 5) (by omega)
        have s0 := (hown.stored (j * 6) (.int .i64 ((1 + (j * 6) : Nat) : Int))).1
        rw [marks_set (by omega)] at s0
        have s1 := (s0.stored (j * 6 + 1) (.int .i64 ((1 + (j * 6 + 1) : Nat) : Int))).1
        rw [marks_set (by omega)] at s1
        have s2 := (s1.stored (j * 6 + 2) (.int .i64 ((1 + (j * 6 + 2) : Nat) : Int))).1
        rw [marks_set (by omega)] at s2
        have s3 := (s2.stored (j * 6 + 3) (.int .i64 ((1 + (j * 6 + 3) : Nat) : Int))).1
        rw [marks_set (by omega)] at s3
        have s4 := (s3.stored (j * 6 + 4) (.int .i64 ((1 + (j * 6 + 4) : Nat) : Int))).1
        rw [marks_set (by omega)] at s4
        have s5 := (s4.stored (j * 6 + 5) (.int .i64 ((1 + (j * 6 + 5) : Nat) : Int))).1
        rw [marks_set (by omega)] at s5
        have hB := ((((((hbel.setCell (p := ⟨g, j * 6, none⟩) hg1 (.int .i64 ((1 + (j * 6) : Nat) : Int))).setCell (p := ⟨g, j * 6 + 1, none⟩) hg1 (.int .i64 ((1 + (j * 6 + 1) : Nat) : Int))).setCell (p := ⟨g, j * 6 + 2, none⟩) hg1 (.int .i64 ((1 + (j * 6 + 2) : Nat) : Int))).setCell (p := ⟨g, j * 6 + 3, none⟩) hg1 (.int .i64 ((1 + (j * 6 + 3) : Nat) : Int))).setCell (p := ⟨g, j * 6 + 4, none⟩) hg1 (.int .i64 ((1 + (j * 6 + 4) : Nat) : Int))).setCell (p := ⟨g, j * 6 + 5, none⟩) hg1 (.int .i64 ((1 + (j * 6 + 5) : Nat) : Int)))
        rw [show ((1 + (j * 6) : Nat) : Int) = 1 + (j : Int) * 6 from by simp] at s0 s1 s2 s3 s4 s5 hB
        rw [show ((1 + (j * 6 + 1) : Nat) : Int) = 1 + (j : Int) * 6 + 1 from by simp; omega] at s1 s2 s3 s4 s5 hB
        rw [show ((1 + (j * 6 + 2) : Nat) : Int) = 1 + (j : Int) * 6 + 1 + 1 from by simp; omega] at s2 s3 s4 s5 hB
        rw [show ((1 + (j * 6 + 3) : Nat) : Int) = 1 + (j : Int) * 6 + 1 + 1 + 1 from by simp; omega] at s3 s4 s5 hB
        rw [show ((1 + (j * 6 + 4) : Nat) : Int) = 1 + (j : Int) * 6 + 1 + 1 + 1 + 1 from by simp; omega] at s4 s5 hB
        rw [show ((1 + (j * 6 + 5) : Nat) : Int) = 1 + (j : Int) * 6 + 1 + 1 + 1 + 1 + 1 from by simp; omega] at s5 hB
        have HO := Lib.hid s5
        have HB := Lib.hid hB
        clear hown hB s0 s1 s2 s3 s4 s5
        go_wp2
        refine wp_loop_rounds 5 ?_
        rw [rounds_succ]
        go_wp2
        rw [rounds_succ]
        go_wp2
        rw [rounds_succ]
        go_wp2
        rw [rounds_succ]
        go_wp2
        rw [rounds_succ]
        go_wp2
        refine wp_loop_rounds 3 ?_
        rw [rounds_succ]
        go_wp2
        rw [rounds_succ]
        go_wp2
        rw [rounds_succ]
        go_wp2
        go_roundw
        case rel => exact ⟨j + 1, by omega, by go_num, by go_num, by rw [Nat.add_mul]; exact HO.out, HB.out⟩
        case measure => simp [intOf]; omega
      · obtain rfl : j = n := by omega
        have HO := Lib.hid (show wr.ownsRow ba e 6 (.slice (some ⟨g, 0, none⟩) j gc) j (ints (marks 1 (j * 6))) from by
          have := hown; rwa [List.drop_of_length_le (by have := HL.out; omega), List.append_nil] at this)
        clear hown
        go_wp2
        go_ret
        exact ⟨rfl, HO.out, hbel⟩

set_option maxRecDepth 20000 in
set_option maxHeartbeats 1000000 in
theorem eqMoves_same {a b : Value} {n ba bb : Nat} {e : TypeId} {xs : List Int} {w : World} (ha : w.ownsRow ba e 6 a n (ints xs)) (hb : w.ownsRow bb e 6 b n (ints xs)) :
    Calls Try.prog 11 #[a, b] w fun e w' => e = .returned (.bool true) ∧ Below w.heap.size w w' := by
  rcases own_ways ha with ⟨rfl, ao, ac, rfl⟩ | ⟨h0, g, gc, rfl, hg1, hg2, hm⟩
  · rcases own_ways hb with ⟨_, bo, bc, rfl⟩ | ⟨h0, _⟩
    · clear ha hb
      go_enter Try.func11, Try.ntmps11
      go_wp2
      refine wp_loop_rounds 1 ?_
      rw [rounds_succ]
      go_wp2
      go_ret
      exact ⟨rfl, Below.refl _ _⟩
    · omega
  · rcases own_ways hb with ⟨rfl, _⟩ | ⟨_, k, kc, rfl, hk1, hk2, _⟩
    · omega
    · have hc1 : ∀ j, j < n * 6 → w.cell? ⟨g, j, none⟩ = some (.int .i64 (xs.getD j 0)) := fun j hj => own_cell ha hj
      have hc2 : ∀ j, j < n * 6 → w.cell? ⟨k, j, none⟩ = some (.int .i64 (xs.getD j 0)) := fun j hj => own_cell hb hj
      have HC1 := Lib.hid hc1
      have HC2 := Lib.hid hc2
      clear ha hb hc1 hc2
      go_enter Try.func11, Try.ntmps11
      go_wp2
      go_loopw [5] (fun i wr => ∃ j : Nat, j ≤ n ∧ i = .int .i64 j ∧ Below w.heap.size w wr) (fun i _ => n - (intOf i).toNat)
      case atStart => exact ⟨0, by omega, rfl, Below.refl _ _⟩
      case round =>
        obtain ⟨j, hj, rfl, hbel⟩ := hrel
        by_cases hlt : j < n
        · obtain ⟨x0, hx0⟩ : ∃ x, x = xs.getD (j * 6) 0 := ⟨_, rfl⟩
          have c0 : wr.cell? ⟨g, j * 6, none⟩ = some (.int .i64 x0) := by rw [hx0]; exact (cell_back hbel hg2 _).trans (HC1.out _ (by omega))
          have d0 : wr.cell? ⟨k, j * 6, none⟩ = some (.int .i64 x0) := by rw [hx0]; exact (cell_back hbel hk2 _).trans (HC2.out _ (by omega))
          clear hx0
          obtain ⟨x1, hx1⟩ : ∃ x, x = xs.getD (j * 6 + 1) 0 := ⟨_, rfl⟩
          have c1 : wr.cell? ⟨g, j * 6 + 1, none⟩ = some (.int .i64 x1) := by rw [hx1]; exact (cell_back hbel hg2 _).trans (HC1.out _ (by omega))
          have d1 : wr.cell? ⟨k, j * 6 + 1, none⟩ = some (.int .i64 x1) := by rw [hx1]; exact (cell_back hbel hk2 _).trans (HC2.out _ (by omega))
          clear hx1
          obtain ⟨x2, hx2⟩ : ∃ x, x = xs.getD (j * 6 + 2) 0 := ⟨_, rfl⟩
          have c2 : wr.cell? ⟨g, j * 6 + 2, none⟩ = some (.int .i64 x2) := by rw [hx2]; exact (cell_back hbel hg2 _).trans (HC1.out _ (by omega))
          have d2 : wr.cell? ⟨k, j * 6 + 2, none⟩ = some (.int .i64 x2) := by rw [hx2]; exact (cell_back hbel hk2 _).trans (HC2.out _ (by omega))
          clear hx2
          obtain ⟨x3, hx3⟩ : ∃ x, x = xs.getD (j * 6 + 3) 0 := ⟨_, rfl⟩
          have c3 : wr.cell? ⟨g, j * 6 + 3, none⟩ = some (.int .i64 x3) := by rw [hx3]; exact (cell_back hbel hg2 _).trans (HC1.out _ (by omega))
          have d3 : wr.cell? ⟨k, j * 6 + 3, none⟩ = some (.int .i64 x3) := by rw [hx3]; exact (cell_back hbel hk2 _).trans (HC2.out _ (by omega))
          clear hx3
          obtain ⟨x4, hx4⟩ : ∃ x, x = xs.getD (j * 6 + 4) 0 := ⟨_, rfl⟩
          have c4 : wr.cell? ⟨g, j * 6 + 4, none⟩ = some (.int .i64 x4) := by rw [hx4]; exact (cell_back hbel hg2 _).trans (HC1.out _ (by omega))
          have d4 : wr.cell? ⟨k, j * 6 + 4, none⟩ = some (.int .i64 x4) := by rw [hx4]; exact (cell_back hbel hk2 _).trans (HC2.out _ (by omega))
          clear hx4
          obtain ⟨x5, hx5⟩ : ∃ x, x = xs.getD (j * 6 + 5) 0 := ⟨_, rfl⟩
          have c5 : wr.cell? ⟨g, j * 6 + 5, none⟩ = some (.int .i64 x5) := by rw [hx5]; exact (cell_back hbel hg2 _).trans (HC1.out _ (by omega))
          have d5 : wr.cell? ⟨k, j * 6 + 5, none⟩ = some (.int .i64 x5) := by rw [hx5]; exact (cell_back hbel hk2 _).trans (HC2.out _ (by omega))
          clear hx5
          go_wp2_with fail
          (refine region_tail 8 (by kernel_rfl) (by kernel_rfl) ?_; simp only [List.take_succ_cons, List.take_zero, List.drop_succ_cons, List.drop_zero]; repeat still_step)
          refine wpStill_nil ?_
          (go_wp2_with fail; refine Calls.mono (eqMove_same _ _ _ _ _ _ _) ?_; rintro e w1 ⟨rfl, hB1⟩)
          go_wp2
          go_roundw
          case rel => exact ⟨j + 1, by omega, by go_num, by (repeat (first | exact Below.refl _ _ | refine balloc ?_ _ | refine bdrewN ?_ _ | refine Below.drew ?_ | refine bthen ?_ hbel | refine bthen ?_ hB1 | refine Below.setCell ?_ (by first | (simp; done) | (simp; omega)) _))⟩
          case measure => simp [intOf]; omega
        · go_wp2
          go_ret
          exact ⟨rfl, hbel⟩

end Go.Proofs.Ytibfbdgenamlkaa
