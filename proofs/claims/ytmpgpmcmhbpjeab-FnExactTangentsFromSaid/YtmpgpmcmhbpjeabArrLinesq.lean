/-
  The laws' own comparison, marks and look at slices: laws.eqLineS, laws.markLineS, laws.heldLineS.
-/
import Derived.Test.YtmpgpmcmhbpjeabRows
import Derived.Test.YtmpgpmcmhbpjeabMgq0
import Derived.Test.YtmpgpmcmhbpjeabArrLnEqq
import Derived.WalkKit
import Derived.LoopN
import Derived.Deep.RegionHeld3
import Derived.Deep.DeepCutAuto
import Derived.Lib.Hide

namespace Go.Proofs.Ytmpgpmcmhbpjeab
open Go.RowKit

set_option maxRecDepth 20000 in
set_option maxHeartbeats 1000000 in
theorem heldLines_1 {a : Value} {n ba : Nat} {e : TypeId} {w : World} (ha : w.ownsRow ba e 3 a n (ints (marks 1 (n * 3)))) (hn : n ≤ 100000) :
    Calls Try.prog 12 #[a, .int .i64 1] w fun e' w' => e' = .returned (.int .i64 (1 + (n : Int) * 3)) ∧ w = w' := by
  rcases own_ways ha with ⟨rfl, ao, ac, rfl⟩ | ⟨h0, g, gc, rfl, hg1, hg2, _⟩
  · clear ha
    go_enter Try.func12, Try.ntmps12
    go_wp2
    refine wp_loop_rounds 1 ?_
    rw [rounds_succ]
    go_wp2
    go_ret
    exact ⟨rfl, rfl⟩
  · have hc : ∀ j, j < n * 3 → w.cell? ⟨g, j, none⟩ = some (.int .i64 (1 + (j : Int))) := fun j hj => by
      rw [own_cell ha (by omega), marks_getD hj, Int.natCast_add]; rfl
    have HC := Lib.hid hc
    clear ha hc
    go_enter Try.func12, Try.ntmps12
    go_wp2
    go_loop [1, 5, 6] (fun v i _ => ∃ j : Nat, j ≤ n ∧ i = .int .i64 j ∧ v = .int .i64 (1 + ((j : Int) * 3))) (fun _ i _ => n - (intOf i).toNat)
    case atStart => exact ⟨0, by omega, rfl, by simp⟩
    case round =>
      obtain ⟨j, hj, rfl, rfl⟩ := hrel
      by_cases hlt : j < n
      · have c0 : w.cell? ⟨g, j * 3, none⟩ = some (.int .i64 (1 + (j : Int) * 3)) := by rw [HC.out (j * 3) (by omega)]; first | (simp; done) | (simp; omega)
        have c1 : w.cell? ⟨g, j * 3 + 1, none⟩ = some (.int .i64 (1 + (j : Int) * 3 + 1)) := by rw [HC.out (j * 3 + 1) (by omega)]; first | (simp; done) | (simp; omega)
        have c2 : w.cell? ⟨g, j * 3 + 2, none⟩ = some (.int .i64 (1 + (j : Int) * 3 + 1 + 1)) := by rw [HC.out (j * 3 + 2) (by omega)]; first | (simp; done) | (simp; omega)
        go_wp2
        refine wp_loop_rounds 4 ?_
        rw [rounds_succ]
        go_wp2
        rw [rounds_succ]
        go_wp2
        rw [rounds_succ]
        go_wp2
        rw [rounds_succ]
        go_wp2
        go_round
        case rel => exact ⟨j + 1, by omega, by go_num, by go_num⟩
        case measure => simp [intOf]; omega
      · obtain rfl : j = n := by omega
        go_wp2
        go_ret
        exact ⟨rfl, rfl⟩

set_option maxRecDepth 20000 in
set_option maxHeartbeats 1000000 in
theorem markLines_1 {a : Value} {n ba : Nat} {e : TypeId} {xs : List Int} {w : World} (ha : w.ownsRow ba e 3 a n (ints xs)) (hn : n ≤ 100000) :
    Calls Try.prog 11 #[a, .int .i64 1] w fun e' w' => e' = .returned (.int .i64 (1 + (n : Int) * 3)) ∧ w'.ownsRow ba e 3 a n (ints (marks 1 (n * 3))) ∧ Below ba w w' := by
  have hl : xs.length = n * 3 := by have := ha.1; rwa [ints_length] at this
  rcases own_ways ha with ⟨rfl, ao, ac, rfl⟩ | ⟨h0, g, gc, rfl, hg1, hg2, _⟩
  · obtain rfl : xs = [] := List.length_eq_zero_iff.1 (by omega)
    have HA := Lib.hid ha
    clear ha hl
    go_enter Try.func11, Try.ntmps11
    go_wp2
    refine wp_loop_rounds 1 ?_
    rw [rounds_succ]
    go_wp2
    go_ret
    exact ⟨rfl, by simpa [marks] using HA.out, Below.refl _ _⟩
  · have HA := Lib.hid ha
    have HL := Lib.hid hl
    clear ha hl
    go_enter Try.func11, Try.ntmps11
    go_wp2
    go_loopw [1, 5, 6] (fun v i _ wr => ∃ j : Nat, j ≤ n ∧ i = .int .i64 j ∧ v = .int .i64 (1 + ((j : Int) * 3)) ∧ wr.ownsRow ba e 3 (.slice (some ⟨g, 0, none⟩) n gc) n (ints (marks 1 (j * 3) ++ xs.drop (j * 3))) ∧ Below ba w wr) (fun _ i _ _ => n - (intOf i).toNat)
    case atStart => exact ⟨0, by omega, rfl, by simp, by simpa [marks] using HA.out, Below.refl _ _⟩
    case round =>
      obtain ⟨j, hj, rfl, rfl, hown, hbel⟩ := hrel
      by_cases hlt : j < n
      · have hlen : j * 3 + 3 ≤ xs.length := by rw [HL.out]; omega
        have z0 := hown.frozenAt (j * 3)
        have c0 := own_cell hown (j := j * 3) (by omega)
        have z1 := hown.frozenAt (j * 3 + 1)
        have c1 := own_cell hown (j := j * 3 + 1) (by omega)
        have z2 := hown.frozenAt (j * 3 + 2)
        have c2 := own_cell hown (j := j * 3 + 2) (by omega)
        have s0 := (hown.stored (j * 3) (.int .i64 ((1 + (j * 3) : Nat) : Int))).1
        rw [marks_set (by omega)] at s0
        have s1 := (s0.stored (j * 3 + 1) (.int .i64 ((1 + (j * 3 + 1) : Nat) : Int))).1
        rw [marks_set (by omega)] at s1
        have s2 := (s1.stored (j * 3 + 2) (.int .i64 ((1 + (j * 3 + 2) : Nat) : Int))).1
        rw [marks_set (by omega)] at s2
        have hB := (((hbel.setCell (p := ⟨g, j * 3, none⟩) hg1 (.int .i64 ((1 + (j * 3) : Nat) : Int))).setCell (p := ⟨g, j * 3 + 1, none⟩) hg1 (.int .i64 ((1 + (j * 3 + 1) : Nat) : Int))).setCell (p := ⟨g, j * 3 + 2, none⟩) hg1 (.int .i64 ((1 + (j * 3 + 2) : Nat) : Int)))
        rw [show ((1 + (j * 3) : Nat) : Int) = 1 + (j : Int) * 3 from by simp] at s0 s1 s2 hB
        rw [show ((1 + (j * 3 + 1) : Nat) : Int) = 1 + (j : Int) * 3 + 1 from by simp; omega] at s1 s2 hB
        rw [show ((1 + (j * 3 + 2) : Nat) : Int) = 1 + (j : Int) * 3 + 1 + 1 from by simp; omega] at s2 hB
        have HO := Lib.hid s2
        have HB := Lib.hid hB
        clear hown hB s0 s1 s2
        go_wp2
        refine wp_loop_rounds 4 ?_
        rw [rounds_succ]
        go_wp2
        rw [rounds_succ]
        go_wp2
        rw [rounds_succ]
        go_wp2
        rw [rounds_succ]
        go_wp2
        go_roundw
        case rel => exact ⟨j + 1, by omega, by go_num, by go_num, by rw [Nat.add_mul]; exact HO.out, HB.out⟩
        case measure => simp [intOf]; omega
      · obtain rfl : j = n := by omega
        have HO := Lib.hid (show wr.ownsRow ba e 3 (.slice (some ⟨g, 0, none⟩) j gc) j (ints (marks 1 (j * 3))) from by
          have := hown; rwa [List.drop_of_length_le (by have := HL.out; omega), List.append_nil] at this)
        clear hown
        go_wp2
        go_ret
        exact ⟨rfl, HO.out, hbel⟩

set_option maxRecDepth 20000 in
set_option maxHeartbeats 1000000 in
theorem eqLines_same {a b : Value} {n ba bb : Nat} {e : TypeId} {xs : List Int} {w : World} (ha : w.ownsRow ba e 3 a n (ints xs)) (hb : w.ownsRow bb e 3 b n (ints xs)) :
    Calls Try.prog 10 #[a, b] w fun e w' => e = .returned (.bool true) ∧ Below w.heap.size w w' := by
  rcases own_ways ha with ⟨rfl, ao, ac, rfl⟩ | ⟨h0, g, gc, rfl, hg1, hg2, hm⟩
  · rcases own_ways hb with ⟨_, bo, bc, rfl⟩ | ⟨h0, _⟩
    · clear ha hb
      go_enter Try.func10, Try.ntmps10
      go_wp2
      refine wp_loop_rounds 1 ?_
      rw [rounds_succ]
      go_wp2
      go_ret
      exact ⟨rfl, Below.refl _ _⟩
    · omega
  · rcases own_ways hb with ⟨rfl, _⟩ | ⟨_, k, kc, rfl, hk1, hk2, _⟩
    · omega
    · have hc1 : ∀ j, j < n * 3 → w.cell? ⟨g, j, none⟩ = some (.int .i64 (xs.getD j 0)) := fun j hj => own_cell ha hj
      have hc2 : ∀ j, j < n * 3 → w.cell? ⟨k, j, none⟩ = some (.int .i64 (xs.getD j 0)) := fun j hj => own_cell hb hj
      have HC1 := Lib.hid hc1
      have HC2 := Lib.hid hc2
      clear ha hb hc1 hc2
      go_enter Try.func10, Try.ntmps10
      go_wp2
      go_loopw [5] (fun i wr => ∃ j : Nat, j ≤ n ∧ i = .int .i64 j ∧ Below w.heap.size w wr) (fun i _ => n - (intOf i).toNat)
      case atStart => exact ⟨0, by omega, rfl, Below.refl _ _⟩
      case round =>
        obtain ⟨j, hj, rfl, hbel⟩ := hrel
        by_cases hlt : j < n
        · obtain ⟨x0, hx0⟩ : ∃ x, x = xs.getD (j * 3) 0 := ⟨_, rfl⟩
          have c0 : wr.cell? ⟨g, j * 3, none⟩ = some (.int .i64 x0) := by rw [hx0]; exact (cell_back hbel hg2 _).trans (HC1.out _ (by omega))
          have d0 : wr.cell? ⟨k, j * 3, none⟩ = some (.int .i64 x0) := by rw [hx0]; exact (cell_back hbel hk2 _).trans (HC2.out _ (by omega))
          clear hx0
          obtain ⟨x1, hx1⟩ : ∃ x, x = xs.getD (j * 3 + 1) 0 := ⟨_, rfl⟩
          have c1 : wr.cell? ⟨g, j * 3 + 1, none⟩ = some (.int .i64 x1) := by rw [hx1]; exact (cell_back hbel hg2 _).trans (HC1.out _ (by omega))
          have d1 : wr.cell? ⟨k, j * 3 + 1, none⟩ = some (.int .i64 x1) := by rw [hx1]; exact (cell_back hbel hk2 _).trans (HC2.out _ (by omega))
          clear hx1
          obtain ⟨x2, hx2⟩ : ∃ x, x = xs.getD (j * 3 + 2) 0 := ⟨_, rfl⟩
          have c2 : wr.cell? ⟨g, j * 3 + 2, none⟩ = some (.int .i64 x2) := by rw [hx2]; exact (cell_back hbel hg2 _).trans (HC1.out _ (by omega))
          have d2 : wr.cell? ⟨k, j * 3 + 2, none⟩ = some (.int .i64 x2) := by rw [hx2]; exact (cell_back hbel hk2 _).trans (HC2.out _ (by omega))
          clear hx2
          go_wp2_with fail
          (refine region_tail 8 (by kernel_rfl) (by kernel_rfl) ?_; simp only [List.take_succ_cons, List.take_zero, List.drop_succ_cons, List.drop_zero]; repeat still_step)
          refine wpStill_nil ?_
          (go_wp2_with fail; refine Calls.mono (eqLine_same _ _ _ _) ?_; rintro e w1 ⟨rfl, hB1⟩)
          go_wp2
          go_roundw
          case rel => exact ⟨j + 1, by omega, by go_num, by (repeat (first | exact Below.refl _ _ | refine balloc ?_ _ | refine bdrewN ?_ _ | refine Below.drew ?_ | refine bthen ?_ hbel | refine bthen ?_ hB1 | refine Below.setCell ?_ (by first | (simp; done) | (simp; omega)) _))⟩
          case measure => simp [intOf]; omega
        · go_wp2
          go_ret
          exact ⟨rfl, hbel⟩

end Go.Proofs.Ytmpgpmcmhbpjeab
