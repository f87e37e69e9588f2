/-
  The laws' own comparison, marks and look at slices: laws.eqPointS, laws.markPointS, laws.heldPointS.
-/
import Derived.Test.YtijmmagdkbnhdaaRows
import Derived.Test.YtijmmagdkbnhdaaSlice
import Derived.Test.YtijmmagdkbnhdaaField
import Derived.Test.YtijmmagdkbnhdaaArrPtEq
import Derived.WalkKit
import Derived.LoopN
import Derived.Deep.RegionHeld3
import Derived.Deep.DeepCutAuto
import Derived.Lib.Hide
namespace Go.Proofs.Ytijmmagdkbnhdaa
open Go.RowKit

set_option maxRecDepth 20000 in
set_option maxHeartbeats 1000000 in
theorem heldPoints_1 {a : Value} {n ba : Nat} {e : TypeId} {w : World} (ha : w.ownsRow ba e 2 a n (ints (marks 1 (n * 2)))) (hn : n ≤ 100000) :
    Calls Try.prog 31 #[a, .int .i64 1] w fun e' w' => e' = .returned (.int .i64 (1 + (n : Int) * 2)) ∧ w = w' := by
  rcases own_ways ha with ⟨rfl, ao, ac, rfl⟩ | ⟨h0, g, gc, rfl, hg1, hg2, _⟩
  · clear ha
    go_enter Try.func31, Try.ntmps31
    go_wp2
    refine wp_loop_rounds 1 ?_
    rw [rounds_succ]
    go_wp2
    go_ret
    exact ⟨rfl, rfl⟩
  · have hc : ∀ j, j < n * 2 → w.cell? ⟨g, j, none⟩ = some (.int .i64 (1 + (j : Int))) := fun j hj => by
      rw [own_cell ha (by omega), marks_getD hj, Int.natCast_add]; rfl
    have HC := Lib.hid hc
    clear ha hc
    go_enter Try.func31, Try.ntmps31
    go_wp2
    go_loop [1, 5, 6] (fun v i _ => ∃ j : Nat, j ≤ n ∧ i = .int .i64 j ∧ v = .int .i64 (1 + ((j : Int) * 2))) (fun _ i _ => n - (intOf i).toNat)
    case atStart => exact ⟨0, by omega, rfl, by simp⟩
    case round =>
      obtain ⟨j, hj, rfl, rfl⟩ := hrel
      by_cases hlt : j < n
      · have c0 : w.cell? ⟨g, j * 2, none⟩ = some (.int .i64 (1 + (j : Int) * 2)) := by rw [HC.out (j * 2) (by omega)]; first | (simp; done) | (simp; omega)
        have c1 : w.cell? ⟨g, j * 2 + 1, none⟩ = some (.int .i64 (1 + (j : Int) * 2 + 1)) := by rw [HC.out (j * 2 + 1) (by omega)]; first | (simp; done) | (simp; omega)
        go_wp2
        refine wp_loop_rounds 3 ?_
        rw [rounds_succ]
        go_wp2
        rw [rounds_succ]
        go_wp2
        rw [rounds_succ]
        go_wp2
        go_round
        case rel => exact ⟨j + 1, by omega, by go_num, by go_num⟩
        case measure => simp [intOf]; omega
      · obtain rfl : j = n := by omega
        go_wp2
        go_ret
        exact ⟨rfl, rfl⟩

set_option maxRecDepth 20000 in
set_option maxHeartbeats 1000000 in
theorem markPoints_1 {a : Value} {n ba : Nat} {e : TypeId} {xs : List Int} {w : World} (ha : w.ownsRow ba e 2 a n (ints xs)) (hn : n ≤ 100000) :
    Calls Try.prog 30 #[a, .int .i64 1] w fun e' w' => e' = .returned (.int .i64 (1 + (n : Int) * 2)) ∧ w'.ownsRow ba e 2 a n (ints (marks 1 (n * 2))) ∧ Below ba w w' := by
  have hl : xs.length = n * 2 := by have := ha.1; rwa [ints_length] at this
  rcases own_ways ha with ⟨rfl, ao, ac, rfl⟩ | ⟨h0, g, gc, rfl, hg1, hg2, _⟩
  · obtain rfl : xs = [] := List.length_eq_zero_iff.1 (by omega)
    have HA := Lib.hid ha
    clear ha hl
    go_enter Try.func30, Try.ntmps30
    go_wp2
    refine wp_loop_rounds 1 ?_
    rw [rounds_succ]
    go_wp2
    go_ret
    exact ⟨rfl, by simpa [marks] using HA.out, Below.refl _ _⟩
  · have HA := Lib.hid ha
    have HL := Lib.hid hl
    clear ha hl
    go_enter Try.func30, Try.ntmps30
    go_wp2
    go_loopw [1, 5, 6] (fun v i _ wr => ∃ j : Nat, j ≤ n ∧ i = .int .i64 j ∧ v = .int .i64 (1 + ((j : Int) * 2)) ∧ wr.ownsRow ba e 2 (.slice (some ⟨g, 0, none⟩) n gc) n (ints (marks 1 (j * 2) ++ xs.drop (j * 2))) ∧ Below ba w wr) (fun _ i _ _ => n - (intOf i).toNat)
    case atStart => exact ⟨0, by omega, rfl, by simp, by simpa [marks] using HA.out, Below.refl _ _⟩
    case round =>
      obtain ⟨j, hj, rfl, rfl, hown, hbel⟩ := hrel
      by_cases hlt : j < n
      · have hlen : j * 2 + 2 ≤ xs.length := by rw [HL.out]; omega
        have z0 := hown.frozenAt (j * 2)
        have c0 := own_cell hown (j := j * 2) (by omega)
        have z1 := hown.frozenAt (j * 2 + 1)
        have c1 := own_cell hown (j := j * 2 + 1) (by omega)
        have s0 := (hown.stored (j * 2) (.int .i64 ((1 + (j * 2) : Nat) : Int))).1
        rw [marks_set (by omega)] at s0
        have s1 := (s0.stored (j * 2 + 1) (.int .i64 ((1 + (j * 2 + 1) : Nat) : Int))).1
        rw [marks_set (by omega)] at s1
        have hB := ((hbel.setCell (p := ⟨g, j * 2, none⟩) hg1 (.int .i64 ((1 + (j * 2) : Nat) : Int))).setCell (p := ⟨g, j * 2 + 1, none⟩) hg1 (.int .i64 ((1 + (j * 2 + 1) : Nat) : Int)))
        rw [show ((1 + (j * 2) : Nat) : Int) = 1 + (j : Int) * 2 from by simp] at s0 s1 hB
        rw [show ((1 + (j * 2 + 1) : Nat) : Int) = 1 + (j : Int) * 2 + 1 from by simp; omega] at s1 hB
        have HO := Lib.hid s1
        have HB := Lib.hid hB
        clear hown hB s0 s1
        go_wp2
        refine wp_loop_rounds 3 ?_
        rw [rounds_succ]
        go_wp2
        rw [rounds_succ]
        go_wp2
        rw [rounds_succ]
        go_wp2
        go_roundw
        case rel => exact ⟨j + 1, by omega, by go_num, by go_num, by rw [Nat.add_mul]; exact HO.out, HB.out⟩
        case measure => simp [intOf]; omega
      · obtain rfl : j = n := by omega
        have HO := Lib.hid (show wr.ownsRow ba e 2 (.slice (some ⟨g, 0, none⟩) j gc) j (ints (marks 1 (j * 2))) from by
          have := hown; rwa [List.drop_of_length_le (by have := HL.out; omega), List.append_nil] at this)
        clear hown
        go_wp2
        go_ret
        exact ⟨rfl, HO.out, hbel⟩

set_option maxRecDepth 20000 in
set_option maxHeartbeats 1000000 in
theorem eqPoints_same {a b : Value} {n ba bb : Nat} {e : TypeId} {xs : List Int} {w : World} (ha : w.ownsRow ba e 2 a n (ints xs)) (hb : w.ownsRow bb e 2 b n (ints xs)) :
    Calls Try.prog 29 #[a, b] w fun e w' => e = .returned (.bool true) ∧ Below w.heap.size w w' := by
  rcases own_ways ha with ⟨rfl, ao, ac, rfl⟩ | ⟨h0, g, gc, rfl, hg1, hg2, hm⟩
  · rcases own_ways hb with ⟨_, bo, bc, rfl⟩ | ⟨h0, _⟩
    · clear ha hb
      go_enter Try.func29, Try.ntmps29
      go_wp2
      refine wp_loop_rounds 1 ?_
      rw [rounds_succ]
      go_wp2
      go_ret
      exact ⟨rfl, Below.refl _ _⟩
    · omega
  · rcases own_ways hb with ⟨rfl, _⟩ | ⟨_, k, kc, rfl, hk1, hk2, _⟩
    · omega
    · have hc1 : ∀ j, j < n * 2 → w.cell? ⟨g, j, none⟩ = some (.int .i64 (xs.getD j 0)) := fun j hj => own_cell ha hj
      have hc2 : ∀ j, j < n * 2 → w.cell? ⟨k, j, none⟩ = some (.int .i64 (xs.getD j 0)) := fun j hj => own_cell hb hj
      have HC1 := Lib.hid hc1
      have HC2 := Lib.hid hc2
      clear ha hb hc1 hc2
      go_enter Try.func29, Try.ntmps29
      go_wp2
      go_loopw [5] (fun i wr => ∃ j : Nat, j ≤ n ∧ i = .int .i64 j ∧ Below w.heap.size w wr) (fun i _ => n - (intOf i).toNat)
      case atStart => exact ⟨0, by omega, rfl, Below.refl _ _⟩
      case round =>
        obtain ⟨j, hj, rfl, hbel⟩ := hrel
        by_cases hlt : j < n
        · obtain ⟨x0, hx0⟩ : ∃ x, x = xs.getD (j * 2) 0 := ⟨_, rfl⟩
          have c0 : wr.cell? ⟨g, j * 2, none⟩ = some (.int .i64 x0) := by rw [hx0]; exact (cell_back hbel hg2 _).trans (HC1.out _ (by omega))
          have d0 : wr.cell? ⟨k, j * 2, none⟩ = some (.int .i64 x0) := by rw [hx0]; exact (cell_back hbel hk2 _).trans (HC2.out _ (by omega))
          clear hx0
          obtain ⟨x1, hx1⟩ : ∃ x, x = xs.getD (j * 2 + 1) 0 := ⟨_, rfl⟩
          have c1 : wr.cell? ⟨g, j * 2 + 1, none⟩ = some (.int .i64 x1) := by rw [hx1]; exact (cell_back hbel hg2 _).trans (HC1.out _ (by omega))
          have d1 : wr.cell? ⟨k, j * 2 + 1, none⟩ = some (.int .i64 x1) := by rw [hx1]; exact (cell_back hbel hk2 _).trans (HC2.out _ (by omega))
          clear hx1
          go_wp2_with fail
          (refine region_tail 8 (by kernel_rfl) (by kernel_rfl) ?_; simp only [List.take_succ_cons, List.take_zero, List.drop_succ_cons, List.drop_zero]; repeat still_step)
          refine wpStill_nil ?_
          (go_wp2_with fail; refine Calls.mono (eqPoint_same _ _ _) ?_; rintro e w1 ⟨rfl, hB1⟩)
          go_wp2
          go_roundw
          case rel => exact ⟨j + 1, by omega, by go_num, by (repeat (first | exact Below.refl _ _ | refine balloc ?_ _ | refine bdrewN ?_ _ | refine Below.drew ?_ | refine bthen ?_ hbel | refine bthen ?_ hB1 | refine Below.setCell ?_ (by first | (simp; done) | (simp; omega)) _))⟩
          case measure => simp [intOf]; omega
        · go_wp2
          go_ret
          exact ⟨rfl, hbel⟩

end Go.Proofs.Ytijmmagdkbnhdaa
