/-
  The laws' own comparison, marks and look at slices of numbers: laws.eqInt64S, laws.markInt64S, laws.heldInt64S.
-/
import Derived.Test.YtmpgpmcmhbpjeaaRows
import Derived.Test.YtmpgpmcmhbpjeaaMgq0
import Derived.WalkKit
import Derived.LoopN
import Derived.Deep.QuietTactic
import Derived.BigQuiet
import Derived.Lib.Hide

namespace Go.Proofs.Ytmpgpmcmhbpjeaa
open Go.RowKit

set_option maxRecDepth 20000 in
set_option maxHeartbeats 400000 in
theorem eqInts_same {a b : Value} {n ba bb : Nat} {e : TypeId} {xs : List Int} {w : World} (ha : w.ownsRow ba e 1 a n (ints xs)) (hb : w.ownsRow bb e 1 b n (ints xs)) :
    Calls Try.prog 27 #[a, b] w fun e w' => e = .returned (.bool true) ∧ Below w.heap.size w w' := by
  rcases own_ways ha with ⟨rfl, ao, ac, rfl⟩ | ⟨h0, g, gc, rfl, hg1, hg2, hm⟩
  · rcases own_ways hb with ⟨_, bo, bc, rfl⟩ | ⟨h0, _⟩
    · clear ha hb
      go_enter Try.func27, Try.ntmps27
      go_wp2
      refine wp_loop_rounds 1 ?_
      rw [rounds_succ]
      go_wp2
      go_ret
      exact ⟨rfl, Below.refl _ _⟩
    · omega
  · rcases own_ways hb with ⟨rfl, _⟩ | ⟨_, k, kc, rfl, hk1, hk2, _⟩
    · omega
    · have hc1 : ∀ j, j < n → w.cell? ⟨g, j, none⟩ = some (.int .i64 (xs.getD j 0)) := fun j hj => own_cell ha (by omega)
      have hc2 : ∀ j, j < n → w.cell? ⟨k, j, none⟩ = some (.int .i64 (xs.getD j 0)) := fun j hj => own_cell hb (by omega)
      have HC1 := Lib.hid hc1
      have HC2 := Lib.hid hc2
      clear ha hb hc1 hc2
      go_enter Try.func27, Try.ntmps27
      go_wp2
      go_loopw [5] (fun i wr => ∃ j : Nat, j ≤ n ∧ i = .int .i64 j ∧ Below w.heap.size w wr) (fun i _ => n - (intOf i).toNat)
      case atStart => exact ⟨0, by omega, rfl, Below.refl _ _⟩
      case round =>
        obtain ⟨j, hj, rfl, hbel⟩ := hrel
        by_cases hlt : j < n
        · obtain ⟨x, hx⟩ : ∃ x, x = xs.getD j 0 := ⟨_, rfl⟩
          have c1 : wr.cell? ⟨g, j, none⟩ = some (.int .i64 x) := by rw [hx]; exact (cell_back hbel hg2 j).trans (HC1.out j hlt)
          have c2 : wr.cell? ⟨k, j, none⟩ = some (.int .i64 x) := by rw [hx]; exact (cell_back hbel hk2 j).trans (HC2.out j hlt)
          clear hx
          go_wp2
          go_quiet (fail)
          go_wp2
          go_roundw
          case rel => exact ⟨j + 1, by omega, by go_num, by (repeat (first | exact Below.refl _ _ | refine balloc ?_ _ | refine bdrewN ?_ _ | refine Below.drew ?_ | refine bthen ?_ hbel | refine Below.setCell ?_ (by first | (simp; done) | (simp; omega)) _))⟩
          case measure => simp [intOf]; omega
        · go_wp2
          go_ret
          exact ⟨rfl, hbel⟩

set_option maxRecDepth 20000 in
set_option maxHeartbeats 400000 in
theorem markInts_any {a : Value} {n m ba : Nat} {e : TypeId} {xs : List Int} {w : World} (ha : w.ownsRow ba e 1 a n (ints xs)) (hm : m ≤ 1000000) (hn : n ≤ 1000000) :
    Calls Try.prog 28 #[a, .int .i64 m] w fun e' w' => e' = .returned (.int .i64 ((m + n : Nat) : Int)) ∧ w'.ownsRow ba e 1 a n (ints (marks m n)) ∧ Below ba w w' := by
  have hl : xs.length = n := by have := ha.1; rw [ints_length] at this; omega
  rcases own_ways ha with ⟨rfl, ao, ac, rfl⟩ | ⟨h0, g, gc, rfl, hg1, hg2, _⟩
  · obtain rfl : xs = [] := List.length_eq_zero_iff.1 hl
    have HA := Lib.hid ha
    clear ha hl
    go_enter Try.func28, Try.ntmps28
    go_wp2
    refine wp_loop_rounds 1 ?_
    rw [rounds_succ]
    go_wp2
    go_ret
    exact ⟨rfl, HA.out, Below.refl _ _⟩
  · have HA := Lib.hid ha
    have HL := Lib.hid hl
    clear ha hl
    go_enter Try.func28, Try.ntmps28
    go_wp2
    go_loopw [1, 5] (fun v i wr => ∃ j : Nat, j ≤ n ∧ i = .int .i64 j ∧ v = .int .i64 ((m + j : Nat) : Int) ∧ wr.ownsRow ba e 1 (.slice (some ⟨g, 0, none⟩) n gc) n (ints (marks m j ++ xs.drop j)) ∧ Below ba w wr) (fun _ i _ => n - (intOf i).toNat)
    case atStart => exact ⟨0, by omega, rfl, by simp, by simpa [marks] using HA.out, Below.refl _ _⟩
    case round =>
      obtain ⟨j, hj, rfl, rfl, hown, hbel⟩ := hrel
      by_cases hlt : j < n
      · have hz := hown.frozenAt j
        have hc := own_cell hown (j := j) (by omega)
        have hst := hown.stored j (.int .i64 ((m + j : Nat) : Int))
        rw [marks_set (by have := HL.out; omega)] at hst
        have HO := Lib.hid hst.1
        have hB : Below ba w (wr.setCell ⟨g, j, none⟩ (.int .i64 ((m + j : Nat) : Int))) := hbel.setCell (by exact hg1) _
        have HB := Lib.hid hB
        clear hst hown hB
        rw [Int.natCast_add] at *
        go_wp2
        go_roundw
        case rel => exact ⟨j + 1, by omega, by go_num, by go_num, HO.out, HB.out⟩
        case measure => simp [intOf]; omega
      · obtain rfl : j = n := by omega
        have HO := Lib.hid (show wr.ownsRow ba e 1 (.slice (some ⟨g, 0, none⟩) j gc) j (ints (marks m j)) from by
          have := hown; rwa [List.drop_of_length_le (by have := HL.out; omega), List.append_nil] at this)
        clear hown
        go_wp2
        go_ret
        exact ⟨rfl, HO.out, hbel⟩

set_option maxRecDepth 20000 in
set_option maxHeartbeats 400000 in
theorem heldInts_any {a : Value} {n m ba : Nat} {e : TypeId} {w : World} (ha : w.ownsRow ba e 1 a n (ints (marks m n))) (hm : m ≤ 1000000) (hn : n ≤ 1000000) :
    Calls Try.prog 29 #[a, .int .i64 m] w fun e' w' => e' = .returned (.int .i64 ((m + n : Nat) : Int)) ∧ w = w' := by
  rcases own_ways ha with ⟨rfl, ao, ac, rfl⟩ | ⟨h0, g, gc, rfl, hg1, hg2, _⟩
  · clear ha
    go_enter Try.func29, Try.ntmps29
    go_wp2
    refine wp_loop_rounds 1 ?_
    rw [rounds_succ]
    go_wp2
    go_ret
    exact ⟨rfl, rfl⟩
  · have hc : ∀ j, j < n → w.cell? ⟨g, j, none⟩ = some (.int .i64 ((m : Int) + j)) := fun j hj => by
      rw [own_cell ha (by omega), marks_getD hj, Int.natCast_add]
    have HC := Lib.hid hc
    clear ha hc
    go_enter Try.func29, Try.ntmps29
    go_wp2
    go_loop [1, 5] (fun v i => ∃ j : Nat, j ≤ n ∧ i = .int .i64 j ∧ v = .int .i64 ((m : Int) + j)) (fun _ i => n - (intOf i).toNat)
    case atStart => exact ⟨0, by omega, rfl, by simp⟩
    case round =>
      obtain ⟨j, hj, rfl, rfl⟩ := hrel
      by_cases hlt : j < n
      · have c1 := HC.out j hlt
        go_wp2
        go_round
        case rel => exact ⟨j + 1, by omega, by go_num, by go_num⟩
        case measure => simp [intOf]; omega
      · obtain rfl : j = n := by omega
        go_wp2
        go_ret
        exact ⟨ret_int (by simp), rfl⟩

theorem markInts_1 {a : Value} {n ba : Nat} {e : TypeId} {xs : List Int} {w : World} (ha : w.ownsRow ba e 1 a n (ints xs)) (hn : n ≤ 1000000) :
    Calls Try.prog 28 #[a, .int .i64 1] w fun e' w' => e' = .returned (.int .i64 (1 + (n : Int))) ∧ w'.ownsRow ba e 1 a n (ints (marks 1 n)) ∧ Below ba w w' := by
  have h := markInts_any (m := 1) ha (by decide) hn
  rw [Int.natCast_add] at h
  exact h
theorem heldInts_1 {a : Value} {n ba : Nat} {e : TypeId} {w : World} (ha : w.ownsRow ba e 1 a n (ints (marks 1 n))) (hn : n ≤ 1000000) :
    Calls Try.prog 29 #[a, .int .i64 1] w fun e' w' => e' = .returned (.int .i64 (1 + (n : Int))) ∧ w = w' := by
  have h := heldInts_any (m := 1) ha (by decide) hn
  rw [Int.natCast_add] at h
  exact h

end Go.Proofs.Ytmpgpmcmhbpjeaa
