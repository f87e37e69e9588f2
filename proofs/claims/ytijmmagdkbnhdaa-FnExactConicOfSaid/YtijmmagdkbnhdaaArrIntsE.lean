/-
  The laws' own comparison of slices of numbers: laws.eqInt64S.
-/
import Derived.Test.YtijmmagdkbnhdaaRows
import Derived.Test.YtijmmagdkbnhdaaSlice
import Derived.Test.YtijmmagdkbnhdaaField
import Derived.WalkKit
import Derived.LoopN
import Derived.Deep.QuietTactic
import Derived.BigQuiet
import Derived.Lib.Hide
namespace Go.Proofs.Ytijmmagdkbnhdaa
open Go.RowKit

set_option maxRecDepth 20000 in
set_option maxHeartbeats 400000 in
set_option linter.unusedSimpArgs false in
theorem eqInts_same {a b : Value} {n ba bb : Nat} {e : TypeId} {xs : List Int} {w : World} (ha : w.ownsRow ba e 1 a n (ints xs)) (hb : w.ownsRow bb e 1 b n (ints xs)) :
    Calls Try.prog 26 #[a, b] w fun e w' => e = .returned (.bool true) ∧ Below w.heap.size w w' := by
  rcases own_ways ha with ⟨rfl, ao, ac, rfl⟩ | ⟨h0, g, gc, rfl, hg1, hg2, hm⟩
  · rcases own_ways hb with ⟨_, bo, bc, rfl⟩ | ⟨h0, _⟩
    · clear ha hb
      go_enter Try.func26, Try.ntmps26
      go_wp2
      refine wp_loop_rounds 1 ?_
      rw [rounds_succ]
      go_wp2
      go_ret
      exact ⟨rfl, Below.refl _ _⟩
    · omega
  · rcases own_ways hb with ⟨rfl, _⟩ | ⟨_, k, kc, rfl, hk1, hk2, _⟩
    · omega
    · have hc1 : ∀ j, j < n → w.cell? ⟨g, j, none⟩ = some (.int .i64 (xs.getD j 0)) := fun j hj => own_cell ha (by omega)
      have hc2 : ∀ j, j < n → w.cell? ⟨k, j, none⟩ = some (.int .i64 (xs.getD j 0)) := fun j hj => own_cell hb (by omega)
      have HC1 := Lib.hid hc1
      have HC2 := Lib.hid hc2
      clear ha hb hc1 hc2
      go_enter Try.func26, Try.ntmps26
      go_wp2
      go_loopw [5] (fun i wr => ∃ j : Nat, j ≤ n ∧ i = .int .i64 j ∧ Below w.heap.size w wr) (fun i _ => n - (intOf i).toNat)
      case atStart => exact ⟨0, by omega, rfl, Below.refl _ _⟩
      case round =>
        obtain ⟨j, hj, rfl, hbel⟩ := hrel
        by_cases hlt : j < n
        · obtain ⟨x, hx⟩ : ∃ x, x = xs.getD j 0 := ⟨_, rfl⟩
          have c1 : wr.cell? ⟨g, j, none⟩ = some (.int .i64 x) := by rw [hx]; exact (cell_back hbel hg2 j).trans (HC1.out j hlt)
          have c2 : wr.cell? ⟨k, j, none⟩ = some (.int .i64 x) := by rw [hx]; exact (cell_back hbel hk2 j).trans (HC2.out j hlt)
          clear hx
          go_wp2
          go_quiet (fail)
          go_wp2
          go_roundw
          case rel => exact ⟨j + 1, by omega, by go_num, by (repeat (first | exact Below.refl _ _ | refine balloc ?_ _ | refine bdrewN ?_ _ | refine Below.drew ?_ | refine bthen ?_ hbel | refine Below.setCell ?_ (by first | (simp; done) | (simp; omega)) _))⟩
          case measure => simp [intOf]; omega
        · go_wp2
          go_ret
          exact ⟨rfl, hbel⟩

end Go.Proofs.Ytijmmagdkbnhdaa
