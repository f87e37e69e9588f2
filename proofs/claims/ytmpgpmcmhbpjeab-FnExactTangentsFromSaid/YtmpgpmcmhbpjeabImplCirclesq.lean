/-
  Circles: impl.areCircles of one to three circles.
-/
import Derived.Test.YtmpgpmcmhbpjeabImplPtsq
import Derived.Test.YtmpgpmcmhbpjeabMgq0
import Derived.LoopN

namespace Go.Proofs.Ytmpgpmcmhbpjeab
open Go.RowKit

set_option maxRecDepth 20000 in
set_option maxHeartbeats 4000000 in
theorem implCircles1 (p a1 a2 a3 : Int) (b : Nat) (w : World) (hb : b = w.heap.size) :
    Calls Try.prog 27 #[.int .i64 p, .slice (some ⟨b, 0, none⟩) 1 1] (w.alloc (.cells #[.int .i64 a1, .int .i64 a2, .int .i64 a3] 30)) fun e w' => e = .returned (.bool (numsIn p [a1, a2, a3])) ∧ Below w.heap.size w w' := by
  subst hb
  cases g0 : numsIn p [a1, a2]
  · have HV := Lib.hid (show (numsIn p [a1, a2, a3]) = false by simp [numsApp21, g0])
    go_enter Try.func27, Try.ntmps27
    go_wp2
    refine wp_loop_rounds 2 ?_
    rw [rounds_succ]
    (go_wp2_with fail; refine Calls.mono (implPoints1 _ _ _ _ _ (by first | rfl | (simp; done))) ?_; rintro e w1 ⟨rfl, hB1⟩; obtain ⟨hB1c, hB1f⟩ := bcell hB1; have hB1s := hB1.size; (try simp at hB1s); (try have hB1q1 := Nat.lt_of_succ_le hB1s); (try have hB1q2 := Nat.lt_of_succ_lt hB1q1); (try have hB1q3 := Nat.lt_of_succ_lt hB1q2); (try have hB1zw0 : w.heap.size < w1.heap.size := (by omega)); (try have hB1zw1 : w.heap.size + 1 < w1.heap.size := (by omega)); (try have hB1zw2 : w.heap.size + 1 + 1 < w1.heap.size := (by omega)); (try have hB1zw3 : w.heap.size + 1 + 1 + 1 < w1.heap.size := (by omega)); (try have hB1zw4 : w.heap.size + 1 + 1 + 1 + 1 < w1.heap.size := (by omega)))
    have hs1 : w.heap.size < w1.heap.size := by first | omega | (have := hB1.size; simp at this; omega)
    have hc1 : ∀ j, w1.cell? ⟨w.heap.size, j, none⟩ = (w.alloc (.cells #[.int .i64 a1, .int .i64 a2, .int .i64 a3] 30)).cell? ⟨w.heap.size, j, none⟩ := fun j => (cell_back hB1 (by simp; omega) j).trans (by simp)
    go_wp2
    go_ret
    exact ⟨ret_bool (by first | exact HV.out.symm | rfl), by (repeat (first | exact Below.refl _ _ | refine balloc ?_ _ | refine bdrewN ?_ _ | refine Below.drew ?_ | refine bthen ?_ hB1 | refine Below.setCell ?_ (by first | (simp; done) | (simp; omega)) _))⟩
  · cases h0 : numsIn p [a3]
    · have HV := Lib.hid (show (numsIn p [a1, a2, a3]) = false by simp [numsApp21, g0, h0])
      go_enter Try.func27, Try.ntmps27
      go_wp2
      refine wp_loop_rounds 2 ?_
      rw [rounds_succ]
      (go_wp2_with fail; refine Calls.mono (implPoints1 _ _ _ _ _ (by first | rfl | (simp; done))) ?_; rintro e w1 ⟨rfl, hB1⟩; obtain ⟨hB1c, hB1f⟩ := bcell hB1; have hB1s := hB1.size; (try simp at hB1s); (try have hB1q1 := Nat.lt_of_succ_le hB1s); (try have hB1q2 := Nat.lt_of_succ_lt hB1q1); (try have hB1q3 := Nat.lt_of_succ_lt hB1q2); (try have hB1zw0 : w.heap.size < w1.heap.size := (by omega)); (try have hB1zw1 : w.heap.size + 1 < w1.heap.size := (by omega)); (try have hB1zw2 : w.heap.size + 1 + 1 < w1.heap.size := (by omega)); (try have hB1zw3 : w.heap.size + 1 + 1 + 1 < w1.heap.size := (by omega)); (try have hB1zw4 : w.heap.size + 1 + 1 + 1 + 1 < w1.heap.size := (by omega)))
      have hs1 : w.heap.size < w1.heap.size := by first | omega | (have := hB1.size; simp at this; omega)
      have hc1 : ∀ j, w1.cell? ⟨w.heap.size, j, none⟩ = (w.alloc (.cells #[.int .i64 a1, .int .i64 a2, .int .i64 a3] 30)).cell? ⟨w.heap.size, j, none⟩ := fun j => (cell_back hB1 (by simp; omega) j).trans (by simp)
      go_wp2_with (go_at_call 47; refine Calls.mono (areNums_any _ _ _ _ _ [a3] _ rfl (by simp) (by exact cells_at (by simp) [a3] _)) ?_; rintro e w' ⟨rfl, rfl⟩)
      go_ret
      exact ⟨ret_bool (by first | exact HV.out.symm | rfl), by (repeat (first | exact Below.refl _ _ | refine balloc ?_ _ | refine bdrewN ?_ _ | refine Below.drew ?_ | refine bthen ?_ hB1 | refine Below.setCell ?_ (by first | (simp; done) | (simp; omega)) _))⟩
    · have HV := Lib.hid (show (numsIn p [a1, a2, a3]) = true by simp [numsApp21, g0, h0])
      go_enter Try.func27, Try.ntmps27
      go_wp2
      refine wp_loop_rounds 2 ?_
      rw [rounds_succ]
      (go_wp2_with fail; refine Calls.mono (implPoints1 _ _ _ _ _ (by first | rfl | (simp; done))) ?_; rintro e w1 ⟨rfl, hB1⟩; obtain ⟨hB1c, hB1f⟩ := bcell hB1; have hB1s := hB1.size; (try simp at hB1s); (try have hB1q1 := Nat.lt_of_succ_le hB1s); (try have hB1q2 := Nat.lt_of_succ_lt hB1q1); (try have hB1q3 := Nat.lt_of_succ_lt hB1q2); (try have hB1zw0 : w.heap.size < w1.heap.size := (by omega)); (try have hB1zw1 : w.heap.size + 1 < w1.heap.size := (by omega)); (try have hB1zw2 : w.heap.size + 1 + 1 < w1.heap.size := (by omega)); (try have hB1zw3 : w.heap.size + 1 + 1 + 1 < w1.heap.size := (by omega)); (try have hB1zw4 : w.heap.size + 1 + 1 + 1 + 1 < w1.heap.size := (by omega)))
      have hs1 : w.heap.size < w1.heap.size := by first | omega | (have := hB1.size; simp at this; omega)
      have hc1 : ∀ j, w1.cell? ⟨w.heap.size, j, none⟩ = (w.alloc (.cells #[.int .i64 a1, .int .i64 a2, .int .i64 a3] 30)).cell? ⟨w.heap.size, j, none⟩ := fun j => (cell_back hB1 (by simp; omega) j).trans (by simp)
      go_wp2_with (go_at_call 47; refine Calls.mono (areNums_any _ _ _ _ _ [a3] _ rfl (by simp) (by exact cells_at (by simp) [a3] _)) ?_; rintro e w' ⟨rfl, rfl⟩)
      rw [rounds_succ]
      go_wp2
      go_ret
      exact ⟨ret_bool (by first | exact HV.out.symm | rfl), by (repeat (first | exact Below.refl _ _ | refine balloc ?_ _ | refine bdrewN ?_ _ | refine Below.drew ?_ | refine bthen ?_ hB1 | refine Below.setCell ?_ (by first | (simp; done) | (simp; omega)) _))⟩

set_option maxRecDepth 20000 in
set_option maxHeartbeats 4000000 in
theorem implCircles2 (p a1 a2 a3 b1 b2 b3 : Int) (b : Nat) (w : World) (hb : b = w.heap.size) :
    Calls Try.prog 27 #[.int .i64 p, .slice (some ⟨b, 0, none⟩) 2 2] (w.alloc (.cells #[.int .i64 a1, .int .i64 a2, .int .i64 a3, .int .i64 b1, .int .i64 b2, .int .i64 b3] 30)) fun e w' => e = .returned (.bool (numsIn p [a1, a2, a3] && numsIn p [b1, b2, b3])) ∧ Below w.heap.size w w' := by
  subst hb
  cases g0 : numsIn p [a1, a2]
  · have HV := Lib.hid (show (numsIn p [a1, a2, a3] && numsIn p [b1, b2, b3]) = false by simp [numsApp21, g0])
    go_enter Try.func27, Try.ntmps27
    go_wp2
    refine wp_loop_rounds 3 ?_
    rw [rounds_succ]
    (go_wp2_with fail; refine Calls.mono (implPoints1 _ _ _ _ _ (by first | rfl | (simp; done))) ?_; rintro e w1 ⟨rfl, hB1⟩; obtain ⟨hB1c, hB1f⟩ := bcell hB1; have hB1s := hB1.size; (try simp at hB1s); (try have hB1q1 := Nat.lt_of_succ_le hB1s); (try have hB1q2 := Nat.lt_of_succ_lt hB1q1); (try have hB1q3 := Nat.lt_of_succ_lt hB1q2); (try have hB1zw0 : w.heap.size < w1.heap.size := (by omega)); (try have hB1zw1 : w.heap.size + 1 < w1.heap.size := (by omega)); (try have hB1zw2 : w.heap.size + 1 + 1 < w1.heap.size := (by omega)); (try have hB1zw3 : w.heap.size + 1 + 1 + 1 < w1.heap.size := (by omega)); (try have hB1zw4 : w.heap.size + 1 + 1 + 1 + 1 < w1.heap.size := (by omega)))
    have hs1 : w.heap.size < w1.heap.size := by first | omega | (have := hB1.size; simp at this; omega)
    have hc1 : ∀ j, w1.cell? ⟨w.heap.size, j, none⟩ = (w.alloc (.cells #[.int .i64 a1, .int .i64 a2, .int .i64 a3, .int .i64 b1, .int .i64 b2, .int .i64 b3] 30)).cell? ⟨w.heap.size, j, none⟩ := fun j => (cell_back hB1 (by simp; omega) j).trans (by simp)
    go_wp2
    go_ret
    exact ⟨ret_bool (by first | exact HV.out.symm | rfl), by (repeat (first | exact Below.refl _ _ | refine balloc ?_ _ | refine bdrewN ?_ _ | refine Below.drew ?_ | refine bthen ?_ hB1 | refine Below.setCell ?_ (by first | (simp; done) | (simp; omega)) _))⟩
  · cases h0 : numsIn p [a3]
    · have HV := Lib.hid (show (numsIn p [a1, a2, a3] && numsIn p [b1, b2, b3]) = false by simp [numsApp21, g0, h0])
      go_enter Try.func27, Try.ntmps27
      go_wp2
      refine wp_loop_rounds 3 ?_
      rw [rounds_succ]
      (go_wp2_with fail; refine Calls.mono (implPoints1 _ _ _ _ _ (by first | rfl | (simp; done))) ?_; rintro e w1 ⟨rfl, hB1⟩; obtain ⟨hB1c, hB1f⟩ := bcell hB1; have hB1s := hB1.size; (try simp at hB1s); (try have hB1q1 := Nat.lt_of_succ_le hB1s); (try have hB1q2 := Nat.lt_of_succ_lt hB1q1); (try have hB1q3 := Nat.lt_of_succ_lt hB1q2); (try have hB1zw0 : w.heap.size < w1.heap.size := (by omega)); (try have hB1zw1 : w.heap.size + 1 < w1.heap.size := (by omega)); (try have hB1zw2 : w.heap.size + 1 + 1 < w1.heap.size := (by omega)); (try have hB1zw3 : w.heap.size + 1 + 1 + 1 < w1.heap.size := (by omega)); (try have hB1zw4 : w.heap.size + 1 + 1 + 1 + 1 < w1.heap.size := (by omega)))
      have hs1 : w.heap.size < w1.heap.size := by first | omega | (have := hB1.size; simp at this; omega)
      have hc1 : ∀ j, w1.cell? ⟨w.heap.size, j, none⟩ = (w.alloc (.cells #[.int .i64 a1, .int .i64 a2, .int .i64 a3, .int .i64 b1, .int .i64 b2, .int .i64 b3] 30)).cell? ⟨w.heap.size, j, none⟩ := fun j => (cell_back hB1 (by simp; omega) j).trans (by simp)
      go_wp2_with (go_at_call 47; refine Calls.mono (areNums_any _ _ _ _ _ [a3] _ rfl (by simp) (by exact cells_at (by simp) [a3] _)) ?_; rintro e w' ⟨rfl, rfl⟩)
      go_ret
      exact ⟨ret_bool (by first | exact HV.out.symm | rfl), by (repeat (first | exact Below.refl _ _ | refine balloc ?_ _ | refine bdrewN ?_ _ | refine Below.drew ?_ | refine bthen ?_ hB1 | refine Below.setCell ?_ (by first | (simp; done) | (simp; omega)) _))⟩
    · cases g1 : numsIn p [b1, b2]
      · have HV := Lib.hid (show (numsIn p [a1, a2, a3] && numsIn p [b1, b2, b3]) = false by simp [numsApp21, g0, h0, g1])
        go_enter Try.func27, Try.ntmps27
        go_wp2
        refine wp_loop_rounds 3 ?_
        rw [rounds_succ]
        (go_wp2_with fail; refine Calls.mono (implPoints1 _ _ _ _ _ (by first | rfl | (simp; done))) ?_; rintro e w1 ⟨rfl, hB1⟩; obtain ⟨hB1c, hB1f⟩ := bcell hB1; have hB1s := hB1.size; (try simp at hB1s); (try have hB1q1 := Nat.lt_of_succ_le hB1s); (try have hB1q2 := Nat.lt_of_succ_lt hB1q1); (try have hB1q3 := Nat.lt_of_succ_lt hB1q2); (try have hB1zw0 : w.heap.size < w1.heap.size := (by omega)); (try have hB1zw1 : w.heap.size + 1 < w1.heap.size := (by omega)); (try have hB1zw2 : w.heap.size + 1 + 1 < w1.heap.size := (by omega)); (try have hB1zw3 : w.heap.size + 1 + 1 + 1 < w1.heap.size := (by omega)); (try have hB1zw4 : w.heap.size + 1 + 1 + 1 + 1 < w1.heap.size := (by omega)))
        have hs1 : w.heap.size < w1.heap.size := by first | omega | (have := hB1.size; simp at this; omega)
        have hc1 : ∀ j, w1.cell? ⟨w.heap.size, j, none⟩ = (w.alloc (.cells #[.int .i64 a1, .int .i64 a2, .int .i64 a3, .int .i64 b1, .int .i64 b2, .int .i64 b3] 30)).cell? ⟨w.heap.size, j, none⟩ := fun j => (cell_back hB1 (by simp; omega) j).trans (by simp)
        go_wp2_with (go_at_call 47; refine Calls.mono (areNums_any _ _ _ _ _ [a3] _ rfl (by simp) (by exact cells_at (by simp) [a3] _)) ?_; rintro e w' ⟨rfl, rfl⟩)
        rw [rounds_succ]
        (go_wp2_with fail; refine Calls.mono (implPoints1 _ _ _ _ _ (by first | rfl | (simp; done))) ?_; rintro e w2 ⟨rfl, hB2⟩; obtain ⟨hB2c, hB2f⟩ := bcell hB2; have hB2s := hB2.size; (try simp at hB2s); (try have hB2q1 := Nat.lt_of_succ_le hB2s); (try have hB2q2 := Nat.lt_of_succ_lt hB2q1); (try have hB2q3 := Nat.lt_of_succ_lt hB2q2); (try have hB2zw0 : w.heap.size < w2.heap.size := (by omega)); (try have hB2zw1 : w.heap.size + 1 < w2.heap.size := (by omega)); (try have hB2zw2 : w.heap.size + 1 + 1 < w2.heap.size := (by omega)); (try have hB2zw3 : w.heap.size + 1 + 1 + 1 < w2.heap.size := (by omega)); (try have hB2zw4 : w.heap.size + 1 + 1 + 1 + 1 < w2.heap.size := (by omega)); (try have hB2zw10 : w1.heap.size < w2.heap.size := (by omega)); (try have hB2zw11 : w1.heap.size + 1 < w2.heap.size := (by omega)); (try have hB2zw12 : w1.heap.size + 1 + 1 < w2.heap.size := (by omega)); (try have hB2zw13 : w1.heap.size + 1 + 1 + 1 < w2.heap.size := (by omega)); (try have hB2zw14 : w1.heap.size + 1 + 1 + 1 + 1 < w2.heap.size := (by omega)))
        have hs2 : w.heap.size < w2.heap.size := by first | omega | (have := hB2.size; simp at this; omega)
        have hc2 : ∀ j, w2.cell? ⟨w.heap.size, j, none⟩ = (w.alloc (.cells #[.int .i64 a1, .int .i64 a2, .int .i64 a3, .int .i64 b1, .int .i64 b2, .int .i64 b3] 30)).cell? ⟨w.heap.size, j, none⟩ := fun j => (cell_back hB2 (by simp; omega) j).trans (by (repeat (refine (calloc _ (by first | omega | (simp; omega))).trans ?_)); exact hc1 j)
        go_wp2
        go_ret
        exact ⟨ret_bool (by first | exact HV.out.symm | rfl), by (repeat (first | exact Below.refl _ _ | refine balloc ?_ _ | refine bdrewN ?_ _ | refine Below.drew ?_ | refine bthen ?_ hB1 | refine bthen ?_ hB2 | refine Below.setCell ?_ (by first | (simp; done) | (simp; omega)) _))⟩
      · cases h1 : numsIn p [b3]
        · have HV := Lib.hid (show (numsIn p [a1, a2, a3] && numsIn p [b1, b2, b3]) = false by simp [numsApp21, g0, h0, g1, h1])
          go_enter Try.func27, Try.ntmps27
          go_wp2
          refine wp_loop_rounds 3 ?_
          rw [rounds_succ]
          (go_wp2_with fail; refine Calls.mono (implPoints1 _ _ _ _ _ (by first | rfl | (simp; done))) ?_; rintro e w1 ⟨rfl, hB1⟩; obtain ⟨hB1c, hB1f⟩ := bcell hB1; have hB1s := hB1.size; (try simp at hB1s); (try have hB1q1 := Nat.lt_of_succ_le hB1s); (try have hB1q2 := Nat.lt_of_succ_lt hB1q1); (try have hB1q3 := Nat.lt_of_succ_lt hB1q2); (try have hB1zw0 : w.heap.size < w1.heap.size := (by omega)); (try have hB1zw1 : w.heap.size + 1 < w1.heap.size := (by omega)); (try have hB1zw2 : w.heap.size + 1 + 1 < w1.heap.size := (by omega)); (try have hB1zw3 : w.heap.size + 1 + 1 + 1 < w1.heap.size := (by omega)); (try have hB1zw4 : w.heap.size + 1 + 1 + 1 + 1 < w1.heap.size := (by omega)))
          have hs1 : w.heap.size < w1.heap.size := by first | omega | (have := hB1.size; simp at this; omega)
          have hc1 : ∀ j, w1.cell? ⟨w.heap.size, j, none⟩ = (w.alloc (.cells #[.int .i64 a1, .int .i64 a2, .int .i64 a3, .int .i64 b1, .int .i64 b2, .int .i64 b3] 30)).cell? ⟨w.heap.size, j, none⟩ := fun j => (cell_back hB1 (by simp; omega) j).trans (by simp)
          go_wp2_with (go_at_call 47; refine Calls.mono (areNums_any _ _ _ _ _ [a3] _ rfl (by simp) (by exact cells_at (by simp) [a3] _)) ?_; rintro e w' ⟨rfl, rfl⟩)
          rw [rounds_succ]
          (go_wp2_with fail; refine Calls.mono (implPoints1 _ _ _ _ _ (by first | rfl | (simp; done))) ?_; rintro e w2 ⟨rfl, hB2⟩; obtain ⟨hB2c, hB2f⟩ := bcell hB2; have hB2s := hB2.size; (try simp at hB2s); (try have hB2q1 := Nat.lt_of_succ_le hB2s); (try have hB2q2 := Nat.lt_of_succ_lt hB2q1); (try have hB2q3 := Nat.lt_of_succ_lt hB2q2); (try have hB2zw0 : w.heap.size < w2.heap.size := (by omega)); (try have hB2zw1 : w.heap.size + 1 < w2.heap.size := (by omega)); (try have hB2zw2 : w.heap.size + 1 + 1 < w2.heap.size := (by omega)); (try have hB2zw3 : w.heap.size + 1 + 1 + 1 < w2.heap.size := (by omega)); (try have hB2zw4 : w.heap.size + 1 + 1 + 1 + 1 < w2.heap.size := (by omega)); (try have hB2zw10 : w1.heap.size < w2.heap.size := (by omega)); (try have hB2zw11 : w1.heap.size + 1 < w2.heap.size := (by omega)); (try have hB2zw12 : w1.heap.size + 1 + 1 < w2.heap.size := (by omega)); (try have hB2zw13 : w1.heap.size + 1 + 1 + 1 < w2.heap.size := (by omega)); (try have hB2zw14 : w1.heap.size + 1 + 1 + 1 + 1 < w2.heap.size := (by omega)))
          have hs2 : w.heap.size < w2.heap.size := by first | omega | (have := hB2.size; simp at this; omega)
          have hc2 : ∀ j, w2.cell? ⟨w.heap.size, j, none⟩ = (w.alloc (.cells #[.int .i64 a1, .int .i64 a2, .int .i64 a3, .int .i64 b1, .int .i64 b2, .int .i64 b3] 30)).cell? ⟨w.heap.size, j, none⟩ := fun j => (cell_back hB2 (by simp; omega) j).trans (by (repeat (refine (calloc _ (by first | omega | (simp; omega))).trans ?_)); exact hc1 j)
          go_wp2_with (go_at_call 47; refine Calls.mono (areNums_any _ _ _ _ _ [b3] _ rfl (by simp) (by exact cells_at (by simp) [b3] _)) ?_; rintro e w' ⟨rfl, rfl⟩)
          go_ret
          exact ⟨ret_bool (by first | exact HV.out.symm | rfl), by (repeat (first | exact Below.refl _ _ | refine balloc ?_ _ | refine bdrewN ?_ _ | refine Below.drew ?_ | refine bthen ?_ hB1 | refine bthen ?_ hB2 | refine Below.setCell ?_ (by first | (simp; done) | (simp; omega)) _))⟩
        · have HV := Lib.hid (show (numsIn p [a1, a2, a3] && numsIn p [b1, b2, b3]) = true by simp [numsApp21, g0, h0, g1, h1])
          go_enter Try.func27, Try.ntmps27
          go_wp2
          refine wp_loop_rounds 3 ?_
          rw [rounds_succ]
          (go_wp2_with fail; refine Calls.mono (implPoints1 _ _ _ _ _ (by first | rfl | (simp; done))) ?_; rintro e w1 ⟨rfl, hB1⟩; obtain ⟨hB1c, hB1f⟩ := bcell hB1; have hB1s := hB1.size; (try simp at hB1s); (try have hB1q1 := Nat.lt_of_succ_le hB1s); (try have hB1q2 := Nat.lt_of_succ_lt hB1q1); (try have hB1q3 := Nat.lt_of_succ_lt hB1q2); (try have hB1zw0 : w.heap.size < w1.heap.size := (by omega)); (try have hB1zw1 : w.heap.size + 1 < w1.heap.size := (by omega)); (try have hB1zw2 : w.heap.size + 1 + 1 < w1.heap.size := (by omega)); (try have hB1zw3 : w.heap.size + 1 + 1 + 1 < w1.heap.size := (by omega)); (try have hB1zw4 : w.heap.size + 1 + 1 + 1 + 1 < w1.heap.size := (by omega)))
          have hs1 : w.heap.size < w1.heap.size := by first | omega | (have := hB1.size; simp at this; omega)
          have hc1 : ∀ j, w1.cell? ⟨w.heap.size, j, none⟩ = (w.alloc (.cells #[.int .i64 a1, .int .i64 a2, .int .i64 a3, .int .i64 b1, .int .i64 b2, .int .i64 b3] 30)).cell? ⟨w.heap.size, j, none⟩ := fun j => (cell_back hB1 (by simp; omega) j).trans (by simp)
          go_wp2_with (go_at_call 47; refine Calls.mono (areNums_any _ _ _ _ _ [a3] _ rfl (by simp) (by exact cells_at (by simp) [a3] _)) ?_; rintro e w' ⟨rfl, rfl⟩)
          rw [rounds_succ]
          (go_wp2_with fail; refine Calls.mono (implPoints1 _ _ _ _ _ (by first | rfl | (simp; done))) ?_; rintro e w2 ⟨rfl, hB2⟩; obtain ⟨hB2c, hB2f⟩ := bcell hB2; have hB2s := hB2.size; (try simp at hB2s); (try have hB2q1 := Nat.lt_of_succ_le hB2s); (try have hB2q2 := Nat.lt_of_succ_lt hB2q1); (try have hB2q3 := Nat.lt_of_succ_lt hB2q2); (try have hB2zw0 : w.heap.size < w2.heap.size := (by omega)); (try have hB2zw1 : w.heap.size + 1 < w2.heap.size := (by omega)); (try have hB2zw2 : w.heap.size + 1 + 1 < w2.heap.size := (by omega)); (try have hB2zw3 : w.heap.size + 1 + 1 + 1 < w2.heap.size := (by omega)); (try have hB2zw4 : w.heap.size + 1 + 1 + 1 + 1 < w2.heap.size := (by omega)); (try have hB2zw10 : w1.heap.size < w2.heap.size := (by omega)); (try have hB2zw11 : w1.heap.size + 1 < w2.heap.size := (by omega)); (try have hB2zw12 : w1.heap.size + 1 + 1 < w2.heap.size := (by omega)); (try have hB2zw13 : w1.heap.size + 1 + 1 + 1 < w2.heap.size := (by omega)); (try have hB2zw14 : w1.heap.size + 1 + 1 + 1 + 1 < w2.heap.size := (by omega)))
          have hs2 : w.heap.size < w2.heap.size := by first | omega | (have := hB2.size; simp at this; omega)
          have hc2 : ∀ j, w2.cell? ⟨w.heap.size, j, none⟩ = (w.alloc (.cells #[.int .i64 a1, .int .i64 a2, .int .i64 a3, .int .i64 b1, .int .i64 b2, .int .i64 b3] 30)).cell? ⟨w.heap.size, j, none⟩ := fun j => (cell_back hB2 (by simp; omega) j).trans (by (repeat (refine (calloc _ (by first | omega | (simp; omega))).trans ?_)); exact hc1 j)
          go_wp2_with (go_at_call 47; refine Calls.mono (areNums_any _ _ _ _ _ [b3] _ rfl (by simp) (by exact cells_at (by simp) [b3] _)) ?_; rintro e w' ⟨rfl, rfl⟩)
          rw [rounds_succ]
          go_wp2
          go_ret
          exact ⟨ret_bool (by first | exact HV.out.symm | rfl), by (repeat (first | exact Below.refl _ _ | refine balloc ?_ _ | refine bdrewN ?_ _ | refine Below.drew ?_ | refine bthen ?_ hB1 | refine bthen ?_ hB2 | refine Below.setCell ?_ (by first | (simp; done) | (simp; omega)) _))⟩

set_option maxRecDepth 20000 in
set_option maxHeartbeats 4000000 in
theorem implCircles3 (p a1 a2 a3 b1 b2 b3 c1 c2 c3 : Int) (b : Nat) (w : World) (hb : b = w.heap.size) :
    Calls Try.prog 27 #[.int .i64 p, .slice (some ⟨b, 0, none⟩) 3 3] (w.alloc (.cells #[.int .i64 a1, .int .i64 a2, .int .i64 a3, .int .i64 b1, .int .i64 b2, .int .i64 b3, .int .i64 c1, .int .i64 c2, .int .i64 c3] 30)) fun e w' => e = .returned (.bool (numsIn p [a1, a2, a3] && numsIn p [b1, b2, b3] && numsIn p [c1, c2, c3])) ∧ Below w.heap.size w w' := by
  subst hb
  cases g0 : numsIn p [a1, a2]
  · have HV := Lib.hid (show (numsIn p [a1, a2, a3] && numsIn p [b1, b2, b3] && numsIn p [c1, c2, c3]) = false by simp [numsApp21, g0])
    go_enter Try.func27, Try.ntmps27
    go_wp2
    refine wp_loop_rounds 4 ?_
    rw [rounds_succ]
    (go_wp2_with fail; refine Calls.mono (implPoints1 _ _ _ _ _ (by first | rfl | (simp; done))) ?_; rintro e w1 ⟨rfl, hB1⟩; obtain ⟨hB1c, hB1f⟩ := bcell hB1; have hB1s := hB1.size; (try simp at hB1s); (try have hB1q1 := Nat.lt_of_succ_le hB1s); (try have hB1q2 := Nat.lt_of_succ_lt hB1q1); (try have hB1q3 := Nat.lt_of_succ_lt hB1q2); (try have hB1zw0 : w.heap.size < w1.heap.size := (by omega)); (try have hB1zw1 : w.heap.size + 1 < w1.heap.size := (by omega)); (try have hB1zw2 : w.heap.size + 1 + 1 < w1.heap.size := (by omega)); (try have hB1zw3 : w.heap.size + 1 + 1 + 1 < w1.heap.size := (by omega)); (try have hB1zw4 : w.heap.size + 1 + 1 + 1 + 1 < w1.heap.size := (by omega)))
    have hs1 : w.heap.size < w1.heap.size := by first | omega | (have := hB1.size; simp at this; omega)
    have hc1 : ∀ j, w1.cell? ⟨w.heap.size, j, none⟩ = (w.alloc (.cells #[.int .i64 a1, .int .i64 a2, .int .i64 a3, .int .i64 b1, .int .i64 b2, .int .i64 b3, .int .i64 c1, .int .i64 c2, .int .i64 c3] 30)).cell? ⟨w.heap.size, j, none⟩ := fun j => (cell_back hB1 (by simp; omega) j).trans (by simp)
    go_wp2
    go_ret
    exact ⟨ret_bool (by first | exact HV.out.symm | rfl), by (repeat (first | exact Below.refl _ _ | refine balloc ?_ _ | refine bdrewN ?_ _ | refine Below.drew ?_ | refine bthen ?_ hB1 | refine Below.setCell ?_ (by first | (simp; done) | (simp; omega)) _))⟩
  · cases h0 : numsIn p [a3]
    · have HV := Lib.hid (show (numsIn p [a1, a2, a3] && numsIn p [b1, b2, b3] && numsIn p [c1, c2, c3]) = false by simp [numsApp21, g0, h0])
      go_enter Try.func27, Try.ntmps27
      go_wp2
      refine wp_loop_rounds 4 ?_
      rw [rounds_succ]
      (go_wp2_with fail; refine Calls.mono (implPoints1 _ _ _ _ _ (by first | rfl | (simp; done))) ?_; rintro e w1 ⟨rfl, hB1⟩; obtain ⟨hB1c, hB1f⟩ := bcell hB1; have hB1s := hB1.size; (try simp at hB1s); (try have hB1q1 := Nat.lt_of_succ_le hB1s); (try have hB1q2 := Nat.lt_of_succ_lt hB1q1); (try have hB1q3 := Nat.lt_of_succ_lt hB1q2); (try have hB1zw0 : w.heap.size < w1.heap.size := (by omega)); (try have hB1zw1 : w.heap.size + 1 < w1.heap.size := (by omega)); (try have hB1zw2 : w.heap.size + 1 + 1 < w1.heap.size := (by omega)); (try have hB1zw3 : w.heap.size + 1 + 1 + 1 < w1.heap.size := (by omega)); (try have hB1zw4 : w.heap.size + 1 + 1 + 1 + 1 < w1.heap.size := (by omega)))
      have hs1 : w.heap.size < w1.heap.size := by first | omega | (have := hB1.size; simp at this; omega)
      have hc1 : ∀ j, w1.cell? ⟨w.heap.size, j, none⟩ = (w.alloc (.cells #[.int .i64 a1, .int .i64 a2, .int .i64 a3, .int .i64 b1, .int .i64 b2, .int .i64 b3, .int .i64 c1, .int .i64 c2, .int .i64 c3] 30)).cell? ⟨w.heap.size, j, none⟩ := fun j => (cell_back hB1 (by simp; omega) j).trans (by simp)
      go_wp2_with (go_at_call 47; refine Calls.mono (areNums_any _ _ _ _ _ [a3] _ rfl (by simp) (by exact cells_at (by simp) [a3] _)) ?_; rintro e w' ⟨rfl, rfl⟩)
      go_ret
      exact ⟨ret_bool (by first | exact HV.out.symm | rfl), by (repeat (first | exact Below.refl _ _ | refine balloc ?_ _ | refine bdrewN ?_ _ | refine Below.drew ?_ | refine bthen ?_ hB1 | refine Below.setCell ?_ (by first | (simp; done) | (simp; omega)) _))⟩
    · cases g1 : numsIn p [b1, b2]
      · have HV := Lib.hid (show (numsIn p [a1, a2, a3] && numsIn p [b1, b2, b3] && numsIn p [c1, c2, c3]) = false by simp [numsApp21, g0, h0, g1])
        go_enter Try.func27, Try.ntmps27
        go_wp2
        refine wp_loop_rounds 4 ?_
        rw [rounds_succ]
        (go_wp2_with fail; refine Calls.mono (implPoints1 _ _ _ _ _ (by first | rfl | (simp; done))) ?_; rintro e w1 ⟨rfl, hB1⟩; obtain ⟨hB1c, hB1f⟩ := bcell hB1; have hB1s := hB1.size; (try simp at hB1s); (try have hB1q1 := Nat.lt_of_succ_le hB1s); (try have hB1q2 := Nat.lt_of_succ_lt hB1q1); (try have hB1q3 := Nat.lt_of_succ_lt hB1q2); (try have hB1zw0 : w.heap.size < w1.heap.size := (by omega)); (try have hB1zw1 : w.heap.size + 1 < w1.heap.size := (by omega)); (try have hB1zw2 : w.heap.size + 1 + 1 < w1.heap.size := (by omega)); (try have hB1zw3 : w.heap.size + 1 + 1 + 1 < w1.heap.size := (by omega)); (try have hB1zw4 : w.heap.size + 1 + 1 + 1 + 1 < w1.heap.size := (by omega)))
        have hs1 : w.heap.size < w1.heap.size := by first | omega | (have := hB1.size; simp at this; omega)
        have hc1 : ∀ j, w1.cell? ⟨w.heap.size, j, none⟩ = (w.alloc (.cells #[.int .i64 a1, .int .i64 a2, .int .i64 a3, .int .i64 b1, .int .i64 b2, .int .i64 b3, .int .i64 c1, .int .i64 c2, .int .i64 c3] 30)).cell? ⟨w.heap.size, j, none⟩ := fun j => (cell_back hB1 (by simp; omega) j).trans (by simp)
        go_wp2_with (go_at_call 47; refine Calls.mono (areNums_any _ _ _ _ _ [a3] _ rfl (by simp) (by exact cells_at (by simp) [a3] _)) ?_; rintro e w' ⟨rfl, rfl⟩)
        rw [rounds_succ]
        (go_wp2_with fail; refine Calls.mono (implPoints1 _ _ _ _ _ (by first | rfl | (simp; done))) ?_; rintro e w2 ⟨rfl, hB2⟩; obtain ⟨hB2c, hB2f⟩ := bcell hB2; have hB2s := hB2.size; (try simp at hB2s); (try have hB2q1 := Nat.lt_of_succ_le hB2s); (try have hB2q2 := Nat.lt_of_succ_lt hB2q1); (try have hB2q3 := Nat.lt_of_succ_lt hB2q2); (try have hB2zw0 : w.heap.size < w2.heap.size := (by omega)); (try have hB2zw1 : w.heap.size + 1 < w2.heap.size := (by omega)); (try have hB2zw2 : w.heap.size + 1 + 1 < w2.heap.size := (by omega)); (try have hB2zw3 : w.heap.size + 1 + 1 + 1 < w2.heap.size := (by omega)); (try have hB2zw4 : w.heap.size + 1 + 1 + 1 + 1 < w2.heap.size := (by omega)); (try have hB2zw10 : w1.heap.size < w2.heap.size := (by omega)); (try have hB2zw11 : w1.heap.size + 1 < w2.heap.size := (by omega)); (try have hB2zw12 : w1.heap.size + 1 + 1 < w2.heap.size := (by omega)); (try have hB2zw13 : w1.heap.size + 1 + 1 + 1 < w2.heap.size := (by omega)); (try have hB2zw14 : w1.heap.size + 1 + 1 + 1 + 1 < w2.heap.size := (by omega)))
        have hs2 : w.heap.size < w2.heap.size := by first | omega | (have := hB2.size; simp at this; omega)
        have hc2 : ∀ j, w2.cell? ⟨w.heap.size, j, none⟩ = (w.alloc (.cells #[.int .i64 a1, .int .i64 a2, .int .i64 a3, .int .i64 b1, .int .i64 b2, .int .i64 b3, .int .i64 c1, .int .i64 c2, .int .i64 c3] 30)).cell? ⟨w.heap.size, j, none⟩ := fun j => (cell_back hB2 (by simp; omega) j).trans (by (repeat (refine (calloc _ (by first | omega | (simp; omega))).trans ?_)); exact hc1 j)
        go_wp2
        go_ret
        exact ⟨ret_bool (by first | exact HV.out.symm | rfl), by (repeat (first | exact Below.refl _ _ | refine balloc ?_ _ | refine bdrewN ?_ _ | refine Below.drew ?_ | refine bthen ?_ hB1 | refine bthen ?_ hB2 | refine Below.setCell ?_ (by first | (simp; done) | (simp; omega)) _))⟩
      · cases h1 : numsIn p [b3]
        · have HV := Lib.hid (show (numsIn p [a1, a2, a3] && numsIn p [b1, b2, b3] && numsIn p [c1, c2, c3]) = false by simp [numsApp21, g0, h0, g1, h1])
          go_enter Try.func27, Try.ntmps27
          go_wp2
          refine wp_loop_rounds 4 ?_
          rw [rounds_succ]
          (go_wp2_with fail; refine Calls.mono (implPoints1 _ _ _ _ _ (by first | rfl | (simp; done))) ?_; rintro e w1 ⟨rfl, hB1⟩; obtain ⟨hB1c, hB1f⟩ := bcell hB1; have hB1s := hB1.size; (try simp at hB1s); (try have hB1q1 := Nat.lt_of_succ_le hB1s); (try have hB1q2 := Nat.lt_of_succ_lt hB1q1); (try have hB1q3 := Nat.lt_of_succ_lt hB1q2); (try have hB1zw0 : w.heap.size < w1.heap.size := (by omega)); (try have hB1zw1 : w.heap.size + 1 < w1.heap.size := (by omega)); (try have hB1zw2 : w.heap.size + 1 + 1 < w1.heap.size := (by omega)); (try have hB1zw3 : w.heap.size + 1 + 1 + 1 < w1.heap.size := (by omega)); (try have hB1zw4 : w.heap.size + 1 + 1 + 1 + 1 < w1.heap.size := (by omega)))
          have hs1 : w.heap.size < w1.heap.size := by first | omega | (have := hB1.size; simp at this; omega)
          have hc1 : ∀ j, w1.cell? ⟨w.heap.size, j, none⟩ = (w.alloc (.cells #[.int .i64 a1, .int .i64 a2, .int .i64 a3, .int .i64 b1, .int .i64 b2, .int .i64 b3, .int .i64 c1, .int .i64 c2, .int .i64 c3] 30)).cell? ⟨w.heap.size, j, none⟩ := fun j => (cell_back hB1 (by simp; omega) j).trans (by simp)
          go_wp2_with (go_at_call 47; refine Calls.mono (areNums_any _ _ _ _ _ [a3] _ rfl (by simp) (by exact cells_at (by simp) [a3] _)) ?_; rintro e w' ⟨rfl, rfl⟩)
          rw [rounds_succ]
          (go_wp2_with fail; refine Calls.mono (implPoints1 _ _ _ _ _ (by first | rfl | (simp; done))) ?_; rintro e w2 ⟨rfl, hB2⟩; obtain ⟨hB2c, hB2f⟩ := bcell hB2; have hB2s := hB2.size; (try simp at hB2s); (try have hB2q1 := Nat.lt_of_succ_le hB2s); (try have hB2q2 := Nat.lt_of_succ_lt hB2q1); (try have hB2q3 := Nat.lt_of_succ_lt hB2q2); (try have hB2zw0 : w.heap.size < w2.heap.size := (by omega)); (try have hB2zw1 : w.heap.size + 1 < w2.heap.size := (by omega)); (try have hB2zw2 : w.heap.size + 1 + 1 < w2.heap.size := (by omega)); (try have hB2zw3 : w.heap.size + 1 + 1 + 1 < w2.heap.size := (by omega)); (try have hB2zw4 : w.heap.size + 1 + 1 + 1 + 1 < w2.heap.size := (by omega)); (try have hB2zw10 : w1.heap.size < w2.heap.size := (by omega)); (try have hB2zw11 : w1.heap.size + 1 < w2.heap.size := (by omega)); (try have hB2zw12 : w1.heap.size + 1 + 1 < w2.heap.size := (by omega)); (try have hB2zw13 : w1.heap.size + 1 + 1 + 1 < w2.heap.size := (by omega)); (try have hB2zw14 : w1.heap.size + 1 + 1 + 1 + 1 < w2.heap.size := (by omega)))
          have hs2 : w.heap.size < w2.heap.size := by first | omega | (have := hB2.size; simp at this; omega)
          have hc2 : ∀ j, w2.cell? ⟨w.heap.size, j, none⟩ = (w.alloc (.cells #[.int .i64 a1, .int .i64 a2, .int .i64 a3, .int .i64 b1, .int .i64 b2, .int .i64 b3, .int .i64 c1, .int .i64 c2, .int .i64 c3] 30)).cell? ⟨w.heap.size, j, none⟩ := fun j => (cell_back hB2 (by simp; omega) j).trans (by (repeat (refine (calloc _ (by first | omega | (simp; omega))).trans ?_)); exact hc1 j)
          go_wp2_with (go_at_call 47; refine Calls.mono (areNums_any _ _ _ _ _ [b3] _ rfl (by simp) (by exact cells_at (by simp) [b3] _)) ?_; rintro e w' ⟨rfl, rfl⟩)
          go_ret
          exact ⟨ret_bool (by first | exact HV.out.symm | rfl), by (repeat (first | exact Below.refl _ _ | refine balloc ?_ _ | refine bdrewN ?_ _ | refine Below.drew ?_ | refine bthen ?_ hB1 | refine bthen ?_ hB2 | refine Below.setCell ?_ (by first | (simp; done) | (simp; omega)) _))⟩
        · cases g2 : numsIn p [c1, c2]
          · have HV := Lib.hid (show (numsIn p [a1, a2, a3] && numsIn p [b1, b2, b3] && numsIn p [c1, c2, c3]) = false by simp [numsApp21, g0, h0, g1, h1, g2])
            go_enter Try.func27, Try.ntmps27
            go_wp2
            refine wp_loop_rounds 4 ?_
            rw [rounds_succ]
            (go_wp2_with fail; refine Calls.mono (implPoints1 _ _ _ _ _ (by first | rfl | (simp; done))) ?_; rintro e w1 ⟨rfl, hB1⟩; obtain ⟨hB1c, hB1f⟩ := bcell hB1; have hB1s := hB1.size; (try simp at hB1s); (try have hB1q1 := Nat.lt_of_succ_le hB1s); (try have hB1q2 := Nat.lt_of_succ_lt hB1q1); (try have hB1q3 := Nat.lt_of_succ_lt hB1q2); (try have hB1zw0 : w.heap.size < w1.heap.size := (by omega)); (try have hB1zw1 : w.heap.size + 1 < w1.heap.size := (by omega)); (try have hB1zw2 : w.heap.size + 1 + 1 < w1.heap.size := (by omega)); (try have hB1zw3 : w.heap.size + 1 + 1 + 1 < w1.heap.size := (by omega)); (try have hB1zw4 : w.heap.size + 1 + 1 + 1 + 1 < w1.heap.size := (by omega)))
            have hs1 : w.heap.size < w1.heap.size := by first | omega | (have := hB1.size; simp at this; omega)
            have hc1 : ∀ j, w1.cell? ⟨w.heap.size, j, none⟩ = (w.alloc (.cells #[.int .i64 a1, .int .i64 a2, .int .i64 a3, .int .i64 b1, .int .i64 b2, .int .i64 b3, .int .i64 c1, .int .i64 c2, .int .i64 c3] 30)).cell? ⟨w.heap.size, j, none⟩ := fun j => (cell_back hB1 (by simp; omega) j).trans (by simp)
            go_wp2_with (go_at_call 47; refine Calls.mono (areNums_any _ _ _ _ _ [a3] _ rfl (by simp) (by exact cells_at (by simp) [a3] _)) ?_; rintro e w' ⟨rfl, rfl⟩)
            rw [rounds_succ]
            (go_wp2_with fail; refine Calls.mono (implPoints1 _ _ _ _ _ (by first | rfl | (simp; done))) ?_; rintro e w2 ⟨rfl, hB2⟩; obtain ⟨hB2c, hB2f⟩ := bcell hB2; have hB2s := hB2.size; (try simp at hB2s); (try have hB2q1 := Nat.lt_of_succ_le hB2s); (try have hB2q2 := Nat.lt_of_succ_lt hB2q1); (try have hB2q3 := Nat.lt_of_succ_lt hB2q2); (try have hB2zw0 : w.heap.size < w2.heap.size := (by omega)); (try have hB2zw1 : w.heap.size + 1 < w2.heap.size := (by omega)); (try have hB2zw2 : w.heap.size + 1 + 1 < w2.heap.size := (by omega)); (try have hB2zw3 : w.heap.size + 1 + 1 + 1 < w2.heap.size := (by omega)); (try have hB2zw4 : w.heap.size + 1 + 1 + 1 + 1 < w2.heap.size := (by omega)); (try have hB2zw10 : w1.heap.size < w2.heap.size := (by omega)); (try have hB2zw11 : w1.heap.size + 1 < w2.heap.size := (by omega)); (try have hB2zw12 : w1.heap.size + 1 + 1 < w2.heap.size := (by omega)); (try have hB2zw13 : w1.heap.size + 1 + 1 + 1 < w2.heap.size := (by omega)); (try have hB2zw14 : w1.heap.size + 1 + 1 + 1 + 1 < w2.heap.size := (by omega)))
            have hs2 : w.heap.size < w2.heap.size := by first | omega | (have := hB2.size; simp at this; omega)
            have hc2 : ∀ j, w2.cell? ⟨w.heap.size, j, none⟩ = (w.alloc (.cells #[.int .i64 a1, .int .i64 a2, .int .i64 a3, .int .i64 b1, .int .i64 b2, .int .i64 b3, .int .i64 c1, .int .i64 c2, .int .i64 c3] 30)).cell? ⟨w.heap.size, j, none⟩ := fun j => (cell_back hB2 (by simp; omega) j).trans (by (repeat (refine (calloc _ (by first | omega | (simp; omega))).trans ?_)); exact hc1 j)
            go_wp2_with (go_at_call 47; refine Calls.mono (areNums_any _ _ _ _ _ [b3] _ rfl (by simp) (by exact cells_at (by simp) [b3] _)) ?_; rintro e w' ⟨rfl, rfl⟩)
            rw [rounds_succ]
            (go_wp2_with fail; refine Calls.mono (implPoints1 _ _ _ _ _ (by first | rfl | (simp; done))) ?_; rintro e w3 ⟨rfl, hB3⟩; obtain ⟨hB3c, hB3f⟩ := bcell hB3; have hB3s := hB3.size; (try simp at hB3s); (try have hB3q1 := Nat.lt_of_succ_le hB3s); (try have hB3q2 := Nat.lt_of_succ_lt hB3q1); (try have hB3q3 := Nat.lt_of_succ_lt hB3q2); (try have hB3zw0 : w.heap.size < w3.heap.size := (by omega)); (try have hB3zw1 : w.heap.size + 1 < w3.heap.size := (by omega)); (try have hB3zw2 : w.heap.size + 1 + 1 < w3.heap.size := (by omega)); (try have hB3zw3 : w.heap.size + 1 + 1 + 1 < w3.heap.size := (by omega)); (try have hB3zw4 : w.heap.size + 1 + 1 + 1 + 1 < w3.heap.size := (by omega)); (try have hB3zw20 : w2.heap.size < w3.heap.size := (by omega)); (try have hB3zw21 : w2.heap.size + 1 < w3.heap.size := (by omega)); (try have hB3zw22 : w2.heap.size + 1 + 1 < w3.heap.size := (by omega)); (try have hB3zw23 : w2.heap.size + 1 + 1 + 1 < w3.heap.size := (by omega)); (try have hB3zw24 : w2.heap.size + 1 + 1 + 1 + 1 < w3.heap.size := (by omega)); (try have hB3zw10 : w1.heap.size < w3.heap.size := (by omega)); (try have hB3zw11 : w1.heap.size + 1 < w3.heap.size := (by omega)); (try have hB3zw12 : w1.heap.size + 1 + 1 < w3.heap.size := (by omega)); (try have hB3zw13 : w1.heap.size + 1 + 1 + 1 < w3.heap.size := (by omega)); (try have hB3zw14 : w1.heap.size + 1 + 1 + 1 + 1 < w3.heap.size := (by omega)))
            have hs3 : w.heap.size < w3.heap.size := by first | omega | (have := hB3.size; simp at this; omega)
            have hc3 : ∀ j, w3.cell? ⟨w.heap.size, j, none⟩ = (w.alloc (.cells #[.int .i64 a1, .int .i64 a2, .int .i64 a3, .int .i64 b1, .int .i64 b2, .int .i64 b3, .int .i64 c1, .int .i64 c2, .int .i64 c3] 30)).cell? ⟨w.heap.size, j, none⟩ := fun j => (cell_back hB3 (by simp; omega) j).trans (by (repeat (refine (calloc _ (by first | omega | (simp; omega))).trans ?_)); exact hc2 j)
            go_wp2
            go_ret
            exact ⟨ret_bool (by first | exact HV.out.symm | rfl), by (repeat (first | exact Below.refl _ _ | refine balloc ?_ _ | refine bdrewN ?_ _ | refine Below.drew ?_ | refine bthen ?_ hB1 | refine bthen ?_ hB2 | refine bthen ?_ hB3 | refine Below.setCell ?_ (by first | (simp; done) | (simp; omega)) _))⟩
          · cases h2 : numsIn p [c3]
            · have HV := Lib.hid (show (numsIn p [a1, a2, a3] && numsIn p [b1, b2, b3] && numsIn p [c1, c2, c3]) = false by simp [numsApp21, g0, h0, g1, h1, g2, h2])
              go_enter Try.func27, Try.ntmps27
              go_wp2
              refine wp_loop_rounds 4 ?_
              rw [rounds_succ]
              (go_wp2_with fail; refine Calls.mono (implPoints1 _ _ _ _ _ (by first | rfl | (simp; done))) ?_; rintro e w1 ⟨rfl, hB1⟩; obtain ⟨hB1c, hB1f⟩ := bcell hB1; have hB1s := hB1.size; (try simp at hB1s); (try have hB1q1 := Nat.lt_of_succ_le hB1s); (try have hB1q2 := Nat.lt_of_succ_lt hB1q1); (try have hB1q3 := Nat.lt_of_succ_lt hB1q2); (try have hB1zw0 : w.heap.size < w1.heap.size := (by omega)); (try have hB1zw1 : w.heap.size + 1 < w1.heap.size := (by omega)); (try have hB1zw2 : w.heap.size + 1 + 1 < w1.heap.size := (by omega)); (try have hB1zw3 : w.heap.size + 1 + 1 + 1 < w1.heap.size := (by omega)); (try have hB1zw4 : w.heap.size + 1 + 1 + 1 + 1 < w1.heap.size := (by omega)))
              have hs1 : w.heap.size < w1.heap.size := by first | omega | (have := hB1.size; simp at this; omega)
              have hc1 : ∀ j, w1.cell? ⟨w.heap.size, j, none⟩ = (w.alloc (.cells #[.int .i64 a1, .int .i64 a2, .int .i64 a3, .int .i64 b1, .int .i64 b2, .int .i64 b3, .int .i64 c1, .int .i64 c2, .int .i64 c3] 30)).cell? ⟨w.heap.size, j, none⟩ := fun j => (cell_back hB1 (by simp; omega) j).trans (by simp)
              go_wp2_with (go_at_call 47; refine Calls.mono (areNums_any _ _ _ _ _ [a3] _ rfl (by simp) (by exact cells_at (by simp) [a3] _)) ?_; rintro e w' ⟨rfl, rfl⟩)
              rw [rounds_succ]
              (go_wp2_with fail; refine Calls.mono (implPoints1 _ _ _ _ _ (by first | rfl | (simp; done))) ?_; rintro e w2 ⟨rfl, hB2⟩; obtain ⟨hB2c, hB2f⟩ := bcell hB2; have hB2s := hB2.size; (try simp at hB2s); (try have hB2q1 := Nat.lt_of_succ_le hB2s); (try have hB2q2 := Nat.lt_of_succ_lt hB2q1); (try have hB2q3 := Nat.lt_of_succ_lt hB2q2); (try have hB2zw0 : w.heap.size < w2.heap.size := (by omega)); (try have hB2zw1 : w.heap.size + 1 < w2.heap.size := (by omega)); (try have hB2zw2 : w.heap.size + 1 + 1 < w2.heap.size := (by omega)); (try have hB2zw3 : w.heap.size + 1 + 1 + 1 < w2.heap.size := (by omega)); (try have hB2zw4 : w.heap.size + 1 + 1 + 1 + 1 < w2.heap.size := (by omega)); (try have hB2zw10 : w1.heap.size < w2.heap.size := (by omega)); (try have hB2zw11 : w1.heap.size + 1 < w2.heap.size := (by omega)); (try have hB2zw12 : w1.heap.size + 1 + 1 < w2.heap.size := (by omega)); (try have hB2zw13 : w1.heap.size + 1 + 1 + 1 < w2.heap.size := (by omega)); (try have hB2zw14 : w1.heap.size + 1 + 1 + 1 + 1 < w2.heap.size := (by omega)))
              have hs2 : w.heap.size < w2.heap.size := by first | omega | (have := hB2.size; simp at this; omega)
              have hc2 : ∀ j, w2.cell? ⟨w.heap.size, j, none⟩ = (w.alloc (.cells #[.int .i64 a1, .int .i64 a2, .int .i64 a3, .int .i64 b1, .int .i64 b2, .int .i64 b3, .int .i64 c1, .int .i64 c2, .int .i64 c3] 30)).cell? ⟨w.heap.size, j, none⟩ := fun j => (cell_back hB2 (by simp; omega) j).trans (by (repeat (refine (calloc _ (by first | omega | (simp; omega))).trans ?_)); exact hc1 j)
              go_wp2_with (go_at_call 47; refine Calls.mono (areNums_any _ _ _ _ _ [b3] _ rfl (by simp) (by exact cells_at (by simp) [b3] _)) ?_; rintro e w' ⟨rfl, rfl⟩)
              rw [rounds_succ]
              (go_wp2_with fail; refine Calls.mono (implPoints1 _ _ _ _ _ (by first | rfl | (simp; done))) ?_; rintro e w3 ⟨rfl, hB3⟩; obtain ⟨hB3c, hB3f⟩ := bcell hB3; have hB3s := hB3.size; (try simp at hB3s); (try have hB3q1 := Nat.lt_of_succ_le hB3s); (try have hB3q2 := Nat.lt_of_succ_lt hB3q1); (try have hB3q3 := Nat.lt_of_succ_lt hB3q2); (try have hB3zw0 : w.heap.size < w3.heap.size := (by omega)); (try have hB3zw1 : w.heap.size + 1 < w3.heap.size := (by omega)); (try have hB3zw2 : w.heap.size + 1 + 1 < w3.heap.size := (by omega)); (try have hB3zw3 : w.heap.size + 1 + 1 + 1 < w3.heap.size := (by omega)); (try have hB3zw4 : w.heap.size + 1 + 1 + 1 + 1 < w3.heap.size := (by omega)); (try have hB3zw20 : w2.heap.size < w3.heap.size := (by omega)); (try have hB3zw21 : w2.heap.size + 1 < w3.heap.size := (by omega)); (try have hB3zw22 : w2.heap.size + 1 + 1 < w3.heap.size := (by omega)); (try have hB3zw23 : w2.heap.size + 1 + 1 + 1 < w3.heap.size := (by omega)); (try have hB3zw24 : w2.heap.size + 1 + 1 + 1 + 1 < w3.heap.size := (by omega)); (try have hB3zw10 : w1.heap.size < w3.heap.size := (by omega)); (try have hB3zw11 : w1.heap.size + 1 < w3.heap.size := (by omega)); (try have hB3zw12 : w1.heap.size + 1 + 1 < w3.heap.size := (by omega)); (try have hB3zw13 : w1.heap.size + 1 + 1 + 1 < w3.heap.size := (by omega)); (try have hB3zw14 : w1.heap.size + 1 + 1 + 1 + 1 < w3.heap.size := (by omega)))
              have hs3 : w.heap.size < w3.heap.size := by first | omega | (have := hB3.size; simp at this; omega)
              have hc3 : ∀ j, w3.cell? ⟨w.heap.size, j, none⟩ = (w.alloc (.cells #[.int .i64 a1, .int .i64 a2, .int .i64 a3, .int .i64 b1, .int .i64 b2, .int .i64 b3, .int .i64 c1, .int .i64 c2, .int .i64 c3] 30)).cell? ⟨w.heap.size, j, none⟩ := fun j => (cell_back hB3 (by simp; omega) j).trans (by (repeat (refine (calloc _ (by first | omega | (simp; omega))).trans ?_)); exact hc2 j)
              go_wp2_with (go_at_call 47; refine Calls.mono (areNums_any _ _ _ _ _ [c3] _ rfl (by simp) (by exact cells_at (by simp) [c3] _)) ?_; rintro e w' ⟨rfl, rfl⟩)
              go_ret
              exact ⟨ret_bool (by first | exact HV.out.symm | rfl), by (repeat (first | exact Below.refl _ _ | refine balloc ?_ _ | refine bdrewN ?_ _ | refine Below.drew ?_ | refine bthen ?_ hB1 | refine bthen ?_ hB2 | refine bthen ?_ hB3 | refine Below.setCell ?_ (by first | (simp; done) | (simp; omega)) _))⟩
            · have HV := Lib.hid (show (numsIn p [a1, a2, a3] && numsIn p [b1, b2, b3] && numsIn p [c1, c2, c3]) = true by simp [numsApp21, g0, h0, g1, h1, g2, h2])
              go_enter Try.func27, Try.ntmps27
              go_wp2
              refine wp_loop_rounds 4 ?_
              rw [rounds_succ]
              (go_wp2_with fail; refine Calls.mono (implPoints1 _ _ _ _ _ (by first | rfl | (simp; done))) ?_; rintro e w1 ⟨rfl, hB1⟩; obtain ⟨hB1c, hB1f⟩ := bcell hB1; have hB1s := hB1.size; (try simp at hB1s); (try have hB1q1 := Nat.lt_of_succ_le hB1s); (try have hB1q2 := Nat.lt_of_succ_lt hB1q1); (try have hB1q3 := Nat.lt_of_succ_lt hB1q2); (try have hB1zw0 : w.heap.size < w1.heap.size := (by omega)); (try have hB1zw1 : w.heap.size + 1 < w1.heap.size := (by omega)); (try have hB1zw2 : w.heap.size + 1 + 1 < w1.heap.size := (by omega)); (try have hB1zw3 : w.heap.size + 1 + 1 + 1 < w1.heap.size := (by omega)); (try have hB1zw4 : w.heap.size + 1 + 1 + 1 + 1 < w1.heap.size := (by omega)))
              have hs1 : w.heap.size < w1.heap.size := by first | omega | (have := hB1.size; simp at this; omega)
              have hc1 : ∀ j, w1.cell? ⟨w.heap.size, j, none⟩ = (w.alloc (.cells #[.int .i64 a1, .int .i64 a2, .int .i64 a3, .int .i64 b1, .int .i64 b2, .int .i64 b3, .int .i64 c1, .int .i64 c2, .int .i64 c3] 30)).cell? ⟨w.heap.size, j, none⟩ := fun j => (cell_back hB1 (by simp; omega) j).trans (by simp)
              go_wp2_with (go_at_call 47; refine Calls.mono (areNums_any _ _ _ _ _ [a3] _ rfl (by simp) (by exact cells_at (by simp) [a3] _)) ?_; rintro e w' ⟨rfl, rfl⟩)
              rw [rounds_succ]
              (go_wp2_with fail; refine Calls.mono (implPoints1 _ _ _ _ _ (by first | rfl | (simp; done))) ?_; rintro e w2 ⟨rfl, hB2⟩; obtain ⟨hB2c, hB2f⟩ := bcell hB2; have hB2s := hB2.size; (try simp at hB2s); (try have hB2q1 := Nat.lt_of_succ_le hB2s); (try have hB2q2 := Nat.lt_of_succ_lt hB2q1); (try have hB2q3 := Nat.lt_of_succ_lt hB2q2); (try have hB2zw0 : w.heap.size < w2.heap.size := (by omega)); (try have hB2zw1 : w.heap.size + 1 < w2.heap.size := (by omega)); (try have hB2zw2 : w.heap.size + 1 + 1 < w2.heap.size := (by omega)); (try have hB2zw3 : w.heap.size + 1 + 1 + 1 < w2.heap.size := (by omega)); (try have hB2zw4 : w.heap.size + 1 + 1 + 1 + 1 < w2.heap.size := (by omega)); (try have hB2zw10 : w1.heap.size < w2.heap.size := (by omega)); (try have hB2zw11 : w1.heap.size + 1 < w2.heap.size := (by omega)); (try have hB2zw12 : w1.heap.size + 1 + 1 < w2.heap.size := (by omega)); (try have hB2zw13 : w1.heap.size + 1 + 1 + 1 < w2.heap.size := (by omega)); (try have hB2zw14 : w1.heap.size + 1 + 1 + 1 + 1 < w2.heap.size := (by omega)))
              have hs2 : w.heap.size < w2.heap.size := by first | omega | (have := hB2.size; simp at this; omega)
              have hc2 : ∀ j, w2.cell? ⟨w.heap.size, j, none⟩ = (w.alloc (.cells #[.int .i64 a1, .int .i64 a2, .int .i64 a3, .int .i64 b1, .int .i64 b2, .int .i64 b3, .int .i64 c1, .int .i64 c2, .int .i64 c3] 30)).cell? ⟨w.heap.size, j, none⟩ := fun j => (cell_back hB2 (by simp; omega) j).trans (by (repeat (refine (calloc _ (by first | omega | (simp; omega))).trans ?_)); exact hc1 j)
              go_wp2_with (go_at_call 47; refine Calls.mono (areNums_any _ _ _ _ _ [b3] _ rfl (by simp) (by exact cells_at (by simp) [b3] _)) ?_; rintro e w' ⟨rfl, rfl⟩)
              rw [rounds_succ]
              (go_wp2_with fail; refine Calls.mono (implPoints1 _ _ _ _ _ (by first | rfl | (simp; done))) ?_; rintro e w3 ⟨rfl, hB3⟩; obtain ⟨hB3c, hB3f⟩ := bcell hB3; have hB3s := hB3.size; (try simp at hB3s); (try have hB3q1 := Nat.lt_of_succ_le hB3s); (try have hB3q2 := Nat.lt_of_succ_lt hB3q1); (try have hB3q3 := Nat.lt_of_succ_lt hB3q2); (try have hB3zw0 : w.heap.size < w3.heap.size := (by omega)); (try have hB3zw1 : w.heap.size + 1 < w3.heap.size := (by omega)); (try have hB3zw2 : w.heap.size + 1 + 1 < w3.heap.size := (by omega)); (try have hB3zw3 : w.heap.size + 1 + 1 + 1 < w3.heap.size := (by omega)); (try have hB3zw4 : w.heap.size + 1 + 1 + 1 + 1 < w3.heap.size := (by omega)); (try have hB3zw20 : w2.heap.size < w3.heap.size := (by omega)); (try have hB3zw21 : w2.heap.size + 1 < w3.heap.size := (by omega)); (try have hB3zw22 : w2.heap.size + 1 + 1 < w3.heap.size := (by omega)); (try have hB3zw23 : w2.heap.size + 1 + 1 + 1 < w3.heap.size := (by omega)); (try have hB3zw24 : w2.heap.size + 1 + 1 + 1 + 1 < w3.heap.size := (by omega)); (try have hB3zw10 : w1.heap.size < w3.heap.size := (by omega)); (try have hB3zw11 : w1.heap.size + 1 < w3.heap.size := (by omega)); (try have hB3zw12 : w1.heap.size + 1 + 1 < w3.heap.size := (by omega)); (try have hB3zw13 : w1.heap.size + 1 + 1 + 1 < w3.heap.size := (by omega)); (try have hB3zw14 : w1.heap.size + 1 + 1 + 1 + 1 < w3.heap.size := (by omega)))
              have hs3 : w.heap.size < w3.heap.size := by first | omega | (have := hB3.size; simp at this; omega)
              have hc3 : ∀ j, w3.cell? ⟨w.heap.size, j, none⟩ = (w.alloc (.cells #[.int .i64 a1, .int .i64 a2, .int .i64 a3, .int .i64 b1, .int .i64 b2, .int .i64 b3, .int .i64 c1, .int .i64 c2, .int .i64 c3] 30)).cell? ⟨w.heap.size, j, none⟩ := fun j => (cell_back hB3 (by simp; omega) j).trans (by (repeat (refine (calloc _ (by first | omega | (simp; omega))).trans ?_)); exact hc2 j)
              go_wp2_with (go_at_call 47; refine Calls.mono (areNums_any _ _ _ _ _ [c3] _ rfl (by simp) (by exact cells_at (by simp) [c3] _)) ?_; rintro e w' ⟨rfl, rfl⟩)
              rw [rounds_succ]
              go_wp2
              go_ret
              exact ⟨ret_bool (by first | exact HV.out.symm | rfl), by (repeat (first | exact Below.refl _ _ | refine balloc ?_ _ | refine bdrewN ?_ _ | refine Below.drew ?_ | refine bthen ?_ hB1 | refine bthen ?_ hB2 | refine bthen ?_ hB3 | refine Below.setCell ?_ (by first | (simp; done) | (simp; omega)) _))⟩

end Go.Proofs.Ytmpgpmcmhbpjeab
