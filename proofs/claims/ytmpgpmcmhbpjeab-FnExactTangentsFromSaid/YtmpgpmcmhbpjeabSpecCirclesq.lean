/-
  Circles: spec.l06Code of one to three circles.
-/
import Derived.Test.YtmpgpmcmhbpjeabMgq0
import Derived.Test.YtmpgpmcmhbpjeabSpecCol0q
import Derived.LoopN

namespace Go.Proofs.Ytmpgpmcmhbpjeab
open Go.RowKit

set_option maxRecDepth 20000 in
set_option maxHeartbeats 4000000 in
theorem specCircles1 (p col a1 a2 a3 : Int) (b : Nat) (w : World) (hb : b = w.heap.size) :
    Calls Try.prog 40 #[.int .i64 p, .int .i64 col, .slice (some ⟨b, 0, none⟩) 1 1] (w.alloc (.cells #[.int .i64 a1, .int .i64 a2, .int .i64 a3] 30)) fun e w' => e = .returned (.int .i64 (codeOf p (colB col && numsIn p [a1, a2, a3]))) ∧ Below w.heap.size w w' := by
  subst hb
  cases hp : isP p
  · have HV := Lib.hid (show codeOf p (colB col && numsIn p [a1, a2, a3]) = 1 from codeOf_no hp)
    have c0 : codeOf p (colB col) = 1 := codeOf_no hp
    go_enter Try.func40, Try.ntmps40
    (go_wp2_with fail; refine Calls.mono (specColCode0 _ _ _) ?_; rintro e w' ⟨rfl, rfl⟩)
    go_wp2
    refine wp_loop_rounds 2 ?_
    rw [rounds_succ]
    go_wp2
    go_ret
    exact ⟨ret_int HV.out.symm, by (repeat (first | exact Below.refl _ _ | refine balloc ?_ _ | refine bdrewN ?_ _ | refine Below.drew ?_ | refine Below.setCell ?_ (by first | (simp; done) | (simp; omega)) _))⟩
  · rcases bool_ways (colB col) with hc | hc
    · have HC := Lib.hid hc
      clear hc
      have HV := Lib.hid (show codeOf p (colB col && numsIn p [a1, a2, a3]) = 2 from codeOf_out hp (by simp [HC.out]))
      have c0 : codeOf p (colB col) = 2 := codeOf_out hp HC.out
      go_enter Try.func40, Try.ntmps40
      (go_wp2_with fail; refine Calls.mono (specColCode0 _ _ _) ?_; rintro e w' ⟨rfl, rfl⟩)
      go_wp2
      refine wp_loop_rounds 2 ?_
      rw [rounds_succ]
      go_wp2
      go_ret
      exact ⟨ret_int HV.out.symm, by (repeat (first | exact Below.refl _ _ | refine balloc ?_ _ | refine bdrewN ?_ _ | refine Below.drew ?_ | refine Below.setCell ?_ (by first | (simp; done) | (simp; omega)) _))⟩
    · have HC := Lib.hid hc
      clear hc
      have c0 : codeOf p (colB col) = 0 := codeOf_in hp HC.out
      rcases bool_ways (numsIn p [a1, a2, a3]) with h0 | h0
      · have HV := Lib.hid (show codeOf p (colB col && numsIn p [a1, a2, a3]) = 2 from codeOf_out hp (by simp [HC.out, h0]))
        go_enter Try.func40, Try.ntmps40
        (go_wp2_with fail; refine Calls.mono (specColCode0 _ _ _) ?_; rintro e w' ⟨rfl, rfl⟩)
        go_wp2
        refine wp_loop_rounds 2 ?_
        rw [rounds_succ]
        (go_wp2_with fail; refine Calls.mono (specIs_any _ _ _ _ _ hp) ?_; rintro e w1 ⟨rfl, hB1⟩; obtain ⟨hB1c, hB1f⟩ := bcell hB1; have hB1s := hB1.size; (try simp at hB1s); (try have hB1q1 := Nat.lt_of_succ_le hB1s); (try have hB1q2 := Nat.lt_of_succ_lt hB1q1); (try have hB1q3 := Nat.lt_of_succ_lt hB1q2); (try have hB1zw0 : w.heap.size < w1.heap.size := (by omega)); (try have hB1zw1 : w.heap.size + 1 < w1.heap.size := (by omega)); (try have hB1zw2 : w.heap.size + 1 + 1 < w1.heap.size := (by omega)); (try have hB1zw3 : w.heap.size + 1 + 1 + 1 < w1.heap.size := (by omega)); (try have hB1zw4 : w.heap.size + 1 + 1 + 1 + 1 < w1.heap.size := (by omega)))
        have hs1 : w.heap.size < w1.heap.size := by first | omega | (have := hB1.size; simp at this; omega)
        have hc1 : ∀ j, w1.cell? ⟨w.heap.size, j, none⟩ = (w.alloc (.cells #[.int .i64 a1, .int .i64 a2, .int .i64 a3] 30)).cell? ⟨w.heap.size, j, none⟩ := fun j => cell_back hB1 (by simp) j
        go_wp2
        rw [rounds_succ]
        go_wp2
        go_ret
        exact ⟨ret_int HV.out.symm, by (repeat (first | exact Below.refl _ _ | refine balloc ?_ _ | refine bdrewN ?_ _ | refine Below.drew ?_ | refine bthen ?_ hB1 | refine Below.setCell ?_ (by first | (simp; done) | (simp; omega)) _))⟩
      · have HV := Lib.hid (show codeOf p (colB col && numsIn p [a1, a2, a3]) = 0 from codeOf_in hp (by simp [HC.out, h0]))
        go_enter Try.func40, Try.ntmps40
        (go_wp2_with fail; refine Calls.mono (specColCode0 _ _ _) ?_; rintro e w' ⟨rfl, rfl⟩)
        go_wp2
        refine wp_loop_rounds 2 ?_
        rw [rounds_succ]
        (go_wp2_with fail; refine Calls.mono (specIs_any _ _ _ _ _ hp) ?_; rintro e w1 ⟨rfl, hB1⟩; obtain ⟨hB1c, hB1f⟩ := bcell hB1; have hB1s := hB1.size; (try simp at hB1s); (try have hB1q1 := Nat.lt_of_succ_le hB1s); (try have hB1q2 := Nat.lt_of_succ_lt hB1q1); (try have hB1q3 := Nat.lt_of_succ_lt hB1q2); (try have hB1zw0 : w.heap.size < w1.heap.size := (by omega)); (try have hB1zw1 : w.heap.size + 1 < w1.heap.size := (by omega)); (try have hB1zw2 : w.heap.size + 1 + 1 < w1.heap.size := (by omega)); (try have hB1zw3 : w.heap.size + 1 + 1 + 1 < w1.heap.size := (by omega)); (try have hB1zw4 : w.heap.size + 1 + 1 + 1 + 1 < w1.heap.size := (by omega)))
        have hs1 : w.heap.size < w1.heap.size := by first | omega | (have := hB1.size; simp at this; omega)
        have hc1 : ∀ j, w1.cell? ⟨w.heap.size, j, none⟩ = (w.alloc (.cells #[.int .i64 a1, .int .i64 a2, .int .i64 a3] 30)).cell? ⟨w.heap.size, j, none⟩ := fun j => cell_back hB1 (by simp) j
        go_wp2
        rw [rounds_succ]
        go_wp2
        go_ret
        exact ⟨ret_int HV.out.symm, by (repeat (first | exact Below.refl _ _ | refine balloc ?_ _ | refine bdrewN ?_ _ | refine Below.drew ?_ | refine bthen ?_ hB1 | refine Below.setCell ?_ (by first | (simp; done) | (simp; omega)) _))⟩

set_option maxRecDepth 20000 in
set_option maxHeartbeats 4000000 in
theorem specCircles2 (p col a1 a2 a3 b1 b2 b3 : Int) (b : Nat) (w : World) (hb : b = w.heap.size) :
    Calls Try.prog 40 #[.int .i64 p, .int .i64 col, .slice (some ⟨b, 0, none⟩) 2 2] (w.alloc (.cells #[.int .i64 a1, .int .i64 a2, .int .i64 a3, .int .i64 b1, .int .i64 b2, .int .i64 b3] 30)) fun e w' => e = .returned (.int .i64 (codeOf p (colB col && numsIn p [a1, a2, a3] && numsIn p [b1, b2, b3]))) ∧ Below w.heap.size w w' := by
  subst hb
  cases hp : isP p
  · have HV := Lib.hid (show codeOf p (colB col && numsIn p [a1, a2, a3] && numsIn p [b1, b2, b3]) = 1 from codeOf_no hp)
    have c0 : codeOf p (colB col) = 1 := codeOf_no hp
    go_enter Try.func40, Try.ntmps40
    (go_wp2_with fail; refine Calls.mono (specColCode0 _ _ _) ?_; rintro e w' ⟨rfl, rfl⟩)
    go_wp2
    refine wp_loop_rounds 3 ?_
    rw [rounds_succ]
    go_wp2
    go_ret
    exact ⟨ret_int HV.out.symm, by (repeat (first | exact Below.refl _ _ | refine balloc ?_ _ | refine bdrewN ?_ _ | refine Below.drew ?_ | refine Below.setCell ?_ (by first | (simp; done) | (simp; omega)) _))⟩
  · rcases bool_ways (colB col) with hc | hc
    · have HC := Lib.hid hc
      clear hc
      have HV := Lib.hid (show codeOf p (colB col && numsIn p [a1, a2, a3] && numsIn p [b1, b2, b3]) = 2 from codeOf_out hp (by simp [HC.out]))
      have c0 : codeOf p (colB col) = 2 := codeOf_out hp HC.out
      go_enter Try.func40, Try.ntmps40
      (go_wp2_with fail; refine Calls.mono (specColCode0 _ _ _) ?_; rintro e w' ⟨rfl, rfl⟩)
      go_wp2
      refine wp_loop_rounds 3 ?_
      rw [rounds_succ]
      go_wp2
      go_ret
      exact ⟨ret_int HV.out.symm, by (repeat (first | exact Below.refl _ _ | refine balloc ?_ _ | refine bdrewN ?_ _ | refine Below.drew ?_ | refine Below.setCell ?_ (by first | (simp; done) | (simp; omega)) _))⟩
    · have HC := Lib.hid hc
      clear hc
      have c0 : codeOf p (colB col) = 0 := codeOf_in hp HC.out
      rcases bool_ways (numsIn p [a1, a2, a3]) with h0 | h0
      · have HV := Lib.hid (show codeOf p (colB col && numsIn p [a1, a2, a3] && numsIn p [b1, b2, b3]) = 2 from codeOf_out hp (by simp [HC.out, h0]))
        go_enter Try.func40, Try.ntmps40
        (go_wp2_with fail; refine Calls.mono (specColCode0 _ _ _) ?_; rintro e w' ⟨rfl, rfl⟩)
        go_wp2
        refine wp_loop_rounds 3 ?_
        rw [rounds_succ]
        (go_wp2_with fail; refine Calls.mono (specIs_any _ _ _ _ _ hp) ?_; rintro e w1 ⟨rfl, hB1⟩; obtain ⟨hB1c, hB1f⟩ := bcell hB1; have hB1s := hB1.size; (try simp at hB1s); (try have hB1q1 := Nat.lt_of_succ_le hB1s); (try have hB1q2 := Nat.lt_of_succ_lt hB1q1); (try have hB1q3 := Nat.lt_of_succ_lt hB1q2); (try have hB1zw0 : w.heap.size < w1.heap.size := (by omega)); (try have hB1zw1 : w.heap.size + 1 < w1.heap.size := (by omega)); (try have hB1zw2 : w.heap.size + 1 + 1 < w1.heap.size := (by omega)); (try have hB1zw3 : w.heap.size + 1 + 1 + 1 < w1.heap.size := (by omega)); (try have hB1zw4 : w.heap.size + 1 + 1 + 1 + 1 < w1.heap.size := (by omega)))
        have hs1 : w.heap.size < w1.heap.size := by first | omega | (have := hB1.size; simp at this; omega)
        have hc1 : ∀ j, w1.cell? ⟨w.heap.size, j, none⟩ = (w.alloc (.cells #[.int .i64 a1, .int .i64 a2, .int .i64 a3, .int .i64 b1, .int .i64 b2, .int .i64 b3] 30)).cell? ⟨w.heap.size, j, none⟩ := fun j => cell_back hB1 (by simp) j
        go_wp2
        rw [rounds_succ]
        go_wp2
        go_ret
        exact ⟨ret_int HV.out.symm, by (repeat (first | exact Below.refl _ _ | refine balloc ?_ _ | refine bdrewN ?_ _ | refine Below.drew ?_ | refine bthen ?_ hB1 | refine Below.setCell ?_ (by first | (simp; done) | (simp; omega)) _))⟩
      · rcases bool_ways (numsIn p [b1, b2, b3]) with h1 | h1
        · have HV := Lib.hid (show codeOf p (colB col && numsIn p [a1, a2, a3] && numsIn p [b1, b2, b3]) = 2 from codeOf_out hp (by simp [HC.out, h0, h1]))
          go_enter Try.func40, Try.ntmps40
          (go_wp2_with fail; refine Calls.mono (specColCode0 _ _ _) ?_; rintro e w' ⟨rfl, rfl⟩)
          go_wp2
          refine wp_loop_rounds 3 ?_
          rw [rounds_succ]
          (go_wp2_with fail; refine Calls.mono (specIs_any _ _ _ _ _ hp) ?_; rintro e w1 ⟨rfl, hB1⟩; obtain ⟨hB1c, hB1f⟩ := bcell hB1; have hB1s := hB1.size; (try simp at hB1s); (try have hB1q1 := Nat.lt_of_succ_le hB1s); (try have hB1q2 := Nat.lt_of_succ_lt hB1q1); (try have hB1q3 := Nat.lt_of_succ_lt hB1q2); (try have hB1zw0 : w.heap.size < w1.heap.size := (by omega)); (try have hB1zw1 : w.heap.size + 1 < w1.heap.size := (by omega)); (try have hB1zw2 : w.heap.size + 1 + 1 < w1.heap.size := (by omega)); (try have hB1zw3 : w.heap.size + 1 + 1 + 1 < w1.heap.size := (by omega)); (try have hB1zw4 : w.heap.size + 1 + 1 + 1 + 1 < w1.heap.size := (by omega)))
          have hs1 : w.heap.size < w1.heap.size := by first | omega | (have := hB1.size; simp at this; omega)
          have hc1 : ∀ j, w1.cell? ⟨w.heap.size, j, none⟩ = (w.alloc (.cells #[.int .i64 a1, .int .i64 a2, .int .i64 a3, .int .i64 b1, .int .i64 b2, .int .i64 b3] 30)).cell? ⟨w.heap.size, j, none⟩ := fun j => cell_back hB1 (by simp) j
          go_wp2
          rw [rounds_succ]
          (go_wp2_with fail; refine Calls.mono (specIs_any _ _ _ _ _ hp) ?_; rintro e w2 ⟨rfl, hB2⟩; obtain ⟨hB2c, hB2f⟩ := bcell hB2; have hB2s := hB2.size; (try simp at hB2s); (try have hB2q1 := Nat.lt_of_succ_le hB2s); (try have hB2q2 := Nat.lt_of_succ_lt hB2q1); (try have hB2q3 := Nat.lt_of_succ_lt hB2q2); (try have hB2zw0 : w.heap.size < w2.heap.size := (by omega)); (try have hB2zw1 : w.heap.size + 1 < w2.heap.size := (by omega)); (try have hB2zw2 : w.heap.size + 1 + 1 < w2.heap.size := (by omega)); (try have hB2zw3 : w.heap.size + 1 + 1 + 1 < w2.heap.size := (by omega)); (try have hB2zw4 : w.heap.size + 1 + 1 + 1 + 1 < w2.heap.size := (by omega)); (try have hB2zw10 : w1.heap.size < w2.heap.size := (by omega)); (try have hB2zw11 : w1.heap.size + 1 < w2.heap.size := (by omega)); (try have hB2zw12 : w1.heap.size + 1 + 1 < w2.heap.size := (by omega)); (try have hB2zw13 : w1.heap.size + 1 + 1 + 1 < w2.heap.size := (by omega)); (try have hB2zw14 : w1.heap.size + 1 + 1 + 1 + 1 < w2.heap.size := (by omega)))
          have hs2 : w.heap.size < w2.heap.size := by first | omega | (have := hB2.size; simp at this; omega)
          have hc2 : ∀ j, w2.cell? ⟨w.heap.size, j, none⟩ = (w.alloc (.cells #[.int .i64 a1, .int .i64 a2, .int .i64 a3, .int .i64 b1, .int .i64 b2, .int .i64 b3] 30)).cell? ⟨w.heap.size, j, none⟩ := fun j => (cell_back hB2 hs1 j).trans (hc1 j)
          go_wp2
          rw [rounds_succ]
          go_wp2
          go_ret
          exact ⟨ret_int HV.out.symm, by (repeat (first | exact Below.refl _ _ | refine balloc ?_ _ | refine bdrewN ?_ _ | refine Below.drew ?_ | refine bthen ?_ hB1 | refine bthen ?_ hB2 | refine Below.setCell ?_ (by first | (simp; done) | (simp; omega)) _))⟩
        · have HV := Lib.hid (show codeOf p (colB col && numsIn p [a1, a2, a3] && numsIn p [b1, b2, b3]) = 0 from codeOf_in hp (by simp [HC.out, h0, h1]))
          go_enter Try.func40, Try.ntmps40
          (go_wp2_with fail; refine Calls.mono (specColCode0 _ _ _) ?_; rintro e w' ⟨rfl, rfl⟩)
          go_wp2
          refine wp_loop_rounds 3 ?_
          rw [rounds_succ]
          (go_wp2_with fail; refine Calls.mono (specIs_any _ _ _ _ _ hp) ?_; rintro e w1 ⟨rfl, hB1⟩; obtain ⟨hB1c, hB1f⟩ := bcell hB1; have hB1s := hB1.size; (try simp at hB1s); (try have hB1q1 := Nat.lt_of_succ_le hB1s); (try have hB1q2 := Nat.lt_of_succ_lt hB1q1); (try have hB1q3 := Nat.lt_of_succ_lt hB1q2); (try have hB1zw0 : w.heap.size < w1.heap.size := (by omega)); (try have hB1zw1 : w.heap.size + 1 < w1.heap.size := (by omega)); (try have hB1zw2 : w.heap.size + 1 + 1 < w1.heap.size := (by omega)); (try have hB1zw3 : w.heap.size + 1 + 1 + 1 < w1.heap.size := (by omega)); (try have hB1zw4 : w.heap.size + 1 + 1 + 1 + 1 < w1.heap.size := (by omega)))
          have hs1 : w.heap.size < w1.heap.size := by first | omega | (have := hB1.size; simp at this; omega)
          have hc1 : ∀ j, w1.cell? ⟨w.heap.size, j, none⟩ = (w.alloc (.cells #[.int .i64 a1, .int .i64 a2, .int .i64 a3, .int .i64 b1, .int .i64 b2, .int .i64 b3] 30)).cell? ⟨w.heap.size, j, none⟩ := fun j => cell_back hB1 (by simp) j
          go_wp2
          rw [rounds_succ]
          (go_wp2_with fail; refine Calls.mono (specIs_any _ _ _ _ _ hp) ?_; rintro e w2 ⟨rfl, hB2⟩; obtain ⟨hB2c, hB2f⟩ := bcell hB2; have hB2s := hB2.size; (try simp at hB2s); (try have hB2q1 := Nat.lt_of_succ_le hB2s); (try have hB2q2 := Nat.lt_of_succ_lt hB2q1); (try have hB2q3 := Nat.lt_of_succ_lt hB2q2); (try have hB2zw0 : w.heap.size < w2.heap.size := (by omega)); (try have hB2zw1 : w.heap.size + 1 < w2.heap.size := (by omega)); (try have hB2zw2 : w.heap.size + 1 + 1 < w2.heap.size := (by omega)); (try have hB2zw3 : w.heap.size + 1 + 1 + 1 < w2.heap.size := (by omega)); (try have hB2zw4 : w.heap.size + 1 + 1 + 1 + 1 < w2.heap.size := (by omega)); (try have hB2zw10 : w1.heap.size < w2.heap.size := (by omega)); (try have hB2zw11 : w1.heap.size + 1 < w2.heap.size := (by omega)); (try have hB2zw12 : w1.heap.size + 1 + 1 < w2.heap.size := (by omega)); (try have hB2zw13 : w1.heap.size + 1 + 1 + 1 < w2.heap.size := (by omega)); (try have hB2zw14 : w1.heap.size + 1 + 1 + 1 + 1 < w2.heap.size := (by omega)))
          have hs2 : w.heap.size < w2.heap.size := by first | omega | (have := hB2.size; simp at this; omega)
          have hc2 : ∀ j, w2.cell? ⟨w.heap.size, j, none⟩ = (w.alloc (.cells #[.int .i64 a1, .int .i64 a2, .int .i64 a3, .int .i64 b1, .int .i64 b2, .int .i64 b3] 30)).cell? ⟨w.heap.size, j, none⟩ := fun j => (cell_back hB2 hs1 j).trans (hc1 j)
          go_wp2
          rw [rounds_succ]
          go_wp2
          go_ret
          exact ⟨ret_int HV.out.symm, by (repeat (first | exact Below.refl _ _ | refine balloc ?_ _ | refine bdrewN ?_ _ | refine Below.drew ?_ | refine bthen ?_ hB1 | refine bthen ?_ hB2 | refine Below.setCell ?_ (by first | (simp; done) | (simp; omega)) _))⟩

set_option maxRecDepth 20000 in
set_option maxHeartbeats 4000000 in
theorem specCircles3 (p col a1 a2 a3 b1 b2 b3 c1 c2 c3 : Int) (b : Nat) (w : World) (hb : b = w.heap.size) :
    Calls Try.prog 40 #[.int .i64 p, .int .i64 col, .slice (some ⟨b, 0, none⟩) 3 3] (w.alloc (.cells #[.int .i64 a1, .int .i64 a2, .int .i64 a3, .int .i64 b1, .int .i64 b2, .int .i64 b3, .int .i64 c1, .int .i64 c2, .int .i64 c3] 30)) fun e w' => e = .returned (.int .i64 (codeOf p (colB col && numsIn p [a1, a2, a3] && numsIn p [b1, b2, b3] && numsIn p [c1, c2, c3]))) ∧ Below w.heap.size w w' := by
  subst hb
  cases hp : isP p
  · have HV := Lib.hid (show codeOf p (colB col && numsIn p [a1, a2, a3] && numsIn p [b1, b2, b3] && numsIn p [c1, c2, c3]) = 1 from codeOf_no hp)
    have c0 : codeOf p (colB col) = 1 := codeOf_no hp
    go_enter Try.func40, Try.ntmps40
    (go_wp2_with fail; refine Calls.mono (specColCode0 _ _ _) ?_; rintro e w' ⟨rfl, rfl⟩)
    go_wp2
    refine wp_loop_rounds 4 ?_
    rw [rounds_succ]
    go_wp2
    go_ret
    exact ⟨ret_int HV.out.symm, by (repeat (first | exact Below.refl _ _ | refine balloc ?_ _ | refine bdrewN ?_ _ | refine Below.drew ?_ | refine Below.setCell ?_ (by first | (simp; done) | (simp; omega)) _))⟩
  · rcases bool_ways (colB col) with hc | hc
    · have HC := Lib.hid hc
      clear hc
      have HV := Lib.hid (show codeOf p (colB col && numsIn p [a1, a2, a3] && numsIn p [b1, b2, b3] && numsIn p [c1, c2, c3]) = 2 from codeOf_out hp (by simp [HC.out]))
      have c0 : codeOf p (colB col) = 2 := codeOf_out hp HC.out
      go_enter Try.func40, Try.ntmps40
      (go_wp2_with fail; refine Calls.mono (specColCode0 _ _ _) ?_; rintro e w' ⟨rfl, rfl⟩)
      go_wp2
      refine wp_loop_rounds 4 ?_
      rw [rounds_succ]
      go_wp2
      go_ret
      exact ⟨ret_int HV.out.symm, by (repeat (first | exact Below.refl _ _ | refine balloc ?_ _ | refine bdrewN ?_ _ | refine Below.drew ?_ | refine Below.setCell ?_ (by first | (simp; done) | (simp; omega)) _))⟩
    · have HC := Lib.hid hc
      clear hc
      have c0 : codeOf p (colB col) = 0 := codeOf_in hp HC.out
      rcases bool_ways (numsIn p [a1, a2, a3]) with h0 | h0
      · have HV := Lib.hid (show codeOf p (colB col && numsIn p [a1, a2, a3] && numsIn p [b1, b2, b3] && numsIn p [c1, c2, c3]) = 2 from codeOf_out hp (by simp [HC.out, h0]))
        go_enter Try.func40, Try.ntmps40
        (go_wp2_with fail; refine Calls.mono (specColCode0 _ _ _) ?_; rintro e w' ⟨rfl, rfl⟩)
        go_wp2
        refine wp_loop_rounds 4 ?_
        rw [rounds_succ]
        (go_wp2_with fail; refine Calls.mono (specIs_any _ _ _ _ _ hp) ?_; rintro e w1 ⟨rfl, hB1⟩; obtain ⟨hB1c, hB1f⟩ := bcell hB1; have hB1s := hB1.size; (try simp at hB1s); (try have hB1q1 := Nat.lt_of_succ_le hB1s); (try have hB1q2 := Nat.lt_of_succ_lt hB1q1); (try have hB1q3 := Nat.lt_of_succ_lt hB1q2); (try have hB1zw0 : w.heap.size < w1.heap.size := (by omega)); (try have hB1zw1 : w.heap.size + 1 < w1.heap.size := (by omega)); (try have hB1zw2 : w.heap.size + 1 + 1 < w1.heap.size := (by omega)); (try have hB1zw3 : w.heap.size + 1 + 1 + 1 < w1.heap.size := (by omega)); (try have hB1zw4 : w.heap.size + 1 + 1 + 1 + 1 < w1.heap.size := (by omega)))
        have hs1 : w.heap.size < w1.heap.size := by first | omega | (have := hB1.size; simp at this; omega)
        have hc1 : ∀ j, w1.cell? ⟨w.heap.size, j, none⟩ = (w.alloc (.cells #[.int .i64 a1, .int .i64 a2, .int .i64 a3, .int .i64 b1, .int .i64 b2, .int .i64 b3, .int .i64 c1, .int .i64 c2, .int .i64 c3] 30)).cell? ⟨w.heap.size, j, none⟩ := fun j => cell_back hB1 (by simp) j
        go_wp2
        rw [rounds_succ]
        go_wp2
        go_ret
        exact ⟨ret_int HV.out.symm, by (repeat (first | exact Below.refl _ _ | refine balloc ?_ _ | refine bdrewN ?_ _ | refine Below.drew ?_ | refine bthen ?_ hB1 | refine Below.setCell ?_ (by first | (simp; done) | (simp; omega)) _))⟩
      · rcases bool_ways (numsIn p [b1, b2, b3]) with h1 | h1
        · have HV := Lib.hid (show codeOf p (colB col && numsIn p [a1, a2, a3] && numsIn p [b1, b2, b3] && numsIn p [c1, c2, c3]) = 2 from codeOf_out hp (by simp [HC.out, h0, h1]))
          go_enter Try.func40, Try.ntmps40
          (go_wp2_with fail; refine Calls.mono (specColCode0 _ _ _) ?_; rintro e w' ⟨rfl, rfl⟩)
          go_wp2
          refine wp_loop_rounds 4 ?_
          rw [rounds_succ]
          (go_wp2_with fail; refine Calls.mono (specIs_any _ _ _ _ _ hp) ?_; rintro e w1 ⟨rfl, hB1⟩; obtain ⟨hB1c, hB1f⟩ := bcell hB1; have hB1s := hB1.size; (try simp at hB1s); (try have hB1q1 := Nat.lt_of_succ_le hB1s); (try have hB1q2 := Nat.lt_of_succ_lt hB1q1); (try have hB1q3 := Nat.lt_of_succ_lt hB1q2); (try have hB1zw0 : w.heap.size < w1.heap.size := (by omega)); (try have hB1zw1 : w.heap.size + 1 < w1.heap.size := (by omega)); (try have hB1zw2 : w.heap.size + 1 + 1 < w1.heap.size := (by omega)); (try have hB1zw3 : w.heap.size + 1 + 1 + 1 < w1.heap.size := (by omega)); (try have hB1zw4 : w.heap.size + 1 + 1 + 1 + 1 < w1.heap.size := (by omega)))
          have hs1 : w.heap.size < w1.heap.size := by first | omega | (have := hB1.size; simp at this; omega)
          have hc1 : ∀ j, w1.cell? ⟨w.heap.size, j, none⟩ = (w.alloc (.cells #[.int .i64 a1, .int .i64 a2, .int .i64 a3, .int .i64 b1, .int .i64 b2, .int .i64 b3, .int .i64 c1, .int .i64 c2, .int .i64 c3] 30)).cell? ⟨w.heap.size, j, none⟩ := fun j => cell_back hB1 (by simp) j
          go_wp2
          rw [rounds_succ]
          (go_wp2_with fail; refine Calls.mono (specIs_any _ _ _ _ _ hp) ?_; rintro e w2 ⟨rfl, hB2⟩; obtain ⟨hB2c, hB2f⟩ := bcell hB2; have hB2s := hB2.size; (try simp at hB2s); (try have hB2q1 := Nat.lt_of_succ_le hB2s); (try have hB2q2 := Nat.lt_of_succ_lt hB2q1); (try have hB2q3 := Nat.lt_of_succ_lt hB2q2); (try have hB2zw0 : w.heap.size < w2.heap.size := (by omega)); (try have hB2zw1 : w.heap.size + 1 < w2.heap.size := (by omega)); (try have hB2zw2 : w.heap.size + 1 + 1 < w2.heap.size := (by omega)); (try have hB2zw3 : w.heap.size + 1 + 1 + 1 < w2.heap.size := (by omega)); (try have hB2zw4 : w.heap.size + 1 + 1 + 1 + 1 < w2.heap.size := (by omega)); (try have hB2zw10 : w1.heap.size < w2.heap.size := (by omega)); (try have hB2zw11 : w1.heap.size + 1 < w2.heap.size := (by omega)); (try have hB2zw12 : w1.heap.size + 1 + 1 < w2.heap.size := (by omega)); (try have hB2zw13 : w1.heap.size + 1 + 1 + 1 < w2.heap.size := (by omega)); (try have hB2zw14 : w1.heap.size + 1 + 1 + 1 + 1 < w2.heap.size := (by omega)))
          have hs2 : w.heap.size < w2.heap.size := by first | omega | (have := hB2.size; simp at this; omega)
          have hc2 : ∀ j, w2.cell? ⟨w.heap.size, j, none⟩ = (w.alloc (.cells #[.int .i64 a1, .int .i64 a2, .int .i64 a3, .int .i64 b1, .int .i64 b2, .int .i64 b3, .int .i64 c1, .int .i64 c2, .int .i64 c3] 30)).cell? ⟨w.heap.size, j, none⟩ := fun j => (cell_back hB2 hs1 j).trans (hc1 j)
          go_wp2
          rw [rounds_succ]
          go_wp2
          go_ret
          exact ⟨ret_int HV.out.symm, by (repeat (first | exact Below.refl _ _ | refine balloc ?_ _ | refine bdrewN ?_ _ | refine Below.drew ?_ | refine bthen ?_ hB1 | refine bthen ?_ hB2 | refine Below.setCell ?_ (by first | (simp; done) | (simp; omega)) _))⟩
        · rcases bool_ways (numsIn p [c1, c2, c3]) with h2 | h2
          · have HV := Lib.hid (show codeOf p (colB col && numsIn p [a1, a2, a3] && numsIn p [b1, b2, b3] && numsIn p [c1, c2, c3]) = 2 from codeOf_out hp (by simp [HC.out, h0, h1, h2]))
            go_enter Try.func40, Try.ntmps40
            (go_wp2_with fail; refine Calls.mono (specColCode0 _ _ _) ?_; rintro e w' ⟨rfl, rfl⟩)
            go_wp2
            refine wp_loop_rounds 4 ?_
            rw [rounds_succ]
            (go_wp2_with fail; refine Calls.mono (specIs_any _ _ _ _ _ hp) ?_; rintro e w1 ⟨rfl, hB1⟩; obtain ⟨hB1c, hB1f⟩ := bcell hB1; have hB1s := hB1.size; (try simp at hB1s); (try have hB1q1 := Nat.lt_of_succ_le hB1s); (try have hB1q2 := Nat.lt_of_succ_lt hB1q1); (try have hB1q3 := Nat.lt_of_succ_lt hB1q2); (try have hB1zw0 : w.heap.size < w1.heap.size := (by omega)); (try have hB1zw1 : w.heap.size + 1 < w1.heap.size := (by omega)); (try have hB1zw2 : w.heap.size + 1 + 1 < w1.heap.size := (by omega)); (try have hB1zw3 : w.heap.size + 1 + 1 + 1 < w1.heap.size := (by omega)); (try have hB1zw4 : w.heap.size + 1 + 1 + 1 + 1 < w1.heap.size := (by omega)))
            have hs1 : w.heap.size < w1.heap.size := by first | omega | (have := hB1.size; simp at this; omega)
            have hc1 : ∀ j, w1.cell? ⟨w.heap.size, j, none⟩ = (w.alloc (.cells #[.int .i64 a1, .int .i64 a2, .int .i64 a3, .int .i64 b1, .int .i64 b2, .int .i64 b3, .int .i64 c1, .int .i64 c2, .int .i64 c3] 30)).cell? ⟨w.heap.size, j, none⟩ := fun j => cell_back hB1 (by simp) j
            go_wp2
            rw [rounds_succ]
            (go_wp2_with fail; refine Calls.mono (specIs_any _ _ _ _ _ hp) ?_; rintro e w2 ⟨rfl, hB2⟩; obtain ⟨hB2c, hB2f⟩ := bcell hB2; have hB2s := hB2.size; (try simp at hB2s); (try have hB2q1 := Nat.lt_of_succ_le hB2s); (try have hB2q2 := Nat.lt_of_succ_lt hB2q1); (try have hB2q3 := Nat.lt_of_succ_lt hB2q2); (try have hB2zw0 : w.heap.size < w2.heap.size := (by omega)); (try have hB2zw1 : w.heap.size + 1 < w2.heap.size := (by omega)); (try have hB2zw2 : w.heap.size + 1 + 1 < w2.heap.size := (by omega)); (try have hB2zw3 : w.heap.size + 1 + 1 + 1 < w2.heap.size := (by omega)); (try have hB2zw4 : w.heap.size + 1 + 1 + 1 + 1 < w2.heap.size := (by omega)); (try have hB2zw10 : w1.heap.size < w2.heap.size := (by omega)); (try have hB2zw11 : w1.heap.size + 1 < w2.heap.size := (by omega)); (try have hB2zw12 : w1.heap.size + 1 + 1 < w2.heap.size := (by omega)); (try have hB2zw13 : w1.heap.size + 1 + 1 + 1 < w2.heap.size := (by omega)); (try have hB2zw14 : w1.heap.size + 1 + 1 + 1 + 1 < w2.heap.size := (by omega)))
            have hs2 : w.heap.size < w2.heap.size := by first | omega | (have := hB2.size; simp at this; omega)
            have hc2 : ∀ j, w2.cell? ⟨w.heap.size, j, none⟩ = (w.alloc (.cells #[.int .i64 a1, .int .i64 a2, .int .i64 a3, .int .i64 b1, .int .i64 b2, .int .i64 b3, .int .i64 c1, .int .i64 c2, .int .i64 c3] 30)).cell? ⟨w.heap.size, j, none⟩ := fun j => (cell_back hB2 hs1 j).trans (hc1 j)
            go_wp2
            rw [rounds_succ]
            (go_wp2_with fail; refine Calls.mono (specIs_any _ _ _ _ _ hp) ?_; rintro e w3 ⟨rfl, hB3⟩; obtain ⟨hB3c, hB3f⟩ := bcell hB3; have hB3s := hB3.size; (try simp at hB3s); (try have hB3q1 := Nat.lt_of_succ_le hB3s); (try have hB3q2 := Nat.lt_of_succ_lt hB3q1); (try have hB3q3 := Nat.lt_of_succ_lt hB3q2); (try have hB3zw0 : w.heap.size < w3.heap.size := (by omega)); (try have hB3zw1 : w.heap.size + 1 < w3.heap.size := (by omega)); (try have hB3zw2 : w.heap.size + 1 + 1 < w3.heap.size := (by omega)); (try have hB3zw3 : w.heap.size + 1 + 1 + 1 < w3.heap.size := (by omega)); (try have hB3zw4 : w.heap.size + 1 + 1 + 1 + 1 < w3.heap.size := (by omega)); (try have hB3zw20 : w2.heap.size < w3.heap.size := (by omega)); (try have hB3zw21 : w2.heap.size + 1 < w3.heap.size := (by omega)); (try have hB3zw22 : w2.heap.size + 1 + 1 < w3.heap.size := (by omega)); (try have hB3zw23 : w2.heap.size + 1 + 1 + 1 < w3.heap.size := (by omega)); (try have hB3zw24 : w2.heap.size + 1 + 1 + 1 + 1 < w3.heap.size := (by omega)); (try have hB3zw10 : w1.heap.size < w3.heap.size := (by omega)); (try have hB3zw11 : w1.heap.size + 1 < w3.heap.size := (by omega)); (try have hB3zw12 : w1.heap.size + 1 + 1 < w3.heap.size := (by omega)); (try have hB3zw13 : w1.heap.size + 1 + 1 + 1 < w3.heap.size := (by omega)); (try have hB3zw14 : w1.heap.size + 1 + 1 + 1 + 1 < w3.heap.size := (by omega)))
            have hs3 : w.heap.size < w3.heap.size := by first | omega | (have := hB3.size; simp at this; omega)
            have hc3 : ∀ j, w3.cell? ⟨w.heap.size, j, none⟩ = (w.alloc (.cells #[.int .i64 a1, .int .i64 a2, .int .i64 a3, .int .i64 b1, .int .i64 b2, .int .i64 b3, .int .i64 c1, .int .i64 c2, .int .i64 c3] 30)).cell? ⟨w.heap.size, j, none⟩ := fun j => (cell_back hB3 hs2 j).trans (hc2 j)
            go_wp2
            rw [rounds_succ]
            go_wp2
            go_ret
            exact ⟨ret_int HV.out.symm, by (repeat (first | exact Below.refl _ _ | refine balloc ?_ _ | refine bdrewN ?_ _ | refine Below.drew ?_ | refine bthen ?_ hB1 | refine bthen ?_ hB2 | refine bthen ?_ hB3 | refine Below.setCell ?_ (by first | (simp; done) | (simp; omega)) _))⟩
          · have HV := Lib.hid (show codeOf p (colB col && numsIn p [a1, a2, a3] && numsIn p [b1, b2, b3] && numsIn p [c1, c2, c3]) = 0 from codeOf_in hp (by simp [HC.out, h0, h1, h2]))
            go_enter Try.func40, Try.ntmps40
            (go_wp2_with fail; refine Calls.mono (specColCode0 _ _ _) ?_; rintro e w' ⟨rfl, rfl⟩)
            go_wp2
            refine wp_loop_rounds 4 ?_
            rw [rounds_succ]
            (go_wp2_with fail; refine Calls.mono (specIs_any _ _ _ _ _ hp) ?_; rintro e w1 ⟨rfl, hB1⟩; obtain ⟨hB1c, hB1f⟩ := bcell hB1; have hB1s := hB1.size; (try simp at hB1s); (try have hB1q1 := Nat.lt_of_succ_le hB1s); (try have hB1q2 := Nat.lt_of_succ_lt hB1q1); (try have hB1q3 := Nat.lt_of_succ_lt hB1q2); (try have hB1zw0 : w.heap.size < w1.heap.size := (by omega)); (try have hB1zw1 : w.heap.size + 1 < w1.heap.size := (by omega)); (try have hB1zw2 : w.heap.size + 1 + 1 < w1.heap.size := (by omega)); (try have hB1zw3 : w.heap.size + 1 + 1 + 1 < w1.heap.size := (by omega)); (try have hB1zw4 : w.heap.size + 1 + 1 + 1 + 1 < w1.heap.size := (by omega)))
            have hs1 : w.heap.size < w1.heap.size := by first | omega | (have := hB1.size; simp at this; omega)
            have hc1 : ∀ j, w1.cell? ⟨w.heap.size, j, none⟩ = (w.alloc (.cells #[.int .i64 a1, .int .i64 a2, .int .i64 a3, .int .i64 b1, .int .i64 b2, .int .i64 b3, .int .i64 c1, .int .i64 c2, .int .i64 c3] 30)).cell? ⟨w.heap.size, j, none⟩ := fun j => cell_back hB1 (by simp) j
            go_wp2
            rw [rounds_succ]
            (go_wp2_with fail; refine Calls.mono (specIs_any _ _ _ _ _ hp) ?_; rintro e w2 ⟨rfl, hB2⟩; obtain ⟨hB2c, hB2f⟩ := bcell hB2; have hB2s := hB2.size; (try simp at hB2s); (try have hB2q1 := Nat.lt_of_succ_le hB2s); (try have hB2q2 := Nat.lt_of_succ_lt hB2q1); (try have hB2q3 := Nat.lt_of_succ_lt hB2q2); (try have hB2zw0 : w.heap.size < w2.heap.size := (by omega)); (try have hB2zw1 : w.heap.size + 1 < w2.heap.size := (by omega)); (try have hB2zw2 : w.heap.size + 1 + 1 < w2.heap.size := (by omega)); (try have hB2zw3 : w.heap.size + 1 + 1 + 1 < w2.heap.size := (by omega)); (try have hB2zw4 : w.heap.size + 1 + 1 + 1 + 1 < w2.heap.size := (by omega)); (try have hB2zw10 : w1.heap.size < w2.heap.size := (by omega)); (try have hB2zw11 : w1.heap.size + 1 < w2.heap.size := (by omega)); (try have hB2zw12 : w1.heap.size + 1 + 1 < w2.heap.size := (by omega)); (try have hB2zw13 : w1.heap.size + 1 + 1 + 1 < w2.heap.size := (by omega)); (try have hB2zw14 : w1.heap.size + 1 + 1 + 1 + 1 < w2.heap.size := (by omega)))
            have hs2 : w.heap.size < w2.heap.size := by first | omega | (have := hB2.size; simp at this; omega)
            have hc2 : ∀ j, w2.cell? ⟨w.heap.size, j, none⟩ = (w.alloc (.cells #[.int .i64 a1, .int .i64 a2, .int .i64 a3, .int .i64 b1, .int .i64 b2, .int .i64 b3, .int .i64 c1, .int .i64 c2, .int .i64 c3] 30)).cell? ⟨w.heap.size, j, none⟩ := fun j => (cell_back hB2 hs1 j).trans (hc1 j)
            go_wp2
            rw [rounds_succ]
            (go_wp2_with fail; refine Calls.mono (specIs_any _ _ _ _ _ hp) ?_; rintro e w3 ⟨rfl, hB3⟩; obtain ⟨hB3c, hB3f⟩ := bcell hB3; have hB3s := hB3.size; (try simp at hB3s); (try have hB3q1 := Nat.lt_of_succ_le hB3s); (try have hB3q2 := Nat.lt_of_succ_lt hB3q1); (try have hB3q3 := Nat.lt_of_succ_lt hB3q2); (try have hB3zw0 : w.heap.size < w3.heap.size := (by omega)); (try have hB3zw1 : w.heap.size + 1 < w3.heap.size := (by omega)); (try have hB3zw2 : w.heap.size + 1 + 1 < w3.heap.size := (by omega)); (try have hB3zw3 : w.heap.size + 1 + 1 + 1 < w3.heap.size := (by omega)); (try have hB3zw4 : w.heap.size + 1 + 1 + 1 + 1 < w3.heap.size := (by omega)); (try have hB3zw20 : w2.heap.size < w3.heap.size := (by omega)); (try have hB3zw21 : w2.heap.size + 1 < w3.heap.size := (by omega)); (try have hB3zw22 : w2.heap.size + 1 + 1 < w3.heap.size := (by omega)); (try have hB3zw23 : w2.heap.size + 1 + 1 + 1 < w3.heap.size := (by omega)); (try have hB3zw24 : w2.heap.size + 1 + 1 + 1 + 1 < w3.heap.size := (by omega)); (try have hB3zw10 : w1.heap.size < w3.heap.size := (by omega)); (try have hB3zw11 : w1.heap.size + 1 < w3.heap.size := (by omega)); (try have hB3zw12 : w1.heap.size + 1 + 1 < w3.heap.size := (by omega)); (try have hB3zw13 : w1.heap.size + 1 + 1 + 1 < w3.heap.size := (by omega)); (try have hB3zw14 : w1.heap.size + 1 + 1 + 1 + 1 < w3.heap.size := (by omega)))
            have hs3 : w.heap.size < w3.heap.size := by first | omega | (have := hB3.size; simp at this; omega)
            have hc3 : ∀ j, w3.cell? ⟨w.heap.size, j, none⟩ = (w.alloc (.cells #[.int .i64 a1, .int .i64 a2, .int .i64 a3, .int .i64 b1, .int .i64 b2, .int .i64 b3, .int .i64 c1, .int .i64 c2, .int .i64 c3] 30)).cell? ⟨w.heap.size, j, none⟩ := fun j => (cell_back hB3 hs2 j).trans (hc2 j)
            go_wp2
            rw [rounds_succ]
            go_wp2
            go_ret
            exact ⟨ret_int HV.out.symm, by (repeat (first | exact Below.refl _ _ | refine balloc ?_ _ | refine bdrewN ?_ _ | refine Below.drew ?_ | refine bthen ?_ hB1 | refine bthen ?_ hB2 | refine bthen ?_ hB3 | refine Below.setCell ?_ (by first | (simp; done) | (simp; omega)) _))⟩

end Go.Proofs.Ytmpgpmcmhbpjeab
