/-
  Points: spec.l01Point, spec.l01Code of one, two and three points.
-/
import Derived.Test.YtodabjolblamgaaField
import Derived.Test.YtodabjolblamgaaBaseMath
import Derived.LoopN
namespace Go.Proofs.Ytodabjolblamgaa
open Go.RowKit

set_option maxRecDepth 20000 in
set_option maxHeartbeats 400000 in
theorem specPoint_any (p a1 a2 : Int) (w : World) (hp : isP p = true) :
    Calls Try.prog 143 #[.int .i64 p, .agg #[.int .i64 a1, .int .i64 a2]] w fun e w' => e = .returned (.bool (numsIn p [a1, a2])) ∧ Below w.heap.size w w' := by
  have hr := isP_range hp
  cases h1 : inB a1 0 (p - 1) <;> cases h2 : inB a2 0 (p - 1)
  all_goals
    have HV := Lib.hid (numsIn2 p a1 a2)
    rw [h1, h2] at HV
    go_enter Try.func143, Try.ntmps143
    go_wp2_with (go_at_call 127; refine Calls.mono (in_any _ _ _ _) ?_; rintro e w' ⟨rfl, rfl⟩)
    go_ret
    exact ⟨ret_bool (by rw [HV.out]; rfl), balloc (Below.refl _ _) _⟩

set_option maxRecDepth 20000 in
set_option maxHeartbeats 1000000 in
theorem specCode1 (p a1 a2 : Int) (b : Nat) (w : World) (hb : b = w.heap.size) :
    Calls Try.prog 116 #[.int .i64 p, .slice (some ⟨b, 0, none⟩) 1 1] (w.alloc (.cells #[.int .i64 a1, .int .i64 a2] 25)) fun e w' => e = .returned (.int .i64 (codeOf p (numsIn p [a1, a2]))) ∧ Below w.heap.size w w' := by
  subst hb
  cases hp : isP p
  · go_enter Try.func116, Try.ntmps116
    go_wp2_with (go_at_call 126; refine Calls.mono (field_any _ _) ?_; rintro e w' ⟨rfl, rfl⟩)
    go_ret
    exact ⟨ret_int (by rw [codeOf_no hp]), by (repeat (first | exact Below.refl _ _ | assumption | refine balloc ?_ _ | refine bdrewN ?_ _ | refine Below.drew ?_ | refine Below.setCell ?_ (by first | (simp; done) | (simp; omega)) _))⟩
  · cases h0 : numsIn p [a1, a2]
    · have HV := Lib.hid (show codeOf p (numsIn p [a1, a2]) = 2 by rw [codeOf_out hp (by simp [h0])])
      go_enter Try.func116, Try.ntmps116
      go_wp2_with (go_at_call 126; refine Calls.mono (field_any _ _) ?_; rintro e w' ⟨rfl, rfl⟩)
      refine wp_loop_rounds 2 ?_
      rw [rounds_succ]
      (go_wp2_with fail; refine Calls.mono (specPoint_any _ _ _ _ hp) ?_; rintro e w1 ⟨rfl, hB1⟩)
      have hs1 : w.heap.size < w1.heap.size := by have := hB1.size; simp at this; omega
      have hc1 : ∀ j, w1.cell? ⟨w.heap.size, j, none⟩ = (w.alloc (.cells #[.int .i64 a1, .int .i64 a2] 25)).cell? ⟨w.heap.size, j, none⟩ := fun j => cell_back hB1 (by simp) j
      go_wp2
      go_ret
      exact ⟨ret_int (by first | exact HV.out.symm | exact (codeOf_out hp (by simp)).symm | exact (codeOf_in hp (by simp)).symm), bthen (balloc (Below.refl _ _) _) hB1⟩
    · have HV := Lib.hid (show codeOf p (numsIn p [a1, a2]) = 0 by rw [codeOf_in hp (by simp [h0])])
      go_enter Try.func116, Try.ntmps116
      go_wp2_with (go_at_call 126; refine Calls.mono (field_any _ _) ?_; rintro e w' ⟨rfl, rfl⟩)
      refine wp_loop_rounds 2 ?_
      rw [rounds_succ]
      (go_wp2_with fail; refine Calls.mono (specPoint_any _ _ _ _ hp) ?_; rintro e w1 ⟨rfl, hB1⟩)
      have hs1 : w.heap.size < w1.heap.size := by have := hB1.size; simp at this; omega
      have hc1 : ∀ j, w1.cell? ⟨w.heap.size, j, none⟩ = (w.alloc (.cells #[.int .i64 a1, .int .i64 a2] 25)).cell? ⟨w.heap.size, j, none⟩ := fun j => cell_back hB1 (by simp) j
      go_wp2
      rw [rounds_succ]
      go_wp2
      go_ret
      exact ⟨ret_int (by first | exact HV.out.symm | exact (codeOf_out hp (by simp)).symm | exact (codeOf_in hp (by simp)).symm), bthen (balloc (Below.refl _ _) _) hB1⟩

set_option maxRecDepth 20000 in
set_option maxHeartbeats 1000000 in
theorem specCode2 (p a1 a2 b1 b2 : Int) (b : Nat) (w : World) (hb : b = w.heap.size) :
    Calls Try.prog 116 #[.int .i64 p, .slice (some ⟨b, 0, none⟩) 2 2] (w.alloc (.cells #[.int .i64 a1, .int .i64 a2, .int .i64 b1, .int .i64 b2] 25)) fun e w' => e = .returned (.int .i64 (codeOf p (numsIn p [a1, a2, b1, b2]))) ∧ Below w.heap.size w w' := by
  subst hb
  cases hp : isP p
  · go_enter Try.func116, Try.ntmps116
    go_wp2_with (go_at_call 126; refine Calls.mono (field_any _ _) ?_; rintro e w' ⟨rfl, rfl⟩)
    go_ret
    exact ⟨ret_int (by rw [codeOf_no hp]), by (repeat (first | exact Below.refl _ _ | assumption | refine balloc ?_ _ | refine bdrewN ?_ _ | refine Below.drew ?_ | refine Below.setCell ?_ (by first | (simp; done) | (simp; omega)) _))⟩
  · cases h0 : numsIn p [a1, a2]
    · have HV := Lib.hid (show codeOf p (numsIn p [a1, a2, b1, b2]) = 2 by rw [numsApp2, codeOf_out hp (by simp [h0])])
      go_enter Try.func116, Try.ntmps116
      go_wp2_with (go_at_call 126; refine Calls.mono (field_any _ _) ?_; rintro e w' ⟨rfl, rfl⟩)
      refine wp_loop_rounds 3 ?_
      rw [rounds_succ]
      (go_wp2_with fail; refine Calls.mono (specPoint_any _ _ _ _ hp) ?_; rintro e w1 ⟨rfl, hB1⟩)
      have hs1 : w.heap.size < w1.heap.size := by have := hB1.size; simp at this; omega
      have hc1 : ∀ j, w1.cell? ⟨w.heap.size, j, none⟩ = (w.alloc (.cells #[.int .i64 a1, .int .i64 a2, .int .i64 b1, .int .i64 b2] 25)).cell? ⟨w.heap.size, j, none⟩ := fun j => cell_back hB1 (by simp) j
      go_wp2
      go_ret
      exact ⟨ret_int (by first | exact HV.out.symm | exact (codeOf_out hp (by simp)).symm | exact (codeOf_in hp (by simp)).symm), bthen (balloc (Below.refl _ _) _) hB1⟩
    · cases h1 : numsIn p [b1, b2]
      · have HV := Lib.hid (show codeOf p (numsIn p [a1, a2, b1, b2]) = 2 by rw [numsApp2, codeOf_out hp (by simp [h0, h1])])
        go_enter Try.func116, Try.ntmps116
        go_wp2_with (go_at_call 126; refine Calls.mono (field_any _ _) ?_; rintro e w' ⟨rfl, rfl⟩)
        refine wp_loop_rounds 3 ?_
        rw [rounds_succ]
        (go_wp2_with fail; refine Calls.mono (specPoint_any _ _ _ _ hp) ?_; rintro e w1 ⟨rfl, hB1⟩)
        have hs1 : w.heap.size < w1.heap.size := by have := hB1.size; simp at this; omega
        have hc1 : ∀ j, w1.cell? ⟨w.heap.size, j, none⟩ = (w.alloc (.cells #[.int .i64 a1, .int .i64 a2, .int .i64 b1, .int .i64 b2] 25)).cell? ⟨w.heap.size, j, none⟩ := fun j => cell_back hB1 (by simp) j
        go_wp2
        rw [rounds_succ]
        (go_wp2_with fail; refine Calls.mono (specPoint_any _ _ _ _ hp) ?_; rintro e w2 ⟨rfl, hB2⟩)
        have hs2 : w.heap.size < w2.heap.size := Nat.lt_of_lt_of_le hs1 hB2.size
        have hc2 : ∀ j, w2.cell? ⟨w.heap.size, j, none⟩ = (w.alloc (.cells #[.int .i64 a1, .int .i64 a2, .int .i64 b1, .int .i64 b2] 25)).cell? ⟨w.heap.size, j, none⟩ := fun j => (cell_back hB2 hs1 j).trans (hc1 j)
        go_wp2
        go_ret
        exact ⟨ret_int (by first | exact HV.out.symm | exact (codeOf_out hp (by simp)).symm | exact (codeOf_in hp (by simp)).symm), bthen (bthen (balloc (Below.refl _ _) _) hB1) hB2⟩
      · have HV := Lib.hid (show codeOf p (numsIn p [a1, a2, b1, b2]) = 0 by rw [numsApp2, codeOf_in hp (by simp [h0, h1])])
        go_enter Try.func116, Try.ntmps116
        go_wp2_with (go_at_call 126; refine Calls.mono (field_any _ _) ?_; rintro e w' ⟨rfl, rfl⟩)
        refine wp_loop_rounds 3 ?_
        rw [rounds_succ]
        (go_wp2_with fail; refine Calls.mono (specPoint_any _ _ _ _ hp) ?_; rintro e w1 ⟨rfl, hB1⟩)
        have hs1 : w.heap.size < w1.heap.size := by have := hB1.size; simp at this; omega
        have hc1 : ∀ j, w1.cell? ⟨w.heap.size, j, none⟩ = (w.alloc (.cells #[.int .i64 a1, .int .i64 a2, .int .i64 b1, .int .i64 b2] 25)).cell? ⟨w.heap.size, j, none⟩ := fun j => cell_back hB1 (by simp) j
        go_wp2
        rw [rounds_succ]
        (go_wp2_with fail; refine Calls.mono (specPoint_any _ _ _ _ hp) ?_; rintro e w2 ⟨rfl, hB2⟩)
        have hs2 : w.heap.size < w2.heap.size := Nat.lt_of_lt_of_le hs1 hB2.size
        have hc2 : ∀ j, w2.cell? ⟨w.heap.size, j, none⟩ = (w.alloc (.cells #[.int .i64 a1, .int .i64 a2, .int .i64 b1, .int .i64 b2] 25)).cell? ⟨w.heap.size, j, none⟩ := fun j => (cell_back hB2 hs1 j).trans (hc1 j)
        go_wp2
        rw [rounds_succ]
        go_wp2
        go_ret
        exact ⟨ret_int (by first | exact HV.out.symm | exact (codeOf_out hp (by simp)).symm | exact (codeOf_in hp (by simp)).symm), bthen (bthen (balloc (Below.refl _ _) _) hB1) hB2⟩

set_option maxRecDepth 20000 in
set_option maxHeartbeats 1000000 in
theorem specCode3 (p a1 a2 b1 b2 c1 c2 : Int) (b : Nat) (w : World) (hb : b = w.heap.size) :
    Calls Try.prog 116 #[.int .i64 p, .slice (some ⟨b, 0, none⟩) 3 3] (w.alloc (.cells #[.int .i64 a1, .int .i64 a2, .int .i64 b1, .int .i64 b2, .int .i64 c1, .int .i64 c2] 25)) fun e w' => e = .returned (.int .i64 (codeOf p (numsIn p [a1, a2, b1, b2, c1, c2]))) ∧ Below w.heap.size w w' := by
  subst hb
  cases hp : isP p
  · go_enter Try.func116, Try.ntmps116
    go_wp2_with (go_at_call 126; refine Calls.mono (field_any _ _) ?_; rintro e w' ⟨rfl, rfl⟩)
    go_ret
    exact ⟨ret_int (by rw [codeOf_no hp]), by (repeat (first | exact Below.refl _ _ | assumption | refine balloc ?_ _ | refine bdrewN ?_ _ | refine Below.drew ?_ | refine Below.setCell ?_ (by first | (simp; done) | (simp; omega)) _))⟩
  · cases h0 : numsIn p [a1, a2]
    · have HV := Lib.hid (show codeOf p (numsIn p [a1, a2, b1, b2, c1, c2]) = 2 by rw [numsApp3, codeOf_out hp (by simp [h0])])
      go_enter Try.func116, Try.ntmps116
      go_wp2_with (go_at_call 126; refine Calls.mono (field_any _ _) ?_; rintro e w' ⟨rfl, rfl⟩)
      refine wp_loop_rounds 4 ?_
      rw [rounds_succ]
      (go_wp2_with fail; refine Calls.mono (specPoint_any _ _ _ _ hp) ?_; rintro e w1 ⟨rfl, hB1⟩)
      have hs1 : w.heap.size < w1.heap.size := by have := hB1.size; simp at this; omega
      have hc1 : ∀ j, w1.cell? ⟨w.heap.size, j, none⟩ = (w.alloc (.cells #[.int .i64 a1, .int .i64 a2, .int .i64 b1, .int .i64 b2, .int .i64 c1, .int .i64 c2] 25)).cell? ⟨w.heap.size, j, none⟩ := fun j => cell_back hB1 (by simp) j
      go_wp2
      go_ret
      exact ⟨ret_int (by first | exact HV.out.symm | exact (codeOf_out hp (by simp)).symm | exact (codeOf_in hp (by simp)).symm), bthen (balloc (Below.refl _ _) _) hB1⟩
    · cases h1 : numsIn p [b1, b2]
      · have HV := Lib.hid (show codeOf p (numsIn p [a1, a2, b1, b2, c1, c2]) = 2 by rw [numsApp3, codeOf_out hp (by simp [h0, h1])])
        go_enter Try.func116, Try.ntmps116
        go_wp2_with (go_at_call 126; refine Calls.mono (field_any _ _) ?_; rintro e w' ⟨rfl, rfl⟩)
        refine wp_loop_rounds 4 ?_
        rw [rounds_succ]
        (go_wp2_with fail; refine Calls.mono (specPoint_any _ _ _ _ hp) ?_; rintro e w1 ⟨rfl, hB1⟩)
        have hs1 : w.heap.size < w1.heap.size := by have := hB1.size; simp at this; omega
        have hc1 : ∀ j, w1.cell? ⟨w.heap.size, j, none⟩ = (w.alloc (.cells #[.int .i64 a1, .int .i64 a2, .int .i64 b1, .int .i64 b2, .int .i64 c1, .int .i64 c2] 25)).cell? ⟨w.heap.size, j, none⟩ := fun j => cell_back hB1 (by simp) j
        go_wp2
        rw [rounds_succ]
        (go_wp2_with fail; refine Calls.mono (specPoint_any _ _ _ _ hp) ?_; rintro e w2 ⟨rfl, hB2⟩)
        have hs2 : w.heap.size < w2.heap.size := Nat.lt_of_lt_of_le hs1 hB2.size
        have hc2 : ∀ j, w2.cell? ⟨w.heap.size, j, none⟩ = (w.alloc (.cells #[.int .i64 a1, .int .i64 a2, .int .i64 b1, .int .i64 b2, .int .i64 c1, .int .i64 c2] 25)).cell? ⟨w.heap.size, j, none⟩ := fun j => (cell_back hB2 hs1 j).trans (hc1 j)
        go_wp2
        go_ret
        exact ⟨ret_int (by first | exact HV.out.symm | exact (codeOf_out hp (by simp)).symm | exact (codeOf_in hp (by simp)).symm), bthen (bthen (balloc (Below.refl _ _) _) hB1) hB2⟩
      · cases h2 : numsIn p [c1, c2]
        · have HV := Lib.hid (show codeOf p (numsIn p [a1, a2, b1, b2, c1, c2]) = 2 by rw [numsApp3, codeOf_out hp (by simp [h0, h1, h2])])
          go_enter Try.func116, Try.ntmps116
          go_wp2_with (go_at_call 126; refine Calls.mono (field_any _ _) ?_; rintro e w' ⟨rfl, rfl⟩)
          refine wp_loop_rounds 4 ?_
          rw [rounds_succ]
          (go_wp2_with fail; refine Calls.mono (specPoint_any _ _ _ _ hp) ?_; rintro e w1 ⟨rfl, hB1⟩)
          have hs1 : w.heap.size < w1.heap.size := by have := hB1.size; simp at this; omega
          have hc1 : ∀ j, w1.cell? ⟨w.heap.size, j, none⟩ = (w.alloc (.cells #[.int .i64 a1, .int .i64 a2, .int .i64 b1, .int .i64 b2, .int .i64 c1, .int .i64 c2] 25)).cell? ⟨w.heap.size, j, none⟩ := fun j => cell_back hB1 (by simp) j
          go_wp2
          rw [rounds_succ]
          (go_wp2_with fail; refine Calls.mono (specPoint_any _ _ _ _ hp) ?_; rintro e w2 ⟨rfl, hB2⟩)
          have hs2 : w.heap.size < w2.heap.size := Nat.lt_of_lt_of_le hs1 hB2.size
          have hc2 : ∀ j, w2.cell? ⟨w.heap.size, j, none⟩ = (w.alloc (.cells #[.int .i64 a1, .int .i64 a2, .int .i64 b1, .int .i64 b2, .int .i64 c1, .int .i64 c2] 25)).cell? ⟨w.heap.size, j, none⟩ := fun j => (cell_back hB2 hs1 j).trans (hc1 j)
          go_wp2
          rw [rounds_succ]
          (go_wp2_with fail; refine Calls.mono (specPoint_any _ _ _ _ hp) ?_; rintro e w3 ⟨rfl, hB3⟩)
          have hs3 : w.heap.size < w3.heap.size := Nat.lt_of_lt_of_le hs2 hB3.size
          have hc3 : ∀ j, w3.cell? ⟨w.heap.size, j, none⟩ = (w.alloc (.cells #[.int .i64 a1, .int .i64 a2, .int .i64 b1, .int .i64 b2, .int .i64 c1, .int .i64 c2] 25)).cell? ⟨w.heap.size, j, none⟩ := fun j => (cell_back hB3 hs2 j).trans (hc2 j)
          go_wp2
          go_ret
          exact ⟨ret_int (by first | exact HV.out.symm | exact (codeOf_out hp (by simp)).symm | exact (codeOf_in hp (by simp)).symm), bthen (bthen (bthen (balloc (Below.refl _ _) _) hB1) hB2) hB3⟩
        · have HV := Lib.hid (show codeOf p (numsIn p [a1, a2, b1, b2, c1, c2]) = 0 by rw [numsApp3, codeOf_in hp (by simp [h0, h1, h2])])
          go_enter Try.func116, Try.ntmps116
          go_wp2_with (go_at_call 126; refine Calls.mono (field_any _ _) ?_; rintro e w' ⟨rfl, rfl⟩)
          refine wp_loop_rounds 4 ?_
          rw [rounds_succ]
          (go_wp2_with fail; refine Calls.mono (specPoint_any _ _ _ _ hp) ?_; rintro e w1 ⟨rfl, hB1⟩)
          have hs1 : w.heap.size < w1.heap.size := by have := hB1.size; simp at this; omega
          have hc1 : ∀ j, w1.cell? ⟨w.heap.size, j, none⟩ = (w.alloc (.cells #[.int .i64 a1, .int .i64 a2, .int .i64 b1, .int .i64 b2, .int .i64 c1, .int .i64 c2] 25)).cell? ⟨w.heap.size, j, none⟩ := fun j => cell_back hB1 (by simp) j
          go_wp2
          rw [rounds_succ]
          (go_wp2_with fail; refine Calls.mono (specPoint_any _ _ _ _ hp) ?_; rintro e w2 ⟨rfl, hB2⟩)
          have hs2 : w.heap.size < w2.heap.size := Nat.lt_of_lt_of_le hs1 hB2.size
          have hc2 : ∀ j, w2.cell? ⟨w.heap.size, j, none⟩ = (w.alloc (.cells #[.int .i64 a1, .int .i64 a2, .int .i64 b1, .int .i64 b2, .int .i64 c1, .int .i64 c2] 25)).cell? ⟨w.heap.size, j, none⟩ := fun j => (cell_back hB2 hs1 j).trans (hc1 j)
          go_wp2
          rw [rounds_succ]
          (go_wp2_with fail; refine Calls.mono (specPoint_any _ _ _ _ hp) ?_; rintro e w3 ⟨rfl, hB3⟩)
          have hs3 : w.heap.size < w3.heap.size := Nat.lt_of_lt_of_le hs2 hB3.size
          have hc3 : ∀ j, w3.cell? ⟨w.heap.size, j, none⟩ = (w.alloc (.cells #[.int .i64 a1, .int .i64 a2, .int .i64 b1, .int .i64 b2, .int .i64 c1, .int .i64 c2] 25)).cell? ⟨w.heap.size, j, none⟩ := fun j => (cell_back hB3 hs2 j).trans (hc2 j)
          go_wp2
          rw [rounds_succ]
          go_wp2
          go_ret
          exact ⟨ret_int (by first | exact HV.out.symm | exact (codeOf_out hp (by simp)).symm | exact (codeOf_in hp (by simp)).symm), bthen (bthen (bthen (balloc (Below.refl _ _) _) hB1) hB2) hB3⟩

end Go.Proofs.Ytodabjolblamgaa
