/-
  spec.l01Code and spec.l02Code of four points.
-/
import Derived.Test.YtcebhcamegdmaaaSpecColPts
namespace Go.Proofs.Ytcebhcamegdmaaa
open Go.RowKit

set_option maxRecDepth 20000 in
set_option maxHeartbeats 1000000 in
theorem specCode4 (p a1 a2 b1 b2 c1 c2 d1 d2 : Int) (b : Nat) (w : World) (hb : b = w.heap.size) :
    Calls Try.prog 98 #[.int .i64 p, .slice (some ⟨b, 0, none⟩) 4 4] (w.alloc (.cells #[.int .i64 a1, .int .i64 a2, .int .i64 b1, .int .i64 b2, .int .i64 c1, .int .i64 c2, .int .i64 d1, .int .i64 d2] 26)) fun e w' => e = .returned (.int .i64 (codeOf p (numsIn p [a1, a2, b1, b2, c1, c2, d1, d2]))) ∧ Below w.heap.size w w' := by
  subst hb
  cases hp : isP p
  · go_enter Try.func98, Try.ntmps98
    go_wp2_with (go_at_call 57; refine Calls.mono (field_any _ _) ?_; rintro e w' ⟨rfl, rfl⟩)
    go_ret
    exact ⟨ret_int (by rw [codeOf_no hp]), by (repeat (first | exact Below.refl _ _ | assumption | refine balloc ?_ _ | refine bdrewN ?_ _ | refine Below.drew ?_ | refine Below.setCell ?_ (by first | (simp; done) | (simp; omega)) _))⟩
  · cases h0 : numsIn p [a1, a2]
    · have HV := Lib.hid (show codeOf p (numsIn p [a1, a2, b1, b2, c1, c2, d1, d2]) = 2 by rw [numsApp4, codeOf_out hp (by simp [h0])])
      go_enter Try.func98, Try.ntmps98
      go_wp2_with (go_at_call 57; refine Calls.mono (field_any _ _) ?_; rintro e w' ⟨rfl, rfl⟩)
      refine wp_loop_rounds 5 ?_
      rw [rounds_succ]
      (go_wp2_with fail; refine Calls.mono (specPoint_any _ _ _ _ hp) ?_; rintro e w1 ⟨rfl, hB1⟩)
      have hs1 : w.heap.size < w1.heap.size := by have := hB1.size; simp at this; omega
      have hc1 : ∀ j, w1.cell? ⟨w.heap.size, j, none⟩ = (w.alloc (.cells #[.int .i64 a1, .int .i64 a2, .int .i64 b1, .int .i64 b2, .int .i64 c1, .int .i64 c2, .int .i64 d1, .int .i64 d2] 26)).cell? ⟨w.heap.size, j, none⟩ := fun j => cell_back hB1 (by simp) j
      go_wp2
      go_ret
      exact ⟨ret_int (by first | exact HV.out.symm | exact (codeOf_out hp (by simp)).symm | exact (codeOf_in hp (by simp)).symm), bthen (balloc (Below.refl _ _) _) hB1⟩
    · cases h1 : numsIn p [b1, b2]
      · have HV := Lib.hid (show codeOf p (numsIn p [a1, a2, b1, b2, c1, c2, d1, d2]) = 2 by rw [numsApp4, codeOf_out hp (by simp [h0, h1])])
        go_enter Try.func98, Try.ntmps98
        go_wp2_with (go_at_call 57; refine Calls.mono (field_any _ _) ?_; rintro e w' ⟨rfl, rfl⟩)
        refine wp_loop_rounds 5 ?_
        rw [rounds_succ]
        (go_wp2_with fail; refine Calls.mono (specPoint_any _ _ _ _ hp) ?_; rintro e w1 ⟨rfl, hB1⟩)
        have hs1 : w.heap.size < w1.heap.size := by have := hB1.size; simp at this; omega
        have hc1 : ∀ j, w1.cell? ⟨w.heap.size, j, none⟩ = (w.alloc (.cells #[.int .i64 a1, .int .i64 a2, .int .i64 b1, .int .i64 b2, .int .i64 c1, .int .i64 c2, .int .i64 d1, .int .i64 d2] 26)).cell? ⟨w.heap.size, j, none⟩ := fun j => cell_back hB1 (by simp) j
        go_wp2
        rw [rounds_succ]
        (go_wp2_with fail; refine Calls.mono (specPoint_any _ _ _ _ hp) ?_; rintro e w2 ⟨rfl, hB2⟩)
        have hs2 : w.heap.size < w2.heap.size := Nat.lt_of_lt_of_le hs1 hB2.size
        have hc2 : ∀ j, w2.cell? ⟨w.heap.size, j, none⟩ = (w.alloc (.cells #[.int .i64 a1, .int .i64 a2, .int .i64 b1, .int .i64 b2, .int .i64 c1, .int .i64 c2, .int .i64 d1, .int .i64 d2] 26)).cell? ⟨w.heap.size, j, none⟩ := fun j => (cell_back hB2 hs1 j).trans (hc1 j)
        go_wp2
        go_ret
        exact ⟨ret_int (by first | exact HV.out.symm | exact (codeOf_out hp (by simp)).symm | exact (codeOf_in hp (by simp)).symm), bthen (bthen (balloc (Below.refl _ _) _) hB1) hB2⟩
      · cases h2 : numsIn p [c1, c2]
        · have HV := Lib.hid (show codeOf p (numsIn p [a1, a2, b1, b2, c1, c2, d1, d2]) = 2 by rw [numsApp4, codeOf_out hp (by simp [h0, h1, h2])])
          go_enter Try.func98, Try.ntmps98
          go_wp2_with (go_at_call 57; refine Calls.mono (field_any _ _) ?_; rintro e w' ⟨rfl, rfl⟩)
          refine wp_loop_rounds 5 ?_
          rw [rounds_succ]
          (go_wp2_with fail; refine Calls.mono (specPoint_any _ _ _ _ hp) ?_; rintro e w1 ⟨rfl, hB1⟩)
          have hs1 : w.heap.size < w1.heap.size := by have := hB1.size; simp at this; omega
          have hc1 : ∀ j, w1.cell? ⟨w.heap.size, j, none⟩ = (w.alloc (.cells #[.int .i64 a1, .int .i64 a2, .int .i64 b1, .int .i64 b2, .int .i64 c1, .int .i64 c2, .int .i64 d1, .int .i64 d2] 26)).cell? ⟨w.heap.size, j, none⟩ := fun j => cell_back hB1 (by simp) j
          go_wp2
          rw [rounds_succ]
          (go_wp2_with fail; refine Calls.mono (specPoint_any _ _ _ _ hp) ?_; rintro e w2 ⟨rfl, hB2⟩)
          have hs2 : w.heap.size < w2.heap.size := Nat.lt_of_lt_of_le hs1 hB2.size
          have hc2 : ∀ j, w2.cell? ⟨w.heap.size, j, none⟩ = (w.alloc (.cells #[.int .i64 a1, .int .i64 a2, .int .i64 b1, .int .i64 b2, .int .i64 c1, .int .i64 c2, .int .i64 d1, .int .i64 d2] 26)).cell? ⟨w.heap.size, j, none⟩ := fun j => (cell_back hB2 hs1 j).trans (hc1 j)
          go_wp2
          rw [rounds_succ]
          (go_wp2_with fail; refine Calls.mono (specPoint_any _ _ _ _ hp) ?_; rintro e w3 ⟨rfl, hB3⟩)
          have hs3 : w.heap.size < w3.heap.size := Nat.lt_of_lt_of_le hs2 hB3.size
          have hc3 : ∀ j, w3.cell? ⟨w.heap.size, j, none⟩ = (w.alloc (.cells #[.int .i64 a1, .int .i64 a2, .int .i64 b1, .int .i64 b2, .int .i64 c1, .int .i64 c2, .int .i64 d1, .int .i64 d2] 26)).cell? ⟨w.heap.size, j, none⟩ := fun j => (cell_back hB3 hs2 j).trans (hc2 j)
          go_wp2
          go_ret
          exact ⟨ret_int (by first | exact HV.out.symm | exact (codeOf_out hp (by simp)).symm | exact (codeOf_in hp (by simp)).symm), bthen (bthen (bthen (balloc (Below.refl _ _) _) hB1) hB2) hB3⟩
        · cases h3 : numsIn p [d1, d2]
          · have HV := Lib.hid (show codeOf p (numsIn p [a1, a2, b1, b2, c1, c2, d1, d2]) = 2 by rw [numsApp4, codeOf_out hp (by simp [h0, h1, h2, h3])])
            go_enter Try.func98, Try.ntmps98
            go_wp2_with (go_at_call 57; refine Calls.mono (field_any _ _) ?_; rintro e w' ⟨rfl, rfl⟩)
            refine wp_loop_rounds 5 ?_
            rw [rounds_succ]
            (go_wp2_with fail; refine Calls.mono (specPoint_any _ _ _ _ hp) ?_; rintro e w1 ⟨rfl, hB1⟩)
            have hs1 : w.heap.size < w1.heap.size := by have := hB1.size; simp at this; omega
            have hc1 : ∀ j, w1.cell? ⟨w.heap.size, j, none⟩ = (w.alloc (.cells #[.int .i64 a1, .int .i64 a2, .int .i64 b1, .int .i64 b2, .int .i64 c1, .int .i64 c2, .int .i64 d1, .int .i64 d2] 26)).cell? ⟨w.heap.size, j, none⟩ := fun j => cell_back hB1 (by simp) j
            go_wp2
            rw [rounds_succ]
            (go_wp2_with fail; refine Calls.mono (specPoint_any _ _ _ _ hp) ?_; rintro e w2 ⟨rfl, hB2⟩)
            have hs2 : w.heap.size < w2.heap.size := Nat.lt_of_lt_of_le hs1 hB2.size
            have hc2 : ∀ j, w2.cell? ⟨w.heap.size, j, none⟩ = (w.alloc (.cells #[.int .i64 a1, .int .i64 a2, .int .i64 b1, .int .i64 b2, .int .i64 c1, .int .i64 c2, .int .i64 d1, .int .i64 d2] 26)).cell? ⟨w.heap.size, j, none⟩ := fun j => (cell_back hB2 hs1 j).trans (hc1 j)
            go_wp2
            rw [rounds_succ]
            (go_wp2_with fail; refine Calls.mono (specPoint_any _ _ _ _ hp) ?_; rintro e w3 ⟨rfl, hB3⟩)
            have hs3 : w.heap.size < w3.heap.size := Nat.lt_of_lt_of_le hs2 hB3.size
            have hc3 : ∀ j, w3.cell? ⟨w.heap.size, j, none⟩ = (w.alloc (.cells #[.int .i64 a1, .int .i64 a2, .int .i64 b1, .int .i64 b2, .int .i64 c1, .int .i64 c2, .int .i64 d1, .int .i64 d2] 26)).cell? ⟨w.heap.size, j, none⟩ := fun j => (cell_back hB3 hs2 j).trans (hc2 j)
            go_wp2
            rw [rounds_succ]
            (go_wp2_with fail; refine Calls.mono (specPoint_any _ _ _ _ hp) ?_; rintro e w4 ⟨rfl, hB4⟩)
            have hs4 : w.heap.size < w4.heap.size := Nat.lt_of_lt_of_le hs3 hB4.size
            have hc4 : ∀ j, w4.cell? ⟨w.heap.size, j, none⟩ = (w.alloc (.cells #[.int .i64 a1, .int .i64 a2, .int .i64 b1, .int .i64 b2, .int .i64 c1, .int .i64 c2, .int .i64 d1, .int .i64 d2] 26)).cell? ⟨w.heap.size, j, none⟩ := fun j => (cell_back hB4 hs3 j).trans (hc3 j)
            go_wp2
            go_ret
            exact ⟨ret_int (by first | exact HV.out.symm | exact (codeOf_out hp (by simp)).symm | exact (codeOf_in hp (by simp)).symm), bthen (bthen (bthen (bthen (balloc (Below.refl _ _) _) hB1) hB2) hB3) hB4⟩
          · have HV := Lib.hid (show codeOf p (numsIn p [a1, a2, b1, b2, c1, c2, d1, d2]) = 0 by rw [numsApp4, codeOf_in hp (by simp [h0, h1, h2, h3])])
            go_enter Try.func98, Try.ntmps98
            go_wp2_with (go_at_call 57; refine Calls.mono (field_any _ _) ?_; rintro e w' ⟨rfl, rfl⟩)
            refine wp_loop_rounds 5 ?_
            rw [rounds_succ]
            (go_wp2_with fail; refine Calls.mono (specPoint_any _ _ _ _ hp) ?_; rintro e w1 ⟨rfl, hB1⟩)
            have hs1 : w.heap.size < w1.heap.size := by have := hB1.size; simp at this; omega
            have hc1 : ∀ j, w1.cell? ⟨w.heap.size, j, none⟩ = (w.alloc (.cells #[.int .i64 a1, .int .i64 a2, .int .i64 b1, .int .i64 b2, .int .i64 c1, .int .i64 c2, .int .i64 d1, .int .i64 d2] 26)).cell? ⟨w.heap.size, j, none⟩ := fun j => cell_back hB1 (by simp) j
            go_wp2
            rw [rounds_succ]
            (go_wp2_with fail; refine Calls.mono (specPoint_any _ _ _ _ hp) ?_; rintro e w2 ⟨rfl, hB2⟩)
            have hs2 : w.heap.size < w2.heap.size := Nat.lt_of_lt_of_le hs1 hB2.size
            have hc2 : ∀ j, w2.cell? ⟨w.heap.size, j, none⟩ = (w.alloc (.cells #[.int .i64 a1, .int .i64 a2, .int .i64 b1, .int .i64 b2, .int .i64 c1, .int .i64 c2, .int .i64 d1, .int .i64 d2] 26)).cell? ⟨w.heap.size, j, none⟩ := fun j => (cell_back hB2 hs1 j).trans (hc1 j)
            go_wp2
            rw [rounds_succ]
            (go_wp2_with fail; refine Calls.mono (specPoint_any _ _ _ _ hp) ?_; rintro e w3 ⟨rfl, hB3⟩)
            have hs3 : w.heap.size < w3.heap.size := Nat.lt_of_lt_of_le hs2 hB3.size
            have hc3 : ∀ j, w3.cell? ⟨w.heap.size, j, none⟩ = (w.alloc (.cells #[.int .i64 a1, .int .i64 a2, .int .i64 b1, .int .i64 b2, .int .i64 c1, .int .i64 c2, .int .i64 d1, .int .i64 d2] 26)).cell? ⟨w.heap.size, j, none⟩ := fun j => (cell_back hB3 hs2 j).trans (hc2 j)
            go_wp2
            rw [rounds_succ]
            (go_wp2_with fail; refine Calls.mono (specPoint_any _ _ _ _ hp) ?_; rintro e w4 ⟨rfl, hB4⟩)
            have hs4 : w.heap.size < w4.heap.size := Nat.lt_of_lt_of_le hs3 hB4.size
            have hc4 : ∀ j, w4.cell? ⟨w.heap.size, j, none⟩ = (w.alloc (.cells #[.int .i64 a1, .int .i64 a2, .int .i64 b1, .int .i64 b2, .int .i64 c1, .int .i64 c2, .int .i64 d1, .int .i64 d2] 26)).cell? ⟨w.heap.size, j, none⟩ := fun j => (cell_back hB4 hs3 j).trans (hc3 j)
            go_wp2
            rw [rounds_succ]
            go_wp2
            go_ret
            exact ⟨ret_int (by first | exact HV.out.symm | exact (codeOf_out hp (by simp)).symm | exact (codeOf_in hp (by simp)).symm), bthen (bthen (bthen (bthen (balloc (Below.refl _ _) _) hB1) hB2) hB3) hB4⟩


theorem nums8_split (p a1 a2 b1 b2 c1 c2 d1 d2 : Int) : numsIn p [a1, a2, b1, b2, c1, c2, d1, d2] = (numsIn p [d1, d2] && numsIn p [a1, a2, b1, b2, c1, c2]) := by
  rw [numsApp4, numsApp3]; cases numsIn p [a1, a2] <;> cases numsIn p [b1, b2] <;> cases numsIn p [c1, c2] <;> cases numsIn p [d1, d2] <;> rfl
set_option maxRecDepth 20000 in
set_option maxHeartbeats 1000000 in
theorem specCol0Code4 (p a1 a2 b1 b2 c1 c2 d1 d2 : Int) (b : Nat) (w : World) (hb : b = w.heap.size) :
    Calls Try.prog 88 #[.int .i64 p, .int .i64 0, .slice (some ⟨b, 0, none⟩) 4 4] (w.alloc (.cells #[.int .i64 a1, .int .i64 a2, .int .i64 b1, .int .i64 b2, .int .i64 c1, .int .i64 c2, .int .i64 d1, .int .i64 d2] 26)) fun e w' => e = .returned (.int .i64 (codeOf p (numsIn p [d1, d2] && numsIn p [a1, a2, b1, b2, c1, c2]))) ∧ Below w.heap.size w w' := by
  subst hb
  rw [← nums8_split]
  rcases code_cases p (numsIn p [a1, a2, b1, b2, c1, c2, d1, d2]) with ⟨h0, hp, hn⟩ | h0 | h0
  · have hc : colB 0 = true := rfl
    have HV := Lib.hid h0
    clear hn
    go_enter Try.func88, Try.ntmps88
    (go_wp2_with fail; refine Calls.mono (specCode4 _ _ _ _ _ _ _ _ _ _ _ (by first | rfl | (simp; done))) ?_; rintro e w1 ⟨rfl, hB1⟩; obtain ⟨hB1c, hB1f⟩ := bcell hB1; have hB1s := hB1.size; (try simp at hB1s); (try have hB1q1 := Nat.lt_of_succ_le hB1s); (try have hB1q2 := Nat.lt_of_succ_lt hB1q1); (try have hB1q3 := Nat.lt_of_succ_lt hB1q2); (try have hB1zw0 : w.heap.size < w1.heap.size := (by omega)); (try have hB1zw1 : w.heap.size + 1 < w1.heap.size := (by omega)); (try have hB1zw2 : w.heap.size + 1 + 1 < w1.heap.size := (by omega)); (try have hB1zw3 : w.heap.size + 1 + 1 + 1 < w1.heap.size := (by omega)); (try have hB1zw4 : w.heap.size + 1 + 1 + 1 + 1 < w1.heap.size := (by omega)))
    (go_wp2_with fail; refine Calls.mono (specColour_any _ _) ?_; rintro e w' ⟨rfl, rfl⟩)
    go_wp2
    go_ret
    exact ⟨ret_int HV.out.symm, hB1⟩
  all_goals
    have HV := Lib.hid h0
    go_enter Try.func88, Try.ntmps88
    (go_wp2_with fail; refine Calls.mono (specCode4 _ _ _ _ _ _ _ _ _ _ _ (by first | rfl | (simp; done))) ?_; rintro e w1 ⟨rfl, hB1⟩; obtain ⟨hB1c, hB1f⟩ := bcell hB1; have hB1s := hB1.size; (try simp at hB1s); (try have hB1q1 := Nat.lt_of_succ_le hB1s); (try have hB1q2 := Nat.lt_of_succ_lt hB1q1); (try have hB1q3 := Nat.lt_of_succ_lt hB1q2); (try have hB1zw0 : w.heap.size < w1.heap.size := (by omega)); (try have hB1zw1 : w.heap.size + 1 < w1.heap.size := (by omega)); (try have hB1zw2 : w.heap.size + 1 + 1 < w1.heap.size := (by omega)); (try have hB1zw3 : w.heap.size + 1 + 1 + 1 < w1.heap.size := (by omega)); (try have hB1zw4 : w.heap.size + 1 + 1 + 1 + 1 < w1.heap.size := (by omega)))
    go_wp2
    go_ret
    exact ⟨ret_int HV.out.symm, hB1⟩

end Go.Proofs.Ytcebhcamegdmaaa
