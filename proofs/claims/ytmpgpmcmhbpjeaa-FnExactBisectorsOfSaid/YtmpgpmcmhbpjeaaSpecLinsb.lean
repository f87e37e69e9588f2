/-
  Lines: spec.l01Line, spec.l01Lines of one and two lines.
-/
import Derived.Test.YtmpgpmcmhbpjeaaMgb0
import Derived.LoopN

namespace Go.Proofs.Ytmpgpmcmhbpjeaa
open Go.RowKit

set_option maxRecDepth 20000 in
set_option maxHeartbeats 1000000 in
theorem specLine_any (p a1 a2 a3 : Int) (w : World) (hp : isP p = true) :
    Calls Try.prog 71 #[.int .i64 p, .agg #[.int .i64 a1, .int .i64 a2, .int .i64 a3]] w fun e w' => e = .returned (.bool (lineB p a1 a2 a3)) ∧ Below w.heap.size w w' := by
  have hr := isP_range hp
  rcases leadB_ways a1 a2 with ⟨rfl, hl⟩ | ⟨rfl, rfl, hl⟩ | ⟨rfl, hb, hl⟩ | ⟨ha, hb, hl⟩
  all_goals
    have HL := Lib.hid hl
    clear hl
  · cases h2 : inB a2 0 (p - 1) <;> cases h3 : inB a3 0 (p - 1)
    all_goals
      have HV := Lib.hid (show lineB p 1 a2 a3 = (true && (inB 1 0 (p - 1) && (inB a2 0 (p - 1) && inB a3 0 (p - 1)))) by rw [lineB, HL.out, numsIn3])
      rw [h2, h3, inB_true (by omega)] at HV
      have h1 : inB 1 0 (p - 1) = true := inB_true (by omega)
      go_enter Try.func71, Try.ntmps71
      go_wp2_with (go_at_call 84; refine Calls.mono (in_any _ _ _ _) ?_; rintro e w' ⟨rfl, rfl⟩)
      go_ret
      exact ⟨ret_bool (by rw [HV.out]; rfl), balloc (Below.refl _ _) _⟩
  · cases h3 : inB a3 0 (p - 1)
    all_goals
      have HV := Lib.hid (show lineB p 0 1 a3 = (true && (inB 0 0 (p - 1) && (inB 1 0 (p - 1) && inB a3 0 (p - 1)))) by rw [lineB, HL.out, numsIn3])
      rw [h3, inB_true (by omega), inB_true (by omega)] at HV
      have h1 : inB 1 0 (p - 1) = true := inB_true (by omega)
      have h0 : inB 0 0 (p - 1) = true := inB_true (by omega)
      go_enter Try.func71, Try.ntmps71
      go_wp2_with (go_at_call 84; refine Calls.mono (in_any _ _ _ _) ?_; rintro e w' ⟨rfl, rfl⟩)
      go_ret
      exact ⟨ret_bool (by rw [HV.out]; rfl), balloc (Below.refl _ _) _⟩
  · have HV := Lib.hid (show lineB p 0 a2 a3 = false by rw [lineB, HL.out]; rfl)
    have h0 : inB 0 0 (p - 1) = true := inB_true (by omega)
    cases h2 : inB a2 0 (p - 1) <;> cases h3 : inB a3 0 (p - 1)
    all_goals
      go_enter Try.func71, Try.ntmps71
      go_wp2_with (go_at_call 84; refine Calls.mono (in_any _ _ _ _) ?_; rintro e w' ⟨rfl, rfl⟩)
      go_ret
      exact ⟨ret_bool (by rw [HV.out]), balloc (Below.refl _ _) _⟩
  · have HV := Lib.hid (show lineB p a1 a2 a3 = false by rw [lineB, HL.out]; rfl)
    cases h1 : inB a1 0 (p - 1) <;> cases h2 : inB a2 0 (p - 1) <;> cases h3 : inB a3 0 (p - 1)
    all_goals
      go_enter Try.func71, Try.ntmps71
      go_wp2_with (go_at_call 84; refine Calls.mono (in_any _ _ _ _) ?_; rintro e w' ⟨rfl, rfl⟩)
      go_ret
      exact ⟨ret_bool (by rw [HV.out]), balloc (Below.refl _ _) _⟩

set_option maxRecDepth 20000 in
set_option maxHeartbeats 1000000 in
theorem specLines1 (p a1 a2 a3 : Int) (b : Nat) (w : World) (hb : b = w.heap.size) :
    Calls Try.prog 33 #[.int .i64 p, .slice (some ⟨b, 0, none⟩) 1 1] (w.alloc (.cells #[.int .i64 a1, .int .i64 a2, .int .i64 a3] 30)) fun e w' => e = .returned (.int .i64 (codeOf p (lineB p a1 a2 a3))) ∧ Below w.heap.size w w' := by
  subst hb
  cases hp : isP p
  · go_enter Try.func33, Try.ntmps33
    go_wp2_with (go_at_call 69; refine Calls.mono (field_any _ _) ?_; rintro e w' ⟨rfl, rfl⟩)
    go_ret
    exact ⟨ret_int (by rw [codeOf_no hp]), by (repeat (first | exact Below.refl _ _ | assumption | refine balloc ?_ _ | refine bdrewN ?_ _ | refine Below.drew ?_ | refine Below.setCell ?_ (by first | (simp; done) | (simp; omega)) _))⟩
  · cases h0 : lineB p a1 a2 a3
    · have HV := Lib.hid (show codeOf p (lineB p a1 a2 a3) = 2 by rw [codeOf_out hp (by simp [h0])])
      go_enter Try.func33, Try.ntmps33
      go_wp2_with (go_at_call 69; refine Calls.mono (field_any _ _) ?_; rintro e w' ⟨rfl, rfl⟩)
      refine wp_loop_rounds 2 ?_
      rw [rounds_succ]
      (go_wp2_with fail; refine Calls.mono (specLine_any _ _ _ _ _ hp) ?_; rintro e w1 ⟨rfl, hB1⟩)
      have hs1 : w.heap.size < w1.heap.size := by have := hB1.size; simp at this; omega
      have hc1 : ∀ j, w1.cell? ⟨w.heap.size, j, none⟩ = (w.alloc (.cells #[.int .i64 a1, .int .i64 a2, .int .i64 a3] 30)).cell? ⟨w.heap.size, j, none⟩ := fun j => cell_back hB1 (by simp) j
      go_wp2
      go_ret
      exact ⟨ret_int (by first | exact HV.out.symm | exact (codeOf_out hp (by simp)).symm | exact (codeOf_in hp (by simp)).symm), bthen (balloc (Below.refl _ _) _) hB1⟩
    · have HV := Lib.hid (show codeOf p (lineB p a1 a2 a3) = 0 by rw [codeOf_in hp (by simp [h0])])
      go_enter Try.func33, Try.ntmps33
      go_wp2_with (go_at_call 69; refine Calls.mono (field_any _ _) ?_; rintro e w' ⟨rfl, rfl⟩)
      refine wp_loop_rounds 2 ?_
      rw [rounds_succ]
      (go_wp2_with fail; refine Calls.mono (specLine_any _ _ _ _ _ hp) ?_; rintro e w1 ⟨rfl, hB1⟩)
      have hs1 : w.heap.size < w1.heap.size := by have := hB1.size; simp at this; omega
      have hc1 : ∀ j, w1.cell? ⟨w.heap.size, j, none⟩ = (w.alloc (.cells #[.int .i64 a1, .int .i64 a2, .int .i64 a3] 30)).cell? ⟨w.heap.size, j, none⟩ := fun j => cell_back hB1 (by simp) j
      go_wp2
      rw [rounds_succ]
      go_wp2
      go_ret
      exact ⟨ret_int (by first | exact HV.out.symm | exact (codeOf_out hp (by simp)).symm | exact (codeOf_in hp (by simp)).symm), bthen (balloc (Below.refl _ _) _) hB1⟩

set_option maxRecDepth 20000 in
set_option maxHeartbeats 1000000 in
theorem specLines2 (p a1 a2 a3 b1 b2 b3 : Int) (b : Nat) (w : World) (hb : b = w.heap.size) :
    Calls Try.prog 33 #[.int .i64 p, .slice (some ⟨b, 0, none⟩) 2 2] (w.alloc (.cells #[.int .i64 a1, .int .i64 a2, .int .i64 a3, .int .i64 b1, .int .i64 b2, .int .i64 b3] 30)) fun e w' => e = .returned (.int .i64 (codeOf p (lineB p a1 a2 a3 && lineB p b1 b2 b3))) ∧ Below w.heap.size w w' := by
  subst hb
  cases hp : isP p
  · go_enter Try.func33, Try.ntmps33
    go_wp2_with (go_at_call 69; refine Calls.mono (field_any _ _) ?_; rintro e w' ⟨rfl, rfl⟩)
    go_ret
    exact ⟨ret_int (by rw [codeOf_no hp]), by (repeat (first | exact Below.refl _ _ | assumption | refine balloc ?_ _ | refine bdrewN ?_ _ | refine Below.drew ?_ | refine Below.setCell ?_ (by first | (simp; done) | (simp; omega)) _))⟩
  · cases h0 : lineB p a1 a2 a3
    · have HV := Lib.hid (show codeOf p (lineB p a1 a2 a3 && lineB p b1 b2 b3) = 2 by rw [codeOf_out hp (by simp [h0])])
      go_enter Try.func33, Try.ntmps33
      go_wp2_with (go_at_call 69; refine Calls.mono (field_any _ _) ?_; rintro e w' ⟨rfl, rfl⟩)
      refine wp_loop_rounds 3 ?_
      rw [rounds_succ]
      (go_wp2_with fail; refine Calls.mono (specLine_any _ _ _ _ _ hp) ?_; rintro e w1 ⟨rfl, hB1⟩)
      have hs1 : w.heap.size < w1.heap.size := by have := hB1.size; simp at this; omega
      have hc1 : ∀ j, w1.cell? ⟨w.heap.size, j, none⟩ = (w.alloc (.cells #[.int .i64 a1, .int .i64 a2, .int .i64 a3, .int .i64 b1, .int .i64 b2, .int .i64 b3] 30)).cell? ⟨w.heap.size, j, none⟩ := fun j => cell_back hB1 (by simp) j
      go_wp2
      go_ret
      exact ⟨ret_int (by first | exact HV.out.symm | exact (codeOf_out hp (by simp)).symm | exact (codeOf_in hp (by simp)).symm), bthen (balloc (Below.refl _ _) _) hB1⟩
    · cases h1 : lineB p b1 b2 b3
      · have HV := Lib.hid (show codeOf p (lineB p a1 a2 a3 && lineB p b1 b2 b3) = 2 by rw [codeOf_out hp (by simp [h0, h1])])
        go_enter Try.func33, Try.ntmps33
        go_wp2_with (go_at_call 69; refine Calls.mono (field_any _ _) ?_; rintro e w' ⟨rfl, rfl⟩)
        refine wp_loop_rounds 3 ?_
        rw [rounds_succ]
        (go_wp2_with fail; refine Calls.mono (specLine_any _ _ _ _ _ hp) ?_; rintro e w1 ⟨rfl, hB1⟩)
        have hs1 : w.heap.size < w1.heap.size := by have := hB1.size; simp at this; omega
        have hc1 : ∀ j, w1.cell? ⟨w.heap.size, j, none⟩ = (w.alloc (.cells #[.int .i64 a1, .int .i64 a2, .int .i64 a3, .int .i64 b1, .int .i64 b2, .int .i64 b3] 30)).cell? ⟨w.heap.size, j, none⟩ := fun j => cell_back hB1 (by simp) j
        go_wp2
        rw [rounds_succ]
        (go_wp2_with fail; refine Calls.mono (specLine_any _ _ _ _ _ hp) ?_; rintro e w2 ⟨rfl, hB2⟩)
        have hs2 : w.heap.size < w2.heap.size := Nat.lt_of_lt_of_le hs1 hB2.size
        have hc2 : ∀ j, w2.cell? ⟨w.heap.size, j, none⟩ = (w.alloc (.cells #[.int .i64 a1, .int .i64 a2, .int .i64 a3, .int .i64 b1, .int .i64 b2, .int .i64 b3] 30)).cell? ⟨w.heap.size, j, none⟩ := fun j => (cell_back hB2 hs1 j).trans (hc1 j)
        go_wp2
        go_ret
        exact ⟨ret_int (by first | exact HV.out.symm | exact (codeOf_out hp (by simp)).symm | exact (codeOf_in hp (by simp)).symm), bthen (bthen (balloc (Below.refl _ _) _) hB1) hB2⟩
      · have HV := Lib.hid (show codeOf p (lineB p a1 a2 a3 && lineB p b1 b2 b3) = 0 by rw [codeOf_in hp (by simp [h0, h1])])
        go_enter Try.func33, Try.ntmps33
        go_wp2_with (go_at_call 69; refine Calls.mono (field_any _ _) ?_; rintro e w' ⟨rfl, rfl⟩)
        refine wp_loop_rounds 3 ?_
        rw [rounds_succ]
        (go_wp2_with fail; refine Calls.mono (specLine_any _ _ _ _ _ hp) ?_; rintro e w1 ⟨rfl, hB1⟩)
        have hs1 : w.heap.size < w1.heap.size := by have := hB1.size; simp at this; omega
        have hc1 : ∀ j, w1.cell? ⟨w.heap.size, j, none⟩ = (w.alloc (.cells #[.int .i64 a1, .int .i64 a2, .int .i64 a3, .int .i64 b1, .int .i64 b2, .int .i64 b3] 30)).cell? ⟨w.heap.size, j, none⟩ := fun j => cell_back hB1 (by simp) j
        go_wp2
        rw [rounds_succ]
        (go_wp2_with fail; refine Calls.mono (specLine_any _ _ _ _ _ hp) ?_; rintro e w2 ⟨rfl, hB2⟩)
        have hs2 : w.heap.size < w2.heap.size := Nat.lt_of_lt_of_le hs1 hB2.size
        have hc2 : ∀ j, w2.cell? ⟨w.heap.size, j, none⟩ = (w.alloc (.cells #[.int .i64 a1, .int .i64 a2, .int .i64 a3, .int .i64 b1, .int .i64 b2, .int .i64 b3] 30)).cell? ⟨w.heap.size, j, none⟩ := fun j => (cell_back hB2 hs1 j).trans (hc1 j)
        go_wp2
        rw [rounds_succ]
        go_wp2
        go_ret
        exact ⟨ret_int (by first | exact HV.out.symm | exact (codeOf_out hp (by simp)).symm | exact (codeOf_in hp (by simp)).symm), bthen (bthen (balloc (Below.refl _ _) _) hB1) hB2⟩

end Go.Proofs.Ytmpgpmcmhbpjeaa
