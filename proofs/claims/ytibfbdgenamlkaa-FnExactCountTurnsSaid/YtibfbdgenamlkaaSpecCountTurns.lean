/-
  spec.CountTurns: the number of the moves of sign 1 that keep a point.
-/
import Derived.Test.YtibfbdgenamlkaaSpecAll7
import Derived.Test.YtibfbdgenamlkaaSpecIn
import Derived.Test.YtibfbdgenamlkaaCode
namespace Go.Proofs.Ytibfbdgenamlkaa
open Go.RowKit

set_option maxRecDepth 20000 in
set_option maxHeartbeats 1000000 in
theorem specCode0 (p : Int) (w : World) : Calls Try.prog 43 #[.int .i64 p, .slice none 0 0] w fun e w' => e = .returned (.int .i64 (codeOf p true)) ∧ Below w.heap.size w w' := by
  cases hp : isP p
  · go_enter Try.func43, Try.ntmps43
    go_wp2_with (go_at_call 69; refine Calls.mono (field_any _ _) ?_; rintro e w' ⟨rfl, rfl⟩)
    go_ret
    exact ⟨ret_int (by rw [codeOf_no hp]), by (repeat (first | exact Below.refl _ _ | assumption | refine balloc ?_ _ | refine bdrewN ?_ _ | refine Below.drew ?_ | refine Below.setCell ?_ (by first | (simp; done) | (simp; omega)) _))⟩
  · go_enter Try.func43, Try.ntmps43
    go_wp2_with (go_at_call 69; refine Calls.mono (field_any _ _) ?_; rintro e w' ⟨rfl, rfl⟩)
    refine wp_loop_rounds 1 ?_
    rw [rounds_succ]
    go_wp2
    go_ret
    exact ⟨ret_int (by rw [codeOf_in hp rfl]), by (repeat (first | exact Below.refl _ _ | assumption | refine balloc ?_ _ | refine bdrewN ?_ _ | refine Below.drew ?_ | refine Below.setCell ?_ (by first | (simp; done) | (simp; omega)) _))⟩
set_option maxRecDepth 20000 in
set_option maxHeartbeats 1000000 in
theorem spec3Code0 (p col : Int) (w : World) : Calls Try.prog 28 #[.int .i64 p, .int .i64 col, .slice none 0 0] w fun e w' => e = .returned (.int .i64 (codeOf p (colB col))) ∧ Below w.heap.size w w' := by
  cases hp : isP p
  · have c1 : codeOf p true = 1 := codeOf_no hp
    have HV := Lib.hid (show codeOf p (colB col) = 1 from codeOf_no hp)
    go_enter Try.func28, Try.ntmps28
    (go_wp2_with fail; refine Calls.mono (specCode0 _ _) ?_; rintro e w1 ⟨rfl, hB1⟩; obtain ⟨hB1c, hB1f⟩ := bcell hB1; have hB1s := hB1.size; (try simp at hB1s); (try have hB1q1 := Nat.lt_of_succ_le hB1s); (try have hB1q2 := Nat.lt_of_succ_lt hB1q1); (try have hB1q3 := Nat.lt_of_succ_lt hB1q2); (try have hB1zw0 : w.heap.size < w1.heap.size := (by omega)); (try have hB1zw1 : w.heap.size + 1 < w1.heap.size := (by omega)); (try have hB1zw2 : w.heap.size + 1 + 1 < w1.heap.size := (by omega)); (try have hB1zw3 : w.heap.size + 1 + 1 + 1 < w1.heap.size := (by omega)); (try have hB1zw4 : w.heap.size + 1 + 1 + 1 + 1 < w1.heap.size := (by omega)))
    go_wp2
    go_ret
    exact ⟨ret_int HV.out.symm, hB1⟩
  · have c1 : codeOf p true = 0 := codeOf_in hp rfl
    cases hc : colB col
    · have HV := Lib.hid (show codeOf p false = 2 from codeOf_out hp rfl)
      go_enter Try.func28, Try.ntmps28
      (go_wp2_with fail; refine Calls.mono (specCode0 _ _) ?_; rintro e w1 ⟨rfl, hB1⟩; obtain ⟨hB1c, hB1f⟩ := bcell hB1; have hB1s := hB1.size; (try simp at hB1s); (try have hB1q1 := Nat.lt_of_succ_le hB1s); (try have hB1q2 := Nat.lt_of_succ_lt hB1q1); (try have hB1q3 := Nat.lt_of_succ_lt hB1q2); (try have hB1zw0 : w.heap.size < w1.heap.size := (by omega)); (try have hB1zw1 : w.heap.size + 1 < w1.heap.size := (by omega)); (try have hB1zw2 : w.heap.size + 1 + 1 < w1.heap.size := (by omega)); (try have hB1zw3 : w.heap.size + 1 + 1 + 1 < w1.heap.size := (by omega)); (try have hB1zw4 : w.heap.size + 1 + 1 + 1 + 1 < w1.heap.size := (by omega)))
      (go_wp2_with fail; refine Calls.mono (inCol_any _ _) ?_; rintro e w' ⟨rfl, rfl⟩)
      go_wp2
      go_ret
      exact ⟨ret_int HV.out.symm, hB1⟩
    · have HV := Lib.hid (show codeOf p true = 0 from codeOf_in hp rfl)
      go_enter Try.func28, Try.ntmps28
      (go_wp2_with fail; refine Calls.mono (specCode0 _ _) ?_; rintro e w1 ⟨rfl, hB1⟩; obtain ⟨hB1c, hB1f⟩ := bcell hB1; have hB1s := hB1.size; (try simp at hB1s); (try have hB1q1 := Nat.lt_of_succ_le hB1s); (try have hB1q2 := Nat.lt_of_succ_lt hB1q1); (try have hB1q3 := Nat.lt_of_succ_lt hB1q2); (try have hB1zw0 : w.heap.size < w1.heap.size := (by omega)); (try have hB1zw1 : w.heap.size + 1 < w1.heap.size := (by omega)); (try have hB1zw2 : w.heap.size + 1 + 1 < w1.heap.size := (by omega)); (try have hB1zw3 : w.heap.size + 1 + 1 + 1 < w1.heap.size := (by omega)); (try have hB1zw4 : w.heap.size + 1 + 1 + 1 + 1 < w1.heap.size := (by omega)))
      (go_wp2_with fail; refine Calls.mono (inCol_any _ _) ?_; rintro e w' ⟨rfl, rfl⟩)
      go_wp2
      go_ret
      exact ⟨ret_int HV.out.symm, hB1⟩
/-- The number of turns about a point, and the code. -/
def ctV (p col : Int) : Int := if codeOf p (colB col) = 0 then ((allM p col 1).length : Int) else 0
def ctC (p col : Int) : Int := codeOf p (colB col)
set_option maxRecDepth 20000 in
set_option maxHeartbeats 1000000 in
theorem specCountTurns_any (p col : Int) (w : World) : Calls Try.prog 14 #[.int .i64 p, .int .i64 col] w fun e w' => e = .returned (.tuple #[.int .i64 (ctV p col), .int .i64 (ctC p col)]) ∧ Below w.heap.size w w' := by
  obtain ⟨k, hk⟩ : ∃ k, k = codeOf p (colB col) := ⟨_, rfl⟩
  have hcall := fun w' => spec3Code0 p col w'
  rw [← hk] at hcall
  by_cases h0 : k = 0
  · subst h0
    have hp : isP p = true := by
      cases hh : isP p
      · rw [codeOf_no hh] at hk; cases hk
      · rfl
    have hc : colB col = true := by
      cases hh : colB col
      · rw [hh, codeOf_out hp rfl] at hk; cases hk
      · rfl
    have HV := Lib.hid (show ctV p col = ((allM p col 1).length : Int) ∧ ctC p col = 0 from ⟨by rw [ctV, ← hk, if_pos rfl], hk.symm⟩)
    have hle := allM_le col 1 hp
    clear hk
    go_enter Try.func14, Try.ntmps14
    go_wp2_with fail
    refine Calls.mono (hcall _) ?_
    rintro e w1 ⟨rfl, hB1⟩
    go_wp2_with fail
    refine Calls.mono (specAll7_any p col 1 _ hp hc (by decide)) ?_
    rintro e w2 ⟨g, cap, rfl, ho, hB2⟩
    have hB := bthen hB1 hB2
    clear ho
    go_wp2
    (refine bodyPost_ret (v := .tuple #[.int .i64 (ctV p col), .int .i64 (ctC p col)]) (by simp [results, Try.results14, go_sem, HV.out.1, HV.out.2, *]) rfl ⟨?_, ?_⟩)
    · rfl
    · exact hB
  · have HV := Lib.hid (show ctV p col = 0 ∧ ctC p col = k from ⟨by rw [ctV, ← hk, if_neg h0], hk.symm⟩)
    have h1 : (k != 0) = true := by simpa using h0
    clear hk
    go_enter Try.func14, Try.ntmps14
    go_wp2_with fail
    refine Calls.mono (hcall _) ?_
    rintro e w1 ⟨rfl, hB1⟩
    go_wp2
    (refine bodyPost_ret (v := .tuple #[.int .i64 (ctV p col), .int .i64 (ctC p col)]) (by simp [results, Try.results14, go_sem, HV.out.1, HV.out.2, *]) rfl ⟨?_, ?_⟩)
    · rfl
    · exact hB1

end Go.Proofs.Ytibfbdgenamlkaa
