/-
  The field's two tests: spec.l01In, spec.l01Field, spec.IsField, impl.IsField.
-/
import Derived.Test.YtodabjolblamgaaRows
import Derived.Test.YtodabjolblamgaaMath
import Derived.WalkKit
import Derived.Lib.Hide
namespace Go.Proofs.Ytodabjolblamgaa
open Go.RowKit

set_option maxRecDepth 20000 in
set_option maxHeartbeats 400000 in
theorem in_any (n lo hi : Int) (w : World) :
    Calls Try.prog 127 #[.int .i64 n, .int .i64 lo, .int .i64 hi] w fun e w' => e = .returned (.bool (inB n lo hi)) ∧ w = w' := by
  by_cases h1 : lo ≤ n
  · by_cases h2 : n ≤ hi
    · rw [inB_true ⟨h1, h2⟩]
      go_enter Try.func127, Try.ntmps127
      go_wp2
      go_ret
      exact ⟨rfl, rfl⟩
    · rw [inB_false (by omega)]
      go_enter Try.func127, Try.ntmps127
      go_wp2
      go_ret
      exact ⟨rfl, rfl⟩
  · rw [inB_false (by omega)]
    go_enter Try.func127, Try.ntmps127
    go_wp2
    go_ret
    exact ⟨rfl, rfl⟩

set_option maxRecDepth 20000 in
set_option maxHeartbeats 400000 in
theorem field_out (p : Int) (w : World) (h : ¬ (3 ≤ p ∧ p ≤ 31)) :
    Calls Try.prog 126 #[.int .i64 p] w fun e w' => e = .returned (.bool false) ∧ w = w' := by
  have hb := inB_false h
  go_enter Try.func126, Try.ntmps126
  go_wp2_with (go_at_call 127; refine Calls.mono (in_any _ _ _ _) ?_; rintro e w' ⟨rfl, rfl⟩)
  go_ret
  exact ⟨rfl, rfl⟩

theorem ret_bool {a b : Bool} (h : a = b) : Ending.returned (.bool a) = .returned (.bool b) := by rw [h]
theorem ret_int {k : IntKind} {a b : Int} (h : a = b) : Ending.returned (.int k a) = .returned (.int k b) := by rw [h]

theorem ret_ib {a a' : Int} {b b' : Bool} (h : a = a') (g : b = b') : Ending.returned (.tuple #[.int .i64 a, .bool b]) = .returned (.tuple #[.int .i64 a', .bool b']) := by rw [h, g]
theorem ret_ii {a a' b b' : Int} (h : a = a') (g : b = b') : Ending.returned (.tuple #[.int .i64 a, .int .i64 b]) = .returned (.tuple #[.int .i64 a', .int .i64 b']) := by rw [h, g]
theorem ret_bi {a a' : Int} {b b' : Bool} (g : b = b') (h : a = a') : Ending.returned (.tuple #[.bool b, .int .i64 a]) = .returned (.tuple #[.bool b', .int .i64 a']) := by rw [h, g]

def NoDiv (n k : Nat) : Prop := ∀ d, d < k → 2 ≤ d → n % d ≠ 0
theorem NoDiv.start (n : Nat) : NoDiv n 2 := fun d h1 h2 => absurd h1 (by omega)
theorem NoDiv.next {n k : Nat} (h : NoDiv n k) (hk : n % k ≠ 0) : NoDiv n (k + 1) := fun d h1 h2 => by
  by_cases e : d = k
  · rw [e]; exact hk
  · exact h d (by omega) h2

theorem sq_small {k : Nat} (h2 : 2 ≤ k) (h : k * k ≤ 31) : k ≤ 5 := by
  rcases Nat.lt_or_ge k 6 with h6 | h6
  · omega
  · have := Nat.mul_le_mul h6 h6; omega

set_option maxRecDepth 20000 in
set_option maxHeartbeats 400000 in
theorem field_in (n : Nat) (w : World) (h3 : 3 ≤ n) (h31 : n ≤ 31) :
    Calls Try.prog 126 #[.int .i64 (n : Int)] w fun e w' => e = .returned (.bool (isP n)) ∧ w = w' := by
  have hb := inB_true (n := n) (lo := 3) (hi := 31) (by omega)
  go_enter Try.func126, Try.ntmps126
  go_wp2_with (go_at_call 127; refine Calls.mono (in_any _ _ _ _) ?_; rintro e w' ⟨rfl, rfl⟩)
  clear hb
  go_loop [3] (fun d => ∃ k : Nat, 2 ≤ k ∧ k ≤ 6 ∧ d = .int .i64 k ∧ NoDiv n k) (fun d => 32 - (intOf d).toNat)
  case atStart => exact ⟨2, by omega, by omega, rfl, NoDiv.start n⟩
  case round =>
    obtain ⟨k, hk2, hk6, rfl, hd⟩ := hrel
    have hkk : 0 ≤ (k : Int) * k ∧ (k : Int) * k ≤ 36 := by
      have : k * k ≤ 6 * 6 := Nat.mul_le_mul hk6 hk6
      have e : ((k * k : Nat) : Int) = (k : Int) * k := by simp
      omega
    by_cases hq : k * k ≤ n
    · have hq' : (k : Int) * k ≤ n := by rw [← Int.natCast_mul]; omega
      have hk5 := sq_small hk2 (by omega)
      by_cases hm : n % k = 0
      · have hm' : ((n : Int) % k == 0) = true := by rw [beq_iff_eq]; omega
        have H := Lib.hid (isP_divs n k (by omega) h3 (by omega) hk2 hm hq)
        go_wp2
        go_ret
        exact ⟨ret_bool H.out.symm, rfl⟩
      · have hm' : ((n : Int) % k == 0) = false := by rw [beq_eq_false_iff_ne]; omega
        have H := Lib.hid (hd.next hm)
        go_wp2
        go_round
        case rel => exact ⟨k + 1, by omega, by omega, by go_num, H.out⟩
        case measure => simp [intOf]; omega
    · have hq' : (n : Int) < (k : Int) * k := by rw [← Int.natCast_mul]; omega
      have H := Lib.hid (isP_nodivs n k (by omega) h3 (by omega) (by omega) hd)
      go_wp2
      go_ret
      exact ⟨ret_bool H.out.symm, rfl⟩

theorem field_any (p : Int) (w : World) :
    Calls Try.prog 126 #[.int .i64 p] w fun e w' => e = .returned (.bool (isP p)) ∧ w = w' := by
  by_cases h : 3 ≤ p ∧ p ≤ 31
  · obtain ⟨n, rfl⟩ := Int.eq_ofNat_of_zero_le (by omega : 0 ≤ p)
    exact field_in n w (by omega) (by omega)
  · rw [isP_none h]
    exact field_out p w h

end Go.Proofs.Ytodabjolblamgaa
