/-
  spec.l05Order: the least index at which the value is 0.
-/
import Derived.Test.YtinfjbaloppgkaaPolyZ
namespace Go.Proofs.Ytinfjbaloppgkaa
open Go.RowKit

theorem not_ord {p s : Int} {N j : Nat} (hn : NoYes (isOrd p s) N) (h1 : 1 ≤ j) (hj : j < N) : (sv p s j == 0) = false := by
  have h := hn j hj
  rw [isOrd, show decide (1 ≤ j) = true from decide_eq_true h1, Bool.true_and] at h
  exact h
theorem is_ord {p s : Int} {N : Nat} (h : isOrd p s N = true) : (sv p s N == 0) = true := by rw [(isOrd_pos h).2]; rfl
theorem not_per {p s : Int} {N j : Nat} (hn : NoYes (isPer p s) N) (h1 : 1 ≤ j) (hj : j < N) (h : (sv p s j == 0) = true) : (sv p s (j + 1) == s) = false := by
  have h2 := hn j hj
  rw [isPer, show decide (1 ≤ j) = true from decide_eq_true h1, Bool.true_and, h, Bool.true_and] at h2
  exact h2

set_option maxRecDepth 20000 in
set_option maxHeartbeats 1000000 in
theorem specOrd_any (p s : Int) (w : World) (hp : isP p = true) (h0 : 0 ≤ s) (h1 : s < p) :
    Calls Try.prog 61 #[.int .i64 p, .int .i64 s] w fun e w' => e = .returned (.int .i64 (ordN p s)) ∧ w = w' := by
  obtain ⟨ha, hb, hc⟩ := ord_is hp h0 h1
  have hpos := (isOrd_pos ha).1
  obtain ⟨N, hN⟩ : ∃ N, N = ordN p s := ⟨_, rfl⟩
  rw [← hN] at ha hb hc hpos ⊢
  clear hN
  have HB := Lib.hid hb
  clear hb
  have HA := Lib.hid ha
  clear ha
  go_enter Try.func61, Try.ntmps61
  go_wp2_with fail
  go_loop [5] (fun i => ∃ j : Nat, 1 ≤ j ∧ j ≤ N ∧ i = .int .i64 j) (fun i => N - (intOf i).toNat)
  case atStart => exact ⟨1, by omega, by omega, rfl⟩
  case round =>
    obtain ⟨j, hj1, hj, rfl⟩ := hrel
    by_cases hlt : j < N
    · have hv := not_ord HB.out hj1 hlt
      go_wp2_with (go_at_call 43; refine Calls.mono (specValue_any p s j _ hp h0 h1 (by omega)) ?_; rintro e w' ⟨rfl, rfl⟩)
      go_round
      case rel => exact ⟨j + 1, by omega, by omega, by go_num⟩
      case measure => simp [intOf]; omega
    · obtain rfl : j = N := by omega
      have hv := is_ord HA.out
      go_wp2_with (go_at_call 43; refine Calls.mono (specValue_any p s j _ hp h0 h1 (by omega)) ?_; rintro e w' ⟨rfl, rfl⟩)
      go_ret
      exact ⟨rfl, rfl⟩

end Go.Proofs.Ytinfjbaloppgkaa
