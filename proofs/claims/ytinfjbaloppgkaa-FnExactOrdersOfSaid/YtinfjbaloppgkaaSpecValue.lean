/-
  spec.l05Value: the values of a spread polynomial, one behind the other.
-/
import Derived.Test.YtinfjbaloppgkaaMod
import Derived.Test.YtinfjbaloppgkaaPolyMath
namespace Go.Proofs.Ytinfjbaloppgkaa
open Go.RowKit

theorem tmodB {p s y : Int} (hp : isP p = true) (hy0 : 0 ≤ y) (hy1 : y < p) : (-31 ≤ (2 * (1 - 2 * s)).tmod p ∧ (2 * (1 - 2 * s)).tmod p ≤ 31) ∧ (-961 ≤ (2 * (1 - 2 * s)).tmod p * y ∧ (2 * (1 - 2 * s)).tmod p * y ≤ 961) := by
  have hr := isP_range hp
  have hb := tmod_bounds (2 * (1 - 2 * s)) p (by omega)
  generalize (2 * (1 - 2 * s)).tmod p = t at hb ⊢
  refine ⟨by omega, ?_, ?_⟩
  · have := Int.mul_le_mul_of_nonneg_right (show -31 ≤ t by omega) hy0
    omega
  · have := Int.mul_le_mul_of_nonneg_right (show t ≤ 31 by omega) hy0
    omega
theorem step_fst {p s : Int} {j : Nat} {x y : Int} (hx : svp p s j = (x, y)) : svp p s (j + 1) = (y, ((2 * (1 - 2 * s)).tmod p * y - x + 2 * s) % p) := by
  rw [svp_succ, hx, stp, sv_spec]

set_option maxRecDepth 20000 in
set_option maxHeartbeats 1000000 in
theorem specValue_any (p s : Int) (n : Nat) (w : World) (hp : isP p = true) (h0 : 0 ≤ s) (h1 : s < p) (hn : n ≤ 100000) :
    Calls Try.prog 43 #[.int .i64 p, .int .i64 n, .int .i64 s] w fun e w' => e = .returned (.int .i64 (sv p s n)) ∧ w = w' := by
  have hr := isP_range hp
  go_enter Try.func43, Try.ntmps43
  go_wp2
  go_loop [1, 7, 8] (fun i x y => ∃ j : Nat, j ≤ n ∧ i = .int .i64 ((n : Int) - j) ∧ x = .int .i64 (svp p s j).1 ∧ y = .int .i64 (svp p s j).2) (fun i _ _ => (intOf i).toNat)
  case atStart => exact ⟨0, by omega, by simp, rfl, rfl⟩
  case round =>
    obtain ⟨j, hj, rfl, rfl, rfl⟩ := hrel
    have hR := svp_r hp h0 h1 j
    obtain ⟨q, hq⟩ : ∃ q, q = svp p s j := ⟨_, rfl⟩
    rw [← hq] at hR ⊢
    obtain ⟨x, y⟩ := q
    obtain ⟨⟨hx0, hx1⟩, hy0, hy1⟩ := hR
    simp only at hx0 hx1 hy0 hy1 ⊢
    have HS := Lib.hid (step_fst hq.symm)
    by_cases hlt : j < n
    · have hB := tmodB (s := s) hp hy0 hy1
      obtain ⟨⟨b1, b2⟩, b3, b4⟩ := hB
      have hpos : (0 : Int) < (n : Int) - j := by omega
      clear hq
      go_wp2_with (go_at_call 50; refine Calls.mono (mod_any _ _ _ (by omega) (by omega) (by omega) (by omega)) ?_; rintro e w' ⟨rfl, rfl⟩)
      go_round
      case rel => exact ⟨j + 1, by omega, by go_num, by rw [HS.out], by rw [HS.out]⟩
      case measure => simp [intOf]; omega
    · obtain rfl : j = n := by omega
      have H := Lib.hid (show x = sv p s j by rw [sv, ← hq])
      clear hq
      go_wp2
      go_ret
      exact ⟨by rw [← H.out]; rfl, rfl⟩

end Go.Proofs.Ytinfjbaloppgkaa
