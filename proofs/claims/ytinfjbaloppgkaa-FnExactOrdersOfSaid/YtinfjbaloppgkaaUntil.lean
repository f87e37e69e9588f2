/-
  impl.polynomialsUntil: the machine that walks from value to value until it is done.
-/
import Derived.Test.YtinfjbaloppgkaaImplRest
import Derived.Test.YtinfjbaloppgkaaPolyMath
import Derived.ScopeJumps
import Derived.WalkMore
namespace Go.Proofs.Ytinfjbaloppgkaa
open Go.RowKit

theorem prodB {p s y : Int} (hp : isP p = true) (h0 : 0 ≤ s) (h1 : s < p) (hy0 : 0 ≤ y) (hy1 : y < p) : -4000 ≤ 2 * (1 - 2 * s) * y ∧ 2 * (1 - 2 * s) * y ≤ 4000 := by
  have hr := isP_range hp
  have a1 := Int.mul_le_mul_of_nonneg_right (show -122 ≤ 2 * (1 - 2 * s) by omega) hy0
  have a2 := Int.mul_le_mul_of_nonneg_right (show 2 * (1 - 2 * s) ≤ 2 by omega) hy0
  omega
theorem step_impl {p s : Int} {j : Nat} {x y : Int} (hx : svp p s j = (x, y)) : svp p s (j + 1) = (y, (2 * (1 - 2 * s) * y - x + 2 * s) % p) := by
  rw [svp_succ, hx, stp]
theorem roundOf {f : Nat → Bool} {N j : Nat} (hN : f N = true) (hj : j ≤ N) (h : f j = false) : j < N := by
  rcases Nat.lt_or_eq_of_le hj with h1 | h1
  · exact h1
  · rw [h1, hN] at h; cases h
theorem endOf {f : Nat → Bool} {N j : Nat} (hn : NoYes f N) (hj : j ≤ N) (h : f j = true) : j = N := by
  rcases Nat.lt_or_eq_of_le hj with h1 | h1
  · rw [hn j h1] at h; cases h
  · exact h1

set_option maxRecDepth 20000 in
set_option maxHeartbeats 2000000 in
theorem until_any (p s : Int) (N : Nat) (D : Nat → Bool) (G : Nat) (cap : Array Value) (w : World) (hp : isP p = true) (h0 : 0 ≤ s) (h1 : s < p) (hN : N ≤ 100000)
    (hD : D N = true) (hn : NoYes D N) (hG : ∀ (args : Array Value) (w : World), (callFunc G args).run Try.prog w = .ok (.enter G args) w)
    (hd : ∀ (j : Nat) (W : World), j ≤ N → Below w.heap.size w W → Calls Try.prog G (#[.int .i64 j, .int .i64 (svp p s j).1, .int .i64 (svp p s j).2] ++ cap) W fun e w' => e = .returned (.bool (D j)) ∧ Below W.heap.size W w') :
    Calls Try.prog 83 #[.int .i64 p, .int .i64 s, .func (.func G) #[] cap] w fun e w' => e = .returned (.tuple #[.int .i64 N, .int .i64 (sv p s N)]) ∧ Below w.heap.size w w' := by
  have hr := isP_range hp
  go_enter Try.func83, Try.ntmps83
  go_wp2_with fail
  refine wp_scope_jumps 0 (fun a' w' => Below w.heap.size w w' ∧ ∃ (j : Nat) (x y : Int) (u11 u12 u13 u14 u15 u16 u17 u18 u19 u20 u21 u22 u23 u24 u25 u26 u27 u28 u29 u30 u31 u32 u33 u34 : Value), j ≤ N ∧ svp p s j = (x, y) ∧ a' = { tmps := #[.int .i64 p, .int .i64 s, .func (.func G) #[] cap, undef, undef, undef, .int .i64 0, .int .i64 0, .int .i64 j, .int .i64 x, .int .i64 y, u11, u12, u13, u14, u15, u16, u17, u18, u19, u20, u21, u22, u23, u24, u25, u26, u27, u28, u29, u30, u31, u32, u33, u34], defers := [] }) (fun a' _ => N - (intOf (a'.tmps.getD 8 undef)).toNat) rfl ?_ ?_
  · go_wp2_with fail
    go_step3
    have hdj := hd 0
    simp only [svp_zero] at hdj
    rw [show ((0 : Nat) : Int) = 0 from rfl] at hdj
    have hy0 := h0
    have hy1 := h1
    have HS := step_impl (svp_zero p s)
    rw [Int.sub_zero] at HS
    replace HS := Lib.hid HS
    have HX := Lib.hid (show (0 : Int) = sv p s 0 from rfl)
    obtain ⟨b1, b2⟩ := prodB hp h0 h1 hy0 hy1
    clear hd
    go_wp2_with fail
    refine Calls.mono (hdj _ (by omega) (Below.refl _ _)) ?_
    rintro e w1 ⟨rfl, hB1⟩
    clear hdj
    rcases bool_ways (D 0) with ht | ht
    · have hlt := roundOf hD (by omega) ht
      go_wp2_with fail
      refine Calls.mono (rest_any _ _ _ (by omega) (by omega) (by omega) (by omega)) ?_
      rintro e w' ⟨rfl, rfl⟩
      go_wp2
      go_step3
      exact ⟨rfl, bthen (Below.refl _ _) hB1, 0 + 1, _, _, _, _, _, _, _, _, _, _, _, _, _, _, _, _, _, _, _, _, _, _, _, _, _, _, by omega, HS.out, rfl⟩
    · have hz : N = 0 := (endOf hn (by omega) ht).symm
      subst hz
      go_wp2
      simp only [Exit.jump]
      (refine bodyPost_ret (v := .tuple #[.int .i64 0, .int .i64 (sv p s 0)]) (by simp [results, Try.results83, go_sem, HX.out]) rfl ⟨?_, ?_⟩)
      · rfl
      · exact bthen (Below.refl _ _) hB1
  · rintro a' wr ⟨hB, j, x, y, u11, u12, u13, u14, u15, u16, u17, u18, u19, u20, u21, u22, u23, u24, u25, u26, u27, u28, u29, u30, u31, u32, u33, u34, hj, hq, rfl⟩
    have hR := svp_r hp h0 h1 j
    have hdj := hd j
    rw [hq] at hR hdj
    obtain ⟨⟨hx0, hx1⟩, hy0, hy1⟩ := hR
    simp only at hx0 hx1 hy0 hy1 hdj
    have HS := Lib.hid (step_impl hq)
    have HX := Lib.hid (show x = sv p s j by rw [sv, hq])
    clear hq
    obtain ⟨b1, b2⟩ := prodB hp h0 h1 hy0 hy1
    clear hd
    go_wp2_with fail
    refine Calls.mono (hdj _ (by omega) hB) ?_
    rintro e w1 ⟨rfl, hB1⟩
    clear hdj
    rcases bool_ways (D j) with ht | ht
    · have hlt := roundOf hD (by omega) ht
      go_wp2_with fail
      refine Calls.mono (rest_any _ _ _ (by omega) (by omega) (by omega) (by omega)) ?_
      rintro e w' ⟨rfl, rfl⟩
      go_wp2
      go_step3
      refine ⟨rfl, ⟨bthen hB hB1, j + 1, _, _, _, _, _, _, _, _, _, _, _, _, _, _, _, _, _, _, _, _, _, _, _, _, _, _, by omega, HS.out, rfl⟩, ?_⟩
      · simp [intOf]; omega
    · obtain rfl := endOf hn hj ht
      go_wp2
      simp only [Exit.jump]
      (refine bodyPost_ret (v := .tuple #[.int .i64 j, .int .i64 (sv p s j)]) (by simp [results, Try.results83, go_sem, HX.out]) rfl ⟨?_, ?_⟩)
      · rfl
      · exact bthen hB hB1

end Go.Proofs.Ytinfjbaloppgkaa
