/-
  impl.polynomialAt, order, period: where the machine stops.
-/
import Derived.Test.YtinfjbaloppgkaaUntil
namespace Go.Proofs.Ytinfjbaloppgkaa
open Go.RowKit

theorem dec1 (j : Nat) : decide ((1 : Int) ≤ (j : Int)) = decide (1 ≤ j) := decide_eq_decide.2 (by omega)
theorem below_self {w : World} : Below w.heap.size w w := Below.refl _ _

set_option maxRecDepth 20000 in
set_option maxHeartbeats 400000 in
theorem atDone_any (n : Nat) (j x y : Int) (b : Nat) (w : World) (hc : w.cell? ⟨b, 0, none⟩ = some (.int .i64 n)) :
    Calls Try.prog 84 #[.int .i64 j, .int .i64 x, .int .i64 y, .pointer (some ⟨b, 0, none⟩)] w fun e w' => e = .returned (.bool (j == (n : Int))) ∧ w = w' := by
  go_enter Try.func84, Try.ntmps84
  go_wp2
  go_ret
  exact ⟨rfl, rfl⟩

set_option maxRecDepth 20000 in
set_option maxHeartbeats 400000 in
theorem ordDone_any (j x y : Int) (w : World) :
    Calls Try.prog 89 #[.int .i64 j, .int .i64 x, .int .i64 y] w fun e w' => e = .returned (.bool (decide (1 ≤ j) && x == 0)) ∧ w = w' := by
  go_enter Try.func89, Try.ntmps89
  by_cases h : 1 ≤ j
  · go_wp2
    go_ret
    exact ⟨by simp [h], rfl⟩
  · go_wp2
    go_ret
    exact ⟨by simp; omega, rfl⟩

set_option maxRecDepth 20000 in
set_option maxHeartbeats 400000 in
theorem perDone_any (s j x y : Int) (b : Nat) (w : World) (hc : w.cell? ⟨b, 0, none⟩ = some (.int .i64 s)) :
    Calls Try.prog 90 #[.int .i64 j, .int .i64 x, .int .i64 y, .pointer (some ⟨b, 0, none⟩)] w fun e w' => e = .returned (.bool (decide (1 ≤ j) && (x == 0 && y == s))) ∧ w = w' := by
  go_enter Try.func90, Try.ntmps90
  by_cases h : 1 ≤ j
  · rcases bool_ways (x == 0) with h2 | h2
    · go_wp2
      go_ret
      exact ⟨by simp [h, h2], rfl⟩
    · go_wp2
      go_ret
      exact ⟨by simp [h, h2], rfl⟩
  · go_wp2
    go_ret
    exact ⟨by simp; omega, rfl⟩

set_option maxRecDepth 20000 in
set_option maxHeartbeats 400000 in
theorem implValue_any (p s : Int) (n : Nat) (w : World) (hp : isP p = true) (h0 : 0 ≤ s) (h1 : s < p) (hn : n ≤ 100000) :
    Calls Try.prog 49 #[.int .i64 p, .int .i64 n, .int .i64 s] w fun e w' => e = .returned (.int .i64 (sv p s n)) ∧ Below w.heap.size w w' := by
  have hmf : ∀ (fn : Fn) (first cap : Array Value) (w : World), (Instr.makeFunc fn first cap).run Try.prog w = .ok (.func fn first cap) w := fun _ _ _ _ => rfl
  go_enter Try.func49, Try.ntmps49
  go_wp2_with fail
  have hb0 : Below w.heap.size w (w.alloc (.cells #[.int .i64 n] 2)) := (Below.refl _ _).alloc (Nat.le_refl _) _
  have hc0 : (w.alloc (.cells #[.int .i64 n] 2)).cell? ⟨w.heap.size, 0, none⟩ = some (.int .i64 n) := kfresh rfl rfl
  refine Calls.mono (until_any p s n (fun j => (j : Int) == (n : Int)) 84 #[.pointer (some ⟨w.heap.size, 0, none⟩)] _ hp h0 h1 hn (by simp) (fun c hc => by simp; omega) (fun _ _ => rfl) (fun j W hj hW => (atDone_any n _ _ _ _ W (kcall hW hc0)).mono fun e w' h => ⟨h.1, h.2 ▸ below_self⟩)) ?_
  rintro e w1 ⟨rfl, hB⟩
  go_wp2
  go_ret
  exact ⟨rfl, bthen hb0 hB⟩

set_option maxRecDepth 20000 in
set_option maxHeartbeats 400000 in
theorem implOrd_any (p s : Int) (w : World) (hp : isP p = true) (h0 : 0 ≤ s) (h1 : s < p) :
    Calls Try.prog 63 #[.int .i64 p, .int .i64 s] w fun e w' => e = .returned (.int .i64 (ordN p s)) ∧ Below w.heap.size w w' := by
  obtain ⟨ha, hb, hc⟩ := ord_is hp h0 h1
  go_enter Try.func63, Try.ntmps63
  go_wp2_with fail
  refine Calls.mono (until_any p s (ordN p s) (isOrd p s) 89 #[] _ hp h0 h1 (by omega) ha hb (fun _ _ => rfl) (fun j W hj hW => (ordDone_any _ _ _ W).mono fun e w' h => ⟨by rw [h.1, isOrd, dec1]; rfl, h.2 ▸ below_self⟩)) ?_
  rintro e w1 ⟨rfl, hB⟩
  go_wp2
  go_ret
  exact ⟨rfl, hB⟩

set_option maxRecDepth 20000 in
set_option maxHeartbeats 400000 in
theorem implPer_any (p s : Int) (w : World) (hp : isP p = true) (h0 : 0 ≤ s) (h1 : s < p) :
    Calls Try.prog 65 #[.int .i64 p, .int .i64 s] w fun e w' => e = .returned (.int .i64 (perN p s)) ∧ Below w.heap.size w w' := by
  have hmf : ∀ (fn : Fn) (first cap : Array Value) (w : World), (Instr.makeFunc fn first cap).run Try.prog w = .ok (.func fn first cap) w := fun _ _ _ _ => rfl
  obtain ⟨ha, hb, hc⟩ := per_is hp h0 h1
  have hb0 : Below w.heap.size w (w.alloc (.cells #[.int .i64 s] 2)) := (Below.refl _ _).alloc (Nat.le_refl _) _
  have hc0 : (w.alloc (.cells #[.int .i64 s] 2)).cell? ⟨w.heap.size, 0, none⟩ = some (.int .i64 s) := kfresh rfl rfl
  go_enter Try.func65, Try.ntmps65
  go_wp2_with fail
  refine Calls.mono (until_any p s (perN p s) (isPer p s) 90 #[.pointer (some ⟨w.heap.size, 0, none⟩)] _ hp h0 h1 (by omega) ha hb (fun _ _ => rfl) (fun j W hj hW => (perDone_any s _ _ _ _ W (kcall hW hc0)).mono fun e w' h => ⟨by rw [h.1, isPer, svp_snd, dec1]; rfl, h.2 ▸ below_self⟩)) ?_
  rintro e w1 ⟨rfl, hB⟩
  go_wp2
  go_ret
  exact ⟨rfl, bthen hb0 hB⟩

end Go.Proofs.Ytinfjbaloppgkaa
