/-
  What is answered of rows with one free column: all solutions are its multiples; no program.
-/
import Derived.Test.YtmpgpmcmhbpjeaaOnlySol
namespace Go.Proofs.Ytmpgpmcmhbpjeaa
open Go.RowKit

section
variable {n : Nat} [NeZero n]
theorem vec3 {P : Nat → Prop} (h0 : P 0) (h1 : P 1) (h2 : P 2) : ∀ j, j < 3 → P j := fun j hj => by
  have : j = 0 ∨ j = 1 ∨ j = 2 := by omega
  rcases this with rfl | rfl | rfl
  · exact h0
  · exact h1
  · exact h2
theorem dot_vec {r : Nat → Int} {u v : Nat → Fin n} : ∀ {m : Nat}, (∀ j, j < m → u j = v j) → dot n r u m = dot n r v m
  | 0, _ => rfl
  | m + 1, h => by
    simp only [dot]
    rw [dot_vec (m := m) fun j hj => h j (by omega), h m (by omega)]
/-- All solutions of rows with one free column are multiples of what is answered. -/
theorem only_mult {N m : Nat} {M0 : Nat → Nat → Int} {x : Nat → Int} (h : OnlyBy n N m M0 x) : ∃ f, f < m ∧ x f = 1 ∧ Sol n N m M0 (fun j => K n (x j)) ∧ ∀ v : Nat → Fin n, Sol n N m M0 v → ∀ j, j < m → v j = v f * K n (x j) := by
  obtain ⟨f, r, L, M, hR, hr, hf, hx, hl, hs⟩ := h
  have hk : ∀ k, k < r → K n (x (L k)) = -K n (M k f) := fun k hk => by rw [hl k hk, K_mod, K_neg]
  obtain ⟨v, hv, v1, _, v3⟩ := hR.sol_free hf
  have e : ∀ j, j < m → v j = K n (x j) := fun j hj => by
    by_cases q : j = f
    · rw [q, v1, hx, K_one]
    · obtain ⟨k, h1, rfl⟩ := hR.others hr hf hj q
      rw [v3 k h1, hk k h1]
  refine ⟨f, hf.1, hx, ?_, fun u hu j hj => ?_⟩
  · intro i hi
    have := (hs v).1 hv i hi
    rw [← this]
    exact dot_vec fun j hj => (e j hj).symm
  · by_cases q : j = f
    · rw [q, hx, K_one]; grind
    · obtain ⟨k, h1, rfl⟩ := hR.others hr hf hj q
      rw [hR.sol_only hr hf ((hs u).2 hu) h1, hk k h1]
theorem one_ne (hp : isP (n : Int) = true) : (1 : Fin n) ≠ 0 := by
  have hr := isP_range hp
  have e10 : K n 1 ≠ 0 := K_small ⟨by omega, by omega⟩ (by decide)
  rwa [K_one] at e10
end
end Go.Proofs.Ytmpgpmcmhbpjeaa
