/-
  Rows of numbers modulo p, solved column by column: what each step keeps; no program.
-/
import Derived.Test.YtmpgpmcmhbpjeaaBaseMath
namespace Go.Proofs.Ytmpgpmcmhbpjeaa
open Go.RowKit

section
variable {n : Nat} [NeZero n]
/-- The sum of products of a row's first m numbers with a vector. -/
def dot (n : Nat) [NeZero n] (r : Nat → Int) (v : Nat → Fin n) : Nat → Fin n
  | 0 => 0
  | m + 1 => dot n r v m + K n (r m) * v m
theorem dot_congr {r s : Nat → Int} (v : Nat → Fin n) : ∀ {m : Nat}, (∀ j, j < m → K n (r j) = K n (s j)) → dot n r v m = dot n s v m
  | 0, _ => rfl
  | m + 1, h => by rw [dot, dot, dot_congr v (m := m) (fun j hj => h j (by omega)), h m (by omega)]
theorem dot_scale {r s : Nat → Int} {d : Fin n} (v : Nat → Fin n) : ∀ {m : Nat}, (∀ j, j < m → K n (s j) = K n (r j) * d) → dot n s v m = d * dot n r v m
  | 0, _ => by rw [dot, dot]; grind
  | m + 1, h => by rw [dot, dot, dot_scale v (m := m) (fun j hj => h j (by omega)), h m (by omega)]; grind
theorem dot_less {r s q : Nat → Int} {d : Fin n} (v : Nat → Fin n) : ∀ {m : Nat}, (∀ j, j < m → K n (q j) = K n (r j) - d * K n (s j)) → dot n q v m = dot n r v m - d * dot n s v m
  | 0, _ => by rw [dot, dot, dot]; grind
  | m + 1, h => by rw [dot, dot, dot, dot_less v (m := m) (fun j hj => h j (by omega)), h m (by omega)]; grind
/-- Where just two places count. -/
theorem dot_none {r : Nat → Int} {v : Nat → Fin n} : ∀ {m : Nat}, (∀ j, j < m → K n (r j) * v j = 0) → dot n r v m = 0
  | 0, _ => rfl
  | m + 1, h => by rw [dot, dot_none (m := m) (fun j hj => h j (by omega)), h m (by omega)]; grind
theorem dot_one {r : Nat → Int} {v : Nat → Fin n} {a : Nat} : ∀ {m : Nat}, a < m → (∀ j, j < m → j ≠ a → K n (r j) * v j = 0) → dot n r v m = K n (r a) * v a
  | m + 1, ha, h => by
    rw [dot]
    by_cases e : a = m
    · subst e
      rw [dot_none (m := a) (fun j hj => h j (by omega) (by omega))]; grind
    · rw [dot_one (m := m) (by omega) (fun j hj => h j (by omega)), h m (by omega) (by omega)]; grind
theorem dot_two {r : Nat → Int} {v : Nat → Fin n} {a b : Nat} : ∀ {m : Nat}, a < m → b < m → a ≠ b → (∀ j, j < m → j ≠ a → j ≠ b → K n (r j) * v j = 0) → dot n r v m = K n (r a) * v a + K n (r b) * v b
  | m + 1, ha, hb, hab, h => by
    rw [dot]
    by_cases e : a = m
    · subst e
      rw [dot_one (m := a) (a := b) (by omega) (fun j hj hj' => h j (by omega) (by omega) hj')]; grind
    · by_cases e2 : b = m
      · subst e2
        rw [dot_one (m := b) (a := a) (by omega) (fun j hj hj' => h j (by omega) hj' (by omega))]
      · rw [dot_two (m := m) (by omega) (by omega) hab (fun j hj => h j (by omega)), h m (by omega) (by omega) (by omega)]; grind
/-- Vectors that all rows lead to 0. -/
def Sol (n : Nat) [NeZero n] (N m : Nat) (M : Nat → Nat → Int) (v : Nat → Fin n) : Prop := ∀ i, i < N → dot n (M i) v m = 0
end

/-- Two rows in each other's place. -/
def swp (a b i : Nat) : Nat := if i = a then b else if i = b then a else i
theorem swp_lt {a b i N : Nat} (ha : a < N) (hb : b < N) (hi : i < N) : swp a b i < N := by
  unfold swp
  split
  · exact hb
  · split
    · exact ha
    · exact hi
theorem swp_swp (a b i : Nat) : swp a b (swp a b i) = i := by unfold swp; split <;> (try split) <;> (try split) <;> omega
theorem swp_inj {a b i j : Nat} (h : swp a b i = swp a b j) : i = j := by rw [← swp_swp a b i, h, swp_swp]
theorem swp_low {a b i : Nat} (ha : i < a) (hb : i < b) : swp a b i = i := by unfold swp; rw [if_neg (by omega), if_neg (by omega)]
theorem swp_left (a b : Nat) : swp a b a = b := by simp [swp]
/-- A column made to lead a row: the row's numbers, and all. -/
def ldr (p : Int) (M : Nat → Nat → Int) (at_ c j : Nat) : Int := M at_ j * inv p (M at_ c) % p
def ml (p : Int) (M : Nat → Nat → Int) (at_ c : Nat) (i j : Nat) : Int := if i = at_ then ldr p M at_ c j else (M i j - M i c * ldr p M at_ c j) % p
section
variable {n N m : Nat} [NeZero n]
theorem sol_swap {M : Nat → Nat → Int} {a b : Nat} (ha : a < N) (hb : b < N) (v : Nat → Fin n) : Sol n N m (fun i => M (swp a b i)) v ↔ Sol n N m M v := by
  constructor
  · intro h i hi
    have := h (swp a b i) (swp_lt ha hb hi)
    simpa only [swp_swp] using this
  · intro h i hi
    exact h _ (swp_lt ha hb hi)
theorem K_ldr {M : Nat → Nat → Int} (at_ c j : Nat) : K n (ldr n M at_ c j) = K n (M at_ j) * K n (inv n (M at_ c)) := by rw [ldr, K_mod, K_mul]
theorem sol_ml (hp : isP (n : Int) = true) {M : Nat → Nat → Int} {at_ c : Nat} (hat : at_ < N) (hc : K n (M at_ c) ≠ 0) (v : Nat → Fin n) : Sol n N m (ml n M at_ c) v ↔ Sol n N m M v := by
  have hi := K_inv hp hc
  have h0 : dot n (ml n M at_ c at_) v m = K n (inv n (M at_ c)) * dot n (M at_) v m := dot_scale v fun j _ => by rw [ml, if_pos rfl, K_ldr]
  have hs : ∀ i, i ≠ at_ → dot n (ml n M at_ c i) v m = dot n (M i) v m - K n (M i c) * dot n (ml n M at_ c at_) v m := fun i hi => dot_less v fun j _ => by
    rw [ml, if_neg hi, ml, if_pos rfl, K_mod, K_sub, K_mul]
  constructor
  · intro h
    have e0 : dot n (M at_) v m = 0 := by
      have := h at_ hat
      rw [h0] at this
      have : K n (M at_ c) * (K n (inv n (M at_ c)) * dot n (M at_) v m) = 0 := by rw [this]; grind
      grind
    intro i hi'
    by_cases e : i = at_
    · subst e; exact e0
    · have h1 := h i hi'
      rw [hs i e, h0, e0] at h1; grind
  · intro h i hi'
    by_cases e : i = at_
    · subst e; rw [h0, h _ hi']; grind
    · rw [hs i e, h0, h at_ hat, h i hi']; grind
end
/-- How far the machine has come: r columns lead, those below c are done. -/
structure Rrf (p : Int) (N m : Nat) (M : Nat → Nat → Int) (L : Nat → Nat) (r c : Nat) : Prop where
  rng : ∀ i j, i < N → j < m → 0 ≤ M i j ∧ M i j < p
  rN : r ≤ N
  cm : c ≤ m
  up : ∀ k, k < r → L k < c
  inc : ∀ k k', k < k' → k' < r → L k < L k'
  one : ∀ k i, k < r → i < N → M i (L k) = if i = k then 1 else 0
  low : ∀ i j, r ≤ i → i < N → j < c → M i j = 0
theorem Rrf.start {p : Int} {N m : Nat} {M : Nat → Nat → Int} (L : Nat → Nat) (h : ∀ i j, i < N → j < m → 0 ≤ M i j ∧ M i j < p) : Rrf p N m M L 0 0 :=
  ⟨h, Nat.zero_le _, Nat.zero_le _, fun k hk => by omega, fun k k' _ hk => by omega, fun k i hk => by omega, fun i j _ _ hj => by omega⟩
/-- A column in which all rows that are left have 0. -/
theorem Rrf.skip {p : Int} {N m : Nat} {M : Nat → Nat → Int} {L : Nat → Nat} {r c : Nat} (h : Rrf p N m M L r c) (hc : c < m) (hz : ∀ i, r ≤ i → i < N → M i c = 0) : Rrf p N m M L r (c + 1) :=
  ⟨h.rng, h.rN, hc, fun k hk => by have := h.up k hk; omega, h.inc, h.one, fun i j hi hN hj => by
    by_cases e : j = c
    · subst e; exact hz i hi hN
    · exact h.low i j hi hN (by omega)⟩
/-- A column that leads the next row. -/
theorem Rrf.lead {p : Int} {N m : Nat} {M : Nat → Nat → Int} {L : Nat → Nat} {r c a : Nat} (hp : isP p = true) (h : Rrf p N m M L r c) (hc : c < m) (hr : r ≤ a) (ha : a < N) (hz : M a c ≠ 0) :
    Rrf p N m (ml p (fun i => M (swp r a i)) r c) (fun k => if k = r then c else L k) (r + 1) (c + 1) := by
  have hpr := isP_range hp
  obtain ⟨n, rfl⟩ := Int.eq_ofNat_of_zero_le (by omega : 0 ≤ p)
  haveI := neZero_of hp
  have hmod : ∀ x : Int, 0 ≤ x % n ∧ x % n < n := fun x => ⟨Int.emod_nonneg _ (by omega), Int.emod_lt_of_pos _ (by omega)⟩
  have hin : ∀ i j, i < N → j < m → 0 ≤ M (swp r a i) j ∧ M (swp r a i) j < n := fun i j hi hj => h.rng _ _ (swp_lt (by omega) ha hi) hj
  have hpiv : M (swp r a r) c = M a c := by rw [swp_left]
  have hlow : ∀ j, j < c → ldr n (fun i => M (swp r a i)) r c j = 0 := fun j hj => by
    rw [ldr]
    show M (swp r a r) j * _ % _ = 0
    rw [swp_left, h.low a j hr ha hj]; simp
  have hone : ldr n (fun i => M (swp r a i)) r c c = 1 := by
    refine K_inj (n := n) (hmod _) ⟨by omega, by omega⟩ ?_
    rw [K_ldr, K_one]
    show K n (M (swp r a r) c) * K n (inv n (M (swp r a r) c)) = 1
    rw [swp_left]
    exact K_inv hp (K_small (h.rng a c ha hc) hz)
  refine ⟨?_, by omega, by omega, ?_, ?_, ?_, ?_⟩
  · intro i j hi hj
    unfold ml
    split
    · exact hmod _
    · exact hmod _
  · intro k hk
    (try dsimp only)
    split
    · omega
    · have := h.up k (by omega); omega
  · intro k k' hkk hk'
    (try dsimp only)
    rw [if_neg (by omega)]
    split
    · exact h.up k (by omega)
    · exact h.inc k k' hkk (by omega)
  · intro k i hk hi
    (try dsimp only)
    split
    · rename_i e
      subst e
      unfold ml
      split
      · exact hone
      · rw [hone]
        simp
    · have hkr : k < r := by omega
      have hL := h.up k hkr
      unfold ml
      rw [hlow _ hL]
      split
      · rename_i e; subst e; rw [if_neg (by omega)]
      · rename_i e
        dsimp only
        have h1 := h.one k (swp r a i) hkr (swp_lt (by omega) ha hi)
        rw [Int.mul_zero, Int.sub_zero, h1]
        by_cases e2 : i = k
        · subst e2
          rw [swp_low hkr (by omega), if_pos rfl]
          exact Int.emod_eq_of_lt (by omega) (by omega)
        · have : swp r a i ≠ k := fun e3 => e2 (by rw [← swp_swp r a i, e3, swp_low hkr (by omega)])
          rw [if_neg this, if_neg e2]; simp
  · intro i j hi hN hj
    unfold ml
    rw [if_neg (by omega)]
    by_cases e : j = c
    · subst e
      rw [hone]; simp
    · rw [hlow j (by omega)]
      dsimp only
      rw [h.low (swp r a i) j (by unfold swp; split <;> (try split) <;> omega) (swp_lt (by omega) ha hN) (by omega)]
      simp

end Go.Proofs.Ytmpgpmcmhbpjeaa
