/-
  Three places in line: how many columns of their rows lead; no program.
-/
import Derived.Test.YtkkaicneabkkdaaJoinMath
namespace Go.Proofs.Ytkkaicneabkkdaa
open Go.RowKit

section
variable {n : Nat} [NeZero n]
theorem sol3_iff {M : Nat → Nat → Int} {a1 a2 a3 b1 b2 b3 c1 c2 c3 : Int} (hM : M = fun i j => ([a1, a2, -a3 % n, b1, b2, -b3 % n, c1, c2, -c3 % n] : List Int).getD (i * 3 + j) 0) (v : Nat → Fin n) :
    Sol n 3 3 M v ↔ OnRow n a1 a2 a3 v ∧ OnRow n b1 b2 b3 v ∧ OnRow n c1 c2 c3 v := by
  subst hM
  constructor
  · intro h
    exact ⟨(row_iff (a1 := a1) (a2 := a2) (a3 := a3) rfl rfl rfl v).1 (h 0 (by decide)), (row_iff (a1 := b1) (a2 := b2) (a3 := b3) rfl rfl rfl v).1 (h 1 (by decide)), (row_iff (a1 := c1) (a2 := c2) (a3 := c3) rfl rfl rfl v).1 (h 2 (by decide))⟩
  · rintro ⟨h0, h1, h2⟩ i hi
    have : i = 0 ∨ i = 1 ∨ i = 2 := by omega
    rcases this with rfl | rfl | rfl
    · exact (row_iff (a1 := a1) (a2 := a2) (a3 := a3) rfl rfl rfl v).2 h0
    · exact (row_iff (a1 := b1) (a2 := b2) (a3 := b3) rfl rfl rfl v).2 h1
    · exact (row_iff (a1 := c1) (a2 := c2) (a3 := c3) rfl rfl rfl v).2 h2
theorem sol2_iff {M : Nat → Nat → Int} {a1 a2 a3 b1 b2 b3 : Int} (hM : M = fun i j => ([a1, a2, -a3 % n, b1, b2, -b3 % n] : List Int).getD (i * 3 + j) 0) (v : Nat → Fin n) :
    Sol n 2 3 M v ↔ OnRow n a1 a2 a3 v ∧ OnRow n b1 b2 b3 v := by
  subst hM
  constructor
  · intro h
    exact ⟨(row_iff (a1 := a1) (a2 := a2) (a3 := a3) rfl rfl rfl v).1 (h 0 (by decide)), (row_iff (a1 := b1) (a2 := b2) (a3 := b3) rfl rfl rfl v).1 (h 1 (by decide))⟩
  · rintro ⟨h0, h1⟩ i hi
    have : i = 0 ∨ i = 1 := by omega
    rcases this with rfl | rfl
    · exact (row_iff (a1 := a1) (a2 := a2) (a3 := a3) rfl rfl rfl v).2 h0
    · exact (row_iff (a1 := b1) (a2 := b2) (a3 := b3) rfl rfl rfl v).2 h1
/-- A vector other than 0 on a place's row. -/
theorem row_some (hp : isP (n : Int) = true) {a1 a2 a3 : Int} (ha : plB n a1 a2 a3 = true) : ∃ v : Nat → Fin n, OnRow n a1 a2 a3 v ∧ ∃ j, j < 3 ∧ v j ≠ 0 := by
  have hr := isP_range hp
  have e10 : K n 1 ≠ 0 := K_small ⟨by omega, by omega⟩ (by decide)
  rw [K_one] at e10
  rcases pl_ways ha with rfl | ⟨rfl, rfl⟩ | ⟨rfl, rfl, rfl⟩
  · refine ⟨fun j => if j = 0 then K n a3 else if j = 1 then 0 else 1, ?_, 2, by decide, by simpa using e10⟩
    unfold OnRow
    simp only [if_true, show ¬ ((1 : Nat) = 0) by decide, show ¬ ((2 : Nat) = 0) by decide, show ¬ ((2 : Nat) = 1) by decide, if_false, K_one]
    grind
  · refine ⟨fun j => if j = 0 then 1 else 0, ?_, 0, by decide, by simpa using e10⟩
    unfold OnRow
    simp only [if_true, show ¬ ((1 : Nat) = 0) by decide, show ¬ ((2 : Nat) = 0) by decide, if_false, K_one, K_zero]
    grind
  · refine ⟨fun j => if j = 0 then 1 else 0, ?_, 0, by decide, by simpa using e10⟩
    unfold OnRow
    simp only [if_true, show ¬ ((1 : Nat) = 0) by decide, show ¬ ((2 : Nat) = 0) by decide, if_false, K_one, K_zero]
    grind
theorem crv_some {a1 a2 a3 b1 b2 b3 : Int} (h : ¬ (K n (cr1 a1 a2 a3 b1 b2 b3) = 0 ∧ K n (cr2 a1 a2 a3 b1 b2 b3) = 0 ∧ K n (cr3 a1 a2 a3 b1 b2 b3) = 0)) : ∃ j, j < 3 ∧ crv n a1 a2 a3 b1 b2 b3 j ≠ 0 := by
  by_cases h0 : K n (cr1 a1 a2 a3 b1 b2 b3) = 0
  · by_cases h1 : K n (cr2 a1 a2 a3 b1 b2 b3) = 0
    · exact ⟨2, by decide, fun e => h ⟨h0, h1, e⟩⟩
    · exact ⟨1, by decide, h1⟩
  · exact ⟨0, by decide, h0⟩
/-- Two places' rows always have a vector other than 0. -/
theorem rows_some (hp : isP (n : Int) = true) {a1 a2 a3 b1 b2 b3 : Int} (ha : plB n a1 a2 a3 = true) (hb : plB n b1 b2 b3 = true) : ∃ v : Nat → Fin n, OnRow n a1 a2 a3 v ∧ OnRow n b1 b2 b3 v ∧ ∃ j, j < 3 ∧ v j ≠ 0 := by
  cases e : eqPl a1 a2 a3 b1 b2 b3
  · exact ⟨crv n a1 a2 a3 b1 b2 b3, (crv_on _ _ _ _ _ _).1, (crv_on _ _ _ _ _ _).2, crv_some (cross_ne hp ha hb e)⟩
  · obtain ⟨rfl, rfl, rfl⟩ := eqPl_iff.1 e
    obtain ⟨v, h1, h2⟩ := row_some hp ha
    exact ⟨v, h1, h1, h2⟩
theorem inLine_rank (hp : isP (n : Int) = true) {a1 a2 a3 b1 b2 b3 c1 c2 c3 : Int} (ha : plB n a1 a2 a3 = true) (hb : plB n b1 b2 b3 = true) (hc : plB n c1 c2 c3 = true) {M0 M : Nat → Nat → Int} {L : Nat → Nat} {r : Nat}
    (hM : M0 = fun i j => ([a1, a2, -a3 % n, b1, b2, -b3 % n, c1, c2, -c3 % n] : List Int).getD (i * 3 + j) 0) (h : Rrf (n : Int) 3 3 M L r 3) (hs : ∀ v : Nat → Fin n, Sol n 3 3 M v ↔ Sol n 3 3 M0 v) : decide (r < 3) = ilB n a1 a2 a3 b1 b2 b3 c1 c2 c3 := by
  have hiff : ∀ v : Nat → Fin n, Sol n 3 3 M v ↔ OnRow n a1 a2 a3 v ∧ OnRow n b1 b2 b3 v ∧ OnRow n c1 c2 c3 v := fun v => (hs v).trans (sol3_iff hM v)
  have hrN := h.rN
  -- a vector other than 0 tells a column that does not lead
  have low : (∃ v : Nat → Fin n, (OnRow n a1 a2 a3 v ∧ OnRow n b1 b2 b3 v ∧ OnRow n c1 c2 c3 v) ∧ ∃ j, j < 3 ∧ v j ≠ 0) → r < 3 := by
    rintro ⟨v, hv, j, hj, hne⟩
    by_cases e : r = 3
    · subst e; exact absurd (h.sol_none ((hiff v).2 hv) hj) hne
    · omega
  cases e : eqPl a1 a2 a3 b1 b2 b3
  · have hx := cross_ne hp ha hb e
    rw [ilB, e, Bool.false_or]
    have hj := join_zero hp hx c1 c2 c3
    by_cases hz : K n (cr1 a1 a2 a3 b1 b2 b3) * K n c1 + K n (cr2 a1 a2 a3 b1 b2 b3) * K n c2 - K n (cr3 a1 a2 a3 b1 b2 b3) * K n c3 = 0
    · rw [hj.2 hz]
      have hon : OnRow n c1 c2 c3 (crv n a1 a2 a3 b1 b2 b3) := by
        unfold OnRow crv
        simp only [if_true, show ¬ ((1 : Nat) = 0) by decide, show ¬ ((2 : Nat) = 0) by decide, show ¬ ((2 : Nat) = 1) by decide, if_false]
        grind
      exact decide_eq_true (low ⟨_, ⟨(crv_on _ _ _ _ _ _).1, (crv_on _ _ _ _ _ _).2, hon⟩, crv_some hx⟩)
    · rw [Bool.eq_false_iff.2 (fun q => hz (hj.1 q))]
      refine decide_eq_false fun hr3 => ?_
      obtain ⟨f, _, hf, _⟩ := h.first hr3
      obtain ⟨v, hv, v1, _⟩ := h.sol_free hf
      obtain ⟨o1, o2, o3⟩ := (hiff v).1 hv
      obtain ⟨p1, p2, p3⟩ := crv_par o1 o2
      have e10 : K n 1 ≠ 0 := K_small ⟨by omega, by have := isP_range hp; omega⟩ (by decide)
      rw [K_one] at e10
      have hk : K n (cr1 a1 a2 a3 b1 b2 b3 * c1 + cr2 a1 a2 a3 b1 b2 b3 * c2 - cr3 a1 a2 a3 b1 b2 b3 * c3) ≠ 0 := by simpa only [K_sub, K_add, K_mul] using hz
      have hi := K_inv hp hk
      simp only [K_sub, K_add, K_mul] at hi
      generalize K n (inv n (cr1 a1 a2 a3 b1 b2 b3 * c1 + cr2 a1 a2 a3 b1 b2 b3 * c2 - cr3 a1 a2 a3 b1 b2 b3 * c3)) = u at hi
      generalize K n (cr1 a1 a2 a3 b1 b2 b3) = x at *
      generalize K n (cr2 a1 a2 a3 b1 b2 b3) = y at *
      generalize K n (cr3 a1 a2 a3 b1 b2 b3) = z at *
      unfold OnRow at o3
      clear o1 o2 hz hk hj hx
      have key : ∀ j, j < 3 → v j = 0 := by
        intro j hj
        have hj3 : j = 0 ∨ j = 1 ∨ j = 2 := by omega
        clear hiff low hs h hf hv v1
        rcases hj3 with rfl | rfl | rfl
        · have : (x * K n c1 + y * K n c2 - z * K n c3) * v 0 = x * (K n c1 * v 0 + K n c2 * v 1 - K n c3 * v 2) := by grind -lia
          rw [o3] at this
          grind -lia
        · have : (x * K n c1 + y * K n c2 - z * K n c3) * v 1 = y * (K n c1 * v 0 + K n c2 * v 1 - K n c3 * v 2) := by grind -lia
          rw [o3] at this
          grind -lia
        · have : (x * K n c1 + y * K n c2 - z * K n c3) * v 2 = z * (K n c1 * v 0 + K n c2 * v 1 - K n c3 * v 2) := by grind -lia
          rw [o3] at this
          grind -lia
      have := key f hf.1
      rw [v1] at this
      exact e10 this
  · rw [ilB, e, Bool.true_or]
    obtain ⟨rfl, rfl, rfl⟩ := eqPl_iff.1 e
    obtain ⟨v, h1, h2, h3⟩ := rows_some hp ha hc
    exact decide_eq_true (low ⟨v, ⟨h1, h1, h2⟩, h3⟩)
end
theorem pl_num {p a1 a2 a3 : Int} (hp : isP p = true) (ha : plB p a1 a2 a3 = true) : (0 ≤ a1 ∧ a1 < p) ∧ (0 ≤ a2 ∧ a2 < p) ∧ (0 ≤ -a3 % p ∧ -a3 % p < p) := ⟨(plB_rng ha).1, (plB_rng ha).2.1, modR _ hp⟩
end Go.Proofs.Ytkkaicneabkkdaa
