/-
  Columns that do not lead: the solutions of rows that have been solved; no program.
-/
import Derived.Test.YtmpgpmcmhbpjeaaRref
namespace Go.Proofs.Ytmpgpmcmhbpjeaa
open Go.RowKit

/-- A column that does not lead. -/
def Free (m : Nat) (L : Nat → Nat) (r f : Nat) : Prop := f < m ∧ ∀ k, k < r → L k ≠ f
section
variable {p : Int} {N m : Nat} {M : Nat → Nat → Int} {L : Nat → Nat} {r : Nat}
theorem Rrf.gap (h : Rrf p N m M L r m) {a : Nat} : ∀ {b : Nat}, a ≤ b → b < r → L a + (b - a) ≤ L b
  | b, hab, hb => by
    induction b with
    | zero => obtain rfl : a = 0 := by omega
              omega
    | succ b ih =>
      by_cases e : a = b + 1
      · subst e; omega
      · have := ih (by omega) (by omega)
        have := h.inc b (b + 1) (by omega) hb
        omega
theorem Rrf.inj (h : Rrf p N m M L r m) {k k' : Nat} (hk : k < r) (hk' : k' < r) (e : L k = L k') : k = k' := by
  rcases Nat.lt_trichotomy k k' with q | q | q
  · have := h.inc k k' q hk'; omega
  · exact q
  · have := h.inc k' k q hk; omega
/-- The first column that does not lead: those before it lead the rows in their order. -/
theorem Rrf.first (h : Rrf p N m M L r m) (hr : r < m) : ∃ f, f ≤ r ∧ Free m L r f ∧ (∀ k, k < f → L k = k) ∧ ∀ k, f ≤ k → k < r → k + 1 ≤ L k := by
  have key : ∀ q, q ≤ r → (∀ k, k < q → L k = k) ∨ ∃ f, f < q ∧ (∀ k, k < f → L k = k) ∧ L f ≠ f := by
    intro q
    induction q with
    | zero => exact fun _ => .inl fun k hk => by omega
    | succ q ih =>
      intro hq
      rcases ih (by omega) with h1 | ⟨f, h1, h2, h3⟩
      · by_cases e : L q = q
        · exact .inl fun k hk => by
            by_cases e2 : k = q
            · subst e2; exact e
            · exact h1 k (by omega)
        · exact .inr ⟨q, by omega, h1, e⟩
      · exact .inr ⟨f, by omega, h2, h3⟩
  rcases key r (Nat.le_refl _) with h1 | ⟨f, h1, h2, h3⟩
  · exact ⟨r, Nat.le_refl _, ⟨hr, fun k hk e => by have := h1 k hk; omega⟩, h1, fun k h2 h3 => by omega⟩
  · have hge : f ≤ L f := by
      cases f with
      | zero => omega
      | succ g => have := h.inc g (g + 1) (by omega) h1; have := h2 g (by omega); omega
    have hgt : ∀ k, f ≤ k → k < r → k + 1 ≤ L k := fun k hk hkr => by have := h.gap hk hkr; omega
    exact ⟨f, by omega, ⟨by omega, fun k hk e => by
      by_cases q : k < f
      · have := h2 k q; omega
      · have := hgt k (by omega) hk; omega⟩, h2, hgt⟩
/-- Where one column alone does not lead, all others do. -/
theorem Rrf.others (h : Rrf p N m M L r m) (hr : r + 1 = m) {f : Nat} (hf : Free m L r f) {j : Nat} (hj : j < m) (hne : j ≠ f) : ∃ k, k < r ∧ L k = j := by
  obtain ⟨f1, h1, h2, h3, h4⟩ := h.first (by omega)
  have hk : ∀ i, i < m → i ≠ f1 → ∃ k, k < r ∧ L k = i := fun i hi hn => by
    by_cases q : i < f1
    · exact ⟨i, by omega, h3 i q⟩
    · refine ⟨i - 1, by omega, ?_⟩
      have g1 := h4 (i - 1) (by omega) (by omega)
      have g2 := h.gap (a := i - 1) (b := r - 1) (by omega) (by omega)
      have g3 := h.up (r - 1) (by omega)
      omega
  by_cases e : f = f1
  · subst e; exact hk j hj hne
  · obtain ⟨k, hk1, hk2⟩ := hk f hf.1 e
    exact absurd hk2 (hf.2 k hk1)
/-- Two columns that do not lead. -/
theorem Rrf.two (h : Rrf p N m M L r m) (hr : r + 1 < m) : ∃ f g, f ≠ g ∧ Free m L r f ∧ Free m L r g := by
  obtain ⟨f, h1, h2, h3, h4⟩ := h.first (by omega)
  have key : ∀ q, q ≤ r → (∀ k, f ≤ k → k < q → L k = k + 1) ∨ ∃ g, f ≤ g ∧ g < q ∧ (∀ k, f ≤ k → k < g → L k = k + 1) ∧ L g ≠ g + 1 := by
    intro q
    induction q with
    | zero => exact fun _ => .inl fun k _ hk => by omega
    | succ q ih =>
      intro hq
      rcases ih (by omega) with h1 | ⟨g, h0, h1, h2, h3⟩
      · by_cases e : f ≤ q ∧ L q ≠ q + 1
        · exact .inr ⟨q, e.1, by omega, h1, e.2⟩
        · exact .inl fun k hk hkq => by
            by_cases e2 : k = q
            · subst e2
              rcases Nat.eq_or_lt_of_le (Nat.le_refl (L k)) with _ | _
              · by_cases e3 : L k = k + 1
                · exact e3
                · exact absurd ⟨hk, e3⟩ e
              · omega
            · exact h1 k hk (by omega)
      · exact .inr ⟨g, h0, by omega, h2, h3⟩
  rcases key r (Nat.le_refl _) with h5 | ⟨g, g0, g1, g2, g3⟩
  · refine ⟨f, r + 1, by omega, h2, by omega, fun k hk e => ?_⟩
    by_cases q : k < f
    · have := h3 k q; omega
    · have := h5 k (by omega) hk; omega
  · have hgt : ∀ k, g ≤ k → k < r → k + 2 ≤ L k := fun k hk hkr => by have := h.gap hk hkr; have := h4 g g0 g1; omega
    refine ⟨f, g + 1, by omega, h2, ?_, fun k hk e => ?_⟩
    · have := hgt g (Nat.le_refl _) g1; have := h.up g g1; omega
    · by_cases q : k < f
      · have := h3 k q; omega
      · by_cases q2 : k < g
        · have := g2 k (by omega) q2; omega
        · have := hgt k (by omega) hk; omega
end
section
variable {n : Nat} [NeZero n] {N m : Nat} {M : Nat → Nat → Int} {L : Nat → Nat} {r : Nat}
/-- A column that does not lead tells a solution. -/
theorem Rrf.sol_free (h : Rrf (n : Int) N m M L r m) {f : Nat} (hf : Free m L r f) :
    ∃ v : Nat → Fin n, Sol n N m M v ∧ v f = 1 ∧ (∀ g, Free m L r g → g ≠ f → v g = 0) ∧ ∀ k, k < r → v (L k) = -K n (M k f) := by
  classical
  obtain ⟨v, hv⟩ : ∃ v : Nat → Fin n, v = fun j => if j = f then 1 else if hj : ∃ k, k < r ∧ L k = j then -K n (M hj.choose f) else 0 := ⟨_, rfl⟩
  have v1 : v f = 1 := by rw [hv]; simp
  have v2 : ∀ g, Free m L r g → g ≠ f → v g = 0 := fun g hg hne => by
    rw [hv]
    show (if g = f then 1 else if hj : ∃ k, k < r ∧ L k = g then -K n (M hj.choose f) else 0) = 0
    rw [if_neg hne, dif_neg]
    rintro ⟨k, hk, e⟩
    exact hg.2 k hk e
  have v3 : ∀ k, k < r → v (L k) = -K n (M k f) := fun k hk => by
    rw [hv]
    show (if L k = f then 1 else if hj : ∃ k', k' < r ∧ L k' = L k then -K n (M hj.choose f) else 0) = _
    have hex : ∃ k', k' < r ∧ L k' = L k := ⟨k, hk, rfl⟩
    rw [if_neg (hf.2 k hk), dif_pos hex]
    rw [h.inj hex.choose_spec.1 hk hex.choose_spec.2]
  refine ⟨v, fun i hi => ?_, v1, v2, v3⟩
  by_cases hir : i < r
  · rw [dot_two (a := L i) (b := f) (h.up i hir) hf.1 (hf.2 i hir) (fun j hj h1 h2 => ?_), v1, v3 i hir, h.one i i hir hi, if_pos rfl, K_one]
    · grind
    · by_cases e : ∃ k, k < r ∧ L k = j
      · obtain ⟨k, hk, rfl⟩ := e
        rw [h.one k i hk hi, if_neg (fun e => h1 (by rw [e])), K_zero]; grind
      · rw [v2 j ⟨hj, fun k hk e' => e ⟨k, hk, e'⟩⟩ h2]; grind
  · exact dot_none fun j hj => by rw [h.low i j (by omega) hi hj, K_zero]; grind
/-- Where one column alone does not lead, it tells all solutions. -/
theorem Rrf.sol_only (h : Rrf (n : Int) N m M L r m) (hr : r + 1 = m) {f : Nat} (hf : Free m L r f) {v : Nat → Fin n} (hv : Sol n N m M v) {k : Nat} (hk : k < r) : v (L k) = v f * -K n (M k f) := by
  have hN := h.rN
  have := hv k (by omega)
  rw [dot_two (a := L k) (b := f) (h.up k hk) hf.1 (hf.2 k hk) (fun j hj h1 h2 => ?_), h.one k k hk (by omega), if_pos rfl, K_one] at this
  · grind
  · obtain ⟨k', hk', rfl⟩ := h.others hr hf hj h2
    rw [h.one k' k hk' (by omega), if_neg (fun e => h1 (by rw [e])), K_zero]; grind
/-- Where all columns lead, all numbers are 0. -/
theorem Rrf.sol_none (h : Rrf (n : Int) N m M L m m) {v : Nat → Fin n} (hv : Sol n N m M v) {j : Nat} (hj : j < m) : v j = 0 := by
  have hN := h.rN
  have hL : ∀ k, k < m → L k = k := fun k hk => by
    have g1 := h.gap (a := 0) (b := k) (by omega) hk
    have g2 := h.gap (a := k) (b := m - 1) (by omega) (by omega)
    have g3 := h.up (m - 1) (by omega)
    omega
  have := hv j (by omega)
  rw [dot_one (a := j) hj (fun i hi hne => ?_)] at this
  · have h1 := h.one j j hj (by omega)
    rw [hL j hj, if_pos rfl] at h1
    rw [h1, K_one] at this
    grind
  · have h1 := h.one i j hi (by omega)
    rw [hL i hi, if_neg (Ne.symm hne)] at h1
    rw [h1, K_zero]; grind
end

end Go.Proofs.Ytmpgpmcmhbpjeaa
