/-
  A scope in which the run jumps to several labels.
-/
import Derived.ScopeJumps
import Derived.WalkMore
import Derived.Tactics
namespace Go.Proofs.Ytmpgpmcmhbpjeaa
open Go

/-- As Q; by a goto to a label: J of it. -/
def toLabels (J : Nat → Act → World → Prop) (Q : Exit → Act → World → Prop) : Exit → Act → World → Prop
  | .goto l, a, w => J l a w
  | e, a, w => Q e a w

theorem wp_scope_labels {P : Program} {a : Act} {w : World} {Q : Exit → Act → World → Prop} {c : Code} (J : Nat → Act → World → Prop) (μ : Nat → Act → World → Nat)
    (first : c.wp P (toLabels J Q) a w)
    (pass : ∀ l a w, J l a w → ∃ rest, findLabel c l = some rest ∧ rest.wp P (toLabels (fun l' a' w' => J l' a' w' ∧ μ l' a' w' < μ l a w) Q) a w) : (Code.scope c).wp P Q a w := by
  intro b k cs
  -- what stands behind the scope, whatever the exit
  have out : ∀ (e : Exit) (a₁ : Act) (w₁ : World) (s : Machine), (∀ l, e ≠ .goto l) → Q e a₁ w₁ → Arrives P s b (.inScope c :: k) cs e a₁ w₁ → ∃ e a' w', Q e a' w' ∧ Arrives P s b k cs e a' w' := by
    intro e a₁ w₁ s hne hq harr
    cases e with
    | normal => exact ⟨.normal, a₁, w₁, hq, Steps.trans harr (.one step_inScope)⟩
    | exit id => exact ⟨.exit id, a₁, w₁, hq, fun k' hk => harr k' (by simp [exitTo, hk])⟩
    | goto l => exact absurd rfl (hne l)
    | ret => exact ⟨_, a₁, w₁, hq, harr⟩
    | panic ch => exact ⟨_, a₁, w₁, hq, harr⟩
    | outgrown => exact ⟨_, a₁, w₁, hq, harr⟩
  have key : ∀ N l a w rest, μ l a w < N → J l a w → findLabel c l = some rest → ∃ e a' w', Q e a' w' ∧ Arrives P (lone (b.at a (.code rest :: .inScope c :: k)) cs w) b k cs e a' w' := by
    intro N
    induction N with
    | zero => intro l a w rest h; omega
    | succ N ih =>
      intro l a w rest hN hJ hf
      obtain ⟨rest', hf', hw⟩ := pass l a w hJ
      rw [hf] at hf'
      cases hf'
      obtain ⟨e, a₁, w₁, hq, harr⟩ := hw b (.inScope c :: k) cs
      by_cases hg : ∃ l', e = .goto l'
      · obtain ⟨l', rfl⟩ := hg
        obtain ⟨hJ', hlt⟩ := hq
        obtain ⟨r2, hf2, _⟩ := pass l' a₁ w₁ hJ'
        obtain ⟨e₂, a₂, w₂, hq₂, harr₂⟩ := ih l' a₁ w₁ r2 (by omega) hJ' hf2
        exact ⟨e₂, a₂, w₂, hq₂, .of_steps (harr _ (by simp [gotoIn, hf2])) harr₂⟩
      · refine out e a₁ w₁ _ (fun l' h => hg ⟨l', h⟩) ?_ harr
        cases e <;> first | exact hq | exact absurd ⟨_, rfl⟩ hg
  obtain ⟨e, a₁, w₁, hq, harr⟩ := first b (.inScope c :: k) cs
  by_cases hg : ∃ l', e = .goto l'
  · obtain ⟨l', rfl⟩ := hg
    obtain ⟨r2, hf2, _⟩ := pass l' a₁ w₁ hq
    obtain ⟨e₂, a₂, w₂, hq₂, harr₂⟩ := key _ l' a₁ w₁ r2 (Nat.lt_succ_self _) hq hf2
    exact ⟨e₂, a₂, w₂, hq₂, .of_steps (.head step_scope (harr _ (by simp [gotoIn, hf2]))) harr₂⟩
  · obtain ⟨e₂, a₂, w₂, hq₂, harr₂⟩ := out e a₁ w₁ _ (fun l' h => hg ⟨l', h⟩) (by cases e <;> first | exact hq | exact absurd ⟨_, rfl⟩ hg) harr
    exact ⟨e₂, a₂, w₂, hq₂, .of_steps (.one step_scope) harr₂⟩

/-- The same for two labels, where the first way falls into the first one: what stands behind it may be used there. -/
theorem wp_scope_two {P : Program} {a : Act} {w : World} {Q : Exit → Act → World → Prop} {c r0 r1 : Code} (J : Nat → Act → World → Prop) (μ : Nat → Act → World → Nat)
    (hf0 : findLabel c 0 = some (Code.skip.seq r0)) (hf1 : findLabel c 1 = some (Code.skip.seq r1)) (hl : ∀ l a w, J l a w → l = 0 ∨ l = 1)
    (pass0 : ∀ a w, J 0 a w → r0.wp P (toLabels (fun l' a' w' => J l' a' w' ∧ μ l' a' w' < μ 0 a w) Q) a w)
    (pass1 : ∀ a w, J 1 a w → r1.wp P (toLabels (fun l' a' w' => J l' a' w' ∧ μ l' a' w' < μ 1 a w) Q) a w)
    (first : (∀ a w, J 0 a w → r0.wp P (toLabels J Q) a w) → c.wp P (toLabels J Q) a w) : (Code.scope c).wp P Q a w :=
  wp_scope_labels J μ (first fun a w hJ => Code.wp_mono (fun e a' w' h => by cases e <;> first | exact h | exact h.1) (pass0 a w hJ))
    fun l a w hJ => by
      rcases hl l a w hJ with rfl | rfl
      · exact ⟨_, hf0, wp_seq (wp_skip (pass0 a w hJ))⟩
      · exact ⟨_, hf1, wp_seq (wp_skip (pass1 a w hJ))⟩

end Go.Proofs.Ytmpgpmcmhbpjeaa
