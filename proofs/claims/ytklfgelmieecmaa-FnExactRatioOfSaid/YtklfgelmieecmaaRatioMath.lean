/-
  Ratios: what the map of combinations says of a point; no walk.
-/
import Derived.Test.YtklfgelmieecmaaRatios
import Derived.Test.YtklfgelmieecmaaSpecRatio
namespace Go.Proofs.Ytklfgelmieecmaa
open Go.RowKit

theorem ratD_map (p a1 a2 b1 b2 : Int) : ∀ k, Maps.IsMap (ratD p a1 a2 b1 b2 k)
  | 0 => ⟨_, rfl⟩
  | k + 1 => (ratD_map p a1 a2 b1 b2 k).put _ _
theorem cmb_r {p : Int} (hp : isP p = true) (a b t : Int) : 0 ≤ cmb p a b t ∧ cmb p a b t ≤ 31 := modR31 _ hp
section
variable {p a1 a2 b1 b2 c1 c2 : Int}
theorem rat_none (hp : isP p = true) (hc1 : 0 ≤ c1 ∧ c1 ≤ 31) (hc2 : 0 ≤ c2 ∧ c2 ≤ 31) : ∀ k : Nat, (∀ t : Nat, t < k → ¬ (cmb p a1 b1 (t : Int) = c1 ∧ cmb p a2 b2 (t : Int) = c2)) →
    Maps.has (ratD p a1 a2 b1 b2 k) (klP c1 c2) = false ∧ ∀ z, (ratD p a1 a2 b1 b2 k).atKey (klP c1 c2) z = z
  | 0, _ => ⟨rfl, fun _ => rfl⟩
  | k + 1, h => by
    have ih := rat_none hp hc1 hc2 k fun t ht => h t (by omega)
    have hne : klP c1 c2 ≠ klP (cmb p a1 b1 (k : Int)) (cmb p a2 b2 (k : Int)) := fun e => by
      have := klP_inj hc1 hc2 (cmb_r hp _ _ _) (cmb_r hp _ _ _) e
      exact h k (by omega) ⟨this.1.symm, this.2.symm⟩
    exact ⟨(Maps.has_put_other hne _).trans ih.1, fun z => (Maps.atKey_put_other hne _ z).trans (ih.2 z)⟩
theorem rat_hit (hp : isP p = true) (hc1 : 0 ≤ c1 ∧ c1 ≤ 31) (hc2 : 0 ≤ c2 ∧ c2 ≤ 31) {t0 : Nat} (h0 : cmb p a1 b1 (t0 : Int) = c1 ∧ cmb p a2 b2 (t0 : Int) = c2) :
    ∀ k : Nat, t0 < k → (∀ t : Nat, t < k → cmb p a1 b1 (t : Int) = c1 ∧ cmb p a2 b2 (t : Int) = c2 → t = t0) →
    Maps.has (ratD p a1 a2 b1 b2 k) (klP c1 c2) = true ∧ ∀ z, (ratD p a1 a2 b1 b2 k).atKey (klP c1 c2) z = .lit (.int .i64 (t0 : Int))
  | 0, h, _ => absurd h (by omega)
  | k + 1, h, hu => by
    by_cases e : t0 = k
    · subst e
      have e1 : klP c1 c2 = klP (cmb p a1 b1 (t0 : Int)) (cmb p a2 b2 (t0 : Int)) := by rw [h0.1, h0.2]
      have hk := klP_key hc1 hc2
      unfold ratD
      rw [← e1]
      exact ⟨Maps.has_put_same (ratD_map _ _ _ _ _ _) hk _, fun z => Maps.atKey_put_same (ratD_map _ _ _ _ _ _) hk _ z⟩
    · have ih := rat_hit hp hc1 hc2 h0 k (by omega) fun t ht => hu t (by omega)
      have hne : klP c1 c2 ≠ klP (cmb p a1 b1 (k : Int)) (cmb p a2 b2 (k : Int)) := fun e' => by
        have := klP_inj hc1 hc2 (cmb_r hp _ _ _) (cmb_r hp _ _ _) e'
        exact e (hu k (by omega) ⟨this.1.symm, this.2.symm⟩).symm
      exact ⟨(Maps.has_put_other hne _).trans ih.1, fun z => (Maps.atKey_put_other hne _ z).trans (ih.2 z)⟩

/-- Which combination a point is. -/
theorem comb_area (hp : isP p = true) {t : Int} (h : cmb p a1 b1 t = c1 ∧ cmb p a2 b2 t = c2) : (area p a1 a2 b1 b2 c1 c2 == 0) = true := by
  have hr := isP_range hp
  obtain ⟨n, rfl⟩ := Int.eq_ofNat_of_zero_le (by omega : 0 ≤ p)
  haveI := neZero_of hp
  have e1 : K n c1 = K n a1 + K n t * (K n b1 - K n a1) := by rw [← h.1, cmb, K_mod, K_add, K_mul, K_sub]
  have e2 : K n c2 = K n a2 + K n t * (K n b2 - K n a2) := by rw [← h.2, cmb, K_mod, K_add, K_mul, K_sub]
  rw [beq_iff_eq]
  have : K n (area n a1 a2 b1 b2 c1 c2) = 0 := by
    unfold area
    simp only [K_mod, K_sub, K_mul, e1, e2]; grind
  have := K_eq_zero.1 this
  rwa [show area n a1 a2 b1 b2 c1 c2 % n = area n a1 a2 b1 b2 c1 c2 from by unfold area; rw [Int.emod_emod]] at this
theorem comb_ratio (hp : isP p = true) (ha1 : 0 ≤ a1 ∧ a1 < p) (ha2 : 0 ≤ a2 ∧ a2 < p) (hb1 : 0 ≤ b1 ∧ b1 < p) (hb2 : 0 ≤ b2 ∧ b2 < p) (hc1 : 0 ≤ c1 ∧ c1 < p) (hc2 : 0 ≤ c2 ∧ c2 < p) (hne : ¬ (a1 = b1 ∧ a2 = b2))
    (har : (area p a1 a2 b1 b2 c1 c2 == 0) = true) : (cmb p a1 b1 (rtO p a1 a2 b1 b2 c1 c2) = c1 ∧ cmb p a2 b2 (rtO p a1 a2 b1 b2 c1 c2) = c2) ∧ (0 ≤ rtO p a1 a2 b1 b2 c1 c2 ∧ rtO p a1 a2 b1 b2 c1 c2 < p) ∧
      ∀ t : Int, 0 ≤ t ∧ t < p → cmb p a1 b1 t = c1 ∧ cmb p a2 b2 t = c2 → t = rtO p a1 a2 b1 b2 c1 c2 := by
  have hr := isP_range hp
  obtain ⟨n, rfl⟩ := Int.eq_ofNat_of_zero_le (by omega : 0 ≤ p)
  haveI := neZero_of hp
  have hk : K n (area n a1 a2 b1 b2 c1 c2) = 0 := by rw [beq_iff_eq.1 har, K_zero]
  unfold area at hk
  simp only [K_mod, K_sub, K_mul] at hk
  have hrt : 0 ≤ rtO n a1 a2 b1 b2 c1 c2 ∧ rtO n a1 a2 b1 b2 c1 c2 < n := by unfold rtO; split <;> exact modR _ hp
  have hcm : ∀ a b t : Int, 0 ≤ cmb n a b t ∧ cmb n a b t < n := fun a b t => modR _ hp
  have kc : ∀ a b t : Int, K n (cmb n a b t) = K n a + K n t * (K n b - K n a) := fun a b t => by rw [cmb, K_mod, K_add, K_mul, K_sub]
  by_cases h1 : K n b1 - K n a1 = 0
  · have h2 : K n b2 - K n a2 ≠ 0 := fun h2 => hne ⟨K_inj ha1 hb1 (by grind), K_inj ha2 hb2 (by grind)⟩
    have e0 : ((b1 - a1) % (n : Int) == 0) = true := by rw [beq_iff_eq, ← K_eq_zero, K_sub]; exact h1
    have hv := K_inv hp (y := (b2 - a2) % n) (by rw [K_mod, K_sub]; exact h2)
    rw [K_mod, K_sub] at hv
    have hO : K n (rtO n a1 a2 b1 b2 c1 c2) = (K n c2 - K n a2) * K n (inv n ((b2 - a2) % n)) := by
      unfold rtO; rw [if_pos e0, K_mod, K_mul, K_mod, K_sub]
    have hc : K n c1 = K n a1 := by
      have : (K n b2 - K n a2) * (K n c1 - K n a1) = 0 := by grind
      have h3 : K n (b2 - a2) * K n (c1 - a1) = 0 := by rw [K_sub, K_sub]; exact this
      rcases K_noz hp h3 with h4 | h4
      · rw [K_sub] at h4; exact absurd h4 h2
      · rw [K_sub] at h4; grind
    refine ⟨⟨K_inj (hcm _ _ _) hc1 (by rw [kc]; grind), K_inj (hcm _ _ _) hc2 (by rw [kc, hO]; grind)⟩, hrt, fun t ht h => K_inj ht hrt ?_⟩
    have e2 : K n c2 = K n a2 + K n t * (K n b2 - K n a2) := by rw [← h.2, kc]
    rw [hO, e2]; grind
  · have e0 : ¬ ((b1 - a1) % (n : Int) == 0) = true := by rw [beq_iff_eq, ← K_eq_zero, K_sub]; exact h1
    have hv := K_inv hp (y := (b1 - a1) % n) (by rw [K_mod, K_sub]; exact h1)
    rw [K_mod, K_sub] at hv
    have hO : K n (rtO n a1 a2 b1 b2 c1 c2) = (K n c1 - K n a1) * K n (inv n ((b1 - a1) % n)) := by
      unfold rtO; rw [if_neg e0, K_mod, K_mul, K_mod, K_sub]
    refine ⟨⟨K_inj (hcm _ _ _) hc1 (by rw [kc, hO]; grind), K_inj (hcm _ _ _) hc2 (by rw [kc, hO]; grind)⟩, hrt, fun t ht h => K_inj ht hrt ?_⟩
    have e1 : K n c1 = K n a1 + K n t * (K n b1 - K n a1) := by rw [← h.1, kc]
    rw [hO, e1]; grind

theorem zeroI (w : World) : (zeroValue 2).run Try.prog w = .ok (.int .i64 0) w := by kernel_rfl
/-- The look-up: the ratio, and whether there is one. -/
theorem rat_look_yes (hp : isP p = true) (ha1 : 0 ≤ a1 ∧ a1 < p) (ha2 : 0 ≤ a2 ∧ a2 < p) (hb1 : 0 ≤ b1 ∧ b1 < p) (hb2 : 0 ≤ b2 ∧ b2 < p) (hc1 : 0 ≤ c1 ∧ c1 < p) (hc2 : 0 ≤ c2 ∧ c2 < p) (hne : ¬ (a1 = b1 ∧ a2 = b2))
    (har : (area p a1 a2 b1 b2 c1 c2 == 0) = true) {w : World} {B : Nat} (h : w.ownsMap Try.prog 30 (Go.plainElem Try.prog 2) B p.toNat (ratD p a1 a2 b1 b2 p.toNat)) :
    (Instr.lookup 68 (.map (some B)) (.agg #[.int .i64 c1, .int .i64 c2]) true).run Try.prog w = .ok (.tuple #[.int .i64 (rtO p a1 a2 b1 b2 c1 c2), .bool true]) w := by
  have hr := isP_range hp
  obtain ⟨h0, hrt, hu⟩ := comb_ratio hp ha1 ha2 hb1 hb2 hc1 hc2 hne har
  obtain ⟨t0, ht0⟩ := Int.eq_ofNat_of_zero_le hrt.1
  rw [ht0] at h0 hu hrt ⊢
  have hh := rat_hit hp (by omega) (by omega) h0 p.toNat (by omega) (fun t ht he => by have := hu (t : Int) (by omega) he; omega)
  obtain ⟨v, ps, hrun, hv⟩ := h.look_ok ptLaw Try.underlying68 (zeroI w) (Go.plainElem_int Try.underlying2 (by decide)) (keyOf_pt (x := c1) (y := c2) (by omega) (by omega))
  rw [hh.1] at hrun
  rw [hh.2] at hv
  obtain ⟨c, rfl, hc, _⟩ := Go.plainElem_int_inv Try.underlying2 hv
  simp only [Prod.mk.injEq, DataW.lit.injEq, Lit.int.injEq, true_and] at hc
  rw [hrun, hc.1]
theorem rat_look_no (hp : isP p = true) (hc1 : 0 ≤ c1 ∧ c1 < p) (hc2 : 0 ≤ c2 ∧ c2 < p)
    (har : (area p a1 a2 b1 b2 c1 c2 == 0) = false) {w : World} {B : Nat} (h : w.ownsMap Try.prog 30 (Go.plainElem Try.prog 2) B p.toNat (ratD p a1 a2 b1 b2 p.toNat)) :
    (Instr.lookup 68 (.map (some B)) (.agg #[.int .i64 c1, .int .i64 c2]) true).run Try.prog w = .ok (.tuple #[.int .i64 0, .bool false]) w := by
  have hr := isP_range hp
  have hh := rat_none (a1 := a1) (a2 := a2) (b1 := b1) (b2 := b2) hp (by omega) (by omega) p.toNat (c1 := c1) (c2 := c2) (fun t _ he => by
    have := comb_area hp he; rw [har] at this; cases this)
  obtain ⟨v, ps, hrun, hv⟩ := h.look_ok ptLaw Try.underlying68 (zeroI w) (Go.plainElem_int Try.underlying2 (by decide)) (keyOf_pt (x := c1) (y := c2) (by omega) (by omega))
  rw [hh.1] at hrun
  rw [hh.2] at hv
  obtain ⟨c, rfl, hc, _⟩ := Go.plainElem_int_inv Try.underlying2 hv
  simp only [Prod.mk.injEq, DataW.lit.injEq, Lit.int.injEq, true_and] at hc
  rw [hrun, hc.1]
end

end Go.Proofs.Ytklfgelmieecmaa
