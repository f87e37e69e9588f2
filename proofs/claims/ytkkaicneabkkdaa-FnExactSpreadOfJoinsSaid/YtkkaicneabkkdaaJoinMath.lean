/-
  Joins of places: their numbers, and the rows of places that are solved; no program.
-/
import Derived.Test.YtkkaicneabkkdaaPlMath
import Derived.Test.YtkkaicneabkkdaaFree
namespace Go.Proofs.Ytkkaicneabkkdaa
open Go.RowKit

def cr1 (_a1 a2 a3 _b1 b2 b3 : Int) : Int := a2 * b3 - a3 * b2
def cr2 (a1 _a2 a3 b1 _b2 b3 : Int) : Int := a3 * b1 - a1 * b3
def cr3 (a1 a2 _a3 b1 b2 _b3 : Int) : Int := a2 * b1 - a1 * b2
/-- What three numbers make, modulo p. -/
def mkp (p x y z t : Int) : Int := ck p (x % p) (y % p) (z % p) (t % p)
def jn1 (p a1 a2 a3 b1 b2 b3 : Int) : Int := mkp p (cr1 a1 a2 a3 b1 b2 b3) (cr2 a1 a2 a3 b1 b2 b3) (cr3 a1 a2 a3 b1 b2 b3) (cr1 a1 a2 a3 b1 b2 b3)
def jn2 (p a1 a2 a3 b1 b2 b3 : Int) : Int := mkp p (cr1 a1 a2 a3 b1 b2 b3) (cr2 a1 a2 a3 b1 b2 b3) (cr3 a1 a2 a3 b1 b2 b3) (cr2 a1 a2 a3 b1 b2 b3)
def jn3 (p a1 a2 a3 b1 b2 b3 : Int) : Int := mkp p (cr1 a1 a2 a3 b1 b2 b3) (cr2 a1 a2 a3 b1 b2 b3) (cr3 a1 a2 a3 b1 b2 b3) (cr3 a1 a2 a3 b1 b2 b3)
theorem mkp_r (x y z t : Int) {p : Int} (h : isP p = true) : 0 ≤ mkp p x y z t ∧ mkp p x y z t < p := modR _ h
theorem jn1_r (a1 a2 a3 b1 b2 b3 : Int) {p : Int} (h : isP p = true) : 0 ≤ jn1 p a1 a2 a3 b1 b2 b3 ∧ jn1 p a1 a2 a3 b1 b2 b3 < p := modR _ h
theorem jn2_r (a1 a2 a3 b1 b2 b3 : Int) {p : Int} (h : isP p = true) : 0 ≤ jn2 p a1 a2 a3 b1 b2 b3 ∧ jn2 p a1 a2 a3 b1 b2 b3 < p := modR _ h
theorem jn3_r (a1 a2 a3 b1 b2 b3 : Int) {p : Int} (h : isP p = true) : 0 ≤ jn3 p a1 a2 a3 b1 b2 b3 ∧ jn3 p a1 a2 a3 b1 b2 b3 < p := modR _ h
/-- Whether three places are in line, by the model. -/
def eqPl (a1 a2 a3 b1 b2 b3 : Int) : Bool := a1 == b1 && a2 == b2 && a3 == b3
def ilB (p a1 a2 a3 b1 b2 b3 c1 c2 c3 : Int) : Bool := eqPl a1 a2 a3 b1 b2 b3 || ppd p (jn1 p a1 a2 a3 b1 b2 b3) (jn2 p a1 a2 a3 b1 b2 b3) (jn3 p a1 a2 a3 b1 b2 b3) c1 c2 c3 == 0
theorem eqPl_iff {a1 a2 a3 b1 b2 b3 : Int} : eqPl a1 a2 a3 b1 b2 b3 = true ↔ a1 = b1 ∧ a2 = b2 ∧ a3 = b3 := by simp [eqPl, and_assoc]
/-- The rows of places, as one list. -/
def rwL (p a1 a2 a3 : Int) : List Int := [a1, a2, -a3 % p]
theorem pl_ways {p a1 a2 a3 : Int} (h : plB p a1 a2 a3 = true) : a1 = 1 ∨ (a1 = 0 ∧ a2 = 1) ∨ (a1 = 0 ∧ a2 = 0 ∧ a3 = 1) := by
  have := plB_lead h
  unfold ld3 at this
  by_cases e1 : a1 = 0
  · subst e1
    by_cases e2 : a2 = 0
    · subst e2; simp at this; exact .inr (.inr ⟨rfl, rfl, this⟩)
    · simp [e2] at this; exact .inr (.inl ⟨rfl, this⟩)
  · simp [e1] at this; exact .inl this
section
variable {n : Nat} [NeZero n]
theorem K_cr (a1 a2 a3 b1 b2 b3 : Int) : K n (cr1 a1 a2 a3 b1 b2 b3) = K n a2 * K n b3 - K n a3 * K n b2 ∧ K n (cr2 a1 a2 a3 b1 b2 b3) = K n a3 * K n b1 - K n a1 * K n b3 ∧ K n (cr3 a1 a2 a3 b1 b2 b3) = K n a2 * K n b1 - K n a1 * K n b2 := by
  refine ⟨?_, ?_, ?_⟩ <;> simp only [cr1, cr2, cr3, K_sub, K_mul]
theorem cross_ne (hp : isP (n : Int) = true) {a1 a2 a3 b1 b2 b3 : Int} (ha : plB n a1 a2 a3 = true) (hb : plB n b1 b2 b3 = true) (hne : eqPl a1 a2 a3 b1 b2 b3 = false) :
    ¬ (K n (cr1 a1 a2 a3 b1 b2 b3) = 0 ∧ K n (cr2 a1 a2 a3 b1 b2 b3) = 0 ∧ K n (cr3 a1 a2 a3 b1 b2 b3) = 0) := by
  rintro ⟨h1, h2, h3⟩
  obtain ⟨k1, k2, k3⟩ := K_cr (n := n) a1 a2 a3 b1 b2 b3
  rw [k1] at h1; rw [k2] at h2; rw [k3] at h3
  clear k1 k2 k3
  have hr := isP_range hp
  obtain ⟨ra1, ra2, ra3⟩ := plB_rng ha
  obtain ⟨rb1, rb2, rb3⟩ := plB_rng hb
  have e10 : K n 1 ≠ 0 := K_small ⟨by omega, by omega⟩ (by decide)
  rw [K_one] at e10
  have key : a1 = b1 ∧ a2 = b2 ∧ a3 = b3 := by
    rcases pl_ways ha with rfl | ⟨rfl, rfl⟩ | ⟨rfl, rfl, rfl⟩ <;> rcases pl_ways hb with rfl | ⟨rfl, rfl⟩ | ⟨rfl, rfl, rfl⟩ <;> simp only [K_zero, K_one] at h1 h2 h3
    · exact ⟨rfl, K_inj ra2 rb2 (by grind), K_inj ra3 rb3 (by grind)⟩
    · exact absurd (by clear ra1 ra2 ra3 rb1 rb2 rb3 ha hb hne hp hr e10; grind -lia) e10
    · exact absurd (by clear ra1 ra2 ra3 rb1 rb2 rb3 ha hb hne hp hr e10; grind -lia) e10
    · exact absurd (by clear ra1 ra2 ra3 rb1 rb2 rb3 ha hb hne hp hr e10; grind -lia) e10
    · exact ⟨rfl, rfl, K_inj ra3 rb3 (by grind)⟩
    · exact absurd (by clear ra1 ra2 ra3 rb1 rb2 rb3 ha hb hne hp hr e10; grind -lia) e10
    · exact absurd (by clear ra1 ra2 ra3 rb1 rb2 rb3 ha hb hne hp hr e10; grind -lia) e10
    · exact absurd (by clear ra1 ra2 ra3 rb1 rb2 rb3 ha hb hne hp hr e10; grind -lia) e10
    · exact ⟨rfl, rfl, rfl⟩
  rw [eqPl_iff.2 key] at hne
  cases hne
theorem dot3 (r : Nat → Int) (v : Nat → Fin n) : dot n r v 3 = K n (r 0) * v 0 + K n (r 1) * v 1 + K n (r 2) * v 2 := by
  simp only [dot]; grind
/-- What a place's row says. -/
def OnRow (n : Nat) [NeZero n] (a1 a2 a3 : Int) (v : Nat → Fin n) : Prop := K n a1 * v 0 + K n a2 * v 1 - K n a3 * v 2 = 0
theorem row_iff {r : Nat → Int} {a1 a2 a3 : Int} (h0 : r 0 = a1) (h1 : r 1 = a2) (h2 : r 2 = -a3 % n) (v : Nat → Fin n) : dot n r v 3 = 0 ↔ OnRow n a1 a2 a3 v := by
  rw [dot3, h0, h1, h2, K_mod, K_neg, OnRow]
  constructor <;> intro h <;> grind
/-- The cross product of two places, as a vector. -/
def crv (n : Nat) [NeZero n] (a1 a2 a3 b1 b2 b3 : Int) (j : Nat) : Fin n := if j = 0 then K n (cr1 a1 a2 a3 b1 b2 b3) else if j = 1 then K n (cr2 a1 a2 a3 b1 b2 b3) else K n (cr3 a1 a2 a3 b1 b2 b3)
theorem crv_on (a1 a2 a3 b1 b2 b3 : Int) : OnRow n a1 a2 a3 (crv n a1 a2 a3 b1 b2 b3) ∧ OnRow n b1 b2 b3 (crv n a1 a2 a3 b1 b2 b3) := by
  obtain ⟨k1, k2, k3⟩ := K_cr (n := n) a1 a2 a3 b1 b2 b3
  unfold OnRow crv
  simp only [if_true, show ¬ ((1 : Nat) = 0) by decide, show ¬ ((2 : Nat) = 0) by decide, show ¬ ((2 : Nat) = 1) by decide, if_false, k1, k2, k3]
  constructor <;> grind
theorem crv_par {a1 a2 a3 b1 b2 b3 : Int} {v : Nat → Fin n} (ha : OnRow n a1 a2 a3 v) (hb : OnRow n b1 b2 b3 v) :
    K n (cr1 a1 a2 a3 b1 b2 b3) * v 1 = K n (cr2 a1 a2 a3 b1 b2 b3) * v 0 ∧ K n (cr1 a1 a2 a3 b1 b2 b3) * v 2 = K n (cr3 a1 a2 a3 b1 b2 b3) * v 0 ∧ K n (cr2 a1 a2 a3 b1 b2 b3) * v 2 = K n (cr3 a1 a2 a3 b1 b2 b3) * v 1 := by
  obtain ⟨k1, k2, k3⟩ := K_cr (n := n) a1 a2 a3 b1 b2 b3
  rw [k1, k2, k3]
  unfold OnRow at ha hb
  refine ⟨?_, ?_, ?_⟩ <;> grind
theorem K_mkp (x y z t : Int) : K n (mkp n x y z t) = K n t * K n (inv n (ld3 (x % n) (y % n) (z % n))) := by rw [mkp, ck, K_mod, K_mul, K_mod]
theorem mkp_unit (hp : isP (n : Int) = true) {x y z : Int} (h : ¬ (K n x = 0 ∧ K n y = 0 ∧ K n z = 0)) : K n (ld3 (x % n) (y % n) (z % n)) * K n (inv n (ld3 (x % n) (y % n) (z % n))) = 1 := by
  refine K_inv hp fun e => h ?_
  have hr := isP_range hp
  have z1 := Int.emod_nonneg x (show (n : Int) ≠ 0 by omega)
  have m1 := Int.emod_lt_of_pos x (show (0 : Int) < n by omega)
  have z2 := Int.emod_nonneg y (show (n : Int) ≠ 0 by omega)
  have m2 := Int.emod_lt_of_pos y (show (0 : Int) < n by omega)
  have z3 := Int.emod_nonneg z (show (n : Int) ≠ 0 by omega)
  have m3 := Int.emod_lt_of_pos z (show (0 : Int) < n by omega)
  have hz : ∀ q : Int, 0 ≤ q ∧ q < n → K n q = 0 → q = 0 := fun q hq e' => K_inj hq ⟨by omega, by omega⟩ (by rw [e', K_zero])
  unfold ld3 at e
  by_cases e1 : x % n = 0
  · rw [e1] at e
    simp only [beq_self_eq_true, if_true] at e
    by_cases e2 : y % n = 0
    · rw [e2] at e
      simp only [beq_self_eq_true, if_true] at e
      have e3 := hz _ ⟨z3, m3⟩ e
      exact ⟨K_eq_zero.2 e1, K_eq_zero.2 e2, K_eq_zero.2 e3⟩
    · rw [if_neg (by simpa using e2)] at e
      exact absurd (hz _ ⟨z2, m2⟩ e) e2
  · rw [if_neg (by simpa using e1)] at e
    exact absurd (hz _ ⟨z1, m1⟩ e) e1
/-- The product with a join is 0 just where the cross product's is. -/
theorem join_zero (hp : isP (n : Int) = true) {a1 a2 a3 b1 b2 b3 : Int} (h : ¬ (K n (cr1 a1 a2 a3 b1 b2 b3) = 0 ∧ K n (cr2 a1 a2 a3 b1 b2 b3) = 0 ∧ K n (cr3 a1 a2 a3 b1 b2 b3) = 0)) (c1 c2 c3 : Int) :
    (ppd n (jn1 n a1 a2 a3 b1 b2 b3) (jn2 n a1 a2 a3 b1 b2 b3) (jn3 n a1 a2 a3 b1 b2 b3) c1 c2 c3 == 0) = true ↔ K n (cr1 a1 a2 a3 b1 b2 b3) * K n c1 + K n (cr2 a1 a2 a3 b1 b2 b3) * K n c2 - K n (cr3 a1 a2 a3 b1 b2 b3) * K n c3 = 0 := by
  have hu := mkp_unit hp h
  rw [beq_iff_eq, ppd, ← K_eq_zero]
  simp only [jn1, jn2, jn3, K_sub, K_add, K_mul, K_mkp]
  generalize K n (inv n (ld3 (cr1 a1 a2 a3 b1 b2 b3 % n) (cr2 a1 a2 a3 b1 b2 b3 % n) (cr3 a1 a2 a3 b1 b2 b3 % n))) = u at *
  generalize K n (ld3 (cr1 a1 a2 a3 b1 b2 b3 % n) (cr2 a1 a2 a3 b1 b2 b3 % n) (cr3 a1 a2 a3 b1 b2 b3 % n)) = q at *
  generalize K n (cr1 a1 a2 a3 b1 b2 b3) = x
  generalize K n (cr2 a1 a2 a3 b1 b2 b3) = y
  generalize K n (cr3 a1 a2 a3 b1 b2 b3) = z
  clear h
  constructor
  · intro h
    have : q * u * (x * K n c1 + y * K n c2 - z * K n c3) = 0 := by grind
    rw [hu] at this; grind
  · intro h; grind
end
end Go.Proofs.Ytkkaicneabkkdaa
