/-
  Parabolas: their numbers; no program.
-/
import Derived.Test.YtkkaicneabkkdaaConMath
namespace Go.Proofs.Ytkkaicneabkkdaa
open Go.RowKit

/-- The numbers of the model's list, and the conic's. -/
def pn (c l1 l2 : Int) : Int := if (c == 1) = true then l1 * l1 - l2 * l2 else if (c == 2) = true then 2 * l1 * l2 else l1 * l1 + l2 * l2
def ps1 (p c l1 l2 : Int) : Int := ((if (c == 2) = true then 0 else pn c l1 l2) - l1 * l1) % p
def ps2 (p c l1 l2 : Int) : Int := ((if (c == 2) = true then 2 * pn c l1 l2 else 0) - 2 * l1 * l2) % p
def ps3 (p c l1 l2 : Int) : Int := ((if (c == 1) = true then -pn c l1 l2 else if (c == 2) = true then 0 else pn c l1 l2) - l2 * l2) % p
def ps4 (p c a1 a2 l1 l2 l3 : Int) : Int := ((if (c == 2) = true then -2 * pn c l1 l2 * a2 else -2 * pn c l1 l2 * a1) - 2 * l1 * l3) % p
def ps5 (p c a1 a2 l1 l2 l3 : Int) : Int := ((if (c == 1) = true then 2 * pn c l1 l2 * a2 else if (c == 2) = true then -2 * pn c l1 l2 * a1 else -2 * pn c l1 l2 * a2) - 2 * l2 * l3) % p
def ps6 (p c a1 a2 l1 l2 l3 : Int) : Int := ((if (c == 1) = true then pn c l1 l2 * (a1 * a1 - a2 * a2) else if (c == 2) = true then 2 * pn c l1 l2 * a1 * a2 else pn c l1 l2 * (a1 * a1 + a2 * a2)) - l3 * l3) % p
def pz (p c l1 l2 x : Int) : Int := ck p (ps1 p c l1 l2) (ps2 p c l1 l2) (ps3 p c l1 l2) x
set_option linter.unusedVariables false in
def pa1 (p c a1 a2 l1 l2 l3 : Int) : Int := pz p c l1 l2 (ps1 p c l1 l2)
set_option linter.unusedVariables false in
def pa2 (p c a1 a2 l1 l2 l3 : Int) : Int := pz p c l1 l2 (ps2 p c l1 l2)
set_option linter.unusedVariables false in
def pa3 (p c a1 a2 l1 l2 l3 : Int) : Int := pz p c l1 l2 (ps3 p c l1 l2)
set_option linter.unusedVariables false in
def pa4 (p c a1 a2 l1 l2 l3 : Int) : Int := pz p c l1 l2 (ps4 p c a1 a2 l1 l2 l3)
set_option linter.unusedVariables false in
def pa5 (p c a1 a2 l1 l2 l3 : Int) : Int := pz p c l1 l2 (ps5 p c a1 a2 l1 l2 l3)
set_option linter.unusedVariables false in
def pa6 (p c a1 a2 l1 l2 l3 : Int) : Int := pz p c l1 l2 (ps6 p c a1 a2 l1 l2 l3)
/-- The foot of a point, and the program's value at it. -/
def ftX' (p c l1 l2 l3 x y : Int) : Int := meX p l1 l2 l3 (pt1 p c l1 l2 x y) (pt2 p c l1 l2 x y) (pt3 p c l1 l2 x y)
def ftY' (p c l1 l2 l3 x y : Int) : Int := meY p l1 l2 l3 (pt1 p c l1 l2 x y) (pt2 p c l1 l2 x y) (pt3 p c l1 l2 x y)
set_option linter.unusedSimpArgs false in
theorem ft_r' (c l1 l2 l3 x y : Int) {p : Int} (h : isP p = true) : (0 ≤ ftX' p c l1 l2 l3 x y ∧ ftX' p c l1 l2 l3 x y < p) ∧ (0 ≤ ftY' p c l1 l2 l3 x y ∧ ftY' p c l1 l2 l3 x y < p) := ⟨modR _ h, modR _ h⟩
def gv (p c l1 l2 l3 a1 a2 x y : Int) : Int := qdr p c x y a1 a2 - qdr p c x y (ftX' p c l1 l2 l3 x y) (ftY' p c l1 l2 l3 x y)
set_option linter.unusedSimpArgs false in
theorem gv_r (c l1 l2 l3 a1 a2 x y : Int) {p : Int} (h : isP p = true) : -30 ≤ gv p c l1 l2 l3 a1 a2 x y ∧ gv p c l1 l2 l3 a1 a2 x y ≤ 30 := by
  have hr := isP_range h
  have h1 := qdr_r c x y a1 a2 h
  have h2 := qdr_r c x y (ftX' p c l1 l2 l3 x y) (ftY' p c l1 l2 l3 x y) h
  unfold gv; omega
section
variable (p c l1 l2 l3 a1 a2 : Int)
def gO : Int := gv p c l1 l2 l3 a1 a2 0 0
def gR : Int := gv p c l1 l2 l3 a1 a2 1 0 - gv p c l1 l2 l3 a1 a2 0 0
def gL : Int := gv p c l1 l2 l3 a1 a2 (p - 1) 0 - gv p c l1 l2 l3 a1 a2 0 0
def gU : Int := gv p c l1 l2 l3 a1 a2 0 1 - gv p c l1 l2 l3 a1 a2 0 0
def gD : Int := gv p c l1 l2 l3 a1 a2 0 (p - 1) - gv p c l1 l2 l3 a1 a2 0 0
def gB : Int := gv p c l1 l2 l3 a1 a2 1 1 - gO p c l1 l2 l3 a1 a2 - gR p c l1 l2 l3 a1 a2 - gU p c l1 l2 l3 a1 a2
def pr1 : Int := (gR p c l1 l2 l3 a1 a2 + gL p c l1 l2 l3 a1 a2) % p
def pr2 : Int := (2 * gB p c l1 l2 l3 a1 a2) % p
def pr3 : Int := (gU p c l1 l2 l3 a1 a2 + gD p c l1 l2 l3 a1 a2) % p
def pr4 : Int := (gR p c l1 l2 l3 a1 a2 - gL p c l1 l2 l3 a1 a2) % p
def pr5 : Int := (gU p c l1 l2 l3 a1 a2 - gD p c l1 l2 l3 a1 a2) % p
def pr6 : Int := (2 * gO p c l1 l2 l3 a1 a2) % p
def pc0 (x : Int) : Int := ck p (pr1 p c l1 l2 l3 a1 a2) (pr2 p c l1 l2 l3 a1 a2) (pr3 p c l1 l2 l3 a1 a2) x
def pc1 : Int := pc0 p c l1 l2 l3 a1 a2 (pr1 p c l1 l2 l3 a1 a2)
def pc2 : Int := pc0 p c l1 l2 l3 a1 a2 (pr2 p c l1 l2 l3 a1 a2)
def pc3 : Int := pc0 p c l1 l2 l3 a1 a2 (pr3 p c l1 l2 l3 a1 a2)
def pc4 : Int := pc0 p c l1 l2 l3 a1 a2 (pr4 p c l1 l2 l3 a1 a2)
def pc5 : Int := pc0 p c l1 l2 l3 a1 a2 (pr5 p c l1 l2 l3 a1 a2)
def pc6 : Int := pc0 p c l1 l2 l3 a1 a2 (pr6 p c l1 l2 l3 a1 a2)
end
section
variable {n : Nat} [NeZero n]
set_option linter.unusedSimpArgs false in
theorem K_qdr {c : Int} (hc : colB c = true) (x y u v : Int) : K n (qdr n c x y u v) = if c = 0 then (K n u - K n x) * (K n u - K n x) + (K n v - K n y) * (K n v - K n y) else if c = 1 then (K n u - K n x) * (K n u - K n x) - (K n v - K n y) * (K n v - K n y) else 2 * (K n u - K n x) * (K n v - K n y) := by
  unfold qdr prd
  rcases colB_ways hc with rfl | rfl | rfl
  · simp only [if_pos, K_mod, K_add, K_mul, K_sub]
  · simp only [show ¬ ((1 : Int) = 0) by decide, if_false, if_true, K_mod, K_add, K_mul, K_sub]
  · simp only [show ¬ ((2 : Int) = 0) by decide, show ¬ ((2 : Int) = 1) by decide, if_false, K_mod, K_add, K_mul, K_sub]; grind
set_option linter.unusedSimpArgs false in
/-- Foot: its differences from the point. -/
theorem K_foot (hp : isP (n : Int) = true) {c l1 l2 l3 : Int} (hc : colB c = true) (hl : leadB l1 l2 = true) (hn : perpB n c l1 l2 l1 l2 = false) (x y : Int) :
    ∃ e : Fin n, e * (K n l1 * K n (vOf n c (-l2 % n) l1) - K n l2 * K n (uOf c (-l2 % n) l1)) = 1 ∧
      K n (ftX' n c l1 l2 l3 x y) - K n x = -(K n (vOf n c (-l2 % n) l1) * (K n l1 * K n x + K n l2 * K n y + K n l3)) * e ∧
      K n (ftY' n c l1 l2 l3 x y) - K n y = K n (uOf c (-l2 % n) l1) * (K n l1 * K n x + K n l2 * K n y + K n l3) * e := by
  have hd : ¬ (detM l1 l2 (pt1 n c l1 l2 x y) (pt2 n c l1 l2 x y) % n = 0) := fun h => by rw [(det_pt hp hc hl).1 h] at hn; cases hn
  have hi : K n (detM l1 l2 (pt1 n c l1 l2 x y) (pt2 n c l1 l2 x y)) * K n (inv n (detM l1 l2 (pt1 n c l1 l2 x y) (pt2 n c l1 l2 x y))) = 1 := K_inv hp (fun h => hd (K_eq_zero.1 h))
  refine ⟨K n (nrm n (uOf c (-l2 % n) l1) (vOf n c (-l2 % n) l1)) * K n (inv n (detM l1 l2 (pt1 n c l1 l2 x y) (pt2 n c l1 l2 x y))), ?_⟩
  unfold ftX' ftY' meX meY
  simp only [K_mod, K_mul, K_sub]
  generalize K n (inv n (detM l1 l2 (pt1 n c l1 l2 x y) (pt2 n c l1 l2 x y))) = D at *
  unfold detM at hi
  simp only [pt1, pt2, pt3, tl1, tl2, tl3, mk1, mk2, mk3, tw, K_mod, K_mul, K_sub, K_neg, K_add] at hi ⊢
  generalize K n (nrm n (uOf c (-l2 % n) l1) (vOf n c (-l2 % n) l1)) = t at *
  generalize K n (uOf c (-l2 % n) l1) = U at *
  generalize K n (vOf n c (-l2 % n) l1) = V at *
  refine ⟨by grind, by grind, by grind⟩
set_option linter.unusedSimpArgs false in
/-- The program's value at a point. -/
theorem K_gv (hp : isP (n : Int) = true) {c l1 l2 l3 : Int} (a1 a2 : Int) (hc : colB c = true) (hl : leadB l1 l2 = true) (hn : perpB n c l1 l2 l1 l2 = false) :
    ∃ v : Fin n, v * K n (pn c l1 l2) = 1 ∧ ∀ x y, K n (gv n c l1 l2 l3 a1 a2 x y) = K n (qdr n c x y a1 a2) - v * ((K n l1 * K n x + K n l2 * K n y + K n l3) * (K n l1 * K n x + K n l2 * K n y + K n l3)) := by
  obtain ⟨e0, h0, -, -⟩ := K_foot (l3 := l3) hp hc hl hn 0 0
  have key : ∀ x y, ∃ e : Fin n, e = e0 ∧ K n (ftX' n c l1 l2 l3 x y) - K n x = -(K n (vOf n c (-l2 % n) l1) * (K n l1 * K n x + K n l2 * K n y + K n l3)) * e ∧ K n (ftY' n c l1 l2 l3 x y) - K n y = K n (uOf c (-l2 % n) l1) * (K n l1 * K n x + K n l2 * K n y + K n l3) * e := by
    intro x y
    obtain ⟨e, h1, h2, h3⟩ := K_foot (l3 := l3) hp hc hl hn x y
    refine ⟨e, ?_, h2, h3⟩
    generalize (K n l1 * K n (vOf n c (-l2 % n) l1) - K n l2 * K n (uOf c (-l2 % n) l1)) = N at h0 h1
    have : e * (e0 * N) = e0 * (e * N) := by grind
    rw [h0, h1] at this; grind
  refine ⟨if c = 0 then e0 else -e0, ?_, ?_⟩
  · rcases colB_ways hc with rfl | rfl | rfl <;> simp [pn, uOf, vOf, K_mul, K_add, K_sub, K_neg, K_mod, K_two] at h0 ⊢ <;> grind
  · intro x y
    obtain ⟨e, rfl, h2, h3⟩ := key x y
    unfold gv
    rw [K_sub, K_qdr hc x y (ftX' n c l1 l2 l3 x y), h2, h3]
    generalize K n (qdr n c x y a1 a2) = q
    generalize K n l1 * K n x + K n l2 * K n y + K n l3 = L
    rcases colB_ways hc with rfl | rfl | rfl <;> simp [uOf, vOf, K_mul, K_add, K_sub, K_neg, K_mod] at h0 ⊢ <;> grind
set_option linter.unusedSimpArgs false in
/-- Numbers that are multiples of others make the same conic. -/
theorem ck_ratio (hp : isP (n : Int) = true) {a b d x a' b' d' x' : Int} {u v : Fin n} (hu : v * u = 1)
    (ra : 0 ≤ a ∧ a < n) (rb : 0 ≤ b ∧ b < n) (rd : 0 ≤ d ∧ d < n) (ra' : 0 ≤ a' ∧ a' < n) (rb' : 0 ≤ b' ∧ b' < n) (rd' : 0 ≤ d' ∧ d' < n)
    (ea : K n a' = u * K n a) (eb : K n b' = u * K n b) (ed : K n d' = u * K n d) (ex : K n x' = u * K n x) : ck n a' b' d' x' = ck n a b d x := by
  have r0 : 0 ≤ (0 : Int) ∧ (0 : Int) < n := by have := isP_range hp; omega
  have zero : ∀ {s t : Int}, (0 ≤ s ∧ s < n) → (0 ≤ t ∧ t < n) → K n t = u * K n s → (t == 0) = (s == 0) := by
    intro s t rs rt e
    rw [Bool.eq_iff_iff, beq_iff_eq, beq_iff_eq]
    constructor
    · rintro rfl
      have : v * (u * K n s) = 0 := by rw [← e, K_zero]; grind
      exact K_inj rs r0 (by rw [K_zero]; grind)
    · rintro rfl
      exact K_inj rt r0 (by rw [e, K_zero]; grind)
  have hL : K n (ld3 a' b' d') = u * K n (ld3 a b d) := by
    unfold ld3; rw [zero ra ra' ea, zero rb rb' eb]
    split
    · split
      · exact ed
      · exact eb
    · exact ea
  unfold ck
  rw [← K_ext]
  simp only [K_mul]
  by_cases h : K n (ld3 a b d) = 0
  · have h' : K n (ld3 a' b' d') = 0 := by rw [hL, h]; grind
    have e1 : ld3 a b d = 0 := K_inj (ld3_r ra rb rd) r0 (by rw [h, K_zero])
    have e2 : ld3 a' b' d' = 0 := K_inj (ld3_r ra' rb' rd') r0 (by rw [h', K_zero])
    rw [e1, e2, inv_zero hp, K_zero]; grind
  · have h' : K n (ld3 a' b' d') ≠ 0 := fun e => h (by rw [hL] at e; have : v * (u * K n (ld3 a b d)) = 0 := by rw [e]; grind
                                                       grind)
    have i1 := K_inv hp h
    have i2 := K_inv hp h'
    rw [hL] at i2
    rw [ex]
    generalize K n (inv n (ld3 a b d)) = I at *
    generalize K n (inv n (ld3 a' b' d')) = J at *
    generalize K n (ld3 a b d) = L at *
    have : u * J * (L * I) = I * (u * L * J) := by grind
    rw [i1, i2] at this
    grind
set_option linter.unusedSimpArgs false in
theorem K_p1 : K n ((n : Int) - 1) = -1 := by rw [K_sub, K_self, K_one]; grind
end
set_option linter.unusedSimpArgs false in
theorem ps_r (c l1 l2 : Int) {p : Int} (h : isP p = true) : (0 ≤ ps1 p c l1 l2 ∧ ps1 p c l1 l2 < p) ∧ (0 ≤ ps2 p c l1 l2 ∧ ps2 p c l1 l2 < p) ∧ (0 ≤ ps3 p c l1 l2 ∧ ps3 p c l1 l2 < p) := ⟨modR _ h, modR _ h, modR _ h⟩
set_option linter.unusedSimpArgs false in
theorem pr_r (c l1 l2 l3 a1 a2 : Int) {p : Int} (h : isP p = true) : (0 ≤ pr1 p c l1 l2 l3 a1 a2 ∧ pr1 p c l1 l2 l3 a1 a2 < p) ∧ (0 ≤ pr2 p c l1 l2 l3 a1 a2 ∧ pr2 p c l1 l2 l3 a1 a2 < p) ∧ (0 ≤ pr3 p c l1 l2 l3 a1 a2 ∧ pr3 p c l1 l2 l3 a1 a2 < p) := ⟨modR _ h, modR _ h, modR _ h⟩
set_option linter.unusedSimpArgs false in
/-- The program's parabola is the model's. -/
theorem par_same {p c l1 l2 l3 : Int} (a1 a2 : Int) (hp : isP p = true) (hc : colB c = true) (hl : leadB l1 l2 = true) (hn : perpB p c l1 l2 l1 l2 = false) :
    pa1 p c a1 a2 l1 l2 l3 = pc1 p c l1 l2 l3 a1 a2 ∧ pa2 p c a1 a2 l1 l2 l3 = pc2 p c l1 l2 l3 a1 a2 ∧ pa3 p c a1 a2 l1 l2 l3 = pc3 p c l1 l2 l3 a1 a2 ∧ pa4 p c a1 a2 l1 l2 l3 = pc4 p c l1 l2 l3 a1 a2 ∧ pa5 p c a1 a2 l1 l2 l3 = pc5 p c l1 l2 l3 a1 a2 ∧ pa6 p c a1 a2 l1 l2 l3 = pc6 p c l1 l2 l3 a1 a2 := by
  obtain ⟨n, rfl⟩ := Int.eq_ofNat_of_zero_le (by have := isP_range hp; omega : 0 ≤ p)
  haveI := neZero_of hp
  obtain ⟨v, hv, hg⟩ := K_gv (l3 := l3) hp a1 a2 hc hl hn
  have h2 : K n 2 ≠ 0 := K_small ⟨by decide, by have := isP_range hp; omega⟩ (by decide)
  have i2 := K_inv hp h2
  rw [K_two] at i2
  have hu : (K n (inv n 2) * K n (pn c l1 l2)) * (2 * v) = 1 := by grind
  have e1 : K n (pr1 n c l1 l2 l3 a1 a2) = 2 * v * K n (ps1 n c l1 l2) := by
    unfold pr1 gR gL ps1
    simp only [K_mod, K_add, K_sub, hg, K_qdr hc, K_zero, K_one, K_self]
    clear hg hu i2 h2 hl hn
    rcases colB_ways hc with rfl | rfl | rfl <;> simp [pn, K_mul, K_add, K_sub, K_two, K_zero] at hv ⊢ <;> clear hc <;> generalize K n l1 = m1 at * <;> generalize K n l2 = m2 at * <;> generalize K n l3 = m3 at * <;> generalize K n a1 = x1 at * <;> generalize K n a2 = x2 at * <;> clear hp <;> grind -lia
  have e2 : K n (pr2 n c l1 l2 l3 a1 a2) = 2 * v * K n (ps2 n c l1 l2) := by
    unfold pr2 gB gO gR gU ps2
    simp only [K_mod, K_add, K_sub, K_mul, hg, K_qdr hc, K_zero, K_one, K_self, K_two]
    clear hg hu i2 h2 hl hn e1
    rcases colB_ways hc with rfl | rfl | rfl <;> simp [pn, K_mul, K_add, K_sub, K_two, K_zero] at hv ⊢ <;> clear hc <;> generalize K n l1 = m1 at * <;> generalize K n l2 = m2 at * <;> generalize K n l3 = m3 at * <;> generalize K n a1 = x1 at * <;> generalize K n a2 = x2 at * <;> clear hp <;> grind -lia
  have e3 : K n (pr3 n c l1 l2 l3 a1 a2) = 2 * v * K n (ps3 n c l1 l2) := by
    unfold pr3 gU gD ps3
    simp only [K_mod, K_add, K_sub, hg, K_qdr hc, K_zero, K_one, K_self]
    clear hg hu i2 h2 hl hn e1 e2
    rcases colB_ways hc with rfl | rfl | rfl <;> simp [pn, K_mul, K_add, K_sub, K_neg, K_two, K_zero] at hv ⊢ <;> clear hc <;> generalize K n l1 = m1 at * <;> generalize K n l2 = m2 at * <;> generalize K n l3 = m3 at * <;> generalize K n a1 = x1 at * <;> generalize K n a2 = x2 at * <;> clear hp <;> grind -lia
  have e4 : K n (pr4 n c l1 l2 l3 a1 a2) = 2 * v * K n (ps4 n c a1 a2 l1 l2 l3) := by
    unfold pr4 gR gL ps4
    simp only [K_mod, K_add, K_sub, hg, K_qdr hc, K_zero, K_one, K_self]
    clear hg hu i2 h2 hl hn e1 e2 e3
    rcases colB_ways hc with rfl | rfl | rfl <;> simp [pn, K_mul, K_add, K_sub, K_neg, K_two, K_zero] at hv ⊢ <;> clear hc <;> generalize K n l1 = m1 at * <;> generalize K n l2 = m2 at * <;> generalize K n l3 = m3 at * <;> generalize K n a1 = x1 at * <;> generalize K n a2 = x2 at * <;> clear hp <;> grind -lia
  have e5 : K n (pr5 n c l1 l2 l3 a1 a2) = 2 * v * K n (ps5 n c a1 a2 l1 l2 l3) := by
    unfold pr5 gU gD ps5
    simp only [K_mod, K_add, K_sub, hg, K_qdr hc, K_zero, K_one, K_self]
    clear hg hu i2 h2 hl hn e1 e2 e3 e4
    rcases colB_ways hc with rfl | rfl | rfl <;> simp [pn, K_mul, K_add, K_sub, K_neg, K_two, K_zero] at hv ⊢ <;> clear hc <;> generalize K n l1 = m1 at * <;> generalize K n l2 = m2 at * <;> generalize K n l3 = m3 at * <;> generalize K n a1 = x1 at * <;> generalize K n a2 = x2 at * <;> clear hp <;> grind -lia
  have e6 : K n (pr6 n c l1 l2 l3 a1 a2) = 2 * v * K n (ps6 n c a1 a2 l1 l2 l3) := by
    unfold pr6 gO ps6
    simp only [K_mod, K_add, K_sub, K_mul, hg, K_qdr hc, K_zero, K_one, K_two]
    clear hg hu i2 h2 hl hn e1 e2 e3 e4 e5
    rcases colB_ways hc with rfl | rfl | rfl <;> simp [pn, K_mul, K_add, K_sub, K_neg, K_two, K_zero] at hv ⊢ <;> clear hc <;> generalize K n l1 = m1 at * <;> generalize K n l2 = m2 at * <;> generalize K n l3 = m3 at * <;> generalize K n a1 = x1 at * <;> generalize K n a2 = x2 at * <;> clear hp <;> grind -lia
  obtain ⟨r1, r2, r3⟩ := ps_r c l1 l2 hp
  obtain ⟨t1, t2, t3⟩ := pr_r c l1 l2 l3 a1 a2 hp
  exact ⟨(ck_ratio hp hu r1 r2 r3 t1 t2 t3 e1 e2 e3 e1).symm, (ck_ratio hp hu r1 r2 r3 t1 t2 t3 e1 e2 e3 e2).symm, (ck_ratio hp hu r1 r2 r3 t1 t2 t3 e1 e2 e3 e3).symm, (ck_ratio hp hu r1 r2 r3 t1 t2 t3 e1 e2 e3 e4).symm, (ck_ratio hp hu r1 r2 r3 t1 t2 t3 e1 e2 e3 e5).symm, (ck_ratio hp hu r1 r2 r3 t1 t2 t3 e1 e2 e3 e6).symm⟩

end Go.Proofs.Ytkkaicneabkkdaa
