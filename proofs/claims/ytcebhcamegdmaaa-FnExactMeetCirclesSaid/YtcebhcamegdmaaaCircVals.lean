/-
  Circles: powers, points on circles, tangents, radical lines: their numbers; no program.
-/
import Derived.Test.YtcebhcamegdmaaaTriMath
namespace Go.Proofs.Ytcebhcamegdmaaa
open Go.RowKit

/-- The power of a point. -/
def pw (p c k1 k2 k3 a1 a2 : Int) : Int := (qdr p c k1 k2 a1 a2 - k3) % p
theorem pw_r (c k1 k2 k3 a1 a2 : Int) {p : Int} (h : isP p = true) : 0 ≤ pw p c k1 k2 k3 a1 a2 ∧ pw p c k1 k2 k3 a1 a2 < p := modR _ h
/-- Whether a point is on a circle. -/
def onC (p c k1 k2 k3 a1 a2 : Int) : Bool := qdr p c k1 k2 a1 a2 == k3
/-- The quadrance of the circle through three points. -/
def ccQ (p c a1 a2 b1 b2 c1 c2 : Int) : Int := qdr p c (ccX p c a1 a2 b1 b2 c1 c2) (ccY p c a1 a2 b1 b2 c1 c2) a1 a2
theorem ccQ_r (p c a1 a2 b1 b2 c1 c2 : Int) (h : isP p = true) : 0 ≤ ccQ p c a1 a2 b1 b2 c1 c2 ∧ ccQ p c a1 a2 b1 b2 c1 c2 < p := qdr_r _ _ _ _ _ h
theorem neg_mod (x p : Int) : -(x % p) % p = -x % p := by rw [← Int.zero_sub, ← Int.zero_sub x, Int.sub_emod, Int.emod_emod, ← Int.sub_emod]
theorem sub_zero_iff {p x y : Int} (hx : 0 ≤ x ∧ x < p) (hy : 0 ≤ y ∧ y < p) : (x - y) % p = 0 ↔ x = y := by
  constructor
  · intro h
    have h1 := Int.emod_emod_of_dvd x (Int.dvd_refl p)
    have h2 : x % p = y % p := Int.emod_eq_emod_iff_emod_sub_eq_zero.2 h
    rwa [Int.emod_eq_of_lt hx.1 hx.2, Int.emod_eq_of_lt hy.1 hy.2] at h2
  · rintro rfl; simp
/-- A point is on a circle just where its power is 0. -/
theorem pw_on {p c k1 k2 k3 a1 a2 : Int} (hp : isP p = true) (hk : 0 ≤ k3 ∧ k3 < p) : (pw p c k1 k2 k3 a1 a2 == 0) = onC p c k1 k2 k3 a1 a2 := by
  rw [Bool.eq_iff_iff, beq_iff_eq, onC, beq_iff_eq, pw, sub_zero_iff (qdr_r c k1 k2 a1 a2 hp) hk]
theorem cmb_r (p a b t : Int) (h : isP p = true) : 0 ≤ cmb p a b t ∧ cmb p a b t < p := modR _ h
/-- The tangent. -/
def tn1 (p c k1 k2 a1 a2 : Int) : Int := tl1 p c ((a1 - k1) % p) ((a2 - k2) % p) a1 a2
def tn2 (p c k1 k2 a1 a2 : Int) : Int := tl2 p c ((a1 - k1) % p) ((a2 - k2) % p) a1 a2
def tn3 (p c k1 k2 a1 a2 : Int) : Int := tl3 p c ((a1 - k1) % p) ((a2 - k2) % p) a1 a2
theorem tn1_r (c k1 k2 a1 a2 : Int) {p : Int} (h : isP p = true) : 0 ≤ tn1 p c k1 k2 a1 a2 ∧ tn1 p c k1 k2 a1 a2 < p := modR _ h
theorem tn2_r (c k1 k2 a1 a2 : Int) {p : Int} (h : isP p = true) : 0 ≤ tn2 p c k1 k2 a1 a2 ∧ tn2 p c k1 k2 a1 a2 < p := modR _ h
theorem tn3_r (c k1 k2 a1 a2 : Int) {p : Int} (h : isP p = true) : 0 ≤ tn3 p c k1 k2 a1 a2 ∧ tn3 p c k1 k2 a1 a2 < p := modR _ h
theorem tn_line {p c k1 k2 a1 a2 : Int} (hp : isP p = true) (hc : colB c = true) (hk1 : 0 ≤ k1 ∧ k1 < p) (hk2 : 0 ≤ k2 ∧ k2 < p) (ha1 : 0 ≤ a1 ∧ a1 < p) (ha2 : 0 ≤ a2 ∧ a2 < p) (hne : ¬ (k1 = a1 ∧ k2 = a2)) :
    lineB p (tn1 p c k1 k2 a1 a2) (tn2 p c k1 k2 a1 a2) (tn3 p c k1 k2 a1 a2) = true :=
  tl_line a1 a2 hp hc (dir_ne hp ha1 ha2 hk1 hk2 fun h => hne ⟨h.1.symm, h.2.symm⟩)
/-- The perpendicular line to the line through the centre and the point. -/
theorem tn_eq {p c k1 k2 a1 a2 : Int} (hp : isP p = true) (hc : colB c = true) (hk1 : 0 ≤ k1 ∧ k1 < p) (hk2 : 0 ≤ k2 ∧ k2 < p) (ha1 : 0 ≤ a1 ∧ a1 < p) (ha2 : 0 ≤ a2 ∧ a2 < p) (hne : ¬ (k1 = a1 ∧ k2 = a2)) :
    pt1 p c (th1 p k1 k2 a1 a2) (th2 p k1 k2 a1 a2) a1 a2 = tn1 p c k1 k2 a1 a2 ∧ pt2 p c (th1 p k1 k2 a1 a2) (th2 p k1 k2 a1 a2) a1 a2 = tn2 p c k1 k2 a1 a2 ∧ pt3 p c (th1 p k1 k2 a1 a2) (th2 p k1 k2 a1 a2) a1 a2 = tn3 p c k1 k2 a1 a2 := by
  obtain ⟨e1, e2, e3⟩ := alt_eq a1 a2 hp hc hk1 hk2 ha1 ha2 hne
  obtain ⟨f1, f2, f3⟩ := tl_flip (d1 := (k1 - a1) % p) (d2 := (k2 - a2) % p) (e1 := (a1 - k1) % p) (e2 := (a2 - k2) % p) a1 a2 hp hc (dir_ne hp hk1 hk2 ha1 ha2 hne)
    (by rw [Int.emod_emod, neg_mod]; congr 1; omega) (by rw [Int.emod_emod, neg_mod]; congr 1; omega)
  exact ⟨e1.trans f1.symm, e2.trans f2.symm, e3.trans f3.symm⟩

end Go.Proofs.Ytcebhcamegdmaaa
