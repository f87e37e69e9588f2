/-
  Feet on the sides of a triangle; no program.
-/
import Derived.Test.YtjjeekmhpcllaaaIFootOf
import Derived.Test.YtjjeekmhpcllaaaMeetSpec
namespace Go.Proofs.Ytjjeekmhpcllaaa
open Go.RowKit

theorem foot_in {p c a1 a2 l1 l2 l3 : Int} (hp : isP p = true) (hc : colB c = true) (hl : lineB p l1 l2 l3 = true) :
    fwX p c a1 a2 l1 l2 l3 = mtX p l1 l2 l3 (tl1 p c (-l2 % p) l1 a1 a2) (tl2 p c (-l2 % p) l1 a1 a2) (tl3 p c (-l2 % p) l1 a1 a2) ∧
    fwY p c a1 a2 l1 l2 l3 = mtY p l1 l2 l3 (tl1 p c (-l2 % p) l1 a1 a2) (tl2 p c (-l2 % p) l1 a1 a2) (tl3 p c (-l2 % p) l1 a1 a2) ∧
    (!perpB p c l1 l2 l1 l2) = meetB p l1 l2 (tl1 p c (-l2 % p) l1 a1 a2) (tl2 p c (-l2 % p) l1 a1 a2) := by
  have h := pt_det (l1 := l1) (l2 := l2) a1 a2 hp hc (lineB_in hl).1
  unfold pt1 pt2 at h
  unfold fwX fwY ftX ftY mtX mtY meetB pt1 pt2 pt3
  cases hq : perpB p c l1 l2 l1 l2
  · have hd : ¬ (detM l1 l2 (tl1 p c (-l2 % p) l1 a1 a2) (tl2 p c (-l2 % p) l1 a1 a2) % p = 0) := fun e => by rw [h.1 e] at hq; cases hq
    rw [if_neg hd, if_neg hd, beq_eq_false_iff_ne.2 hd]
    simp
  · have hd := h.2 hq
    rw [if_pos hd, if_pos hd, hd]
    simp
theorem th_line {p a1 a2 b1 b2 : Int} (hp : isP p = true) (ha1 : 0 ≤ a1 ∧ a1 < p) (ha2 : 0 ≤ a2 ∧ a2 < p) (hb1 : 0 ≤ b1 ∧ b1 < p) (hb2 : 0 ≤ b2 ∧ b2 < p) (hne : ¬ (a1 = b1 ∧ a2 = b2)) :
    lineB p (th1 p a1 a2 b1 b2) (th2 p a1 a2 b1 b2) (th3 p a1 a2 b1 b2) = true := by
  obtain ⟨n, rfl⟩ := Int.eq_ofNat_of_zero_le (by have := isP_range hp; omega : 0 ≤ p)
  haveI := neZero_of hp
  refine mk_line hp _ ?_
  rintro ⟨h1, h2⟩
  rw [K_sub] at h1 h2
  exact hne ⟨K_inj ha1 hb1 (by grind), K_inj ha2 hb2 (by grind)⟩

end Go.Proofs.Ytjjeekmhpcllaaa
