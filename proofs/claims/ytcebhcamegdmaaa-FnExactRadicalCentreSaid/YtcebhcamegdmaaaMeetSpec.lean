/-
  The model's meets of altitudes and of bisectors of sides; no program.
-/
import Derived.Test.YtcebhcamegdmaaaTriMath
import Derived.Test.YtcebhcamegdmaaaSpecMeet
namespace Go.Proofs.Ytcebhcamegdmaaa
open Go.RowKit

section
variable {p c a1 a2 b1 b2 c1 c2 : Int}
theorem mtX_r (p l1 l2 l3 m1 m2 m3 : Int) (h : isP p = true) : 0 ≤ mtX p l1 l2 l3 m1 m2 m3 ∧ mtX p l1 l2 l3 m1 m2 m3 < p := by
  have := isP_range h
  unfold mtX; split
  · omega
  · exact modR _ h
theorem mtY_r (p l1 l2 l3 m1 m2 m3 : Int) (h : isP p = true) : 0 ≤ mtY p l1 l2 l3 m1 m2 m3 ∧ mtY p l1 l2 l3 m1 m2 m3 < p := by
  have := isP_range h
  unfold mtY; split
  · omega
  · exact modR _ h
theorem mt_or (hp : isP p = true) (hc : colB c = true) (ht : (area p a1 a2 b1 b2 c1 c2 == 0) = false) :
    orX p c a1 a2 b1 b2 c1 c2 = mtX p (al1 p c a1 a2 b1 b2 c1 c2) (al2 p c a1 a2 b1 b2 c1 c2) (al3 p c a1 a2 b1 b2 c1 c2) (al1 p c b1 b2 a1 a2 c1 c2) (al2 p c b1 b2 a1 a2 c1 c2) (al3 p c b1 b2 a1 a2 c1 c2) ∧
    orY p c a1 a2 b1 b2 c1 c2 = mtY p (al1 p c a1 a2 b1 b2 c1 c2) (al2 p c a1 a2 b1 b2 c1 c2) (al3 p c a1 a2 b1 b2 c1 c2) (al1 p c b1 b2 a1 a2 c1 c2) (al2 p c b1 b2 a1 a2 c1 c2) (al3 p c b1 b2 a1 a2 c1 c2) := by
  have hd := tl_det a1 a2 b1 b2 hp hc (alt_cross hp ht)
  exact ⟨(if_neg hd).symm, (if_neg hd).symm⟩
theorem mt_cc (hp : isP p = true) (hc : colB c = true) (ht : (area p a1 a2 b1 b2 c1 c2 == 0) = false) :
    ccX p c a1 a2 b1 b2 c1 c2 = mtX p (bi1 p c a1 a2 b1 b2) (bi2 p c a1 a2 b1 b2) (bi3 p c a1 a2 b1 b2) (bi1 p c a1 a2 c1 c2) (bi2 p c a1 a2 c1 c2) (bi3 p c a1 a2 c1 c2) ∧
    ccY p c a1 a2 b1 b2 c1 c2 = mtY p (bi1 p c a1 a2 b1 b2) (bi2 p c a1 a2 b1 b2) (bi3 p c a1 a2 b1 b2) (bi1 p c a1 a2 c1 c2) (bi2 p c a1 a2 c1 c2) (bi3 p c a1 a2 c1 c2) := by
  have hd := tl_det (mid p a1 b1) (mid p a2 b2) (mid p a1 c1) (mid p a2 c2) hp hc (bi_cross hp ht)
  exact ⟨(if_neg hd).symm, (if_neg hd).symm⟩
end

end Go.Proofs.Ytcebhcamegdmaaa
