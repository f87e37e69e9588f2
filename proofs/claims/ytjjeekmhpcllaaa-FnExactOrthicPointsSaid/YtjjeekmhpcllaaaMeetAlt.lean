/-
  The meet of two altitudes: the program's MeetOf answers it.
-/
import Derived.Test.YtjjeekmhpcllaaaTriMath
import Derived.Test.YtjjeekmhpcllaaaIMeetOf
namespace Go.Proofs.Ytjjeekmhpcllaaa
open Go.RowKit

theorem tri_ca {p a1 a2 b1 b2 c1 c2 : Int} (h : (area p a1 a2 b1 b2 c1 c2 == 0) = false) : ¬ (c1 = a1 ∧ c2 = a2) := fun e => tri_ac h ⟨e.1.symm, e.2.symm⟩
theorem meet_alt (p c a1 a2 b1 b2 c1 c2 l1 l2 l3 m1 m2 m3 : Int) (w : World) (hp : isP p = true) (hc : colB c = true) (ha1 : 0 ≤ a1 ∧ a1 < p) (ha2 : 0 ≤ a2 ∧ a2 < p) (hb1 : 0 ≤ b1 ∧ b1 < p) (hb2 : 0 ≤ b2 ∧ b2 < p) (hc1 : 0 ≤ c1 ∧ c1 < p) (hc2 : 0 ≤ c2 ∧ c2 < p)
    (ht : (area p a1 a2 b1 b2 c1 c2 == 0) = false) (e1 : l1 = al1 p c a1 a2 b1 b2 c1 c2) (e2 : l2 = al2 p c a1 a2 b1 b2 c1 c2) (e3 : l3 = al3 p c a1 a2 b1 b2 c1 c2) (f1 : m1 = al1 p c b1 b2 c1 c2 a1 a2) (f2 : m2 = al2 p c b1 b2 c1 c2 a1 a2) (f3 : m3 = al3 p c b1 b2 c1 c2 a1 a2) :
    Calls Try.prog 69 #[.int .i64 p, .agg #[.int .i64 l1, .int .i64 l2, .int .i64 l3], .agg #[.int .i64 m1, .int .i64 m2, .int .i64 m3]] w fun e w' =>
      e = .returned (.tuple #[.agg #[.int .i64 (orX p c a1 a2 b1 b2 c1 c2), .int .i64 (orY p c a1 a2 b1 b2 c1 c2)], .int .i64 0]) ∧ Below w.heap.size w w' := by
  obtain ⟨g1, g2, g3⟩ := alt_flip (b1 := b1) (b2 := b2) hp hc ha1 ha2 hc1 hc2 (tri_ac ht)
  rw [g1] at f1; rw [g2] at f2; rw [g3] at f3
  subst e1 e2 e3 f1 f2 f3
  have hL : lineB p (al1 p c a1 a2 b1 b2 c1 c2) (al2 p c a1 a2 b1 b2 c1 c2) (al3 p c a1 a2 b1 b2 c1 c2) = true := tl_line a1 a2 hp hc (dir_ne hp hb1 hb2 hc1 hc2 (tri_bc ht))
  have hM : lineB p (al1 p c b1 b2 a1 a2 c1 c2) (al2 p c b1 b2 a1 a2 c1 c2) (al3 p c b1 b2 a1 a2 c1 c2) = true := tl_line b1 b2 hp hc (dir_ne hp ha1 ha2 hc1 hc2 (tri_ac ht))
  have hne : ¬ (al1 p c a1 a2 b1 b2 c1 c2 = al1 p c b1 b2 a1 a2 c1 c2 ∧ al2 p c a1 a2 b1 b2 c1 c2 = al2 p c b1 b2 a1 a2 c1 c2) := tl_apart a1 a2 b1 b2 hp hc (alt_cross hp ht)
  have hg := mo_good (codeOf_in hp (by rw [hL, hM]; rfl)) hne
  refine Calls.mono (implMeetOf_any _ _ _ _ _ _ _ w) ?_
  rintro e w' ⟨rfl, hB⟩
  refine ⟨?_, hB⟩
  rw [moR, hg.1, hg.2.1, hg.2.2]; rfl

end Go.Proofs.Ytjjeekmhpcllaaa
