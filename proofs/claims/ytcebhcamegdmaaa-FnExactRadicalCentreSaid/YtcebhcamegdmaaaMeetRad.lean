/-
  The meet of two radical lines: the program's MeetOf answers it.
-/
import Derived.Test.YtcebhcamegdmaaaRadMeet
import Derived.Test.YtcebhcamegdmaaaIMeetOf
namespace Go.Proofs.Ytcebhcamegdmaaa
open Go.RowKit

theorem meet_rad (p c k1 k2 k3 m1 m2 m3 n1 n2 n3 l1 l2 l3 q1 q2 q3 : Int) (w : World) (hp : isP p = true) (hc : colB c = true) (ht : (area p k1 k2 m1 m2 n1 n2 == 0) = false)
    (e1 : l1 = rd1 p c k1 k2 k3 m1 m2 m3) (e2 : l2 = rd2 p c k1 k2 k3 m1 m2 m3) (e3 : l3 = rd3 p c k1 k2 k3 m1 m2 m3) (f1 : q1 = rd1 p c m1 m2 m3 n1 n2 n3) (f2 : q2 = rd2 p c m1 m2 m3 n1 n2 n3) (f3 : q3 = rd3 p c m1 m2 m3 n1 n2 n3) :
    Calls Try.prog 87 #[.int .i64 p, .agg #[.int .i64 l1, .int .i64 l2, .int .i64 l3], .agg #[.int .i64 q1, .int .i64 q2, .int .i64 q3]] w fun e w' =>
      e = .returned (.tuple #[.agg #[.int .i64 (rcX p c k1 k2 k3 m1 m2 m3 n1 n2 n3), .int .i64 (rcY p c k1 k2 k3 m1 m2 m3 n1 n2 n3)], .int .i64 0]) ∧ Below w.heap.size w w' := by
  subst e1 e2 e3 f1 f2 f3
  obtain ⟨hL, hM, hne, _⟩ := rd_lines (k3 := k3) (m3 := m3) (n3 := n3) hp hc ht
  have hg := mo_good (codeOf_in hp (by rw [hL, hM]; rfl)) hne
  refine Calls.mono (implMeetOf_any _ _ _ _ _ _ _ w) ?_
  rintro e w' ⟨rfl, hB⟩
  refine ⟨?_, hB⟩
  rw [moR, hg.1, hg.2.1, hg.2.2]; rfl

end Go.Proofs.Ytcebhcamegdmaaa
