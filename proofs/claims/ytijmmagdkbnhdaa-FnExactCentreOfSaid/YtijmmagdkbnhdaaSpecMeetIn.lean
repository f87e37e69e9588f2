/-
  The meets of a conic's two middle lines: spec.l01Meet, impl.MeetOf.
-/
import Derived.Test.YtijmmagdkbnhdaaCenMath
import Derived.Test.YtijmmagdkbnhdaaSpecMeet
import Derived.Test.YtijmmagdkbnhdaaIMeetOf
namespace Go.Proofs.Ytijmmagdkbnhdaa
open Go.RowKit

section
variable (p k1 k2 k3 k4 k5 l1 l2 l3 m1 m2 m3 : Int) (w : World) (hp : isP p = true) (hd : (dsc p k1 k2 k3 == 0) = false)
  (e1 : l1 = mk1 p (2 * k1) k2 k4) (e2 : l2 = mk2 p (2 * k1) k2 k4) (e3 : l3 = mk3 p (2 * k1) k2 k4) (f1 : m1 = mk1 p k2 (2 * k3) k5) (f2 : m2 = mk2 p k2 (2 * k3) k5) (f3 : m3 = mk3 p k2 (2 * k3) k5)
include hp hd e1 e2 e3 f1 f2 f3
set_option linter.unusedSimpArgs false in
theorem cen_spec :
    Calls Try.prog 81 #[.int .i64 p, .agg #[.int .i64 l1, .int .i64 l2, .int .i64 l3], .agg #[.int .i64 m1, .int .i64 m2, .int .i64 m3]] w fun e w' =>
      e = .returned (.tuple #[.agg #[.int .i64 (ceX p k1 k2 k3 k4 k5), .int .i64 (ceY p k1 k2 k3 k4 k5)], .bool true]) ∧ Below w.heap.size w w' := by
  obtain ⟨hl, hm, hn⟩ := cen_lines k4 k5 hp hd
  have hr := isP_range hp
  have rl := nums3 (lineB_in hl).2
  have rm := nums3 (lineB_in hm).2
  rw [← e1, ← e2, ← e3] at rl
  rw [← f1, ← f2, ← f3] at rm
  refine Calls.mono (specMeet_any p l1 l2 l3 m1 m2 m3 w hp (by omega) (by omega) (by omega) (by omega) (by omega) (by omega)) ?_
  rintro e w' ⟨rfl, hB⟩
  subst e1 e2 e3 f1 f2 f3
  refine ⟨?_, hB⟩
  rw [mtX, mtY, if_neg hn, if_neg hn, meetB, beq_eq_false_iff_ne.2 hn]; rfl
set_option linter.unusedSimpArgs false in
theorem cen_impl :
    Calls Try.prog 84 #[.int .i64 p, .agg #[.int .i64 l1, .int .i64 l2, .int .i64 l3], .agg #[.int .i64 m1, .int .i64 m2, .int .i64 m3]] w fun e w' =>
      e = .returned (.tuple #[.agg #[.int .i64 (ceX p k1 k2 k3 k4 k5), .int .i64 (ceY p k1 k2 k3 k4 k5)], .int .i64 0]) ∧ Below w.heap.size w w' := by
  obtain ⟨hl, hm, hn⟩ := cen_lines k4 k5 hp hd
  subst e1 e2 e3 f1 f2 f3
  have hne : ¬ (mk1 p (2 * k1) k2 k4 = mk1 p k2 (2 * k3) k5 ∧ mk2 p (2 * k1) k2 k4 = mk2 p k2 (2 * k3) k5) := fun h => hn (by rw [← h.1, ← h.2]; unfold detM; rw [Int.mul_comm, Int.sub_self]; rfl)
  have hg := mo_good (codeOf_in hp (by rw [hl, hm]; rfl)) hne
  refine Calls.mono (implMeetOf_any _ _ _ _ _ _ _ w) ?_
  rintro e w' ⟨rfl, hB⟩
  refine ⟨?_, hB⟩
  rw [moR, hg.1, hg.2.1, hg.2.2]; rfl
end

end Go.Proofs.Ytijmmagdkbnhdaa
