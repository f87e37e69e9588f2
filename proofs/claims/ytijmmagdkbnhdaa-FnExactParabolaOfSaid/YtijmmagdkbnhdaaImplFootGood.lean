/-
  impl.FootOf at good arguments.
-/
import Derived.Test.YtijmmagdkbnhdaaParMath
import Derived.Test.YtijmmagdkbnhdaaIFootOf
namespace Go.Proofs.Ytijmmagdkbnhdaa
open Go.RowKit

set_option linter.unusedSimpArgs false in
theorem implFootGood (p c x y l1 l2 l3 : Int) (w : World) (hp : isP p = true) (hc : colB c = true) (hx : 0 ≤ x ∧ x < p) (hy : 0 ≤ y ∧ y < p) (hl : lineB p l1 l2 l3 = true) (hn : perpB p c l1 l2 l1 l2 = false) :
    Calls Try.prog 106 #[.int .i64 p, .int .i64 c, .agg #[.int .i64 x, .int .i64 y], .agg #[.int .i64 l1, .int .i64 l2, .int .i64 l3]] w fun e w' => e = .returned (.tuple #[.agg #[.int .i64 (ftX' p c l1 l2 l3 x y), .int .i64 (ftY' p c l1 l2 l3 x y)], .int .i64 0]) ∧ Below w.heap.size w w' := by
  have hq : numsIn p [x, y] = true := by simp [numsIn, inB]; omega
  have hg := fo_good (codeOf_in hp (by rw [hc, hq, hl]; rfl)) hn
  refine Calls.mono (implFootOf_any p c x y l1 l2 l3 w) ?_
  rintro e w' ⟨rfl, hB⟩
  refine ⟨?_, hB⟩
  rw [foR, hg.1, hg.2.1, hg.2.2]; rfl

end Go.Proofs.Ytijmmagdkbnhdaa
