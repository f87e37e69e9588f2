/-
  impl.PolarOf at good arguments.
-/
import Derived.Test.YtijmmagdkbnhdaaEPolarOf
namespace Go.Proofs.Ytijmmagdkbnhdaa
open Go.RowKit

set_option linter.unusedSimpArgs false in
theorem implPolarIn (p k1 k2 k3 k4 k5 k6 a1 a2 : Int) (w : World) (hp : isP p = true) (hk : cnB p k1 k2 k3 k4 k5 k6 = true) (ha : numsIn p [a1, a2] = true) (hz : plZ p k1 k2 k3 k4 k5 a1 a2 = false) :
    Calls Try.prog 41 #[.int .i64 p, .agg #[.int .i64 k1, .int .i64 k2, .int .i64 k3, .int .i64 k4, .int .i64 k5, .int .i64 k6], .agg #[.int .i64 a1, .int .i64 a2]] w fun e w' => e = .returned (.tuple #[.agg #[.int .i64 (pl1 p k1 k2 k3 k4 k5 k6 a1 a2), .int .i64 (pl2 p k1 k2 k3 k4 k5 k6 a1 a2), .int .i64 (pl3 p k1 k2 k3 k4 k5 k6 a1 a2)], .int .i64 0]) ∧ Below w.heap.size w w' := by
  have hg := po_good (k1 := k1) (k2 := k2) (k3 := k3) (k4 := k4) (k5 := k5) (k6 := k6) (a1 := a1) (a2 := a2) hp (by simp [poB, hk, ha]) (by simp [poS, hz])
  refine Calls.mono (implPolarOf_any p k1 k2 k3 k4 k5 k6 a1 a2 w) ?_
  rintro e w' ⟨rfl, hB⟩
  refine ⟨?_, hB⟩
  rw [hg.1, hg.2.1, hg.2.2.1, hg.2.2.2]

end Go.Proofs.Ytijmmagdkbnhdaa
