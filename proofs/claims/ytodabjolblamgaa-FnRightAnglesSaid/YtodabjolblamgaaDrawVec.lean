/-
  Sums of points, of which a draw wants the range alone.
-/
import Derived.Test.YtodabjolblamgaaSpecVec
import Derived.Test.YtodabjolblamgaaSpecPlus
import Derived.Test.YtodabjolblamgaaSpecTimes
import Derived.Test.YtodabjolblamgaaBaseMath
namespace Go.Proofs.Ytodabjolblamgaa
open Go.RowKit

theorem minus_ex (p a1 a2 b1 b2 : Int) (w : World) (hp : isP p = true) (ha1 : 0 ≤ a1 ∧ a1 ≤ 31) (ha2 : 0 ≤ a2 ∧ a2 ≤ 31) (hb1 : 0 ≤ b1 ∧ b1 ≤ 31) (hb2 : 0 ≤ b2 ∧ b2 ≤ 31) :
    Calls Try.prog 84 #[.int .i64 p, .agg #[.int .i64 a1, .int .i64 a2], .agg #[.int .i64 b1, .int .i64 b2]] w fun e w' => ∃ y1 y2 : Int, e = .returned (.agg #[.int .i64 y1, .int .i64 y2]) ∧ ((0 ≤ y1 ∧ y1 < p) ∧ (0 ≤ y2 ∧ y2 < p)) ∧ Below w.heap.size w w' := by
  refine Calls.mono (specMinus_any p a1 a2 b1 b2 w hp ha1 ha2 hb1 hb2) ?_
  rintro e w' ⟨rfl, hB⟩
  exact ⟨_, _, rfl, ⟨modR _ hp, modR _ hp⟩, hB⟩

theorem plus_ex (p a1 a2 b1 b2 : Int) (w : World) (hp : isP p = true) (ha1 : 0 ≤ a1 ∧ a1 ≤ 31) (ha2 : 0 ≤ a2 ∧ a2 ≤ 31) (hb1 : 0 ≤ b1 ∧ b1 ≤ 31) (hb2 : 0 ≤ b2 ∧ b2 ≤ 31) :
    Calls Try.prog 85 #[.int .i64 p, .agg #[.int .i64 a1, .int .i64 a2], .agg #[.int .i64 b1, .int .i64 b2]] w fun e w' => ∃ y1 y2 : Int, e = .returned (.agg #[.int .i64 y1, .int .i64 y2]) ∧ ((0 ≤ y1 ∧ y1 < p) ∧ (0 ≤ y2 ∧ y2 < p)) ∧ Below w.heap.size w w' := by
  refine Calls.mono (specPlus_any p a1 a2 b1 b2 w hp ha1 ha2 hb1 hb2) ?_
  rintro e w' ⟨rfl, hB⟩
  exact ⟨_, _, rfl, ⟨modR _ hp, modR _ hp⟩, hB⟩

theorem times_ex (p t a1 a2 : Int) (w : World) (hp : isP p = true) (ht : 0 ≤ t ∧ t ≤ 31) (ha1 : 0 ≤ a1 ∧ a1 ≤ 31) (ha2 : 0 ≤ a2 ∧ a2 ≤ 31) :
    Calls Try.prog 86 #[.int .i64 p, .int .i64 t, .agg #[.int .i64 a1, .int .i64 a2]] w fun e w' => ∃ y1 y2 : Int, e = .returned (.agg #[.int .i64 y1, .int .i64 y2]) ∧ ((0 ≤ y1 ∧ y1 < p) ∧ (0 ≤ y2 ∧ y2 < p)) ∧ Below w.heap.size w w' := by
  refine Calls.mono (specTimes_any p t a1 a2 w hp ht ha1 ha2) ?_
  rintro e w' ⟨rfl, hB⟩
  exact ⟨_, _, rfl, ⟨modR _ hp, modR _ hp⟩, hB⟩

end Go.Proofs.Ytodabjolblamgaa
