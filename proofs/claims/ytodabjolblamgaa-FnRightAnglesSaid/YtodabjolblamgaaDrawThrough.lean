/-
  spec.l02Through, spec.l02Direction, of which a draw wants the range alone.
-/
import Derived.Test.YtodabjolblamgaaSpecTL
import Derived.Test.YtodabjolblamgaaSpecDir
import Derived.Test.YtodabjolblamgaaBaseMath
namespace Go.Proofs.Ytodabjolblamgaa
open Go.RowKit

theorem through_ex (p col x1 x2 a1 a2 : Int) (w : World) (hp : isP p = true) (hcol : colB col = true) (hx1 : 0 ≤ x1 ∧ x1 < p) (hx2 : 0 ≤ x2 ∧ x2 < p) (ha1 : 0 ≤ a1 ∧ a1 < p) (ha2 : 0 ≤ a2 ∧ a2 < p) :
    Calls Try.prog 83 #[.int .i64 p, .int .i64 col, .agg #[.int .i64 x1, .int .i64 x2], .agg #[.int .i64 a1, .int .i64 a2]] w fun e w' => ∃ y1 y2 y3 : Int, e = .returned (.agg #[.int .i64 y1, .int .i64 y2, .int .i64 y3]) ∧ ((0 ≤ y1 ∧ y1 < p) ∧ (0 ≤ y2 ∧ y2 < p) ∧ (0 ≤ y3 ∧ y3 < p)) ∧ Below w.heap.size w w' := by
  refine Calls.mono (specTL_any p col x1 x2 a1 a2 w hp hcol (by omega) (by omega) (by omega) (by omega)) ?_
  rintro e w' ⟨rfl, hB⟩
  exact ⟨_, _, _, rfl, ⟨tl1_r _ _ _ _ _ hp, tl2_r _ _ _ _ _ hp, tl3_r _ _ _ _ _ hp⟩, hB⟩

theorem dir_ex (p l1 l2 l3 : Int) (w : World) (hp : isP p = true) (hl1 : 0 ≤ l1 ∧ l1 < p) (hl2 : 0 ≤ l2 ∧ l2 < p) :
    Calls Try.prog 87 #[.int .i64 p, .agg #[.int .i64 l1, .int .i64 l2, .int .i64 l3]] w fun e w' => ∃ y1 y2 : Int, e = .returned (.agg #[.int .i64 y1, .int .i64 y2]) ∧ ((0 ≤ y1 ∧ y1 < p) ∧ (0 ≤ y2 ∧ y2 < p)) ∧ Below w.heap.size w w' := by
  refine Calls.mono (specDir_any p l1 l2 l3 w hp (by have := isP_range hp; omega)) ?_
  rintro e w' ⟨rfl, hB⟩
  exact ⟨_, _, rfl, ⟨modR _ hp, hl1⟩, hB⟩

end Go.Proofs.Ytodabjolblamgaa
