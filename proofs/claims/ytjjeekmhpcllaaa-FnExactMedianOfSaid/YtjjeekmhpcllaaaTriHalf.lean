/-
  impl.combination at the half: the midpoint.
-/
import Derived.Test.YtjjeekmhpcllaaaImplComb
namespace Go.Proofs.Ytjjeekmhpcllaaa
open Go.RowKit

theorem implCombHalf (p a1 a2 b1 b2 t : Int) (w : World) (hp : isP p = true) (ha1 : 0 ≤ a1 ∧ a1 ≤ 31) (ha2 : 0 ≤ a2 ∧ a2 ≤ 31) (hb1 : 0 ≤ b1 ∧ b1 ≤ 31) (hb2 : 0 ≤ b2 ∧ b2 ≤ 31) (ht : t = inv p 2) :
    Calls Try.prog 60 #[.int .i64 p, .agg #[.int .i64 a1, .int .i64 a2], .agg #[.int .i64 b1, .int .i64 b2], .int .i64 t] w fun e w' =>
      e = .returned (.agg #[.int .i64 (mid p a1 b1), .int .i64 (mid p a2 b2)]) ∧ Below w.heap.size w w' := by
  subst ht
  have h := implComb_any p a1 a2 b1 b2 (inv p 2) w hp ha1 ha2 hb1 hb2 (invR31 _ hp)
  rw [mid_impl a1 b1 hp, mid_impl a2 b2 hp] at h
  exact h

end Go.Proofs.Ytjjeekmhpcllaaa
