/-
  A point among the cells of a slice.
-/
import Derived.Test.YtodabjolblamgaaSlice
import Derived.Test.YtodabjolblamgaaRows
namespace Go.Proofs.Ytodabjolblamgaa
open Go.RowKit

theorem infoPt : (Try.prog.info? 25).map (fun i => (i.zero, i.size, i.bytes)) = some (some (.agg #[.int .i64 0, .int .i64 0]), 2, 16) := by kernel_rfl
/-- What is appended: a point's two numbers, each one cell. -/
theorem pt_cells {w : World} {x y : Int} {t : TypeId} {q : Nat} (hq : q = w.heap.size) : ∀ j u, [Value.int .i64 x, Value.int .i64 y][j]? = some u → (w.alloc (.cells #[.int .i64 x, .int .i64 y] t)).cell? ((⟨q, 0, none⟩ : Addr).add j) = some u := by
  intro j u hj
  subst hq
  match j, hj with
  | 0, hj => simp at hj; subst hj; exact kfresh (by simp) rfl
  | 1, hj => simp at hj; subst hj; exact kfresh (by simp) rfl
theorem pt_one (x y : Int) : ∀ u ∈ [Value.int .i64 x, Value.int .i64 y], u.oneCell' = true := by
  intro u hu; simp at hu; rcases hu with rfl | rfl <;> rfl

end Go.Proofs.Ytodabjolblamgaa
