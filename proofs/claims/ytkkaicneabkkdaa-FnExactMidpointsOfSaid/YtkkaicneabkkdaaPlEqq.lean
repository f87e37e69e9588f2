/-
  == on places.
-/
import Derived.Test.YtkkaicneabkkdaaArrEqq

namespace Go.Proofs.Ytkkaicneabkkdaa
open Go.RowKit

set_option linter.unusedSimpArgs false in
theorem equalPlace (w : World) (a b c a' b' c' : Int) : (Op.equalIn 10000 23 (.agg #[.int .i64 a, .int .i64 b, .int .i64 c]) (.agg #[.int .i64 a', .int .i64 b', .int .i64 c'])).run Try.prog w = .ok (a == a' && b == b' && c == c') w := by
  obtain ⟨i, hi, _⟩ := Option.map_eq_some_iff.1 infoInt
  exact equal_arr3 w (by kernel_rfl) Try.underlying2 hi (by kernel_rfl) a b c a' b' c'
end Go.Proofs.Ytkkaicneabkkdaa
