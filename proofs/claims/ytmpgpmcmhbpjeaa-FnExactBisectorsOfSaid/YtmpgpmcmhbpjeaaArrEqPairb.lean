/-
  Arrays of two int64 that are compared.
-/
import Derived.Test.YtmpgpmcmhbpjeaaArrEqb

namespace Go.Proofs.Ytmpgpmcmhbpjeaa
open Go.RowKit

theorem equalPair (w : World) (a b c d : Int) : (Op.equalIn 10000 24 (.agg #[.int .i64 a, .int .i64 b]) (.agg #[.int .i64 c, .int .i64 d])).run Try.prog w = .ok (a == c && b == d) w := by
  obtain ⟨i, hi, _⟩ := Option.map_eq_some_iff.1 infoInt
  exact equal_arr2 w (by kernel_rfl) Try.underlying2 hi (by kernel_rfl) a b c d

end Go.Proofs.Ytmpgpmcmhbpjeaa
