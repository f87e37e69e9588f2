/-
  Numbers as keys of maps; no program.
-/
import Derived.Test.YtinfjbaloppgkaaBaseMath
import Derived.Test.YtinfjbaloppgkaaRows
import Derived.Maps.OwnSet
import Derived.Maps.OwnOps
namespace Go.Proofs.Ytinfjbaloppgkaa
open Go.RowKit

theorem wfI {x : Int} (h : 0 ≤ x ∧ x ≤ 1000000) : (Lit.int .i64 x).wf = true := by
  simp only [Lit.wf, Bool.and_eq_true, decide_eq_true_eq]
  have hmin : IntKind.i64.min = -9223372036854775808 := rfl
  have hmax : IntKind.i64.max = 9223372036854775807 := rfl
  omega
theorem intLaw : Maps.Keyed Try.prog 2 := Maps.int_keyed Try.underlying2
theorem intKey {x p : Int} (hp : isP p = true) (h0 : 0 ≤ x) (h1 : x < p) : keyOf Try.prog 2 (.int .i64 x) = some (.int .i64 x) :=
  Maps.keyOf_int_mk Try.underlying2 (wfI (by have := isP_range hp; omega))
theorem zeroI (w : World) : (zeroValue 2).run Try.prog w = .ok (.int .i64 0) w := by
  first | kernel_rfl | (simp [zeroValue, go_sem])

end Go.Proofs.Ytinfjbaloppgkaa
