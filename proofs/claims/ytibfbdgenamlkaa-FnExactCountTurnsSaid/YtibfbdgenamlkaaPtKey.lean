/-
  Points as keys of maps.
-/
import Derived.Test.YtibfbdgenamlkaaBaseMath
import Derived.Test.YtibfbdgenamlkaaRows
import Derived.Maps.Own
import Derived.Maps.OwnSet
import Derived.Maps.Views
import Derived.DeepKeys4
import Derived.WideKeyPair
namespace Go.Proofs.Ytibfbdgenamlkaa
open Go.RowKit

set_option maxRecDepth 100000 in
theorem laidOut : laidOutB Try.prog = true := by kernel_rfl
set_option maxRecDepth 100000 in
theorem ptRow : (26 : TypeId) < Try.prog.types.size := of_decide_eq_true (by kernel_rfl)
theorem ptWide : (match Try.prog.underlying 26 with | some (.array _ _) | some (.struct _) => true | _ => false) = true := by rw [Try.underlying26]
set_option maxRecDepth 100000 in
theorem ptLaw : Go.Maps.Keyed Try.prog 26 := Go.Maps.Keyed.of_law (deep_law_laid laidOut (m := 2) (by omega) ptRow (by kernel_rfl) ptWide)
set_option maxRecDepth 100000 in
theorem ptArr : Go.WideMaps.ArrKey Try.prog 26 2 2 := ⟨Try.underlying26, by kernel_rfl, by kernel_rfl, by kernel_rfl⟩
theorem pred_of {n k : Nat} (h : k < n) : ∃ m, n = m + 1 := ⟨n - 1, by omega⟩
theorem typesSome : ∃ m, Try.prog.types.size = m + 1 := pred_of ptRow
/-- A point as a key. -/
def klP (x y : Int) : Lit := .string (Go.keyBytes [.int .i64 x, .int .i64 y])
theorem wf31 {x : Int} (h : 0 ≤ x ∧ x ≤ 31) : (Lit.int .i64 x).wf = true := WalkArith.wf_i64 (by omega)
theorem keyOf_pt {x y : Int} (hx : 0 ≤ x ∧ x ≤ 31) (hy : 0 ≤ y ∧ y ≤ 31) : keyOf Try.prog 26 (.agg #[.int .i64 x, .int .i64 y]) = some (klP x y) :=
  Go.WideMaps.keyOf_pair ptArr Try.underlying2 typesSome (wf31 hx) (wf31 hy)
theorem klP_inj {x y x' y' : Int} (hx : 0 ≤ x ∧ x ≤ 31) (hy : 0 ≤ y ∧ y ≤ 31) (hx' : 0 ≤ x' ∧ x' ≤ 31) (hy' : 0 ≤ y' ∧ y' ≤ 31) (h : klP x y = klP x' y') : x = x' ∧ y = y' := by
  have := ptLaw.inj (keyOf_pt hx hy) (by rw [h]; exact keyOf_pt hx' hy')
  simpa using this
theorem klP_key {x y : Int} (hx : 0 ≤ x ∧ x ≤ 31) (hy : 0 ≤ y ∧ y ≤ 31) : WideAt.IsKeyLit (klP x y) := ptLaw.key (keyOf_pt hx hy)

end Go.Proofs.Ytibfbdgenamlkaa
