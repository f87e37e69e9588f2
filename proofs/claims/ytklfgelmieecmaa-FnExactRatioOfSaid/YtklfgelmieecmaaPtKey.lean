/-
  Points as keys of maps.
-/
import Derived.Test.YtklfgelmieecmaaLineVals
import Derived.Test.YtklfgelmieecmaaRows
import Derived.Maps.Own
import Derived.Maps.OwnSet
import Derived.Maps.Views
import Derived.DeepKeys4
import Derived.WideKeyPair
namespace Go.Proofs.Ytklfgelmieecmaa
open Go.RowKit

theorem laidOut : laidOutB Try.prog = true := by kernel_rfl
theorem ptRow : (30 : TypeId) < Try.prog.types.size := of_decide_eq_true (by kernel_rfl)
theorem ptWide : (match Try.prog.underlying 30 with | some (.array _ _) | some (.struct _) => true | _ => false) = true := by rw [Try.underlying30]
theorem ptLaw : Go.Maps.Keyed Try.prog 30 := Go.Maps.Keyed.of_law (deep_law_laid laidOut (m := 2) (by omega) ptRow (by kernel_rfl) ptWide)
theorem ptArr : Go.WideMaps.ArrKey Try.prog 30 2 2 := ⟨Try.underlying30, by kernel_rfl, by kernel_rfl, by kernel_rfl⟩
theorem typesSome : ∃ m, Try.prog.types.size = m + 1 := ⟨Try.prog.types.size - 1, (Nat.succ_pred_eq_of_pos (Nat.lt_of_le_of_lt (Nat.zero_le _) ptRow)).symm⟩
/-- A point as a key. -/
def klP (x y : Int) : Lit := .string (Go.keyBytes [.int .i64 x, .int .i64 y])
theorem wf31 {x : Int} (h : 0 ≤ x ∧ x ≤ 31) : (Lit.int .i64 x).wf = true := WalkArith.wf_i64 (by omega)
theorem keyOf_pt {x y : Int} (hx : 0 ≤ x ∧ x ≤ 31) (hy : 0 ≤ y ∧ y ≤ 31) : keyOf Try.prog 30 (.agg #[.int .i64 x, .int .i64 y]) = some (klP x y) :=
  Go.WideMaps.keyOf_pair ptArr Try.underlying2 typesSome (wf31 hx) (wf31 hy)
theorem klP_inj {x y x' y' : Int} (hx : 0 ≤ x ∧ x ≤ 31) (hy : 0 ≤ y ∧ y ≤ 31) (hx' : 0 ≤ x' ∧ x' ≤ 31) (hy' : 0 ≤ y' ∧ y' ≤ 31) (h : klP x y = klP x' y') : x = x' ∧ y = y' := by
  have := ptLaw.inj (keyOf_pt hx hy) (by rw [h]; exact keyOf_pt hx' hy')
  simpa using this
theorem klP_key {x y : Int} (hx : 0 ≤ x ∧ x ≤ 31) (hy : 0 ≤ y ∧ y ≤ 31) : WideAt.IsKeyLit (klP x y) := ptLaw.key (keyOf_pt hx hy)

end Go.Proofs.Ytklfgelmieecmaa
