/-
  Arrays of int64 that are compared.
-/
import Derived.Test.YtodabjolblamgaaRows
import Derived.WalkKit
import Derived.ChangeKeysEq
namespace Go.Proofs.Ytodabjolblamgaa
open Go.RowKit

section
variable {P : Program} (w : World)
theorem run_isAgg_int {e : TypeId} (he : P.underlying e = some (.int .i64)) : (isAgg e).run P w = .ok false w := by
  simp [isAgg, run_underlying he]
theorem equal_arr2 {t e : TypeId} {i : TypeInfo} (hu : P.underlying t = some (.array 2 e)) (he : P.underlying e = some (.int .i64)) (hi : P.info? e = some i) (hc : P.cellsOf e = 1) (a b c d : Int) :
    (Op.equalIn 10000 t (.agg #[.int .i64 a, .int .i64 b]) (.agg #[.int .i64 c, .int .i64 d])).run P w = .ok (a == c && b == d) w := by
  rw [show (10000 : Nat) = 9998 + 1 + 1 from rfl, run_equalIn_array w _ _ _ hu hi]
  have r2 : List.range 2 = [0, 1] := rfl
  simp [r2, Op.eqItems, hc, part, go_sem, he, run_isAgg_int _ he]
  by_cases h1 : a = c <;> by_cases h2 : b = d <;> simp [h1, h2]
theorem equal_arr3 {t e : TypeId} {i : TypeInfo} (hu : P.underlying t = some (.array 3 e)) (he : P.underlying e = some (.int .i64)) (hi : P.info? e = some i) (hc : P.cellsOf e = 1) (a b c a' b' c' : Int) :
    (Op.equalIn 10000 t (.agg #[.int .i64 a, .int .i64 b, .int .i64 c]) (.agg #[.int .i64 a', .int .i64 b', .int .i64 c'])).run P w = .ok (a == a' && b == b' && c == c') w := by
  rw [show (10000 : Nat) = 9998 + 1 + 1 from rfl, run_equalIn_array w _ _ _ hu hi]
  have r3 : List.range 3 = [0, 1, 2] := rfl
  simp [r3, Op.eqItems, hc, part, go_sem, he, run_isAgg_int _ he]
  by_cases h1 : a = a' <;> by_cases h2 : b = b' <;> by_cases h3 : c = c' <;> simp [h1, h2, h3]
end
theorem infoInt : (Try.prog.info? 2).map (fun i => i.size) = some 1 := by kernel_rfl
theorem equalPoint (w : World) (a b c d : Int) : (Op.equalIn 10000 25 (.agg #[.int .i64 a, .int .i64 b]) (.agg #[.int .i64 c, .int .i64 d])).run Try.prog w = .ok (a == c && b == d) w := by
  obtain ⟨i, hi, _⟩ := Option.map_eq_some_iff.1 infoInt
  exact equal_arr2 w (by kernel_rfl) Try.underlying2 hi (by kernel_rfl) a b c d
end Go.Proofs.Ytodabjolblamgaa
