/-
  Circles that are compared.
-/
import Derived.Test.YtmpgpmcmhbpjeabMgq0
import Derived.Laws.StructEq

namespace Go.Proofs.Ytmpgpmcmhbpjeab
open Go.RowKit

theorem equal_arr2d {P : Program} (k : Nat) (w : World) {t e : TypeId} {i : TypeInfo} (hu : P.underlying t = some (.array 2 e)) (he : P.underlying e = some (.int .i64)) (hi : P.info? e = some i) (hc : P.cellsOf e = 1) (a b c d : Int) :
    (Op.equalIn (k + 1 + 1) t (.agg #[.int .i64 a, .int .i64 b]) (.agg #[.int .i64 c, .int .i64 d])).run P w = .ok (a == c && b == d) w := by
  rw [run_equalIn_array w _ _ _ hu hi]
  have r2 : List.range 2 = [0, 1] := rfl
  simp [r2, Op.eqItems, hc, part, go_sem, he, run_isAgg_int _ he]
  by_cases h1 : a = c <;> by_cases h2 : b = d <;> simp [h1, h2]
theorem equalCircle (w : World) (a b c a' b' c' : Int) : (Op.equalIn 10000 30 (.agg #[.int .i64 a, .int .i64 b, .int .i64 c]) (.agg #[.int .i64 a', .int .i64 b', .int .i64 c'])).run Try.prog w = .ok (a == a' && b == b' && c == c') w := by
  have ht : Try.prog.underlying 30 = some (.struct (Try.prog.fieldsOf 30)) := by kernel_rfl
  have g2 : ∀ w', (isAgg 28).run Try.prog w' = .ok true w' := fun w' => by simp [isAgg, run_underlying (by kernel_rfl : Try.prog.underlying 28 = some (.array 2 2))]
  have g1 : ∀ w', (isAgg 2).run Try.prog w' = .ok false w' := fun w' => run_isAgg_int w' Try.underlying2
  obtain ⟨i, hi, _⟩ := Option.map_eq_some_iff.1 infoInt
  rw [run_equalIn_struct w 9999 _ _ _ ht (by kernel_rfl)]
  have h2 := equal_arr2d (P := Try.prog) 9997 w (by kernel_rfl : Try.prog.underlying 28 = some (.array 2 2)) Try.underlying2 hi (by kernel_rfl) a b a' b'
  simp only [Nat.reduceAdd] at h2
  simp [Program.fieldsOf, Try.underlying30, Op.eqFields, part, g1, g2, h2, go_sem]
  by_cases e1 : a = a' <;> by_cases e2 : b = b' <;> by_cases e3 : c = c' <;> simp [e1, e2, e3]

end Go.Proofs.Ytmpgpmcmhbpjeab
