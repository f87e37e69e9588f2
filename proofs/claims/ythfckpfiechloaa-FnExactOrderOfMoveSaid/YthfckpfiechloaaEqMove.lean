/-
  Moves, and arrays of four, that are compared.
-/
import Derived.Test.YthfckpfiechloaaArrEq
import Derived.Laws.StructEq
namespace Go.Proofs.Ythfckpfiechloaa
open Go.RowKit

theorem equal_arr4d {P : Program} (k : Nat) (w : World) {t e : TypeId} {i : TypeInfo} (hu : P.underlying t = some (.array 4 e)) (he : P.underlying e = some (.int .i64)) (hi : P.info? e = some i) (hc : P.cellsOf e = 1) (a b c d a' b' c' d' : Int) :
    (Op.equalIn (k + 1 + 1) t (.agg #[.int .i64 a, .int .i64 b, .int .i64 c, .int .i64 d]) (.agg #[.int .i64 a', .int .i64 b', .int .i64 c', .int .i64 d'])).run P w = .ok (a == a' && b == b' && c == c' && d == d') w := by
  rw [run_equalIn_array w _ _ _ hu hi]
  have r4 : List.range 4 = [0, 1, 2, 3] := rfl
  simp [r4, Op.eqItems, hc, part, go_sem, he, run_isAgg_int _ he]
  by_cases h1 : a = a' <;> by_cases h2 : b = b' <;> by_cases h3 : c = c' <;> by_cases h4 : d = d' <;> simp [h1, h2, h3, h4]
theorem equal_arr2e {P : Program} (k : Nat) (w : World) {t e : TypeId} {i : TypeInfo} (hu : P.underlying t = some (.array 2 e)) (he : P.underlying e = some (.int .i64)) (hi : P.info? e = some i) (hc : P.cellsOf e = 1) (a b c d : Int) :
    (Op.equalIn (k + 1 + 1) t (.agg #[.int .i64 a, .int .i64 b]) (.agg #[.int .i64 c, .int .i64 d])).run P w = .ok (a == c && b == d) w := by
  rw [run_equalIn_array w _ _ _ hu hi]
  have r2 : List.range 2 = [0, 1] := rfl
  simp [r2, Op.eqItems, hc, part, go_sem, he, run_isAgg_int _ he]
  by_cases h1 : a = c <;> by_cases h2 : b = d <;> simp [h1, h2]
theorem equalA4 (w : World) (a b c d a' b' c' d' : Int) : (Op.equalIn 10000 22 (.agg #[.int .i64 a, .int .i64 b, .int .i64 c, .int .i64 d]) (.agg #[.int .i64 a', .int .i64 b', .int .i64 c', .int .i64 d'])).run Try.prog w = .ok (a == a' && b == b' && c == c' && d == d') w := by
  obtain ⟨i, hi, _⟩ := Option.map_eq_some_iff.1 infoInt
  exact equal_arr4d 9998 w (by kernel_rfl) Try.underlying2 hi (by kernel_rfl) a b c d a' b' c' d'
theorem equalMove (w : World) (a b c d e f a' b' c' d' e' f' : Int) : (Op.equalIn 10000 30 (.agg #[.int .i64 a, .int .i64 b, .int .i64 c, .int .i64 d, .int .i64 e, .int .i64 f]) (.agg #[.int .i64 a', .int .i64 b', .int .i64 c', .int .i64 d', .int .i64 e', .int .i64 f'])).run Try.prog w = .ok (a == a' && b == b' && c == c' && d == d' && e == e' && f == f') w := by
  have ht : Try.prog.underlying 30 = some (.struct (Try.prog.fieldsOf 30)) := by kernel_rfl
  have g4 : ∀ w', (isAgg 22).run Try.prog w' = .ok true w' := fun w' => by simp [isAgg, run_underlying (by kernel_rfl : Try.prog.underlying 22 = some (.array 4 2))]
  have g2 : ∀ w', (isAgg 28).run Try.prog w' = .ok true w' := fun w' => by simp [isAgg, run_underlying (by kernel_rfl : Try.prog.underlying 28 = some (.array 2 2))]
  obtain ⟨i, hi, _⟩ := Option.map_eq_some_iff.1 infoInt
  rw [run_equalIn_struct w 9999 _ _ _ ht (by kernel_rfl)]
  have h4 := equal_arr4d (P := Try.prog) 9997 w (by kernel_rfl : Try.prog.underlying 22 = some (.array 4 2)) Try.underlying2 hi (by kernel_rfl) a b c d a' b' c' d'
  have h2 := equal_arr2e (P := Try.prog) 9997 w (by kernel_rfl : Try.prog.underlying 28 = some (.array 2 2)) Try.underlying2 hi (by kernel_rfl) e f e' f'
  simp only [Nat.reduceAdd] at h4 h2
  simp [Program.fieldsOf, Try.underlying30, Op.eqFields, part, g4, g2, h4, h2, go_sem]
  by_cases e1 : a = a' <;> by_cases e2 : b = b' <;> by_cases e3 : c = c' <;> by_cases e4 : d = d' <;> by_cases e5 : e = e' <;> by_cases e6 : f = f' <;> simp [e1, e2, e3, e4, e5, e6]

end Go.Proofs.Ythfckpfiechloaa
