/-
  The numbers of a row of points, place by place, and rows that are sifted; no program.
-/
import Derived.Test.YtijmmagdkbnhdaaMgq0
import Derived.Test.YtijmmagdkbnhdaaSetMathq

namespace Go.Proofs.Ytijmmagdkbnhdaa
open Go.RowKit

theorem flat_getD (xs : List (Int × Int)) (j : Nat) (h : j < xs.length) : (flat xs).getD (j * 2) 0 = xs[j].1 ∧ (flat xs).getD (j * 2 + 1) 0 = xs[j].2 := by
  induction xs generalizing j with
  | nil => simp at h
  | cons x xs ih =>
    cases j with
    | zero => simp [flat]
    | succ j =>
      have := ih j (by simpa using h)
      have e : flat (x :: xs) = x.1 :: x.2 :: flat xs := rfl
      rw [e, Nat.succ_mul, show j * 2 + 2 = (j * 2 + 1) + 1 from rfl, show j * 2 + 1 + 1 + 1 = ((j * 2 + 1) + 1) + 1 from rfl]
      simpa using this
theorem take_succ_at {xs : List (Int × Int)} {j : Nat} (h : j < xs.length) : xs.take (j + 1) = xs.take j ++ [xs[j]] := by
  rw [List.take_succ_eq_append_getElem h]
theorem sift_yes {f : Int × Int → Bool} {xs : List (Int × Int)} {j : Nat} (h : j < xs.length) (hf : f xs[j] = true) : (xs.take (j + 1)).filter f = (xs.take j).filter f ++ [xs[j]] := by
  rw [take_succ_at h, List.filter_append]; simp [hf]
theorem sift_no {f : Int × Int → Bool} {xs : List (Int × Int)} {j : Nat} (h : j < xs.length) (hf : f xs[j] = false) : (xs.take (j + 1)).filter f = (xs.take j).filter f := by
  rw [take_succ_at h, List.filter_append]; simp [hf]
theorem sift_le (f : Int × Int → Bool) (xs : List (Int × Int)) (j : Nat) : ((xs.take j).filter f).length ≤ xs.length := by
  have h1 := List.length_filter_le f (xs.take j)
  have h2 : (xs.take j).length ≤ xs.length := by rw [List.length_take]; omega
  omega
/-- A slice's shape: its row, where it has one. -/
theorem own_shape {w : World} {base : Nat} {e : TypeId} {k n : Nat} {v : Value} {xs : List Value} (h : w.ownsRow base e k v n xs) : ∃ ao cap, v = .slice ao n cap ∧ n ≤ 9223372036854775807 ∧ (0 < n → ∃ g, ao = some ⟨g, 0, none⟩ ∧ base ≤ g ∧ g < w.heap.size) := by
  rcases own_ways h with ⟨rfl, ao, cap, rfl⟩ | ⟨h0, g, cap, rfl, h1, h2, h3⟩
  · exact ⟨_, _, rfl, by omega, fun h => by omega⟩
  · exact ⟨_, _, rfl, h3, fun _ => ⟨g, rfl, h1, h2⟩⟩

end Go.Proofs.Ytijmmagdkbnhdaa
