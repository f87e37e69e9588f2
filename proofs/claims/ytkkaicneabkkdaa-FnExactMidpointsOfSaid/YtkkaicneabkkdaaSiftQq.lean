/-
  The numbers of a row of places, place by place, and rows that are sifted; no program.
-/
import Derived.Test.YtkkaicneabkkdaaSpecAllQq
import Derived.Test.YtkkaicneabkkdaaMgq0

namespace Go.Proofs.Ytkkaicneabkkdaa
open Go.RowKit

theorem flatQ_getD (xs : List Pl32) (j : Nat) (h : j < xs.length) : (flatQ xs).getD (j * 3) 0 = (toQ xs[j]).1 ∧ (flatQ xs).getD (j * 3 + 1) 0 = (toQ xs[j]).2.1 ∧ (flatQ xs).getD (j * 3 + 2) 0 = (toQ xs[j]).2.2 := by
  induction xs generalizing j with
  | nil => simp at h
  | cons x xs ih =>
    cases j with
    | zero => simp [flatQ]
    | succ j =>
      have := ih j (by simpa using h)
      have e : flatQ (x :: xs) = (toQ x).1 :: (toQ x).2.1 :: (toQ x).2.2 :: flatQ xs := rfl
      rw [e, Nat.succ_mul, show j * 3 + 3 = ((j * 3) + 1 + 1) + 1 from rfl, show j * 3 + 1 + 1 + 1 + 1 = (((j * 3 + 1) + 1) + 1) + 1 from rfl, show j * 3 + 1 + 1 + 1 + 2 = (((j * 3 + 2) + 1) + 1) + 1 from rfl]
      simpa using this
theorem siftQ_yes {f : Pl32 → Bool} {xs : List Pl32} {j : Nat} (h : j < xs.length) (hf : f xs[j] = true) : (xs.take (j + 1)).filter f = (xs.take j).filter f ++ [xs[j]] := by
  rw [List.take_succ_eq_append_getElem h, List.filter_append]; simp [hf]
theorem siftQ_no {f : Pl32 → Bool} {xs : List Pl32} {j : Nat} (h : j < xs.length) (hf : f xs[j] = false) : (xs.take (j + 1)).filter f = (xs.take j).filter f := by
  rw [List.take_succ_eq_append_getElem h, List.filter_append]; simp [hf]
theorem siftQ_le (f : Pl32 → Bool) (xs : List Pl32) (j : Nat) : ((xs.take j).filter f).length ≤ xs.length := by
  have h1 := List.length_filter_le f (xs.take j)
  have h2 : (xs.take j).length ≤ xs.length := by rw [List.length_take]; omega
  omega
/-- A slice's shape: its row, where it has one. -/
theorem own_shapeQ {w : World} {base : Nat} {e : TypeId} {k n : Nat} {v : Value} {xs : List Value} (h : w.ownsRow base e k v n xs) : ∃ ao cap, v = .slice ao n cap ∧ n ≤ 9223372036854775807 ∧ (0 < n → ∃ g, ao = some ⟨g, 0, none⟩ ∧ base ≤ g ∧ g < w.heap.size) := by
  rcases own_ways h with ⟨rfl, ao, cap, rfl⟩ | ⟨h0, g, cap, rfl, h1, h2, h3⟩
  · exact ⟨_, _, rfl, by omega, fun h => by omega⟩
  · exact ⟨_, _, rfl, h3, fun _ => ⟨g, rfl, h1, h2⟩⟩
theorem toQ_r (x : Pl32) : (0 ≤ (toQ x).1 ∧ (toQ x).1 ≤ 31) ∧ (0 ≤ (toQ x).2.1 ∧ (toQ x).2.1 ≤ 31) ∧ (0 ≤ (toQ x).2.2 ∧ (toQ x).2.2 ≤ 31) := by
  obtain ⟨a, b, c⟩ := x
  simp only [toQ]; omega
theorem allQ_le {m : Nat} (h : m ≤ 31) : (allQ m).length ≤ 1023 := by
  rw [allQ_len]
  have : m * m ≤ 31 * 31 := Nat.mul_le_mul h h
  omega
/-- Whether a place is on the line with a pole; whether it is null. -/
def onQ (p q1 q2 q3 : Int) (x : Pl32) : Bool := ppd p (toQ x).1 (toQ x).2.1 (toQ x).2.2 q1 q2 q3 == 0
def nulQ (p : Int) (x : Pl32) : Bool := ppd p (toQ x).1 (toQ x).2.1 (toQ x).2.2 (toQ x).1 (toQ x).2.1 (toQ x).2.2 == 0
def onL (p q1 q2 q3 : Int) : List Pl32 := (allQ p.toNat).filter (onQ p q1 q2 q3)
def nulL (p : Int) : List Pl32 := (allQ p.toNat).filter (nulQ p)
theorem onL_le {p : Int} (q1 q2 q3 : Int) (hp : isP p = true) : (onL p q1 q2 q3).length ≤ 1023 := Nat.le_trans (List.length_filter_le _ _) (allQ_le (by have := isP_range hp; omega))
theorem nulL_le {p : Int} (hp : isP p = true) : (nulL p).length ≤ 1023 := Nat.le_trans (List.length_filter_le _ _) (allQ_le (by have := isP_range hp; omega))

end Go.Proofs.Ytkkaicneabkkdaa
