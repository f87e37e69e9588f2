/-
  Lists of numbers in a range, their cells, and codes; no program.
-/
import Derived.Test.YtjjeekmhpcllaaaMath
namespace Go.Proofs.Ytjjeekmhpcllaaa
open Go.RowKit

/-- All the numbers are modulo p. -/
def numsIn (p : Int) (xs : List Int) : Bool := xs.all fun x => inB x 0 (p - 1)
/-- The code of a prime and a test. -/
def codeOf (p : Int) (b : Bool) : Int := if isP p then (if b then 0 else 2) else 1
theorem codeOf_no {p : Int} {b : Bool} (h : isP p = false) : codeOf p b = 1 := by simp [codeOf, h]
theorem codeOf_out {p : Int} {b : Bool} (h : isP p = true) (hb : b = false) : codeOf p b = 2 := by simp [codeOf, h, hb]
theorem codeOf_in {p : Int} {b : Bool} (h : isP p = true) (hb : b = true) : codeOf p b = 0 := by simp [codeOf, h, hb]

/-- The numbers before k are all in the range. -/
def UpIn (p : Int) (xs : List Int) (k : Nat) : Prop := ∀ i, i < k → inB (xs.getD i 0) 0 (p - 1) = true
theorem UpIn.start (p : Int) (xs : List Int) : UpIn p xs 0 := fun _ h => absurd h (by omega)
theorem UpIn.next {p : Int} {xs : List Int} {k : Nat} {x : Int} (h : UpIn p xs k) (hx : x = xs.getD k 0) (hin : inB x 0 (p - 1) = true) : UpIn p xs (k + 1) := fun i hi => by
  by_cases e : i = k
  · rw [e, ← hx]; exact hin
  · exact h i (by omega)
theorem UpIn.all {p : Int} {xs : List Int} {k : Nat} (h : UpIn p xs k) (hk : xs.length ≤ k) : numsIn p xs = true := by
  unfold numsIn
  rw [List.all_eq_true]
  intro x hx
  obtain ⟨i, hi, e⟩ := List.getElem_of_mem hx
  have h1 := h i (by omega)
  rw [List.getD_eq_getElem?_getD, List.getElem?_eq_getElem hi, Option.getD_some, e] at h1
  exact h1
theorem numsIn_no {p : Int} {xs : List Int} {k : Nat} {x : Int} (hk : k < xs.length) (hx : x = xs.getD k 0) (hin : inB x 0 (p - 1) = false) : numsIn p xs = false := by
  unfold numsIn
  rw [List.all_eq_false]
  refine ⟨xs[k], List.getElem_mem hk, ?_⟩
  rw [List.getD_eq_getElem?_getD, List.getElem?_eq_getElem hk, Option.getD_some] at hx
  rw [← hx, hin]; simp

/-- The cells from o on of block b hold the numbers. -/
def Cells (w : World) (b o : Nat) (xs : List Int) : Prop := ∀ i, i < xs.length → w.cell? ⟨b, o + i, none⟩ = some (.int .i64 (xs.getD i 0))

theorem cells_new (w : World) (xs : List Int) (t : TypeId) : Cells (w.alloc (.cells (xs.map (Value.int .i64)).toArray t)) w.heap.size 0 xs := by
  intro i hi
  have h : (w.alloc (.cells (xs.map (Value.int .i64)).toArray t)).heap[w.heap.size]? = some (.cells (xs.map (Value.int .i64)).toArray t) := by
    show (w.heap.push _)[w.heap.size]? = _
    simp
  simp only [World.cell?, h, Nat.zero_add]
  simp [List.getElem?_eq_getElem hi]

theorem code_cases (p : Int) (b : Bool) : (codeOf p b = 0 ∧ isP p = true ∧ b = true) ∨ codeOf p b = 1 ∨ codeOf p b = 2 := by
  unfold codeOf; cases isP p <;> cases b <;> simp
/-- A code that is no zero stays with another test behind it. -/
theorem code_and_1 {p : Int} {a b : Bool} (h : codeOf p a = 1) : codeOf p (a && b) = 1 := by
  cases hp : isP p
  · exact codeOf_no hp
  · revert h; cases a <;> simp [codeOf, hp]
theorem code_and_2 {p : Int} {a b : Bool} (h : codeOf p a = 2) : codeOf p (a && b) = 2 := by
  cases hp : isP p
  · rw [codeOf_no hp] at h; omega
  · revert h; cases a <;> simp [codeOf, hp]
/-- Which of two tests has failed. -/
theorem code_split_1 {p : Int} {a b : Bool} (h : codeOf p (a && b) = 1) : codeOf p a = 1 := by
  cases hp : isP p
  · exact codeOf_no hp
  · revert h; cases a <;> cases b <;> simp [codeOf, hp]
theorem code_split_2 {p : Int} {a b : Bool} (h : codeOf p (a && b) = 2) : (isP p = true ∧ codeOf p a = 0 ∧ a = true ∧ b = false ∧ codeOf p b = 2) ∨ codeOf p a = 2 := by
  cases hp : isP p
  · rw [codeOf_no hp] at h; omega
  · cases a
    · exact .inr (codeOf_out hp rfl)
    · cases b
      · exact .inl ⟨rfl, codeOf_in hp rfl, rfl, rfl, codeOf_out hp rfl⟩
      · simp [codeOf, hp] at h
theorem numsIn_one {p a : Int} (h : numsIn p [a] = true) : 0 ≤ a ∧ a < p := by
  simp [numsIn, inB] at h; omega

theorem numsIn2 (p a b : Int) : numsIn p [a, b] = (inB a 0 (p - 1) && inB b 0 (p - 1)) := by simp [numsIn]
theorem numsIn3 (p a b c : Int) : numsIn p [a, b, c] = (inB a 0 (p - 1) && (inB b 0 (p - 1) && inB c 0 (p - 1))) := by simp [numsIn]
theorem numsApp2 (p a b c d : Int) : numsIn p [a, b, c, d] = (numsIn p [a, b] && numsIn p [c, d]) := by simp [numsIn, Bool.and_assoc]
theorem numsApp3 (p a b c d e f : Int) : numsIn p [a, b, c, d, e, f] = (numsIn p [a, b] && (numsIn p [c, d] && numsIn p [e, f])) := by simp [numsIn, Bool.and_assoc]
theorem numsApp4 (p a b c d e f g h : Int) : numsIn p [a, b, c, d, e, f, g, h] = (numsIn p [a, b] && (numsIn p [c, d] && (numsIn p [e, f] && numsIn p [g, h]))) := by simp [numsIn, Bool.and_assoc]
/-- Three numbers are a line. -/
def leadB (a b : Int) : Bool := a == 1 || (a == 0 && b == 1)
def lineB (p a b c : Int) : Bool := leadB a b && numsIn p [a, b, c]
theorem cells_at {w : World} {b : Nat} (hb : b = w.heap.size) (xs : List Int) (t : TypeId) : Cells (w.alloc (.cells (xs.map (Value.int .i64)).toArray t)) b 0 xs := by
  subst hb; exact cells_new w xs t

end Go.Proofs.Ytjjeekmhpcllaaa
