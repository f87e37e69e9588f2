/-
  Slices that grow by numbers.
-/
import Derived.Test.YtibfbdgenamlkaaMgq0
import Derived.Test.YtibfbdgenamlkaaRows

namespace Go.Proofs.Ytibfbdgenamlkaa
open Go.RowKit

/-- The numbers below k that a test takes. -/
def upTo (f : Int → Bool) (k : Nat) : List Int := ((List.range k).filter fun t : Nat => f (t : Int)).map fun t : Nat => (t : Int)
theorem upTo_yes {f : Int → Bool} {k : Nat} (h : f k = true) : upTo f (k + 1) = upTo f k ++ [(k : Int)] := by simp [upTo, List.range_succ, List.filter_append, h]
theorem upTo_no {f : Int → Bool} {k : Nat} (h : f k = false) : upTo f (k + 1) = upTo f k := by simp [upTo, List.range_succ, List.filter_append, h]
theorem upTo_le (f : Int → Bool) (k : Nat) : (upTo f k).length ≤ k := by
  have := List.length_filter_le (fun t : Nat => f (t : Int)) (List.range k)
  simpa [upTo] using this
theorem infoInt1 : (Try.prog.info? 2).map (fun i => (i.zero, i.size, i.bytes)) = some (some (.int .i64 0), 1, 8) := by kernel_rfl
/-- A slice of numbers to which a number is appended. -/
theorem own_snoc {w : World} {base : Nat} {e : TypeId} {v : Value} {n m : Nat} {xs : List Int} {y : Int} (h : w.ownsRow base e 1 v n (ints xs ++ [.int .i64 y])) (hm : n = m) : w.ownsRow base e 1 v m (ints (xs ++ [y])) := by
  subst hm; rw [ints_append]; exact h
theorem own_lit0 (w : World) {base b : Nat} (e : TypeId) (k : Nat) (hb : base ≤ w.heap.size) (hq : b = w.heap.size) : (w.alloc (.cells #[] e)).ownsRow base e k (.slice (some ⟨b, 0, none⟩) 0 0) 0 (ints []) := by
  subst hq; exact World.ownsRow_lit w #[] 0 hb (by decide) (by simp)
theorem int_oneCell (y : Int) : ∀ u ∈ [Value.int .i64 y], u.oneCell' = true := by
  intro u hu; simp at hu; subst hu; rfl
end Go.Proofs.Ytibfbdgenamlkaa
