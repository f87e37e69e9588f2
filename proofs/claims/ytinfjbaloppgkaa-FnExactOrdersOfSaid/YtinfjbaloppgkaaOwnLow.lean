/-
  What a slice owns stays when a cell of another block is written; no program.
-/
import Derived.Test.YtinfjbaloppgkaaSlice
import Derived.Test.YtinfjbaloppgkaaDemand
namespace Go.Proofs.Ytinfjbaloppgkaa
open Go.RowKit

/-- What a door leaves whose work returns a pair of slices. -/
def DoorTwo (T : TypeId) (k : Nat) (L M : List Int) (w : World) (e : Ending) (w' : World) : Prop :=
  ∃ v n u m, e = .returned (.tuple #[.agg #[v, u], .int .i64 0]) ∧ w'.ownsRow w.heap.size T k v n (ints L) ∧ w'.ownsRow w.heap.size T k u m (ints M) ∧ Below w.heap.size w w'
theorem own_form {w : World} {base : Nat} {e : TypeId} {k n : Nat} {v : Value} {xs : List Value} (h : w.ownsRow base e k v n xs) : ∃ a m c, v = .slice a m c := by
  rcases own_ways h with ⟨_, a, c, rfl⟩ | ⟨_, g, c, rfl, _⟩
  · exact ⟨_, _, _, rfl⟩
  · exact ⟨_, _, _, rfl⟩
theorem own_setLow {w : World} {base : Nat} {e : TypeId} {k n : Nat} {v : Value} {xs : List Value} {b j : Nat} {u : Value} (h : w.ownsRow base e k v n xs) (hv : ∀ g, v.ownBlock = some g → b ≠ g) : (w.setCell ⟨b, j, none⟩ u).ownsRow base e k v n xs := by
  obtain ⟨h1, h2⟩ := h
  refine ⟨h1, ?_⟩
  rcases h2 with h2 | ⟨g, cap, cur, rfl, hg, hh, r⟩
  · exact .inl h2
  · exact .inr ⟨g, cap, cur, rfl, hg, by rw [← hh]; exact Below.heap_setCell w ⟨b, j, none⟩ u g (fun e => hv g rfl e.symm), r⟩

end Go.Proofs.Ytinfjbaloppgkaa
