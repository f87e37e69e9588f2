/-
  Slices of numbers that a call has made: what they hold, and that they stay; no program.
-/
import Derived.Test.YtodabjolblamgaaMath
import Derived.WalkKit
namespace Go.Proofs.Ytodabjolblamgaa
open Go.RowKit

def ints (xs : List Int) : List Value := xs.map (Value.int .i64)
theorem ints_length (xs : List Int) : (ints xs).length = xs.length := List.length_map _
theorem ints_append (xs ys : List Int) : ints (xs ++ ys) = ints xs ++ ints ys := List.map_append

/-- What a slice owns stays while nothing below a bound turns, if its row lies below the bound. -/
theorem own_below {w w' : World} {base B : Nat} {e : TypeId} {k n : Nat} {v : Value} {xs : List Value} (h : w.ownsRow base e k v n xs) (hb : Below B w w') (hv : ∀ g, v.ownBlock = some g → g < B) : w'.ownsRow base e k v n xs := by
  obtain ⟨h1, h2⟩ := h
  refine ⟨h1, ?_⟩
  rcases h2 with h2 | ⟨g, cap, cur, rfl, hg, hh, r⟩
  · exact .inl h2
  · exact .inr ⟨g, cap, cur, rfl, hg, by rw [hb.block g (hv g rfl)]; exact hh, r⟩
/-- .. the bound: the heap's size. -/
theorem own_call {w w' : World} {base : Nat} {e : TypeId} {k n : Nat} {v : Value} {xs : List Value} (h : w.ownsRow base e k v n xs) (hb : Below w.heap.size w w') : w'.ownsRow base e k v n xs :=
  own_below h hb fun g hg => (h.lt g hg).2
theorem own_base {w : World} {base base' : Nat} {e : TypeId} {k n : Nat} {v : Value} {xs : List Value} (h : w.ownsRow base e k v n xs) (hb : base' ≤ base) : w.ownsRow base' e k v n xs := by
  obtain ⟨h1, h2⟩ := h
  refine ⟨h1, ?_⟩
  rcases h2 with h2 | ⟨g, cap, cur, rfl, hg, r⟩
  · exact .inl h2
  · exact .inr ⟨g, cap, cur, rfl, by omega, r⟩
/-- A slice's two shapes. -/
theorem own_ways {w : World} {base : Nat} {e : TypeId} {k n : Nat} {v : Value} {xs : List Value} (h : w.ownsRow base e k v n xs) :
    (n = 0 ∧ ∃ ao cap, v = .slice ao 0 cap) ∨ (0 < n ∧ ∃ g cap, v = .slice (some ⟨g, 0, none⟩) n cap ∧ base ≤ g ∧ g < w.heap.size ∧ n ≤ 9223372036854775807) := by
  rcases h.2 with ⟨rfl, rfl⟩ | ⟨g, cap, cur, rfl, hg, hh, hn, hm, r⟩
  · exact .inl ⟨rfl, _, _, rfl⟩
  · rcases Nat.eq_zero_or_pos n with rfl | h0
    · exact .inl ⟨rfl, _, _, rfl⟩
    · exact .inr ⟨h0, g, cap, rfl, hg, lt_of_block hh, by unfold maxLen at hm; omega⟩
/-- The number at a place. -/
theorem own_cell {w : World} {base : Nat} {e : TypeId} {k n g cap : Nat} {xs : List Int} (h : w.ownsRow base e k (.slice (some ⟨g, 0, none⟩) n cap) n (ints xs)) {j : Nat} (hj : j < n * k) : w.cell? ⟨g, j, none⟩ = some (.int .i64 (xs.getD j 0)) := by
  rw [h.cellAt j hj]
  have hl : xs.length = n * k := by have := h.1; rwa [ints_length] at this
  simp [ints, List.getElem?_eq_getElem (show j < xs.length by omega)]

/-- What a call leaves that returns a slice of its own and a code. -/
def SlicePost (T : TypeId) (k : Nat) (L : List Int) (C : Int) (w : World) (e : Ending) (w' : World) : Prop :=
  ∃ v n, e = .returned (.tuple #[v, .int .i64 C]) ∧ w'.ownsRow w.heap.size T k v n (ints L) ∧ Below w.heap.size w w'
theorem slicePost_mk {T : TypeId} {k n : Nat} {L : List Int} {C : Int} {v : Value} {w w' : World} (h : w'.ownsRow w.heap.size T k v n (ints L)) (hb : Below w.heap.size w w') :
    SlicePost T k L C w (.returned (.tuple #[v, .int .i64 C])) w' := ⟨v, n, rfl, h, hb⟩
theorem slicePost_nil {T : TypeId} {k : Nat} {L : List Int} {C : Int} {w w' : World} (h : L = []) (hb : Below w.heap.size w w') :
    SlicePost T k L C w (.returned (.tuple #[.slice none 0 0, .int .i64 C])) w' := ⟨_, 0, rfl, by rw [h]; exact World.ownsRow_nil _ _ _ _, hb⟩

theorem own_same {w w' : World} {b b' : Nat} {e : TypeId} {k n m : Nat} {v v' : Value} {xs : List Value} (h : w.ownsRow b e (k + 1) v n xs) (h' : w'.ownsRow b' e (k + 1) v' m xs) : n = m :=
  Nat.eq_of_mul_eq_mul_right (Nat.succ_pos k) (h.1.symm.trans h'.1)
theorem own_few {w : World} {b : Nat} {e : TypeId} {k n N : Nat} {v : Value} {xs : List Int} (h : w.ownsRow b e k v n (ints xs)) (hx : xs.length ≤ N) (hk : 0 < k) : n ≤ N := by
  have h1 := h.1
  rw [ints_length] at h1
  have := Nat.le_mul_of_pos_right n hk
  omega
theorem cell_old {B : Nat} {W w' : World} (h : Below B W w') {b : Nat} (hb : b < B) (j : Nat) : w'.cell? ⟨b, j, none⟩ = W.cell? ⟨b, j, none⟩ := World.cell?_of_block (a := ⟨b, j, none⟩) (h.block b hb)

theorem bcellB {B : Nat} {W w1 : World} (hb : Below B W w1) : (∀ b o, b < B → w1.cell? ⟨b, o, none⟩ = W.cell? ⟨b, o, none⟩) ∧ (∀ b o, b < B → w1.frozen? ⟨b, o, none⟩ = W.frozen? ⟨b, o, none⟩) :=
  ⟨fun b o h => World.cell?_of_block (a := ⟨b, o, none⟩) (hb.block b h), fun b o h => World.frozen?_of_block (a := ⟨b, o, none⟩) (hb.block b h)⟩
theorem own_lit {w : World} {base b : Nat} {e : TypeId} {k n : Nat} {cs : List Int} (hb : base ≤ w.heap.size) (hq : b = w.heap.size) (hn : n ≤ 1000000) (hl : cs.length = n * k) :
    (w.alloc (.cells (cs.map (Value.int .i64)).toArray e)).ownsRow base e k (.slice (some ⟨b, 0, none⟩) n n) n (ints cs) := by
  subst hq; exact World.ownsRow_lit w _ n hb (by unfold maxLen; omega) (by simpa using hl)

theorem own_list {w : World} {base n m : Nat} {e : TypeId} {v : Value} {xs : List Int} (h : w.ownsRow base e 1 v n (ints xs)) (hm : xs.length = m + 1) :
    n = m + 1 ∧ ∃ g cap, v = .slice (some ⟨g, 0, none⟩) (m + 1) cap ∧ base ≤ g ∧ g < w.heap.size ∧ ∀ j, j < m + 1 → w.cell? ⟨g, j, none⟩ = some (.int .i64 (xs.getD j 0)) := by
  have hn : n = m + 1 := by have := h.1; rw [ints_length] at this; omega
  subst hn
  rcases own_ways h with ⟨h0, _⟩ | ⟨_, g, cap, rfl, h1, h2, _⟩
  · omega
  · exact ⟨rfl, g, cap, rfl, h1, h2, fun j hj => own_cell h (by omega)⟩

/-- The marks m, m + 1, .. -/
def marks (m n : Nat) : List Int := (List.range n).map fun i => ((m + i : Nat) : Int)
theorem marks_length (m n : Nat) : (marks m n).length = n := by simp [marks]
theorem marks_getD {m n j : Nat} (h : j < n) : (marks m n).getD j 0 = ((m + j : Nat) : Int) := by
  simp [marks, List.getElem?_map, List.getElem?_range h]
theorem marks_succ (m n : Nat) : marks m (n + 1) = marks m n ++ [((m + n : Nat) : Int)] := by simp [marks, List.range_succ]
/-- One mark more. -/
theorem marks_set {m j : Nat} {xs : List Int} (h : j < xs.length) : (ints (marks m j ++ xs.drop j)).set j (.int .i64 ((m + j : Nat) : Int)) = ints (marks m (j + 1) ++ xs.drop (j + 1)) := by
  rw [ints_append, ints_append, marks_succ, ints_append, List.append_assoc]
  rw [List.set_append_right _ _ (by simp [ints_length, marks_length])]
  congr 1
  rw [ints_length, marks_length, Nat.sub_self]
  rw [List.drop_eq_getElem_cons h]
  simp only [ints, List.map_cons, List.set_cons_zero]
  rfl

end Go.Proofs.Ytodabjolblamgaa
