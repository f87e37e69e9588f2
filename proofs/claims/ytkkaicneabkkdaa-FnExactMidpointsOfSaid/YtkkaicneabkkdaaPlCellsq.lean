/-
  Places among the cells of a slice; boxes that hold places.
-/
import Derived.Test.YtkkaicneabkkdaaSeqPlacesq
import Derived.Test.YtkkaicneabkkdaaMgq0

namespace Go.Proofs.Ytkkaicneabkkdaa
open Go.RowKit

theorem infoPl : (Try.prog.info? 23).map (fun i => (i.zero, i.size, i.bytes)) = some (some (.agg #[.int .i64 0, .int .i64 0, .int .i64 0]), 3, 24) := by kernel_rfl
theorem pl_cells {w : World} {x y z : Int} {t : TypeId} {q : Nat} (hq : q = w.heap.size) : ∀ j u, [Value.int .i64 x, Value.int .i64 y, Value.int .i64 z][j]? = some u → (w.alloc (.cells #[.int .i64 x, .int .i64 y, .int .i64 z] t)).cell? ((⟨q, 0, none⟩ : Addr).add j) = some u := by
  intro j u hj
  subst hq
  match j, hj with
  | 0, hj => simp at hj; subst hj; exact kfresh (by simp) rfl
  | 1, hj => simp at hj; subst hj; exact kfresh (by simp) rfl
  | 2, hj => simp at hj; subst hj; exact kfresh (by simp) rfl
theorem pl_one (x y z : Int) : ∀ u ∈ [Value.int .i64 x, Value.int .i64 y, Value.int .i64 z], u.oneCell' = true := by
  intro u hu; simp at hu; rcases hu with rfl | rfl | rfl <;> rfl
def BoxQ (W : World) (B : Nat) (t : TypeId) (x : Int × Int × Int) : Prop := W.heap[B]? = some (.cells #[.int .i64 x.1, .int .i64 x.2.1, .int .i64 x.2.2] t (0, 0))
theorem boxQ_cell1 {W : World} {B : Nat} {t : TypeId} {x : Int × Int × Int} (h : BoxQ W B t x) : W.cell? ⟨B, 0, none⟩ = some (.int .i64 x.1) := by simp [World.cell?, show W.heap[B]? = _ from h]
theorem boxQ_cell2 {W : World} {B : Nat} {t : TypeId} {x : Int × Int × Int} (h : BoxQ W B t x) : W.cell? ⟨B, 1, none⟩ = some (.int .i64 x.2.1) := by simp [World.cell?, show W.heap[B]? = _ from h]
theorem boxQ_cell3 {W : World} {B : Nat} {t : TypeId} {x : Int × Int × Int} (h : BoxQ W B t x) : W.cell? ⟨B, 2, none⟩ = some (.int .i64 x.2.2) := by simp [World.cell?, show W.heap[B]? = _ from h]
theorem boxQ_own (B C : Nat) (t : TypeId) (x : Int × Int × Int) : OwnFrom C (fun (_ : Unit) W => BoxQ W B t x) := fun _ X Y row hs hg hrow =>
  (hg.block B (Array.getElem?_eq_some_iff.1 hs).1 (fun e' => by
    obtain ⟨_, o, ho, hc⟩ := hrow B e'.symm
    rw [show X.heap[B]? = _ from hs] at ho; cases ho; cases hc)).trans hs
theorem boxQ_new (W : World) (t : TypeId) (x : Int × Int × Int) : BoxQ (W.alloc (.cells #[.int .i64 x.1, .int .i64 x.2.1, .int .i64 x.2.2] t)) W.heap.size t x := World.alloc_heap_new W _
theorem pl_row {w : World} {base : Nat} {k n : Nat} {v : Value} {xs : List Value} (h : w.ownsRow base 23 k v n xs) : ∀ (r : Nat) (cs : Array Value) (t : TypeId) (tg), v.ownBlock = some r → w.heap[r]? = some (Obj.cells cs t tg) → t = 23 := by
  intro r cs t tg e ho
  rcases h.2 with ⟨hv, _⟩ | ⟨g, cap, cur, hv, _, hgb, _⟩
  · rw [hv] at e; cases e
  · rw [hv] at e
    simp only [Value.ownBlock, Option.some.injEq] at e
    subst e
    rw [hgb] at ho; cases ho; rfl
/-- The numbers of places, one behind the other. -/
def flatQ (xs : List Pl32) : List Int := xs.flatMap fun x => [(toQ x).1, (toQ x).2.1, (toQ x).2.2]
theorem flatQ_append (xs : List Pl32) (x : Pl32) : flatQ (xs ++ [x]) = flatQ xs ++ [(toQ x).1, (toQ x).2.1, (toQ x).2.2] := by simp [flatQ]
theorem flatQ_length (xs : List Pl32) : (flatQ xs).length = xs.length * 3 := by
  induction xs with
  | nil => rfl
  | cons x xs ih => simp [flatQ] at ih ⊢; omega
theorem filter_yes {f : Pl32 → Bool} (L : List Pl32) {x : Pl32} (h : f x = true) : (L ++ [x]).filter f = L.filter f ++ [x] := by simp [h]
theorem filter_no {f : Pl32 → Bool} (L : List Pl32) {x : Pl32} (h : f x = false) : (L ++ [x]).filter f = L.filter f := by simp [h]
/-- The types that a loop writes that lists places. -/
def tsPl (t : TypeId) : Prop := t = 23 ∨ t = 34

end Go.Proofs.Ytkkaicneabkkdaa
