/-
  What a body keeps that appends points to a boxed slice.
-/
import Derived.Test.YtmpgpmcmhbpjeabMgq0
import Derived.Test.YtmpgpmcmhbpjeabRangeOnq

namespace Go.Proofs.Ytmpgpmcmhbpjeab
open Go.RowKit Go.Shelf

theorem btw_ownLe {β : Type} {lo hi B : Nat} {W0 : World} (h : hi ≤ W0.heap.size ∧ hi ≤ B) : OwnFrom B (fun (_ : β) W => Btw lo hi W0 W) := fun _ _ _ _ hs hg hr =>
  btw_trans hs (btw_grown hg (Nat.le_trans h.1 hs.1) (fun g e => .inr (Nat.le_trans h.2 (hr g e).1)))
theorem own_isSlice {w : World} {base : Nat} {e : TypeId} {k n : Nat} {v : Value} {xs : List Value} (h : w.ownsRow base e k v n xs) : ∃ ao m cap, v = .slice ao m cap := by
  rcases own_ways h with ⟨_, ao, cap, rfl⟩ | ⟨_, g, cap, rfl, _⟩
  · exact ⟨_, _, _, rfl⟩
  · exact ⟨_, _, _, rfl⟩
theorem row_cells {w : World} {base : Nat} {e : TypeId} {k n : Nat} {v : Value} {xs : List Value} (h : w.ownsRow base e k v n xs) : ∀ j o, v.ownBlock = some j → w.heap[j]? = some o → o.isCells = true := by
  intro j o e' ho
  rcases h.2 with ⟨hv, _⟩ | ⟨g, cap, cur, hv, _, hgb, _⟩
  · rw [hv] at e'; cases e'
  · rw [hv] at e'
    simp only [Value.ownBlock, Option.some.injEq] at e'
    subst e'
    rw [hgb] at ho; cases ho; rfl
theorem ownFrom_ex {β γ : Type} {B : Nat} {I : γ → β → World → Prop} (h : ∀ v, OwnFrom B (I v)) : OwnFrom B (fun s W => ∃ v, I v s W) := fun s W W' row ⟨v, hv⟩ hg hr => ⟨v, h v s W W' row hv hg hr⟩
/-- What a body keeps that writes rows of points and slices of points alone: all cells of other types. -/
def KeepT (W W' : World) : Prop := W.heap.size ≤ W'.heap.size ∧ ∀ (b : Nat) (cs : Array Value) (t : TypeId) (tg), W.heap[b]? = some (Obj.cells cs t tg) → t ≠ 28 → t ≠ 46 → W'.heap[b]? = some (Obj.cells cs t tg)
theorem kt_trans {A B C : World} (h : KeepT A B) (k : KeepT B C) : KeepT A C := ⟨Nat.le_trans h.1 k.1, fun b cs t tg h1 h2 h3 => k.2 b cs t tg (h.2 b cs t tg h1 h2 h3) h2 h3⟩
theorem kt_grown {W W' : World} {row : Option Nat} (h : W.grownBy W' row) (hr : ∀ (r : Nat) (cs : Array Value) (t : TypeId) (tg), row = some r → W.heap[r]? = some (Obj.cells cs t tg) → t = 28 ∨ t = 46) : KeepT W W' :=
  ⟨h.size, fun b cs t tg h1 h2 h3 => (h.block b (Array.getElem?_eq_some_iff.1 h1).1 (fun e => by rcases hr b cs t tg e.symm h1 with e | e; exact h2 e; exact h3 e)).trans h1⟩
theorem kt_none {W W' : World} (h : W.grownBy W' none) : KeepT W W' := kt_grown h fun _ _ _ _ e => by cases e
theorem kt_row {w : World} {base : Nat} {k n : Nat} {v : Value} {xs : List Value} (h : w.ownsRow base 28 k v n xs) : ∀ (r : Nat) (cs : Array Value) (t : TypeId) (tg), v.ownBlock = some r → w.heap[r]? = some (Obj.cells cs t tg) → t = 28 ∨ t = 46 := by
  intro r cs t tg e ho
  rcases h.2 with ⟨hv, _⟩ | ⟨g, cap, cur, hv, _, hgb, _⟩
  · rw [hv] at e; cases e
  · rw [hv] at e
    simp only [Value.ownBlock, Option.some.injEq] at e
    subst e
    rw [hgb] at ho; cases ho; exact .inl rfl
/-- .. and the blocks from lo to hi. -/
def KeepBT (lo hi : Nat) (W W' : World) : Prop := Btw lo hi W W' ∧ KeepT W W'
theorem bt_trans {lo hi : Nat} {A B C : World} (h : KeepBT lo hi A B) (k : KeepBT lo hi B C) : KeepBT lo hi A C := ⟨btw_trans h.1 k.1, kt_trans h.2 k.2⟩
theorem bt_put {lo hi r : Nat} (hr : hi ≤ r) (W : World) (o o' : Obj) (h : W.heap[r]? = some o) (hc : o.isCells = false) : KeepBT lo hi W (W.putObj r o') :=
  ⟨btw_grown (grownBy_putObj' W r o') (by have := (Array.getElem?_eq_some_iff.1 h).1; omega) (fun g e => by cases e; exact .inr hr), kt_grown (grownBy_putObj' W r o') (fun g cs t tg e hg => by cases e; rw [h] at hg; cases hg; cases hc)⟩

end Go.Proofs.Ytmpgpmcmhbpjeab
