/-
  What a caller's rounds keep: the blocks from lo to hi, and, from N on, all cells but those of some types.
-/
import Derived.Test.YtkkaicneabkkdaaKeepBq

namespace Go.Proofs.Ytkkaicneabkkdaa
open Go.RowKit Go.Shelf

def KeepG (lo hi N : Nat) (ts : TypeId → Prop) (W W' : World) : Prop :=
  Btw lo hi W W' ∧ ∀ (b : Nat) (cs : Array Value) (t : TypeId) (tg), N ≤ b → W.heap[b]? = some (Obj.cells cs t tg) → ¬ ts t → W'.heap[b]? = some (Obj.cells cs t tg)
variable {lo hi N : Nat} {ts : TypeId → Prop}
theorem kg_trans {A B C : World} (h : KeepG lo hi N ts A B) (k : KeepG lo hi N ts B C) : KeepG lo hi N ts A C := ⟨btw_trans h.1 k.1, fun b cs t tg h0 h1 h2 => k.2 b cs t tg h0 (h.2 b cs t tg h0 h1 h2) h2⟩
theorem kg_none {W W' : World} (h : W.grownBy W' none) (hi' : hi ≤ W.heap.size) : KeepG lo hi N ts W W' :=
  ⟨btw_grown h hi' (fun _ e => by cases e), fun b cs t tg _ h1 _ => (h.block b (Array.getElem?_eq_some_iff.1 h1).1 (by simp)).trans h1⟩
theorem kg_row {W W' : World} {row : Option Nat} (h : W.grownBy W' row) (hi' : hi ≤ W.heap.size) (hr : ∀ r, row = some r → hi ≤ r)
    (ht : ∀ (r : Nat) (cs : Array Value) (t : TypeId) (tg), row = some r → W.heap[r]? = some (Obj.cells cs t tg) → N ≤ r → ts t) : KeepG lo hi N ts W W' :=
  ⟨btw_grown h hi' (fun g e => .inr (hr g e)), fun b cs t tg h0 h1 h2 => (h.block b (Array.getElem?_eq_some_iff.1 h1).1 (fun e => h2 (ht b cs t tg e.symm h1 h0))).trans h1⟩
theorem kg_put {r : Nat} (hr : hi ≤ r) (W : World) (o o' : Obj) (h : W.heap[r]? = some o) (hc : o.isCells = false) : KeepG lo hi N ts W (W.putObj r o') :=
  kg_row (grownBy_putObj' W r o') (by have := (Array.getElem?_eq_some_iff.1 h).1; omega) (fun g e => by cases e; exact hr) (fun g cs t tg e hg _ => by cases e; rw [h] at hg; cases hg; cases hc)
theorem kg_box {W W' : World} {b : Nat} {t : TypeId} {v : Value} (h : KeepG lo hi N ts W W') (hb : N ≤ b) (ht : ¬ ts t) (k : Boxed W b t v) : Boxed W' b t v := h.2 _ _ _ _ hb k ht

end Go.Proofs.Ytkkaicneabkkdaa
