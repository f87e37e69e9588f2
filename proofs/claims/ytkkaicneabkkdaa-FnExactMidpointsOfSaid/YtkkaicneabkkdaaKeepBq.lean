/-
  What is owned while an iterator runs.
-/
import Derived.Test.YtkkaicneabkkdaaSeqAllq
import Derived.Test.YtkkaicneabkkdaaSpecAt0q
import Derived.Test.YtkkaicneabkkdaaRangeOnq

namespace Go.Proofs.Ytkkaicneabkkdaa
open Go.RowKit Go.Shelf

theorem btw_ownLe {β : Type} {lo hi B : Nat} {W0 : World} (h : hi ≤ W0.heap.size ∧ hi ≤ B) : OwnFrom B (fun (_ : β) W => Btw lo hi W0 W) := fun _ _ _ _ hs hg hr =>
  btw_trans hs (btw_grown hg (Nat.le_trans h.1 hs.1) (fun g e => .inr (Nat.le_trans h.2 (hr g e).1)))
theorem own_isSlice {w : World} {base : Nat} {e : TypeId} {k n : Nat} {v : Value} {xs : List Value} (h : w.ownsRow base e k v n xs) : ∃ ao m cap, v = .slice ao m cap := by
  rcases own_ways h with ⟨_, ao, cap, rfl⟩ | ⟨_, g, cap, rfl, _⟩
  · exact ⟨_, _, _, rfl⟩
  · exact ⟨_, _, _, rfl⟩
theorem row_cells {w : World} {base : Nat} {e : TypeId} {k n : Nat} {v : Value} {xs : List Value} (h : w.ownsRow base e k v n xs) : ∀ j o, v.ownBlock = some j → w.heap[j]? = some o → o.isCells = true := by
  intro j o e' ho
  rcases h.2 with ⟨hv, _⟩ | ⟨g, cap, cur, hv, _, hgb, _⟩
  · rw [hv] at e'; cases e'
  · rw [hv] at e'
    simp only [Value.ownBlock, Option.some.injEq] at e'
    subst e'
    rw [hgb] at ho; cases ho; rfl
theorem ownFrom_ex {β γ : Type} {B : Nat} {I : γ → β → World → Prop} (h : ∀ v, OwnFrom B (I v)) : OwnFrom B (fun s W => ∃ v, I v s W) := fun s W W' row ⟨v, hv⟩ hg hr => ⟨v, h v s W W' row hv hg hr⟩

end Go.Proofs.Ytkkaicneabkkdaa
