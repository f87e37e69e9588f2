/-
  Blocks that lie as they lay, boxes that hold points, what is owned while others write; no program.
-/
import Derived.RangeFuncNested
import Derived.RangeFuncBound
import Derived.RangeFuncCalls
import Derived.RangeFuncLeaves
import Derived.Shelf.Abstract
import Derived.OwnWalkIn
import Derived.TacticsInMore
import Derived.LoopNIn
import Derived.LoopIn
import Derived.Test.YtjjeekmhpcllaaaOnMath
namespace Go.Proofs.Ytjjeekmhpcllaaa
open Go.RowKit Go.Shelf

attribute [local go_sem] Oper.semAt_some

/-- A point as a value. -/
def ptV (x : Int × Int) : Value := .agg #[.int .i64 x.1, .int .i64 x.2]
theorem below_grown {W w1 : World} (h : Below W.heap.size W w1) : W.grownBy w1 none := ⟨h.os, h.tape, h.output, h.size, fun k hk _ => h.block k hk⟩

/-- The blocks from lo to hi lie as they lay; none has gone. -/
def Btw (lo hi : Nat) (W W' : World) : Prop := W.heap.size ≤ W'.heap.size ∧ ∀ k, lo ≤ k → k < hi → W'.heap[k]? = W.heap[k]?
theorem btw_refl (lo hi : Nat) (W : World) : Btw lo hi W W := ⟨Nat.le_refl _, fun _ _ _ => rfl⟩
theorem btw_trans {lo hi : Nat} {A B C : World} (h : Btw lo hi A B) (k : Btw lo hi B C) : Btw lo hi A C := ⟨Nat.le_trans h.1 k.1, fun i h1 h2 => (k.2 i h1 h2).trans (h.2 i h1 h2)⟩
theorem btw_below {lo hi B : Nat} {W W' : World} (h : Below B W W') (hB : hi ≤ B) : Btw lo hi W W' := ⟨h.size, fun k _ hk => h.block k (by omega)⟩
theorem btw_alloc {lo hi : Nat} (W : World) (o : Obj) (h : hi ≤ W.heap.size) : Btw lo hi W (W.alloc o) := btw_below ((Below.refl hi W).alloc h o) (Nat.le_refl _)
theorem btw_grown {lo hi : Nat} {W W' : World} {row : Option Nat} (h : W.grownBy W' row) (hi' : hi ≤ W.heap.size) (hr : ∀ g, row = some g → g < lo ∨ hi ≤ g) : Btw lo hi W W' :=
  ⟨h.size, fun k h1 h2 => h.block k (by omega) (fun e => by have := hr k e.symm; omega)⟩
theorem btw_setCell {lo hi : Nat} (W : World) (a : Addr) (v : Value) (h : a.block < lo ∨ hi ≤ a.block) : Btw lo hi W (W.setCell a v) :=
  ⟨by simp [World.setCell], fun k h1 h2 => Below.heap_setCell W a v k (by omega)⟩
theorem btw_putObj {lo hi : Nat} {w : World} (h : hi ≤ w.heap.size) (W : World) (l : Nat) (o o' : Obj) (hl : w.heap.size ≤ l) (_ : W.heap[l]? = some o) (_ : o.isCells = false) (_ : o.isWalk = false) : Btw lo hi W (W.putObj l o') := by
  have hg := grownBy_putObj' W l o'
  exact ⟨hg.size, fun k h1 h2 => hg.block k (by
    rcases Nat.lt_or_ge k W.heap.size with h3 | h3
    · exact h3
    · have := (Array.getElem?_eq_some_iff.1 (by assumption : W.heap[l]? = some o)).1; omega) (fun e => by cases e; omega)⟩
theorem btw_cell {lo hi : Nat} {W W' : World} (h : Btw lo hi W W') {b : Nat} (h1 : lo ≤ b) (h2 : b < hi) (j : Nat) : W'.cell? ⟨b, j, none⟩ = W.cell? ⟨b, j, none⟩ := World.cell?_of_block (a := ⟨b, j, none⟩) (h.2 b h1 h2)

/-- A box that holds a point. -/
def Box2 (W : World) (B : Nat) (t : TypeId) (x : Int × Int) : Prop := W.heap[B]? = some (.cells #[.int .i64 x.1, .int .i64 x.2] t (0, 0))
theorem box2_cell1 {W : World} {B : Nat} {t : TypeId} {x : Int × Int} (h : Box2 W B t x) : W.cell? ⟨B, 0, none⟩ = some (.int .i64 x.1) := by simp [World.cell?, show W.heap[B]? = _ from h]
theorem box2_cell2 {W : World} {B : Nat} {t : TypeId} {x : Int × Int} (h : Box2 W B t x) : W.cell? ⟨B, 1, none⟩ = some (.int .i64 x.2) := by simp [World.cell?, show W.heap[B]? = _ from h]
theorem box2_own (B C : Nat) (t : TypeId) (x : Int × Int) : OwnFrom C (fun (_ : Unit) W => Box2 W B t x) := fun _ X Y row hs hg hrow =>
  (hg.block B (Array.getElem?_eq_some_iff.1 hs).1 (fun e' => by
    obtain ⟨_, o, ho, hc⟩ := hrow B e'.symm
    rw [show X.heap[B]? = _ from hs] at ho; cases ho; cases hc)).trans hs
theorem box2_new (W : World) (t : TypeId) (x : Int × Int) : Box2 (W.alloc (.cells #[.int .i64 x.1, .int .i64 x.2] t)) W.heap.size t x := World.alloc_heap_new W _
theorem row_own {β : Type} (n₀ : Nat) (e : TypeId) (size : Nat) (v : β → Value) (k : β → Nat) (f : β → List Value) : Own (fun s W => W.ownsRow n₀ e size (v s) (k s) (f s)) := by
  rintro s X Y row hr hg hrow
  refine hr.kept hg ?_
  rcases hr.2 with ⟨hv, _⟩ | ⟨g, cap, cur, hv, _, hgb, _⟩
  · rw [hv]; exact .inl rfl
  · rw [hv]; refine .inr fun e' => ?_
    obtain ⟨o, ho, hc⟩ := hrow g (by simpa [Value.ownBlock] using e'.symm)
    rw [hgb] at ho; cases ho; cases hc
theorem size_own {β : Type} (B n : Nat) : OwnFrom B (fun (_ : β) W => n ≤ W.heap.size) := fun _ _ _ _ hs hg _ => Nat.le_trans hs hg.size

theorem btw_own {β : Type} {lo hi : Nat} {W0 : World} (h : hi ≤ W0.heap.size) : OwnFrom W0.heap.size (fun (_ : β) W => Btw lo hi W0 W) := fun _ _ _ _ hs hg hr =>
  btw_trans hs (btw_grown hg (Nat.le_trans h hs.1) (fun g e => .inr (Nat.le_trans h (hr g e).1)))
theorem below_drew {W w' : World} (h : Below W.drew.heap.size W.drew w') : Below W.heap.size W w' := ⟨h.os, h.tape, h.output, h.size, h.block⟩

end Go.Proofs.Ytjjeekmhpcllaaa
