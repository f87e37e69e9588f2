/-
  Whether a point is on a line; no program.
  The first two points of a line.
  The points of a line: those of the grid that are on it, row by row, are the combinations of the first two; no program.
  Blocks that lie as they lay, boxes that hold points, what is owned while others write; no program.
-/
import Derived.Test.YtibfbdgenamlkaaMath
import Derived.Test.YtibfbdgenamlkaaBaseMath
import Derived.Test.YtibfbdgenamlkaaSlice
import Derived.RangeFuncNested
import Derived.RangeFuncBound
import Derived.RangeFuncCalls
import Derived.RangeFuncLeaves
import Derived.Shelf.Abstract
import Derived.OwnWalkIn
import Derived.TacticsInMore
import Derived.LoopNIn
import Derived.LoopIn

namespace Go.Proofs.Ytibfbdgenamlkaa

/-- Whether the point is on the line. -/
def onB (p a1 a2 l1 l2 l3 : Int) : Bool := (l1 * a1 + l2 * a2 + l3) % p == 0

end Go.Proofs.Ytibfbdgenamlkaa

namespace Go.Proofs.Ytibfbdgenamlkaa
open Go.RowKit

/-- The first two points of a line, in order. -/
def sqS1 (p _l1 l2 l3 : Int) : Int := if (l2 == 0) = true then (-l3) % p else 0
def sqS2 (p _l1 l2 l3 : Int) : Int := if (l2 == 0) = true then 0 else (-l3 * inv p l2) % p
def sqN1 (p _l1 l2 l3 : Int) : Int := if (l2 == 0) = true then (-l3) % p else 1
def sqN2 (p l1 l2 l3 : Int) : Int := if (l2 == 0) = true then 1 else (-(l1 + l3) * inv p l2) % p
/-- What the maker of an iterator leaves: a function that has captured three boxes: the prime, two points. -/
def SeqMade (g : Nat) (p s1 s2 n1 n2 : Int) (w : World) (e : Ending) (w' : World) : Prop :=
  ∃ b0 b1 b2 : Nat, e = .returned (.func (.func g) #[] #[.pointer (some ⟨b0, 0, none⟩), .pointer (some ⟨b1, 0, none⟩), .pointer (some ⟨b2, 0, none⟩)]) ∧
    w'.cell? ⟨b1, 0, none⟩ = some (.int .i64 s1) ∧ w'.cell? ⟨b1, 1, none⟩ = some (.int .i64 s2) ∧ w'.cell? ⟨b2, 0, none⟩ = some (.int .i64 n1) ∧ w'.cell? ⟨b2, 1, none⟩ = some (.int .i64 n2) ∧
    w'.cell? ⟨b0, 0, none⟩ = some (.int .i64 p) ∧ w.heap.size ≤ b0 ∧ w.heap.size ≤ b1 ∧ w.heap.size ≤ b2 ∧ Below w.heap.size w w'
theorem seqMade_mk {g b0 b1 b2 : Nat} {p s1 s2 n1 n2 : Int} {w w' : World} (h1 : w'.cell? ⟨b1, 0, none⟩ = some (.int .i64 s1)) (h2 : w'.cell? ⟨b1, 1, none⟩ = some (.int .i64 s2)) (h3 : w'.cell? ⟨b2, 0, none⟩ = some (.int .i64 n1))
    (h4 : w'.cell? ⟨b2, 1, none⟩ = some (.int .i64 n2)) (h0 : w'.cell? ⟨b0, 0, none⟩ = some (.int .i64 p)) (g0 : w.heap.size ≤ b0) (g1 : w.heap.size ≤ b1) (g2 : w.heap.size ≤ b2) (hb : Below w.heap.size w w') :
    SeqMade g p s1 s2 n1 n2 w (.returned (.func (.func g) #[] #[.pointer (some ⟨b0, 0, none⟩), .pointer (some ⟨b1, 0, none⟩), .pointer (some ⟨b2, 0, none⟩)])) w' := ⟨b0, b1, b2, rfl, h1, h2, h3, h4, h0, g0, g1, g2, hb⟩
end Go.Proofs.Ytibfbdgenamlkaa

namespace Go.Proofs.Ytibfbdgenamlkaa
open Go.RowKit

/-- The numbers of points, one behind the other. -/
def flat (xs : List (Int × Int)) : List Int := xs.flatMap fun x => [x.1, x.2]
theorem flat_append (xs : List (Int × Int)) (x : Int × Int) : flat (xs ++ [x]) = flat xs ++ [x.1, x.2] := by simp [flat]
theorem flat_length (xs : List (Int × Int)) : (flat xs).length = xs.length * 2 := by
  induction xs with
  | nil => rfl
  | cons x xs ih => simp [flat] at ih ⊢; omega
/-- The combinations of two points with the numbers below k. -/
def cbs (p s1 s2 n1 n2 : Int) (k : Nat) : List (Int × Int) := (List.range k).map fun t : Nat => (cmb p s1 n1 (t : Int), cmb p s2 n2 (t : Int))
/-- A row of the grid, up to y; the rows below x. -/
def rowL (f : Int → Int → Bool) (x y : Nat) : List (Int × Int) := ((List.range y).filter fun b : Nat => f (x : Int) (b : Int)).map fun b : Nat => ((x : Int), (b : Int))
def gridL (f : Int → Int → Bool) (m x : Nat) : List (Int × Int) := (List.range x).flatMap fun a : Nat => rowL f a m
theorem rowL_yes {f : Int → Int → Bool} {x y : Nat} (h : f x y = true) : rowL f x (y + 1) = rowL f x y ++ [((x : Int), (y : Int))] := by simp [rowL, List.range_succ, List.filter_append, h]
theorem rowL_no {f : Int → Int → Bool} {x y : Nat} (h : f x y = false) : rowL f x (y + 1) = rowL f x y := by simp [rowL, List.range_succ, List.filter_append, h]
theorem rowL_le (f : Int → Int → Bool) (x y : Nat) : (rowL f x y).length ≤ y := by
  have := List.length_filter_le (fun b : Nat => f (x : Int) (b : Int)) (List.range y)
  simpa [rowL] using this
theorem gridL_succ (f : Int → Int → Bool) (m x : Nat) : gridL f m (x + 1) = gridL f m x ++ rowL f x m := by simp [gridL, List.range_succ]
theorem gridL_le (f : Int → Int → Bool) (m x : Nat) : (gridL f m x).length ≤ x * m := by
  induction x with
  | zero => simp [gridL]
  | succ x ih =>
    have := rowL_le f x m
    rw [gridL_succ, List.length_append, Nat.add_mul]; omega

/-- A test with one answer. -/
theorem filter_one {m y0 : Nat} {f : Nat → Bool} (h : ∀ b, b < m → f b = decide (b = y0)) : (List.range m).filter f = if y0 < m then [y0] else [] := by
  induction m with
  | zero => simp
  | succ m ih =>
    rw [List.range_succ, List.filter_append, ih fun b hb => h b (by omega)]
    have hm := h m (by omega)
    by_cases e : m = y0
    · subst e; simp [hm]
    · have hq : (y0 < m + 1) = (y0 < m) := propext ⟨fun _ => by omega, fun _ => by omega⟩
      simp only [hq]; simp [hm, e]
theorem filter_all {m : Nat} {f : Nat → Bool} (h : ∀ b, b < m → f b = true) : (List.range m).filter f = List.range m := by
  rw [List.filter_eq_self]; intro b hb; exact h b (List.mem_range.1 hb)
theorem filter_none {m : Nat} {f : Nat → Bool} (h : ∀ b, b < m → f b = false) : (List.range m).filter f = [] := by
  rw [List.filter_eq_nil_iff]; intro b hb; rw [h b (List.mem_range.1 hb)]; simp
/-- One point a row. -/
theorem grid_each {f : Int → Int → Bool} {m : Nat} {g : Nat → Nat} : ∀ x : Nat, (∀ a, a < x → g a < m ∧ ∀ b, b < m → f (a : Int) (b : Int) = decide (b = g a)) → gridL f m x = (List.range x).map fun a : Nat => ((a : Int), (g a : Int))
  | 0, _ => rfl
  | x + 1, h => by
    rw [gridL_succ, grid_each x fun a ha => h a (by omega), List.range_succ, List.map_append]
    congr 1
    rw [rowL, filter_one (h x (by omega)).2, if_pos (h x (by omega)).1]; rfl
/-- One row alone. -/
theorem grid_alone {f : Int → Int → Bool} {m x0 : Nat} : ∀ x : Nat, (∀ a, a < x → ∀ b, b < m → f (a : Int) (b : Int) = decide (a = x0)) → gridL f m x = if x0 < x then (List.range m).map fun b : Nat => ((x0 : Int), (b : Int)) else []
  | 0, _ => by simp [gridL]
  | x + 1, h => by
    rw [gridL_succ, grid_alone x fun a ha => h a (by omega)]
    by_cases e : x = x0
    · subst e
      rw [if_neg (by omega), if_pos (by omega), List.nil_append, rowL, filter_all fun b hb => by rw [h x (by omega) b hb]; simp]
    · rw [rowL, filter_none fun b hb => by rw [h x (by omega) b hb]; simp [e]]
      have hq : (x0 < x + 1) = (x0 < x) := propext ⟨fun _ => by omega, fun _ => by omega⟩
      simp only [hq]; simp

section
variable {n : Nat} [NeZero n]
theorem onB_iff {l1 l2 l3 x y : Int} : onB n x y l1 l2 l3 = true ↔ K n l1 * K n x + K n l2 * K n y + K n l3 = 0 := by
  rw [onB, beq_iff_eq, ← K_eq_zero, K_add, K_add, K_mul, K_mul]
end
/-- The points of a line by rows are the combinations of its first two. -/
theorem points_line {p l1 l2 l3 : Int} (hp : isP p = true) (hl : leadB l1 l2 = true) (h1 : 0 ≤ l1 ∧ l1 < p) (h2 : 0 ≤ l2 ∧ l2 < p) (h3 : 0 ≤ l3 ∧ l3 < p) :
    cbs p (sqS1 p l1 l2 l3) (sqS2 p l1 l2 l3) (sqN1 p l1 l2 l3) (sqN2 p l1 l2 l3) p.toNat = gridL (fun x y => onB p x y l1 l2 l3) p.toNat p.toNat := by
  have hr := isP_range hp
  obtain ⟨n, rfl⟩ := Int.eq_ofNat_of_zero_le (by omega : 0 ≤ p)
  haveI := neZero_of hp
  rw [Int.toNat_natCast]
  have cast0 : ∀ x : Int, 0 ≤ x % n ∧ x % n < n := fun x => ⟨Int.emod_nonneg _ (by omega), Int.emod_lt_of_pos _ (by omega)⟩
  by_cases hb : l2 = 0
  · subst hb
    have hl1 : l1 = 1 := by rcases lead_ways hl with h | ⟨_, h⟩ <;> omega
    subst hl1
    obtain ⟨x0, hx0⟩ := Int.eq_ofNat_of_zero_le (cast0 (-l3)).1
    have hx1 := (cast0 (-l3)).2
    rw [grid_alone (x0 := x0) n ?_, if_pos (by omega)]
    · unfold cbs
      refine List.map_congr_left fun t ht => ?_
      have ht' := List.mem_range.1 ht
      simp only [sqS1, sqS2, sqN1, sqN2, beq_self_eq_true, if_true, hx0, cmb, Prod.mk.injEq]
      constructor
      · rw [Int.sub_self, Int.mul_zero, Int.add_zero, Int.emod_eq_of_lt (by omega) (by omega)]
      · rw [Int.sub_zero, Int.mul_one, Int.zero_add, Int.emod_eq_of_lt (by omega) (by omega)]
    · intro a ha b hb
      rw [Bool.eq_iff_iff, onB_iff, decide_eq_true_iff]
      have hk : K n (x0 : Int) = - K n l3 := by rw [← hx0, K_mod, K_neg]
      rw [K_one, K_zero]
      constructor
      · intro h
        have : K n (a : Int) = K n (x0 : Int) := by rw [hk]; grind
        have := K_inj (n := n) ⟨by omega, by omega⟩ ⟨by omega, by omega⟩ this
        omega
      · rintro rfl
        rw [hk]; grind
  · have hk2 : K n l2 ≠ 0 := K_small h2 hb
    have hinv := K_inv hp hk2
    have hbe : (l2 == 0) = false := by simpa using hb
    have hy : ∀ a : Nat, ∃ y : Nat, y < n ∧ K n (y : Int) = -(K n l1 * K n (a : Int) + K n l3) * K n (inv n l2) := fun a => by
      obtain ⟨y, e⟩ := Int.eq_ofNat_of_zero_le (cast0 (-(l1 * a + l3) * inv n l2)).1
      have := (cast0 (-(l1 * a + l3) * inv n l2)).2
      exact ⟨y, by omega, by rw [← e, K_mod, K_mul, K_neg, K_add, K_mul]⟩
    rw [grid_each (g := fun a => Classical.choose (hy a)) n ?_]
    · unfold cbs
      refine List.map_congr_left fun t ht => ?_
      have ht' := List.mem_range.1 ht
      obtain ⟨c1, c2⟩ := Classical.choose_spec (hy t)
      simp only [sqS1, sqS2, sqN1, sqN2, hbe, Bool.false_eq_true, if_false, cmb, Prod.mk.injEq]
      constructor
      · rw [Int.sub_zero, Int.mul_one, Int.zero_add, Int.emod_eq_of_lt (by omega) (by omega)]
      · refine K_inj (n := n) (cast0 _) ⟨by omega, by omega⟩ ?_
        rw [c2]
        simp only [K_mod, K_add, K_mul, K_sub, K_neg]
        grind
    · intro a ha
      obtain ⟨c1, c2⟩ := Classical.choose_spec (hy a)
      refine ⟨c1, fun b hb' => ?_⟩
      rw [Bool.eq_iff_iff, onB_iff, decide_eq_true_iff]
      constructor
      · intro h
        have : K n (b : Int) = K n ((Classical.choose (hy a) : Nat) : Int) := by rw [c2]; grind
        have := K_inj (n := n) ⟨by omega, by omega⟩ ⟨by omega, by omega⟩ this
        omega
      · intro h
        rw [h, c2]; grind

end Go.Proofs.Ytibfbdgenamlkaa

namespace Go.Proofs.Ytibfbdgenamlkaa
open Go.RowKit Go.Shelf

attribute [local go_sem] Oper.semAt_some

/-- A point as a value. -/
def ptV (x : Int × Int) : Value := .agg #[.int .i64 x.1, .int .i64 x.2]
theorem below_grown {W w1 : World} (h : Below W.heap.size W w1) : W.grownBy w1 none := ⟨h.os, h.tape, h.output, h.size, fun k hk _ => h.block k hk⟩

/-- The blocks from lo to hi lie as they lay; none has gone. -/
def Btw (lo hi : Nat) (W W' : World) : Prop := W.heap.size ≤ W'.heap.size ∧ ∀ k, lo ≤ k → k < hi → W'.heap[k]? = W.heap[k]?
theorem btw_refl (lo hi : Nat) (W : World) : Btw lo hi W W := ⟨Nat.le_refl _, fun _ _ _ => rfl⟩
theorem btw_trans {lo hi : Nat} {A B C : World} (h : Btw lo hi A B) (k : Btw lo hi B C) : Btw lo hi A C := ⟨Nat.le_trans h.1 k.1, fun i h1 h2 => (k.2 i h1 h2).trans (h.2 i h1 h2)⟩
theorem btw_below {lo hi B : Nat} {W W' : World} (h : Below B W W') (hB : hi ≤ B) : Btw lo hi W W' := ⟨h.size, fun k _ hk => h.block k (by omega)⟩
theorem btw_alloc {lo hi : Nat} (W : World) (o : Obj) (h : hi ≤ W.heap.size) : Btw lo hi W (W.alloc o) := btw_below ((Below.refl hi W).alloc h o) (Nat.le_refl _)
theorem btw_grown {lo hi : Nat} {W W' : World} {row : Option Nat} (h : W.grownBy W' row) (hi' : hi ≤ W.heap.size) (hr : ∀ g, row = some g → g < lo ∨ hi ≤ g) : Btw lo hi W W' :=
  ⟨h.size, fun k h1 h2 => h.block k (by omega) (fun e => by have := hr k e.symm; omega)⟩
theorem btw_setCell {lo hi : Nat} (W : World) (a : Addr) (v : Value) (h : a.block < lo ∨ hi ≤ a.block) : Btw lo hi W (W.setCell a v) :=
  ⟨by simp [World.setCell], fun k h1 h2 => Below.heap_setCell W a v k (by omega)⟩
theorem btw_putObj {lo hi : Nat} {w : World} (h : hi ≤ w.heap.size) (W : World) (l : Nat) (o o' : Obj) (hl : w.heap.size ≤ l) (_ : W.heap[l]? = some o) (_ : o.isCells = false) (_ : o.isWalk = false) : Btw lo hi W (W.putObj l o') := by
  have hg := grownBy_putObj' W l o'
  exact ⟨hg.size, fun k h1 h2 => hg.block k (by
    rcases Nat.lt_or_ge k W.heap.size with h3 | h3
    · exact h3
    · have := (Array.getElem?_eq_some_iff.1 (by assumption : W.heap[l]? = some o)).1; omega) (fun e => by cases e; omega)⟩
theorem btw_cell {lo hi : Nat} {W W' : World} (h : Btw lo hi W W') {b : Nat} (h1 : lo ≤ b) (h2 : b < hi) (j : Nat) : W'.cell? ⟨b, j, none⟩ = W.cell? ⟨b, j, none⟩ := World.cell?_of_block (a := ⟨b, j, none⟩) (h.2 b h1 h2)

/-- A box that holds a point. -/
def Box2 (W : World) (B : Nat) (t : TypeId) (x : Int × Int) : Prop := W.heap[B]? = some (.cells #[.int .i64 x.1, .int .i64 x.2] t (0, 0))
theorem box2_cell1 {W : World} {B : Nat} {t : TypeId} {x : Int × Int} (h : Box2 W B t x) : W.cell? ⟨B, 0, none⟩ = some (.int .i64 x.1) := by simp [World.cell?, show W.heap[B]? = _ from h]
theorem box2_cell2 {W : World} {B : Nat} {t : TypeId} {x : Int × Int} (h : Box2 W B t x) : W.cell? ⟨B, 1, none⟩ = some (.int .i64 x.2) := by simp [World.cell?, show W.heap[B]? = _ from h]
theorem box2_own (B C : Nat) (t : TypeId) (x : Int × Int) : OwnFrom C (fun (_ : Unit) W => Box2 W B t x) := fun _ X Y row hs hg hrow =>
  (hg.block B (Array.getElem?_eq_some_iff.1 hs).1 (fun e' => by
    obtain ⟨_, o, ho, hc⟩ := hrow B e'.symm
    rw [show X.heap[B]? = _ from hs] at ho; cases ho; cases hc)).trans hs
theorem box2_new (W : World) (t : TypeId) (x : Int × Int) : Box2 (W.alloc (.cells #[.int .i64 x.1, .int .i64 x.2] t)) W.heap.size t x := World.alloc_heap_new W _
theorem row_own {β : Type} (n₀ : Nat) (e : TypeId) (size : Nat) (v : β → Value) (k : β → Nat) (f : β → List Value) : Own (fun s W => W.ownsRow n₀ e size (v s) (k s) (f s)) := by
  rintro s X Y row hr hg hrow
  refine hr.kept hg ?_
  rcases hr.2 with ⟨hv, _⟩ | ⟨g, cap, cur, hv, _, hgb, _⟩
  · rw [hv]; exact .inl rfl
  · rw [hv]; refine .inr fun e' => ?_
    obtain ⟨o, ho, hc⟩ := hrow g (by simpa [Value.ownBlock] using e'.symm)
    rw [hgb] at ho; cases ho; cases hc
theorem size_own {β : Type} (B n : Nat) : OwnFrom B (fun (_ : β) W => n ≤ W.heap.size) := fun _ _ _ _ hs hg _ => Nat.le_trans hs hg.size

theorem btw_own {β : Type} {lo hi : Nat} {W0 : World} (h : hi ≤ W0.heap.size) : OwnFrom W0.heap.size (fun (_ : β) W => Btw lo hi W0 W) := fun _ _ _ _ hs hg hr =>
  btw_trans hs (btw_grown hg (Nat.le_trans h hs.1) (fun g e => .inr (Nat.le_trans h (hr g e).1)))
theorem below_drew {W w' : World} (h : Below W.drew.heap.size W.drew w') : Below W.heap.size W w' := ⟨h.os, h.tape, h.output, h.size, h.block⟩

end Go.Proofs.Ytibfbdgenamlkaa
