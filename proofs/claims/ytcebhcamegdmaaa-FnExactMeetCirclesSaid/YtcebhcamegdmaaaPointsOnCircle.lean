/-
  impl.pointsOnCircle: the points of a row that are on a circle.
-/
import Derived.Test.YtcebhcamegdmaaaSeqAll
import Derived.Test.YtcebhcamegdmaaaPtCells
import Derived.Test.YtcebhcamegdmaaaSpecAt02
import Derived.Test.YtcebhcamegdmaaaImplIsOn
import Derived.Test.YtcebhcamegdmaaaRangeOn
namespace Go.Proofs.Ytcebhcamegdmaaa
open Go.RowKit Go.Shelf

attribute [local go_sem] Oper.semAt_some

theorem btw_ownLe {β : Type} {lo hi B : Nat} {W0 : World} (h : hi ≤ W0.heap.size ∧ hi ≤ B) : OwnFrom B (fun (_ : β) W => Btw lo hi W0 W) := fun _ _ _ _ hs hg hr =>
  btw_trans hs (btw_grown hg (Nat.le_trans h.1 hs.1) (fun g e => .inr (Nat.le_trans h.2 (hr g e).1)))
theorem own_isSlice {w : World} {base : Nat} {e : TypeId} {k n : Nat} {v : Value} {xs : List Value} (h : w.ownsRow base e k v n xs) : ∃ ao m cap, v = .slice ao m cap := by
  rcases own_ways h with ⟨_, ao, cap, rfl⟩ | ⟨_, g, cap, rfl, _⟩
  · exact ⟨_, _, _, rfl⟩
  · exact ⟨_, _, _, rfl⟩
theorem row_cells {w : World} {base : Nat} {e : TypeId} {k n : Nat} {v : Value} {xs : List Value} (h : w.ownsRow base e k v n xs) : ∀ j o, v.ownBlock = some j → w.heap[j]? = some o → o.isCells = true := by
  intro j o e' ho
  rcases h.2 with ⟨hv, _⟩ | ⟨g, cap, cur, hv, _, hgb, _⟩
  · rw [hv] at e'; cases e'
  · rw [hv] at e'
    simp only [Value.ownBlock, Option.some.injEq] at e'
    subst e'
    rw [hgb] at ho; cases ho; rfl
theorem ownFrom_ex {β γ : Type} {B : Nat} {I : γ → β → World → Prop} (h : ∀ v, OwnFrom B (I v)) : OwnFrom B (fun s W => ∃ v, I v s W) := fun s W W' row ⟨v, hv⟩ hg hr => ⟨v, h v s W W' row hv hg hr⟩
/-- What a body keeps that writes rows of points and slices of points alone: all cells of other types. -/
def KeepT (W W' : World) : Prop := W.heap.size ≤ W'.heap.size ∧ ∀ (b : Nat) (cs : Array Value) (t : TypeId) (tg), W.heap[b]? = some (Obj.cells cs t tg) → t ≠ 26 → t ≠ 45 → W'.heap[b]? = some (Obj.cells cs t tg)
theorem kt_trans {A B C : World} (h : KeepT A B) (k : KeepT B C) : KeepT A C := ⟨Nat.le_trans h.1 k.1, fun b cs t tg h1 h2 h3 => k.2 b cs t tg (h.2 b cs t tg h1 h2 h3) h2 h3⟩
theorem kt_grown {W W' : World} {row : Option Nat} (h : W.grownBy W' row) (hr : ∀ (r : Nat) (cs : Array Value) (t : TypeId) (tg), row = some r → W.heap[r]? = some (Obj.cells cs t tg) → t = 26 ∨ t = 45) : KeepT W W' :=
  ⟨h.size, fun b cs t tg h1 h2 h3 => (h.block b (Array.getElem?_eq_some_iff.1 h1).1 (fun e => by rcases hr b cs t tg e.symm h1 with e | e; exact h2 e; exact h3 e)).trans h1⟩
theorem kt_none {W W' : World} (h : W.grownBy W' none) : KeepT W W' := kt_grown h fun _ _ _ _ e => by cases e
theorem kt_row {w : World} {base : Nat} {k n : Nat} {v : Value} {xs : List Value} (h : w.ownsRow base 26 k v n xs) : ∀ (r : Nat) (cs : Array Value) (t : TypeId) (tg), v.ownBlock = some r → w.heap[r]? = some (Obj.cells cs t tg) → t = 26 ∨ t = 45 := by
  intro r cs t tg e ho
  rcases h.2 with ⟨hv, _⟩ | ⟨g, cap, cur, hv, _, hgb, _⟩
  · rw [hv] at e; cases e
  · rw [hv] at e
    simp only [Value.ownBlock, Option.some.injEq] at e
    subst e
    rw [hgb] at ho; cases ho; exact .inl rfl
/-- .. and the blocks from lo to hi. -/
def KeepBT (lo hi : Nat) (W W' : World) : Prop := Btw lo hi W W' ∧ KeepT W W'
theorem bt_trans {lo hi : Nat} {A B C : World} (h : KeepBT lo hi A B) (k : KeepBT lo hi B C) : KeepBT lo hi A C := ⟨btw_trans h.1 k.1, kt_trans h.2 k.2⟩
theorem bt_put {lo hi r : Nat} (hr : hi ≤ r) (W : World) (o o' : Obj) (h : W.heap[r]? = some o) (hc : o.isCells = false) : KeepBT lo hi W (W.putObj r o') :=
  ⟨btw_grown (grownBy_putObj' W r o') (by have := (Array.getElem?_eq_some_iff.1 h).1; omega) (fun g e => by cases e; exact .inr hr), kt_grown (grownBy_putObj' W r o') (fun g cs t tg e hg => by cases e; rw [h] at hg; cases hg; cases hc)⟩

/-- The points of a row that are on a circle. -/
def flC (p c k1 k2 k3 : Int) (L : List Pt32) : List (Int × Int) := (L.map toP).filter fun x => onC p c k1 k2 k3 x.1 x.2
theorem flC_yes {p c k1 k2 k3 : Int} (L : List Pt32) {x : Pt32} (h : onC p c k1 k2 k3 (toP x).1 (toP x).2 = true) : flC p c k1 k2 k3 (L ++ [x]) = flC p c k1 k2 k3 L ++ [toP x] := by simp [flC, h]
theorem flC_no {p c k1 k2 k3 : Int} (L : List Pt32) {x : Pt32} (h : onC p c k1 k2 k3 (toP x).1 (toP x).2 = false) : flC p c k1 k2 k3 (L ++ [x]) = flC p c k1 k2 k3 L := by simp [flC, h]
theorem flC_le (p c k1 k2 k3 : Int) (L : List Pt32) : (flC p c k1 k2 k3 L).length ≤ L.length := by
  have := List.length_filter_le (fun x => onC p c k1 k2 k3 x.1 x.2) (L.map toP)
  simpa [flC] using this

set_option maxRecDepth 100000 in
set_option maxRecDepth 20000 in
set_option maxHeartbeats 4000000 in
theorem pointsOnCircleN_any (L : List Pt32) (N lo hi gf : Nat) (lb : Array Value) (p c k1 k2 k3 : Int) (w : World) (hp : isP p = true) (hc : colB c = true) (hk1 : 0 ≤ k1 ∧ k1 < p) (hk2 : 0 ≤ k2 ∧ k2 < p)
    (he : ∀ args w, (callFunc gf args).run Try.prog w = .ok (.enter gf args) w) (hN : N ≤ 4096) (hhi : hi ≤ w.heap.size)
    (hseq : ∀ W : World, Below w.heap.size w W → SeqOn Fence.wide 8 Try.prog gf lb (fun x : Pt32 => #[ptV (toP x)]) (KeepBT lo hi) (fun ys => ys = L) (fun pre => pre <+: L) N W) :
    Calls Try.prog 72 #[.int .i64 p, .int .i64 c, .agg #[.int .i64 k1, .int .i64 k2, .int .i64 k3], .func (.func gf) #[] lb] w fun e w' => OnePost 26 2 (flat (flC p c k1 k2 k3 L)) (flC p c k1 k2 k3 L).length w e w' := by
  have hr := isP_range hp
  have hcr := colB_range hc
  obtain ⟨i0, hi0, hz0, hz1, hz2⟩ := info_parts infoPt
  refine (callsIn_wide (n := 9)).1 ?_
  refine callsIn_of_wp_marks Try.func72 rfl trivial ?_ rfl
  simp only [Try.ntmps72, List.size_toArray, List.length_cons, List.length_nil, Nat.reduceAdd, Nat.reduceSub, Array.replicate_succ, Array.replicate_zero, List.push_toArray, List.append_toArray, List.nil_append, List.cons_append]
  gi_wp2_with fail
  have q0 : ((((w.alloc (.cells #[.int .i64 p] 2)).alloc (.cells #[.int .i64 c] 2)).alloc (.cells #[.int .i64 k1, .int .i64 k2, .int .i64 k3] 35)).alloc (.cells #[.slice none 0 0] 45)).cell? ⟨w.heap.size, 0, none⟩ = some (.int .i64 p) := by (repeat (first | with_reducible assumption | ((with_reducible refine kfresh ?_ ?_) <;> (first | with_reducible rfl | (simp; done))) | ((with_reducible refine ksameS ?_); focus ((repeat (first | with_reducible exact kis_of (by with_reducible assumption) | with_reducible refine kis_set ?_ | ((with_reducible refine kis_new ?_ ?_) <;> (first | with_reducible rfl | rfl | (simp; done))) | with_reducible refine kis_alloc _ ?_ | with_reducible refine kis_drew ?_ | with_reducible refine kis_call (by with_reducible assumption) ?_ | with_reducible exact kis_of (kcall (by with_reducible assumption) (by with_reducible assumption)))); done)) | with_reducible refine kother (by decide) ?_ | with_reducible refine kset (by first | omega | (simp; done) | (simp; omega)) ?_ | with_reducible refine kalloc _ ?_ | with_reducible refine kdrew ?_ | with_reducible refine kcall (by with_reducible assumption) ?_))
  have q1 : ((((w.alloc (.cells #[.int .i64 p] 2)).alloc (.cells #[.int .i64 c] 2)).alloc (.cells #[.int .i64 k1, .int .i64 k2, .int .i64 k3] 35)).alloc (.cells #[.slice none 0 0] 45)).cell? ⟨w.heap.size + 1, 0, none⟩ = some (.int .i64 c) := by (repeat (first | with_reducible assumption | ((with_reducible refine kfresh ?_ ?_) <;> (first | with_reducible rfl | (simp; done))) | ((with_reducible refine ksameS ?_); focus ((repeat (first | with_reducible exact kis_of (by with_reducible assumption) | with_reducible refine kis_set ?_ | ((with_reducible refine kis_new ?_ ?_) <;> (first | with_reducible rfl | rfl | (simp; done))) | with_reducible refine kis_alloc _ ?_ | with_reducible refine kis_drew ?_ | with_reducible refine kis_call (by with_reducible assumption) ?_ | with_reducible exact kis_of (kcall (by with_reducible assumption) (by with_reducible assumption)))); done)) | with_reducible refine kother (by decide) ?_ | with_reducible refine kset (by first | omega | (simp; done) | (simp; omega)) ?_ | with_reducible refine kalloc _ ?_ | with_reducible refine kdrew ?_ | with_reducible refine kcall (by with_reducible assumption) ?_))
  have q2 : ((((w.alloc (.cells #[.int .i64 p] 2)).alloc (.cells #[.int .i64 c] 2)).alloc (.cells #[.int .i64 k1, .int .i64 k2, .int .i64 k3] 35)).alloc (.cells #[.slice none 0 0] 45)).cell? ⟨w.heap.size + 1 + 1, 0, none⟩ = some (.int .i64 k1) := by (repeat (first | with_reducible assumption | ((with_reducible refine kfresh ?_ ?_) <;> (first | with_reducible rfl | (simp; done))) | ((with_reducible refine ksameS ?_); focus ((repeat (first | with_reducible exact kis_of (by with_reducible assumption) | with_reducible refine kis_set ?_ | ((with_reducible refine kis_new ?_ ?_) <;> (first | with_reducible rfl | rfl | (simp; done))) | with_reducible refine kis_alloc _ ?_ | with_reducible refine kis_drew ?_ | with_reducible refine kis_call (by with_reducible assumption) ?_ | with_reducible exact kis_of (kcall (by with_reducible assumption) (by with_reducible assumption)))); done)) | with_reducible refine kother (by decide) ?_ | with_reducible refine kset (by first | omega | (simp; done) | (simp; omega)) ?_ | with_reducible refine kalloc _ ?_ | with_reducible refine kdrew ?_ | with_reducible refine kcall (by with_reducible assumption) ?_))
  have q3 : ((((w.alloc (.cells #[.int .i64 p] 2)).alloc (.cells #[.int .i64 c] 2)).alloc (.cells #[.int .i64 k1, .int .i64 k2, .int .i64 k3] 35)).alloc (.cells #[.slice none 0 0] 45)).cell? ⟨w.heap.size + 1 + 1, 1, none⟩ = some (.int .i64 k2) := by (repeat (first | with_reducible assumption | ((with_reducible refine kfresh ?_ ?_) <;> (first | with_reducible rfl | (simp; done))) | ((with_reducible refine ksameS ?_); focus ((repeat (first | with_reducible exact kis_of (by with_reducible assumption) | with_reducible refine kis_set ?_ | ((with_reducible refine kis_new ?_ ?_) <;> (first | with_reducible rfl | rfl | (simp; done))) | with_reducible refine kis_alloc _ ?_ | with_reducible refine kis_drew ?_ | with_reducible refine kis_call (by with_reducible assumption) ?_ | with_reducible exact kis_of (kcall (by with_reducible assumption) (by with_reducible assumption)))); done)) | with_reducible refine kother (by decide) ?_ | with_reducible refine kset (by first | omega | (simp; done) | (simp; omega)) ?_ | with_reducible refine kalloc _ ?_ | with_reducible refine kdrew ?_ | with_reducible refine kcall (by with_reducible assumption) ?_))
  have q4 : ((((w.alloc (.cells #[.int .i64 p] 2)).alloc (.cells #[.int .i64 c] 2)).alloc (.cells #[.int .i64 k1, .int .i64 k2, .int .i64 k3] 35)).alloc (.cells #[.slice none 0 0] 45)).cell? ⟨w.heap.size + 1 + 1, 2, none⟩ = some (.int .i64 k3) := by (repeat (first | with_reducible assumption | ((with_reducible refine kfresh ?_ ?_) <;> (first | with_reducible rfl | (simp; done))) | ((with_reducible refine ksameS ?_); focus ((repeat (first | with_reducible exact kis_of (by with_reducible assumption) | with_reducible refine kis_set ?_ | ((with_reducible refine kis_new ?_ ?_) <;> (first | with_reducible rfl | rfl | (simp; done))) | with_reducible refine kis_alloc _ ?_ | with_reducible refine kis_drew ?_ | with_reducible refine kis_call (by with_reducible assumption) ?_ | with_reducible exact kis_of (kcall (by with_reducible assumption) (by with_reducible assumption)))); done)) | with_reducible refine kother (by decide) ?_ | with_reducible refine kset (by first | omega | (simp; done) | (simp; omega)) ?_ | with_reducible refine kalloc _ ?_ | with_reducible refine kdrew ?_ | with_reducible refine kcall (by with_reducible assumption) ?_))
  have bS : Boxed ((((w.alloc (.cells #[.int .i64 p] 2)).alloc (.cells #[.int .i64 c] 2)).alloc (.cells #[.int .i64 k1, .int .i64 k2, .int .i64 k3] 35)).alloc (.cells #[.slice none 0 0] 45)) (w.heap.size + 1 + 1 + 1) 45 (.slice none 0 0) := by
    have := Boxed.new (((w.alloc (.cells #[.int .i64 p] 2)).alloc (.cells #[.int .i64 c] 2)).alloc (.cells #[.int .i64 k1, .int .i64 k2, .int .i64 k3] 35)) 45 (.slice none 0 0)
    simpa using this
  have hB0 : Below w.heap.size w ((((w.alloc (.cells #[.int .i64 p] 2)).alloc (.cells #[.int .i64 c] 2)).alloc (.cells #[.int .i64 k1, .int .i64 k2, .int .i64 k3] 35)).alloc (.cells #[.slice none 0 0] 45)) := by (repeat (first | with_reducible exact Below.refl _ _ | with_reducible refine balloc ?_ _ | with_reducible refine bdrewN ?_ _ | with_reducible refine Below.drew ?_ | with_reducible refine bthen ?_ (by with_reducible assumption) | with_reducible refine Below.setCell ?_ (by first | (simp; done) | (simp; omega)) _))
  have hsz : ((((w.alloc (.cells #[.int .i64 p] 2)).alloc (.cells #[.int .i64 c] 2)).alloc (.cells #[.int .i64 k1, .int .i64 k2, .int .i64 k3] 35)).alloc (.cells #[.slice none 0 0] 45)).heap.size = w.heap.size + 1 + 1 + 1 + 1 := by simp
  obtain ⟨Wn, hWn⟩ : ∃ Wn, Wn = ((((w.alloc (.cells #[.int .i64 p] 2)).alloc (.cells #[.int .i64 c] 2)).alloc (.cells #[.int .i64 k1, .int .i64 k2, .int .i64 k3] 35)).alloc (.cells #[.slice none 0 0] 45)) := ⟨_, rfl⟩
  rw [← hWn] at q0 q1 q2 q3 q4 bS hB0 hsz ⊢
  clear hWn
  refine range_on rfl (by decide) (gf := gf) (lb := lb) rfl trivial he (hseq Wn hB0) bt_trans (bt_put (by omega)) (Below.refl _ _) (fun _ => rfl)
    (fun pre W => (∃ v, Boxed W (w.heap.size + 1 + 1 + 1) 45 v ∧ W.ownsRow (w.heap.size + 1 + 1 + 1 + 1) 26 2 v (flC p c k1 k2 k3 pre).length (ints (flat (flC p c k1 k2 k3 pre)))) ∧ (Btw 0 (w.heap.size + 1 + 1 + 1) Wn W ∧ (Below w.heap.size w W ∧ w.heap.size + 1 + 1 + 1 + 1 ≤ W.heap.size)))
    (fun _ _ _ => False)
    (OwnFrom.and (ownFrom_ex fun v => OwnFrom.and (Own.from (boxed_own _ _ _) _) (Own.from (row_own _ _ _ _ _ _) _)) (OwnFrom.and (btw_ownLe (by omega)) (OwnFrom.and (ownFrom_below (by omega) hB0.size) (size_own _ _))))
    (fun _ _ _ _ _ hs _ _ => hs)
    ⟨⟨_, bS, World.ownsRow_nil _ _ _ _⟩, btw_refl _ _ _, hB0, by omega⟩
    (fun x a' W => ∃ Bx, w.heap.size + 1 + 1 + 1 + 1 ≤ Bx ∧ Box2 W Bx 26 (toP x) ∧ a' = { tmps := #[.int .i64 p, .int .i64 c, .agg #[.int .i64 k1, .int .i64 k2, .int .i64 k3], .func (.func gf) #[] lb, .pointer (some ⟨w.heap.size, 0, none⟩), .pointer (some ⟨w.heap.size + 1, 0, none⟩), .pointer (some ⟨w.heap.size + 1 + 1, 0, none⟩), undef, .slice none 0 0, .pointer (some ⟨w.heap.size + 1 + 1 + 1, 0, none⟩), .pointer (some ⟨Bx, 0, none⟩), .func (.func gf) #[] lb, .agg #[.int .i64 (x.1.val : Int), .int .i64 (x.2.val : Int)], undef, undef, undef, undef, undef, undef, undef, undef, undef, undef], defers := [] })
    (fun x a' _ X Y row hs hg hr => by obtain ⟨Bx, h1, h2, h3⟩ := hs; exact ⟨Bx, h1, box2_own Bx Wn.heap.size 26 (toP x) () X Y row h2 hg hr, h3⟩)
    ?assign ?body ?done ?stop
  case assign =>
    rintro l pre x W K ⟨⟨v, bx, hrow⟩, hb, hB, hs⟩ hK
    obtain ⟨⟨x1, hx1⟩, ⟨x2, hx2⟩⟩ := x
    simp only [ptV, toP]
    gi_wp2
    exact hK _ _ ((KeepsOthers.alloc _ _).from _) ⟨btw_alloc _ _ (by omega), kt_none (World.grownBy_alloc _ _ none)⟩ ⟨⟨v, bx.alloc _, hrow.alloc _⟩, btw_trans hb (btw_alloc _ _ (by omega)), hB.alloc hB.size _, by simp; omega⟩ ⟨W.heap.size, hs, box2_new W _ (toP ((⟨x1, hx1⟩, ⟨x2, hx2⟩) : Pt32)), rfl⟩
  case body =>
    rintro l pre x a' W ⟨⟨v, bx, hrow⟩, hb, hB, hs⟩ ⟨Bx, hBx, hX, rfl⟩ hlt
    have hX1 := box2_cell1 hX
    have hX2 := box2_cell2 hX
    have hXl := World.block_lt_of_cell? W ⟨Bx, 0, none⟩ hX1
    simp only at hXl
    have hle := flC_le p c k1 k2 k3 pre
    have k0 := (btw_cell hb (Nat.zero_le _) (by omega) 0).trans q0
    have k1' := (btw_cell hb (Nat.zero_le _) (by omega) 0).trans q1
    have k2' := (btw_cell hb (Nat.zero_le _) (by omega) 0).trans q2
    have k3' := (btw_cell hb (Nat.zero_le _) (by omega) 1).trans q3
    have k4' := (btw_cell hb (Nat.zero_le _) (by omega) 2).trans q4
    obtain ⟨⟨x1, hx1⟩, ⟨x2, hx2⟩⟩ := x
    simp only [toP] at hX1 hX2
    have hcall := fun w' => isOn_any p c k1 k2 k3 (x1 : Int) (x2 : Int) w' hp hc hk1 hk2 (by omega) (by omega)
    have hY := flC_yes (p := p) (c := c) (k1 := k1) (k2 := k2) (k3 := k3) pre (x := ((⟨x1, hx1⟩, ⟨x2, hx2⟩) : Pt32))
    have hN' := flC_no (p := p) (c := c) (k1 := k1) (k2 := k2) (k3 := k3) pre (x := ((⟨x1, hx1⟩, ⟨x2, hx2⟩) : Pt32))
    simp only [toP] at hY hN'
    obtain ⟨bo, hbo⟩ : ∃ b, b = onC p c k1 k2 k3 (x1 : Int) (x2 : Int) := ⟨_, rfl⟩
    rw [← hbo] at hcall hY hN'
    have HC := Lib.hid hcall
    have HC := Lib.hid hcall
    clear hcall hbo
    cases bo
    · have HF := Lib.hid (hN' rfl)
      clear hY hN'
      gi_wp2_with fail
      refine ⟨trivial, (CallsIn.inRound l (callsIn_wide.2 (HC.out _))).mono ?_⟩
      rintro e w1 ⟨rfl, hB1⟩
      have hB1s := hB1.size
      have bx1 : Boxed w1 (w.heap.size + 1 + 1 + 1) 45 v := (hB1.block _ (by omega)).trans bx
      have hrow1 := own_call hrow hB1
      have x1_0 := (cell_back hB1 hXl 0).trans hX1
      have x1_1 := (cell_back hB1 hXl 1).trans hX2
      have hBx1 : Bx < w1.heap.size := by omega
      gi_wp2
      refine ⟨(KeepsOthers.of_grownBy (row := none) (below_grown hB1) (fun j o e => by cases e)).from _, ⟨btw_below hB1 (by omega), kt_none (below_grown hB1)⟩, ⟨v, bx1, ?_⟩, btw_trans hb (btw_below hB1 (by omega)), bthen hB hB1, by omega⟩
      rw [HF.out]; exact hrow1
    · have HF := Lib.hid (hY rfl)
      clear hY hN'
      gi_wp2_with fail
      refine ⟨trivial, (CallsIn.inRound l (callsIn_wide.2 (HC.out _))).mono ?_⟩
      rintro e w1 ⟨rfl, hB1⟩
      have hB1s := hB1.size
      have bx1 : Boxed w1 (w.heap.size + 1 + 1 + 1) 45 v := (hB1.block _ (by omega)).trans bx
      have hrow1 := own_call hrow hB1
      have x1_0 := (cell_back hB1 hXl 0).trans hX1
      have x1_1 := (cell_back hB1 hXl 1).trans hX2
      have hBx1 : Bx < w1.heap.size := by omega
      have hc1 := bx1.cell
      have hf1 := bx1.frozen
      gi_wp2_with (gi_at_builtin; refine wpListIn_append_own _ rfl _ _ 45 rfl (w.heap.size + 1 + 1 + 1 + 1) 26 i0 _ 2 16 Try.underlying45 hi0 hz0 hz1 hz2 rfl (by decide) _ _ _ rfl (hrow1.alloc _) ⟨w1.heap.size, 0, none⟩ 1 1 [.int .i64 x1, .int .i64 x2] rfl rfl (pt_cells rfl) (pt_one _ _) ?c3 ?c4 ?c5 ?_)
      case c3 => unfold maxLen; omega
      case c4 => omega
      case c5 => simp; omega
      intro v' w2 hown' hgrow _
      have bx2 : Boxed w2 (w.heap.size + 1 + 1 + 1) 45 v := (bx1.alloc _).kept hgrow (fun e => by have := (hrow1.lt _ e.symm).1; omega)
      have hc2 := bx2.cell
      have hf2 := bx2.frozen
      have hs2 := hgrow.size
      have hrl := fun g hg => (hrow1.lt g hg).1
      have HRL := Lib.hid hrl
      have HKT := Lib.hid (kt_row (hrow1.alloc (.cells #[.int .i64 (x1 : Int), .int .i64 (x2 : Int)] 26)))
      have HCL := Lib.hid (row_cells (hrow1.alloc (.cells #[.int .i64 (x1 : Int), .int .i64 (x2 : Int)] 26)))
      clear hrl
      simp only [World.size_alloc] at hs2
      obtain ⟨ao, an, ac, rfl⟩ := own_isSlice hown'
      gi_wp2
      refine ⟨((KeepsOthers.of_grownBy (row := none) (below_grown hB1) (fun j o e => by cases e)).from _).trans (((KeepsOthers.alloc w1 _).from _).trans (((KeepsOthers.of_grownBy hgrow (fun j o e ho => HCL.out j o e ho)).from _).trans ((KeepsOthers.setCell _ _ _).from _))),
        ⟨btw_trans (btw_below hB1 (by omega)) (btw_trans (btw_alloc w1 _ (by omega)) (btw_trans (btw_grown hgrow (by rw [World.size_alloc]; omega) (fun g e => .inr (by have := HRL.out _ e; omega))) (btw_setCell _ _ _ (.inr (by show hi ≤ w.heap.size + 1 + 1 + 1; omega))))), kt_trans (kt_none (below_grown hB1)) (kt_trans (kt_none (World.grownBy_alloc w1 _ none)) (kt_trans (kt_grown hgrow HKT.out) (kt_grown (grownBy_setCell' w2 _ _) (fun r cs t tg e hg => by cases e; rw [show w2.heap[_]? = _ from bx2] at hg; cases hg; exact .inr rfl))))⟩,
        ⟨⟨_, bx2.set _, ?_⟩, ?_, ?_, ?_⟩⟩
      · rw [HF.out, flat_append, ints_append, List.length_append]
        exact hown'.kept (grownBy_setCell' w2 (w.heap.size + 1 + 1 + 1) _) (.inr (by intro e; have := (hown'.lt _ e).1; omega))
      · exact btw_trans hb (btw_trans (btw_below hB1 (by omega)) (btw_trans (btw_alloc w1 _ (by omega)) (btw_trans (btw_grown hgrow (by rw [World.size_alloc]; omega) (fun g e => .inr (by have := HRL.out _ e; omega))) (btw_setCell _ _ _ (.inr (by show w.heap.size + 1 + 1 + 1 ≤ w.heap.size + 1 + 1 + 1; omega))))))
      · exact (((bthen hB hB1).alloc (by omega) _).grown hgrow (by rw [World.size_alloc]; omega) (fun g e => by have := HRL.out _ e; omega)).setCell (p := ⟨w.heap.size + 1 + 1 + 1, 0, none⟩) (by show w.heap.size ≤ w.heap.size + 1 + 1 + 1; omega) _
      · have : (w2.setCell ⟨w.heap.size + 1 + 1 + 1, 0, none⟩ (.slice ao an ac)).heap.size = w2.heap.size := by simp [World.setCell]
        omega
  case done =>
    rintro D ys W hD rfl ⟨⟨v, bx, hrow⟩, hb, hB, hs⟩ hK
    have hc := bx.cell
    gi_wp2
    refine ⟨by simp, .inl ⟨_, _, rfl, run_takeDeferred hK, ?_⟩⟩
    exact ⟨_, results_tmp rfl _ _ _, _, rfl, own_base (ownsRow_putObj hrow _ hK rfl) (by omega), hB.trans (belowK_b (w := w) (Nat.le_refl _) W D _ _ (by omega) hK rfl rfl)⟩
  case stop =>
    rintro D c pre W _ _ h _
    exact h.elim

theorem pointsOnCircle_any (L : List Pt32) (N lo hi gf : Nat) (lb : Array Value) (p c k1 k2 k3 : Int) (w : World) (hp : isP p = true) (hc : colB c = true) (hk1 : 0 ≤ k1 ∧ k1 < p) (hk2 : 0 ≤ k2 ∧ k2 < p)
    (he : ∀ args w, (callFunc gf args).run Try.prog w = .ok (.enter gf args) w) (hN : N ≤ 4096) (hhi : hi ≤ w.heap.size)
    (hseq : ∀ W : World, Below w.heap.size w W → SeqStopsK Fence.wide 8 Try.prog gf lb (fun x : Pt32 => #[ptV (toP x)]) (Btw lo hi) (fun ys => ys = L) (fun pre => pre <+: L) N W) :
    Calls Try.prog 72 #[.int .i64 p, .int .i64 c, .agg #[.int .i64 k1, .int .i64 k2, .int .i64 k3], .func (.func gf) #[] lb] w fun e w' => OnePost 26 2 (flat (flC p c k1 k2 k3 L)) (flC p c k1 k2 k3 L).length w e w' :=
  pointsOnCircleN_any L N lo hi gf lb p c k1 k2 k3 w hp hc hk1 hk2 he hN hhi fun W hW => seqOn_of (hseq W hW) fun _ _ h => h.1

end Go.Proofs.Ytcebhcamegdmaaa
