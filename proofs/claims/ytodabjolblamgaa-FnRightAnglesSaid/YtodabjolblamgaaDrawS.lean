/-
  What draws leave: the source may be drawn from, and all that is older but for its own block lies as it lay.
-/
import Derived.Test.YtodabjolblamgaaDrawFrom
import Derived.Test.YtodabjolblamgaaApart
namespace Go.Proofs.Ytodabjolblamgaa
open Go.RowKit

def DS (r base m c : Nat) (a : Option Addr) (w W : World) : Prop := Apart r w W ∧ Src W base r a m c
theorem apart_trans {r : Nat} {x y z : World} (h : Apart r x y) (k : Apart r y z) : Apart r x z :=
  ⟨k.os.trans h.os, k.tape.trans h.tape, k.output.trans h.output, Nat.le_trans h.size k.size, fun i hi hr => (k.block i (Nat.lt_of_lt_of_le hi h.size) hr).trans (h.block i hi hr)⟩
theorem apart_grown {r : Nat} {w w' : World} (h : w.grownBy w' (some r)) : Apart r w w' := ⟨h.os, h.tape, h.output, h.size, fun k hk hr => h.block k hk (fun e => by cases e; exact hr rfl)⟩
theorem src_below {w w' : World} {base b m c : Nat} {a : Option Addr} (h : Src w base b a m c) (hb : Below w.heap.size w w') : Src w' base b a m c := by
  obtain ⟨h1, h2, hc, t, x, k0, k1, k2, f1, f2, r⟩ := h
  have hs := hb.size
  exact ⟨h1, by omega, code_below hc (hb.mono (by omega)), t, x, (hb.cell (p := ⟨b, 0, none⟩) h2).trans k0, (hb.cell (p := ⟨b, 1, none⟩) h2).trans k1, (hb.cell (p := ⟨b, 2, none⟩) h2).trans k2, (hb.frozen (p := ⟨b, 1, none⟩) h2).trans f1, (hb.frozen (p := ⟨b, 2, none⟩) h2).trans f2, r⟩
theorem src_setNew {w : World} {base b m c : Nat} {a : Option Addr} (h : Src w base b a m c) {p : Addr} (hp : p.block ≠ b) (hp2 : base ≤ p.block) (v : Value) : Src (w.setCell p v) base b a m c := by
  obtain ⟨h1, h2, hc, t, x, k0, k1, k2, f1, f2, r⟩ := h
  obtain ⟨pb, po, ps⟩ := p
  have hB : Below base w (w.setCell ⟨pb, po, ps⟩ v) := (Below.refl base w).setCell hp2 v
  have hk : (w.setCell ⟨pb, po, ps⟩ v).heap[b]? = w.heap[b]? := Below.heap_setCell w ⟨pb, po, ps⟩ v b (fun e => hp e.symm)
  exact ⟨h1, by simpa [World.setCell] using h2, code_below hc hB, t, x, (World.cell?_of_block (a := ⟨b, 0, none⟩) hk).trans k0, (World.cell?_of_block (a := ⟨b, 1, none⟩) hk).trans k1, (World.cell?_of_block (a := ⟨b, 2, none⟩) hk).trans k2, (frozen_of_block (a := ⟨b, 1, none⟩) hk).trans f1, (frozen_of_block (a := ⟨b, 2, none⟩) hk).trans f2, r⟩
section
variable {r base m c : Nat} {a : Option Addr} {w W W' : World}
theorem DS.refl (h : Src w base r a m c) : DS r base m c a w w := ⟨Apart.refl _ _, h⟩
theorem DS.src (h : DS r base m c a w W) : Src W base r a m c := h.2
theorem DS.drew (h : DS r base m c a w W) : DS r base m c a w W.drew := ⟨h.1.drew, h.2⟩
theorem DS.drewN (h : DS r base m c a w W) (n : Nat) : DS r base m c a w (W.drewN n) := ⟨⟨h.1.os, h.1.tape, h.1.output, h.1.size, h.1.block⟩, h.2⟩
theorem DS.undrew (h : DS r base m c a w W.drew) : DS r base m c a w W := ⟨h.1.undrew, h.2⟩
theorem DS.alloc (h : DS r base m c a w W) (o : Obj) : DS r base m c a w (W.alloc o) := ⟨h.1.alloc o, src_alloc h.2 o⟩
theorem DS.trans (h : DS r base m c a w W) (k : DS r base m c a W W') : DS r base m c a w W' := ⟨apart_trans h.1 k.1, k.2⟩
theorem DS.call (h : DS r base m c a w W) (k : Below W.heap.size W W') : DS r base m c a w W' := ⟨h.1.call k, src_below h.2 k⟩
theorem DS.setNew (h : DS r base m c a w W) (hr : r < w.heap.size) {p : Addr} (hp : w.heap.size ≤ p.block) (v : Value) : DS r base m c a w (W.setCell p v) :=
  ⟨h.1.setNew hp v, src_setNew h.2 (by omega) (by have := h.2.1; omega) v⟩
theorem DS.cell (h : DS r base m c a w W) {b j : Nat} {v : Value} (hr : b ≠ r) (hc : w.cell? ⟨b, j, none⟩ = some v) : W.cell? ⟨b, j, none⟩ = some v := h.1.cell hr hc
theorem DS.frozen (h : DS r base m c a w W) {b j : Nat} (hr : b ≠ r) (hl : b < w.heap.size) (hf : w.frozen? ⟨b, j, none⟩ = false) : W.frozen? ⟨b, j, none⟩ = false := h.1.frozen hr hl hf
theorem DS.size (h : DS r base m c a w W) : w.heap.size ≤ W.heap.size := h.1.size
theorem DS.rlt (h : DS r base m c a w W) : r < W.heap.size := h.2.2.1
theorem DS.rge (h : DS r base m c a w W) : base ≤ r := h.2.1
/-- What is older than the source lies as it lay. -/
theorem DS.below (hr : base ≤ r) (hb : base ≤ w.heap.size) (h : DS r base m c a w W) : Below base w W := ⟨h.1.os, h.1.tape, h.1.output, h.1.size, fun k hk => h.1.block k (by omega) (by omega)⟩
end

section
variable {base r m c : Nat} {a : Option Addr} {w : World}
theorem next_ds (n : Int) (hs : Src w base r a m c) (hn : n ≤ 9223372036854775807) :
    Calls Try.prog 82 #[.pointer (some ⟨r, 0, none⟩), .int .i64 n] w fun e w' => ∃ x : Int, e = .returned (.int .i64 x) ∧ (0 ≤ x ∧ (1 ≤ n → x < n) ∧ (n < 1 → x = 0)) ∧ DS r base m c a w w' := by
  refine Calls.mono (next_any n base r m c a w hs hn) ?_
  rintro e w' ⟨x, rfl, h0, h1, h2, h3, h4, h5⟩
  exact ⟨x, rfl, ⟨h0, h1, h2⟩, apart_grown h5, h3⟩
theorem near_ds (n : Int) (hs : Src w base r a m c) (h0 : 0 ≤ n) (h1 : n ≤ 100000) :
    Calls Try.prog 107 #[.pointer (some ⟨r, 0, none⟩), .int .i64 n] w fun e w' => ∃ x : Int, e = .returned (.int .i64 x) ∧ (-4611686018427387904 ≤ x ∧ x ≤ 4611686018427387904) ∧ DS r base m c a w w' := by
  refine Calls.mono (near_any n base r m c a w hs h0 h1) ?_
  rintro e w' ⟨x, rfl, h0, h1, h3, h4, h5⟩
  exact ⟨x, rfl, ⟨h0, h1⟩, apart_grown h5, h3⟩
theorem field_ds (hs : Src w base r a m c) :
    Calls Try.prog 66 #[.pointer (some ⟨r, 0, none⟩)] w fun e w' => ∃ x : Int, e = .returned (.int .i64 x) ∧ isP x = true ∧ DS r base m c a w w' := by
  refine Calls.mono (drawField_any base r m c a w hs) ?_
  rintro e w' ⟨x, rfl, h0, h3, h4, h5⟩
  exact ⟨x, rfl, h0, apart_grown h5, h3⟩
theorem badField_ds (p : Int) (hs : Src w base r a m c) (h0 : -4611686018427387904 ≤ p) (h1 : p ≤ 4611686018427387904) :
    Calls Try.prog 70 #[.pointer (some ⟨r, 0, none⟩), .int .i64 p] w fun e w' => ∃ x : Int, e = .returned (.int .i64 x) ∧ (-4611686018427387904 ≤ x ∧ x ≤ 4611686018427387904) ∧ DS r base m c a w w' := by
  refine Calls.mono (badField_any p base r m c a w hs h0 h1) ?_
  rintro e w' ⟨x, rfl, h0, h1, h3, h4, h5⟩
  exact ⟨x, rfl, ⟨h0, h1⟩, apart_grown h5, h3⟩
/-- A pick out of a list that was just made. -/
theorem pick_ds (xs : List Int) (k : Nat) (hk : k = xs.length) (h0 : 0 < k) (hs : Src w base r a m c) (h9 : k ≤ 1000000) :
    Calls Try.prog 120 #[.pointer (some ⟨r, 0, none⟩), .slice (some ⟨w.heap.size, 0, none⟩) k k] (w.alloc (.cells (ints xs).toArray 2)) fun e w' => ∃ x : Int, e = .returned (.int .i64 x) ∧ x ∈ xs ∧ DS r base m c a w w' := by
  subst hk
  have hbw := hs.2.1
  refine Calls.mono (pick_any base r m c w.heap.size xs.length 2 a _ xs w.heap.size _ (src_alloc hs _) (own_lit (cs := xs) (k := 1) (Nat.le_refl _) rfl h9 (by simp)) h0 (fun g hg => by simp [Value.ownBlock] at hg; omega)) ?_
  rintro e w' ⟨j, hj, rfl, h3, h4, h5⟩
  exact ⟨_, rfl, by rw [List.getD_eq_getElem?_getD, List.getElem?_eq_getElem hj]; exact List.getElem_mem hj, apart_trans ((Apart.refl _ _).alloc _) (apart_grown h5), h3⟩
end


section
variable {r base m c : Nat} {a : Option Addr} {w W W' : World}
theorem src_drew (h : Src w base r a m c) : Src w.drew base r a m c := h
theorem src_drewN (h : Src w base r a m c) (n : Nat) : Src (w.drewN n) base r a m c := h
theorem DS.call' (h : DS r base m c a w W) (k : Below W.heap.size W W') : DS r base m c a w W' := h.call k
theorem DS.below2 {B : Nat} (hr : B ≤ r) (hb : B ≤ w.heap.size) (h : DS r base m c a w W) : Below B w W := ⟨h.1.os, h.1.tape, h.1.output, h.1.size, fun k hk => h.1.block k (by omega) (by omega)⟩
/-- A number that is drawn below another one. -/
theorem next_lt (n : Int) (hs : Src w base r a m c) (h1 : 1 ≤ n) (hn : n ≤ 100000) :
    Calls Try.prog 82 #[.pointer (some ⟨r, 0, none⟩), .int .i64 n] w fun e w' => ∃ x : Int, e = .returned (.int .i64 x) ∧ (0 ≤ x ∧ x < n) ∧ DS r base m c a w w' := by
  refine Calls.mono (next_ds n hs (by omega)) ?_
  rintro e w' ⟨x, rfl, ⟨h2, h3, h4⟩, h⟩
  exact ⟨x, rfl, ⟨h2, h3 h1⟩, h⟩
/-- A source that has just been made. -/
theorem from_ds (hc : CodeAt w base a m) (hm : m ≤ 4096) (hb : base ≤ w.heap.size) :
    Calls Try.prog 65 #[.slice a m c] w fun e w' => e = .returned (.pointer (some ⟨w.heap.size, 0, none⟩)) ∧ Src w' base w.heap.size a m c ∧ Below w.heap.size w w' := by
  have hc' : CodeAt w w.heap.size a m := ⟨hc.1, fun j hj => by
    obtain ⟨cb, co, y, e, hcb, hcy, hy⟩ := hc.2 j hj
    exact ⟨cb, co, y, e, by omega, hcy, hy⟩⟩
  refine Calls.mono (from_any w.heap.size m c a w hc' hm (Nat.le_refl _)) ?_
  rintro e w' ⟨rfl, ⟨h1, h2, h3, h4⟩, hB⟩
  exact ⟨rfl, ⟨hb, h2, code_below hc (hB.mono hb), h4⟩, hB⟩

/-- As DS, where some boxes of the function's own are written to as well. -/
structure DX (R : List Nat) (base r m c : Nat) (a : Option Addr) (w W : World) : Prop where
  os : W.os = w.os
  tape : W.tape = w.tape
  output : W.output = w.output
  size : w.heap.size ≤ W.heap.size
  block : ∀ k, k < w.heap.size → k ∉ R → W.heap[k]? = w.heap[k]?
  src : Src W base r a m c
variable {R : List Nat}
theorem DX.refl (h : Src w base r a m c) : DX R base r m c a w w := ⟨rfl, rfl, rfl, Nat.le_refl _, fun _ _ _ => rfl, h⟩
theorem DX.drew (h : DX R base r m c a w W) : DX R base r m c a w W.drew := ⟨h.os, h.tape, h.output, h.size, h.block, h.src⟩
theorem DX.draw (h : DX R base r m c a w W) (hr : r ∈ R) (k : DS r base m c a W W') : DX R base r m c a w W' :=
  ⟨k.1.os.trans h.os, k.1.tape.trans h.tape, k.1.output.trans h.output, Nat.le_trans h.size k.1.size, fun i hi hn => (k.1.block i (Nat.lt_of_lt_of_le hi h.size) (fun e => hn (by rw [e]; exact hr))).trans (h.block i hi hn), k.2⟩
theorem DX.call (h : DX R base r m c a w W) (k : Below W.heap.size W W') : DX R base r m c a w W' :=
  ⟨k.os.trans h.os, k.tape.trans h.tape, k.output.trans h.output, Nat.le_trans h.size k.size, fun i hi hn => (k.block i (Nat.lt_of_lt_of_le hi h.size)).trans (h.block i hi hn), src_below h.src k⟩
theorem DX.set (h : DX R base r m c a w W) {p : Addr} (hp : p.block ∈ R) (hr : p.block ≠ r) (hb : base ≤ p.block) (v : Value) : DX R base r m c a w (W.setCell p v) :=
  ⟨h.os, h.tape, h.output, by simpa [World.setCell] using h.size, fun i hi hn => (Below.heap_setCell _ _ _ _ (fun e => hn (by rw [e]; exact hp))).trans (h.block i hi hn), src_setNew h.src hr hb v⟩
theorem DX.alloc (h : DX R base r m c a w W) (o : Obj) : DX R base r m c a w (W.alloc o) := h.call ((Below.refl _ _).alloc (Nat.le_refl _) o)
theorem DX.setNew (h : DX R base r m c a w W) {p : Addr} (hn : w.heap.size ≤ p.block) (hr : p.block ≠ r) (hb : base ≤ p.block) (v : Value) : DX R base r m c a w (W.setCell p v) :=
  ⟨h.os, h.tape, h.output, by simpa [World.setCell] using h.size, fun i hi hx => (Below.heap_setCell _ _ _ _ (fun e => by omega)).trans (h.block i hi hx), src_setNew h.src hr hb v⟩
theorem DX.cell (h : DX R base r m c a w W) {b j : Nat} {v : Value} (hr : b ∉ R) (hc : w.cell? ⟨b, j, none⟩ = some v) : W.cell? ⟨b, j, none⟩ = some v :=
  (World.cell?_of_block (w := w) (a := ⟨b, j, none⟩) (h.block b (World.block_lt_of_cell? w ⟨b, j, none⟩ hc) hr)).trans hc
theorem DX.frozen (h : DX R base r m c a w W) {b j : Nat} (hr : b ∉ R) (hl : b < w.heap.size) (hf : w.frozen? ⟨b, j, none⟩ = false) : W.frozen? ⟨b, j, none⟩ = false :=
  (frozen_of_block (w := w) (a := ⟨b, j, none⟩) (h.block b hl hr)).trans hf
theorem DX.below2 {B : Nat} (hr : ∀ k ∈ R, B ≤ k) (h : DX R base r m c a w W) (hb : B ≤ w.heap.size) : Below B w W := ⟨h.os, h.tape, h.output, h.size, fun k hk => h.block k (by omega) (fun hm => by have := hr k hm; omega)⟩
theorem DS.transX {w0 : World} (h : DS r base m c a w0 w) (k : DX R base r m c a w W) (hr : ∀ i ∈ R, i = r ∨ w0.heap.size ≤ i) : DS r base m c a w0 W :=
  ⟨⟨k.os.trans h.1.os, k.tape.trans h.1.tape, k.output.trans h.1.output, Nat.le_trans h.1.size k.size, fun i hi hn => (k.block i (Nat.lt_of_lt_of_le hi h.1.size) (fun hm => by rcases hr i hm with e | e; exact hn e; omega)).trans (h.1.block i hi hn)⟩, k.src⟩
end

/-- As DX, without a source. -/
structure DY (R : List Nat) (w W : World) : Prop where
  os : W.os = w.os
  tape : W.tape = w.tape
  output : W.output = w.output
  size : w.heap.size ≤ W.heap.size
  block : ∀ k, k < w.heap.size → k ∉ R → W.heap[k]? = w.heap[k]?
section
variable {R : List Nat} {w W W' : World}
theorem DY.refl : DY R w w := ⟨rfl, rfl, rfl, Nat.le_refl _, fun _ _ _ => rfl⟩
theorem DY.drew (h : DY R w W) : DY R w W.drew := ⟨h.os, h.tape, h.output, h.size, h.block⟩
theorem DY.call (h : DY R w W) (k : Below W.heap.size W W') : DY R w W' :=
  ⟨k.os.trans h.os, k.tape.trans h.tape, k.output.trans h.output, Nat.le_trans h.size k.size, fun i hi hn => (k.block i (Nat.lt_of_lt_of_le hi h.size)).trans (h.block i hi hn)⟩
theorem DY.set (h : DY R w W) {p : Addr} (hp : p.block ∈ R) (v : Value) : DY R w (W.setCell p v) :=
  ⟨h.os, h.tape, h.output, by simpa [World.setCell] using h.size, fun i hi hn => (Below.heap_setCell _ _ _ _ (fun e => hn (by rw [e]; exact hp))).trans (h.block i hi hn)⟩
theorem DY.alloc (h : DY R w W) (o : Obj) : DY R w (W.alloc o) := h.call ((Below.refl _ _).alloc (Nat.le_refl _) o)
theorem DY.setNew (h : DY R w W) {p : Addr} (hn : w.heap.size ≤ p.block) (v : Value) : DY R w (W.setCell p v) :=
  ⟨h.os, h.tape, h.output, by simpa [World.setCell] using h.size, fun i hi hx => (Below.heap_setCell _ _ _ _ (fun e => by omega)).trans (h.block i hi hx)⟩
theorem DY.cell (h : DY R w W) {b j : Nat} {v : Value} (hr : b ∉ R) (hc : w.cell? ⟨b, j, none⟩ = some v) : W.cell? ⟨b, j, none⟩ = some v :=
  (World.cell?_of_block (w := w) (a := ⟨b, j, none⟩) (h.block b (World.block_lt_of_cell? w ⟨b, j, none⟩ hc) hr)).trans hc
theorem DY.frozen (h : DY R w W) {b j : Nat} (hr : b ∉ R) (hl : b < w.heap.size) (hf : w.frozen? ⟨b, j, none⟩ = false) : W.frozen? ⟨b, j, none⟩ = false :=
  (frozen_of_block (w := w) (a := ⟨b, j, none⟩) (h.block b hl hr)).trans hf
theorem DY.below2 {B : Nat} (hr : ∀ k ∈ R, B ≤ k) (h : DY R w W) (hb : B ≤ w.heap.size) : Below B w W := ⟨h.os, h.tape, h.output, h.size, fun k hk => h.block k (by omega) (fun hm => by have := hr k hm; omega)⟩
end
/-- A code at a later world. -/
theorem code_up {w w' : World} {a : Option Addr} {m : Nat} (h : CodeAt w w.heap.size a m) (hb : Below w.heap.size w w') : CodeAt w' w'.heap.size a m := ⟨h.1, fun j hj => by
  obtain ⟨cb, co, y, e, hcb, hcy, hy⟩ := h.2 j hj
  exact ⟨cb, co, y, e, by have := hb.size; omega, (cell_old hb hcb _).trans hcy, hy⟩⟩

end Go.Proofs.Ytodabjolblamgaa
