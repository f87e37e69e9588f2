/-
  What calls, new boxes and stores into one old box leave as it was: all that is older than a world but for that box.
-/
import Derived.Test.YtodabjolblamgaaSlice
import Derived.Test.YtodabjolblamgaaBaseMath
namespace Go.Proofs.Ytodabjolblamgaa
open Go.RowKit

structure Apart (r : Nat) (a W : World) : Prop where
  os : W.os = a.os
  tape : W.tape = a.tape
  output : W.output = a.output
  size : a.heap.size ≤ W.heap.size
  block : ∀ k, k < a.heap.size → k ≠ r → W.heap[k]? = a.heap[k]?

theorem Apart.refl (r : Nat) (a : World) : Apart r a a := ⟨rfl, rfl, rfl, Nat.le_refl _, fun _ _ _ => rfl⟩
theorem Apart.drew {r : Nat} {a W : World} (h : Apart r a W) : Apart r a W.drew := ⟨h.os, h.tape, h.output, h.size, h.block⟩
theorem Apart.undrew {r : Nat} {a W : World} (h : Apart r a W.drew) : Apart r a W := ⟨h.os, h.tape, h.output, h.size, h.block⟩
theorem Apart.call {r : Nat} {a W W' : World} (h : Apart r a W) (k : Below W.heap.size W W') : Apart r a W' :=
  ⟨k.os.trans h.os, k.tape.trans h.tape, k.output.trans h.output, Nat.le_trans h.size k.size, fun i hi hr => (k.block i (Nat.lt_of_lt_of_le hi h.size)).trans (h.block i hi hr)⟩
theorem Apart.alloc {r : Nat} {a W : World} (h : Apart r a W) (o : Obj) : Apart r a (W.alloc o) := h.call ((Below.refl _ _).alloc (Nat.le_refl _) o)
theorem Apart.back {r : Nat} {a W : World} {o : Obj} (hB : a.heap.size ≤ W.heap.size) (h : Apart r a (W.alloc o)) : Apart r a W :=
  ⟨h.os, h.tape, h.output, hB, fun k hk hr => by rw [← h.block k hk hr, Below.heap_alloc _ _ _ (by omega)]⟩
theorem Apart.set {r : Nat} {a W : World} (h : Apart r a W) (j : Nat) (u : Value) : Apart r a (W.setCell ⟨r, j, none⟩ u) :=
  ⟨h.os, h.tape, h.output, by simpa [World.setCell] using h.size, fun k hk hr => (Below.heap_setCell _ _ _ _ hr).trans (h.block k hk hr)⟩
theorem Apart.setNew {r : Nat} {a W : World} (h : Apart r a W) {p : Addr} (hp : a.heap.size ≤ p.block) (u : Value) : Apart r a (W.setCell p u) :=
  ⟨h.os, h.tape, h.output, by simpa [World.setCell] using h.size, fun k hk hr => (Below.heap_setCell _ _ _ _ (by omega)).trans (h.block k hk hr)⟩
theorem Apart.cell {r : Nat} {a W : World} (h : Apart r a W) {b j : Nat} {v : Value} (hr : b ≠ r) (hc : a.cell? ⟨b, j, none⟩ = some v) : W.cell? ⟨b, j, none⟩ = some v :=
  (World.cell?_of_block (w := a) (a := ⟨b, j, none⟩) (h.block b (World.block_lt_of_cell? a ⟨b, j, none⟩ hc) hr)).trans hc
theorem Apart.below {r : Nat} {w a W : World} (hw : Below w.heap.size w a) (hr : w.heap.size ≤ r) (h : Apart r a W) : Below w.heap.size w W :=
  ⟨h.os.trans hw.os, h.tape.trans hw.tape, h.output.trans hw.output, Nat.le_trans hw.size h.size, fun k hk => (h.block k (Nat.lt_of_lt_of_le hk hw.size) (by omega)).trans (hw.block k hk)⟩
theorem frozen_of_block {w w' : World} {a : Addr} (h : w'.heap[a.block]? = w.heap[a.block]?) : w'.frozen? a = w.frozen? a := by
  unfold World.frozen?; rw [h]
theorem Apart.frozen {r : Nat} {a W : World} (h : Apart r a W) {b j : Nat} (hr : b ≠ r) (hl : b < a.heap.size) (hf : a.frozen? ⟨b, j, none⟩ = false) : W.frozen? ⟨b, j, none⟩ = false :=
  (frozen_of_block (w := a) (a := ⟨b, j, none⟩) (h.block b hl hr)).trans hf

end Go.Proofs.Ytodabjolblamgaa
