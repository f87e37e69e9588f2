/-
  Rows of numbers in memory: headers in one block, numbers in another.
-/
import Derived.Test.YtmpgpmcmhbpjeaaMath
import Derived.Test.YtmpgpmcmhbpjeaaSlice
import Derived.Test.YtmpgpmcmhbpjeaaApart
import Derived.Test.YtmpgpmcmhbpjeaaRref
namespace Go.Proofs.Ytmpgpmcmhbpjeaa
open Go.RowKit

structure LayM (W : World) (R B N m : Nat) (o : Nat → Nat) (M : Nat → Nat → Int) : Prop where
  head : ∀ i, i < N → W.cell? ⟨R, i, none⟩ = some (.slice (some ⟨B, o i, none⟩) m m)
  hfz : ∀ i, i < N → W.frozen? ⟨R, i, none⟩ = false
  num : ∀ i j, i < N → j < m → W.cell? ⟨B, o i + j, none⟩ = some (.int .i64 (M i j))
  nfz : ∀ i j, i < N → j < m → W.frozen? ⟨B, o i + j, none⟩ = false
  apt : ∀ i i' j j', i < N → i' < N → j < m → j' < m → o i + j = o i' + j' → i = i' ∧ j = j'
  ne : R ≠ B
def upd (M : Nat → Nat → Int) (a b : Nat) (v : Int) (i j : Nat) : Int := if i = a ∧ j = b then v else M i j
theorem LayM.set {W : World} {R B N m : Nat} {o : Nat → Nat} {M : Nat → Nat → Int} (h : LayM W R B N m o M) {i j : Nat} (hi : i < N) (hj : j < m) (v : Int) : LayM (W.setCell ⟨B, o i + j, none⟩ (.int .i64 v)) R B N m o (upd M i j v) :=
  ⟨fun a ha => kset h.ne (h.head a ha), fun a ha => fset (h.hfz a ha), fun a b ha hb => by
    by_cases e : a = i ∧ b = j
    · obtain ⟨rfl, rfl⟩ := e
      rw [upd, if_pos ⟨rfl, rfl⟩]
      exact ksame (h.num a b ha hb)
    · rw [upd, if_neg e]
      exact kother (fun e' => e (h.apt a i b j ha hi hb hj e')) (h.num a b ha hb), fun a b ha hb => fset (h.nfz a b ha hb), h.apt, h.ne⟩
theorem LayM.congr {W : World} {R B N m : Nat} {o : Nat → Nat} {M M' : Nat → Nat → Int} (h : LayM W R B N m o M) (e : ∀ i j, i < N → j < m → M i j = M' i j) : LayM W R B N m o M' :=
  ⟨h.head, h.hfz, fun i j hi hj => by rw [← e i j hi hj]; exact h.num i j hi hj, h.nfz, h.apt, h.ne⟩
theorem LayM.lt {W : World} {R B N m : Nat} {o : Nat → Nat} {M : Nat → Nat → Int} (h : LayM W R B N m o M) (hN : 0 < N) (hm : 0 < m) : R < W.heap.size ∧ B < W.heap.size :=
  ⟨World.block_lt_of_cell? W ⟨R, 0, none⟩ (h.head 0 hN), World.block_lt_of_cell? W ⟨B, o 0 + 0, none⟩ (h.num 0 0 hN hm)⟩
theorem LayM.blocks {W W' : World} {R B N m : Nat} {o : Nat → Nat} {M : Nat → Nat → Int} (h : LayM W R B N m o M) (hR : W'.heap[R]? = W.heap[R]?) (hB : W'.heap[B]? = W.heap[B]?) : LayM W' R B N m o M :=
  ⟨fun i hi => (World.cell?_of_block (w := W) (a := ⟨R, i, none⟩) hR).trans (h.head i hi), fun i hi => (frozen_of_block (w := W) (a := ⟨R, i, none⟩) hR).trans (h.hfz i hi),
   fun i j hi hj => (World.cell?_of_block (w := W) (a := ⟨B, o i + j, none⟩) hB).trans (h.num i j hi hj), fun i j hi hj => (frozen_of_block (w := W) (a := ⟨B, o i + j, none⟩) hB).trans (h.nfz i j hi hj), h.apt, h.ne⟩
theorem LayM.below {W W' : World} {R B N m : Nat} {o : Nat → Nat} {M : Nat → Nat → Int} (h : LayM W R B N m o M) (hN : 0 < N) (hm : 0 < m) (hb : Below W.heap.size W W') : LayM W' R B N m o M :=
  h.blocks (hb.block _ (h.lt hN hm).1) (hb.block _ (h.lt hN hm).2)
/-- Two headers in each other's place. -/
theorem LayM.swap {W : World} {R B N m : Nat} {o : Nat → Nat} {M : Nat → Nat → Int} (h : LayM W R B N m o M) {a b : Nat} (ha : a < N) (hb : b < N) :
    LayM ((W.setCell ⟨R, a, none⟩ (.slice (some ⟨B, o b, none⟩) m m)).setCell ⟨R, b, none⟩ (.slice (some ⟨B, o a, none⟩) m m)) R B N m (fun i => o (swp a b i)) (fun i j => M (swp a b i) j) := by
  refine ⟨fun i hi => ?_, fun i hi => fset (fset (h.hfz i hi)), fun i j hi hj => kset (Ne.symm h.ne) (kset (Ne.symm h.ne) (h.num _ j (swp_lt ha hb hi) hj)), fun i j hi hj => fset (fset (h.nfz _ j (swp_lt ha hb hi) hj)),
    fun i i' j j' hi hi' hj hj' e => by have := h.apt _ _ j j' (swp_lt ha hb hi) (swp_lt ha hb hi') hj hj' e; exact ⟨swp_inj this.1, this.2⟩, h.ne⟩
  have hA := ksame (v := .slice (some ⟨B, o b, none⟩) m m) (h.head a ha)
  by_cases e1 : i = b
  · subst e1
    have : swp a i i = a := by
      unfold swp
      split
      · rename_i e; exact e
      · rw [if_pos rfl]
    simp only [this]
    by_cases e2 : i = a
    · subst e2; exact ksame hA
    · exact ksame (kother (u := .slice (some ⟨B, o i, none⟩) m m) e2 (h.head i hi))
  · by_cases e2 : i = a
    · subst e2
      simp only [swp_left]
      exact kother e1 hA
    · have : swp a b i = i := by unfold swp; rw [if_neg e2, if_neg e1]
      simp only [this]
      exact kother e1 (kother e2 (h.head i hi))
/-- What a world keeps but for the blocks of rows: all that lay before, but for two blocks. -/
structure Apart2 (r s : Nat) (a W : World) : Prop where
  os : W.os = a.os
  tape : W.tape = a.tape
  output : W.output = a.output
  size : a.heap.size ≤ W.heap.size
  block : ∀ k, k < a.heap.size → k ≠ r → k ≠ s → W.heap[k]? = a.heap[k]?
theorem Apart2.refl (r s : Nat) (a : World) : Apart2 r s a a := ⟨rfl, rfl, rfl, Nat.le_refl _, fun _ _ _ _ => rfl⟩
theorem Apart2.drew {r s : Nat} {a W : World} (h : Apart2 r s a W) : Apart2 r s a W.drew := ⟨h.os, h.tape, h.output, h.size, h.block⟩
theorem Apart2.trans {r s : Nat} {a b c : World} (h : Apart2 r s a b) (k : Apart2 r s b c) : Apart2 r s a c :=
  ⟨k.os.trans h.os, k.tape.trans h.tape, k.output.trans h.output, Nat.le_trans h.size k.size, fun i hi h1 h2 => (k.block i (Nat.lt_of_lt_of_le hi h.size) h1 h2).trans (h.block i hi h1 h2)⟩
theorem Apart2.call {r s : Nat} {a W W' : World} (h : Apart2 r s a W) (k : Below W.heap.size W W') : Apart2 r s a W' :=
  h.trans ⟨k.os, k.tape, k.output, k.size, fun i hi _ _ => k.block i hi⟩
theorem Apart2.one {r s : Nat} {a W W' : World} (h : Apart2 r s a W) (k : Apart s W W') : Apart2 r s a W' :=
  h.trans ⟨k.os, k.tape, k.output, k.size, fun i hi _ h2 => k.block i hi h2⟩
theorem Apart2.set {r s : Nat} {a W : World} (h : Apart2 r s a W) {p : Addr} (hp : p.block = r ∨ p.block = s) (u : Value) : Apart2 r s a (W.setCell p u) :=
  h.trans ⟨rfl, rfl, rfl, by simp [World.setCell], fun i _ h1 h2 => Below.heap_setCell _ _ _ _ (by rcases hp with e | e <;> omega)⟩
theorem Apart2.below {r s : Nat} {w a W : World} (hw : Below w.heap.size w a) (hr : w.heap.size ≤ r) (hs : w.heap.size ≤ s) (h : Apart2 r s a W) : Below w.heap.size w W :=
  ⟨h.os.trans hw.os, h.tape.trans hw.tape, h.output.trans hw.output, Nat.le_trans hw.size h.size, fun k hk => (h.block k (Nat.lt_of_lt_of_le hk hw.size) (by omega) (by omega)).trans (hw.block k hk)⟩
theorem Apart2.cell {r s : Nat} {a W : World} (h : Apart2 r s a W) {b j : Nat} {v : Value} (hr : b ≠ r) (hs : b ≠ s) (hc : a.cell? ⟨b, j, none⟩ = some v) : W.cell? ⟨b, j, none⟩ = some v :=
  (World.cell?_of_block (w := a) (a := ⟨b, j, none⟩) (h.block b (World.block_lt_of_cell? a ⟨b, j, none⟩ hc) hr hs)).trans hc

end Go.Proofs.Ytmpgpmcmhbpjeaa
