/-
  Plain mathematics of numbers modulo the ten primes; no program.
-/
import Derived.WalkKit
import Derived.Deep.QuietTactic
import Derived.BigQuiet
import Derived.StillTailTactics
namespace Go.Proofs.Ytodabjolblamgaa
open Go.RowKit

theorem balloc {w w1 : World} (h : Below w.heap.size w w1) (o : Obj) : Below w.heap.size w (w1.alloc o) := h.alloc h.size o
theorem bdrewN {B : Nat} {w w1 : World} (h : Below B w w1) (n : Nat) : Below B w (w1.drewN n) := ⟨h.os, h.tape, h.output, h.size, h.block⟩
/-- Two calls, one behind the other. -/
theorem bthen {w w1 w2 : World} (h : Below w.heap.size w w1) (k : Below w1.heap.size w1 w2) : Below w.heap.size w w2 := h.trans (k.mono h.size)

theorem cell_back {W w' : World} (h : Below W.heap.size W w') {b : Nat} (hb : b < W.heap.size) (j : Nat) : w'.cell? ⟨b, j, none⟩ = W.cell? ⟨b, j, none⟩ := h.cell (p := ⟨b, j, none⟩) hb

theorem bcell {W w1 : World} (hb : Below W.heap.size W w1) : (∀ b o, b < W.heap.size → w1.cell? ⟨b, o, none⟩ = W.cell? ⟨b, o, none⟩) ∧ (∀ b o, b < W.heap.size → w1.frozen? ⟨b, o, none⟩ = W.frozen? ⟨b, o, none⟩) :=
  ⟨fun b o h => hb.cell (p := ⟨b, o, none⟩) h, fun b o h => hb.frozen (p := ⟨b, o, none⟩) h⟩

theorem stillOf {P : Program} {f : FuncId} {args : Array Value} {w : World} {v : Value} (h : Calls P f args w fun e w' => e = .returned v ∧ w = w') : Calls P f args w fun e w'' => e = .returned v ∧ w'' = w :=
  Calls.mono h fun _ _ hh => ⟨hh.1, hh.2.symm⟩
theorem quietOf {P : Program} {f : FuncId} {args : Array Value} {w : World} {n : Nat} {v : Value} (h : Calls P f args (w.drewN n) fun e w' => e = .returned v ∧ w.drewN n = w') : Calls P f args (w.drewN n) fun e w'' => e = .returned v ∧ ∃ m, w'' = w.drewN m :=
  Calls.mono h fun _ _ hh => ⟨hh.1, n, hh.2.symm⟩

/-- A region that draws its order: what only reads and calls quietly, then a tail in one order. -/
theorem region_tail {P : Program} {id : Nat} {Q : Exit → Act → World → Prop} {a : Act} {w : World} {l : List Oper} (n : Nat) (hm : P.follows .mixedOrders = true) (hB : Region.lexTailB .any l.toArray n = true)
    (h : wpStill P l.toArray w.drew (fun a' => wpList P l.toArray Q (l.drop n) a' w.drew) (l.take n) a) : (Code.region id l.toArray true).wp P Q a w := wp_region_still_tail n hm hB h

theorem kalloc {W : World} {a : Addr} {v : Value} (o : Obj) (h : W.cell? a = some v) : (W.alloc o).cell? a = some v := by
  have hl : a.block < W.heap.size := World.block_lt_of_cell? W a h
  rw [← h]
  exact World.cell?_of_block (w := W) (Below.heap_alloc W o a.block hl)
theorem kcall {W W' : World} {b j : Nat} {v : Value} (hb : Below W.heap.size W W') (h : W.cell? ⟨b, j, none⟩ = some v) : W'.cell? ⟨b, j, none⟩ = some v :=
  (cell_back hb (World.block_lt_of_cell? W ⟨b, j, none⟩ h) j).trans h
theorem krealloc {W : World} {b j : Nat} {v : Value} {o o' : Obj} (hn : b ≠ W.heap.size) (h : (W.alloc o).cell? ⟨b, j, none⟩ = some v) : (W.alloc o').cell? ⟨b, j, none⟩ = some v := by
  have hl : b < (W.alloc o).heap.size := World.block_lt_of_cell? (W.alloc o) ⟨b, j, none⟩ h
  have hb : b < W.heap.size := by simp at hl; omega
  have h0 : W.cell? ⟨b, j, none⟩ = some v := (World.cell?_of_block (w := W) (a := ⟨b, j, none⟩) (Below.heap_alloc W o b hb)).symm.trans h
  exact kalloc o' h0
theorem ksame {W : World} {a : Addr} {u v : Value} (h : W.cell? a = some u) : (W.setCell a v).cell? a = some v := World.cell?_setCell_same' _ _ _ (by rw [h]; rfl)
theorem kother {W : World} {b j k : Nat} {u v : Value} (hn : j ≠ k) (h : W.cell? ⟨b, j, none⟩ = some v) : (W.setCell ⟨b, k, none⟩ u).cell? ⟨b, j, none⟩ = some v := by
  simp only [World.cell?, World.setCell, Array.getElem?_modify] at h ⊢
  simp only [if_true]
  cases hb : W.heap[b]? with
  | none => rw [hb] at h; simp at h
  | some o =>
    rw [hb] at h
    cases o <;> simp_all
    rw [Array.getElem?_setIfInBounds_ne (by omega)]; exact h
theorem kis_of {W : World} {a : Addr} {v : Value} (h : W.cell? a = some v) : (W.cell? a).isSome = true := by rw [h]; rfl
theorem kis_set {W : World} {a b : Addr} {u : Value} (h : (W.cell? a).isSome = true) : ((W.setCell b u).cell? a).isSome = true := by
  obtain ⟨v, hv⟩ := Option.isSome_iff_exists.1 h
  obtain ⟨v', h'⟩ := Go.RowKit.cell?_setCell_some (p := b) (x := u) hv
  rw [h']; rfl
theorem kis_alloc {W : World} {a : Addr} (o : Obj) (h : (W.cell? a).isSome = true) : ((W.alloc o).cell? a).isSome = true := by
  obtain ⟨v, hv⟩ := Option.isSome_iff_exists.1 h
  rw [kalloc o hv]; rfl
theorem kis_drew {W : World} {a : Addr} (h : (W.cell? a).isSome = true) : (W.drew.cell? a).isSome = true := h
theorem kis_call {W W' : World} {b j : Nat} (hb : Below W.heap.size W W') (h : (W.cell? ⟨b, j, none⟩).isSome = true) : (W'.cell? ⟨b, j, none⟩).isSome = true := by
  obtain ⟨v, hv⟩ := Option.isSome_iff_exists.1 h
  rw [kcall hb hv]; rfl
theorem ksameS {W : World} {a : Addr} {v : Value} (h : (W.cell? a).isSome = true) : (W.setCell a v).cell? a = some v := World.cell?_setCell_same' _ _ _ h
theorem kset3 {W : World} {q : Nat} {x y z u0 u1 u2 : Value} (h0 : W.cell? ⟨q, 0, none⟩ = some u0) (h1 : W.cell? ⟨q, 1, none⟩ = some u1) (h2 : W.cell? ⟨q, 2, none⟩ = some u2) :
    (((W.setCell ⟨q, 0, none⟩ x).setCell ⟨q, 1, none⟩ y).setCell ⟨q, 2, none⟩ z).cell? ⟨q, 0, none⟩ = some x ∧ (((W.setCell ⟨q, 0, none⟩ x).setCell ⟨q, 1, none⟩ y).setCell ⟨q, 2, none⟩ z).cell? ⟨q, 1, none⟩ = some y ∧
    (((W.setCell ⟨q, 0, none⟩ x).setCell ⟨q, 1, none⟩ y).setCell ⟨q, 2, none⟩ z).cell? ⟨q, 2, none⟩ = some z :=
  ⟨kother (by decide) (kother (by decide) (ksame h0)), kother (by decide) (ksame (kother (by decide) h1)), ksame (kother (by decide) (kother (by decide) h2))⟩
theorem kset2 {W : World} {q : Nat} {x y u0 u1 : Value} (h0 : W.cell? ⟨q, 0, none⟩ = some u0) (h1 : W.cell? ⟨q, 1, none⟩ = some u1) :
    ((W.setCell ⟨q, 0, none⟩ x).setCell ⟨q, 1, none⟩ y).cell? ⟨q, 0, none⟩ = some x ∧ ((W.setCell ⟨q, 0, none⟩ x).setCell ⟨q, 1, none⟩ y).cell? ⟨q, 1, none⟩ = some y :=
  ⟨kother (by decide) (ksame h0), ksame (kother (by decide) h1)⟩
theorem kfresh {W : World} {c : Array Value} {t : TypeId} {q j : Nat} {v : Value} (hq : q = W.heap.size) (hc : c[j]? = some v) : (W.alloc (.cells c t)).cell? ⟨q, j, none⟩ = some v := by
  subst hq
  have h : (W.alloc (.cells c t)).heap[W.heap.size]? = some (.cells c t) := by
    show (W.heap.push _)[W.heap.size]? = _
    simp
  simp only [World.cell?, h]
  exact hc
theorem kis_new {W : World} {c : Array Value} {t : TypeId} {q j : Nat} (hq : q = W.heap.size) (hc : (c[j]?).isSome = true) : ((W.alloc (.cells c t)).cell? ⟨q, j, none⟩).isSome = true := by
  obtain ⟨v, hv⟩ := Option.isSome_iff_exists.1 hc
  rw [kfresh hq hv]; rfl
theorem kfro {W W' : World} {b j : Nat} (hb : Below W.heap.size W W') (hl : b < W.heap.size) (h : W.frozen? ⟨b, j, none⟩ = false) : W'.frozen? ⟨b, j, none⟩ = false :=
  (hb.frozen (p := ⟨b, j, none⟩) hl).trans h
theorem fallocNew {W : World} {c : Array Value} {t : TypeId} {q j : Nat} (hq : q = W.heap.size) : (W.alloc (.cells c t)).frozen? ⟨q, j, none⟩ = false := by
  subst hq
  have h : (W.alloc (.cells c t)).heap[W.heap.size]? = some (.cells c t) := by
    show (W.heap.push _)[W.heap.size]? = _
    simp
  simp only [World.frozen?, h]
  simp
theorem falloc {W : World} {b j : Nat} {o : Obj} (hl : b < W.heap.size) (h : W.frozen? ⟨b, j, none⟩ = false) : (W.alloc o).frozen? ⟨b, j, none⟩ = false :=
  (World.frozen?_of_block (w := W) (a := ⟨b, j, none⟩) (Below.heap_alloc W o b hl)).trans h
theorem kback {W : World} {b j : Nat} {v : Value} {o : Obj} (hn : b ≠ W.heap.size) (h : (W.alloc o).cell? ⟨b, j, none⟩ = some v) : W.cell? ⟨b, j, none⟩ = some v := by
  have hl : b < (W.alloc o).heap.size := World.block_lt_of_cell? (W.alloc o) ⟨b, j, none⟩ h
  have hb : b < W.heap.size := by simp at hl; omega
  exact (World.cell?_of_block (w := W) (a := ⟨b, j, none⟩) (Below.heap_alloc W o b hb)).symm.trans h
theorem kundrew {W : World} {a : Addr} {v : Value} (h : W.drew.cell? a = some v) : W.cell? a = some v := h
theorem kdrew {W : World} {a : Addr} {v : Value} (h : W.cell? a = some v) : W.drew.cell? a = some v := h
theorem kdrewN {W : World} {a : Addr} {v : Value} {n : Nat} (h : W.cell? a = some v) : (W.drewN n).cell? a = some v := h
theorem fdrewN {W : World} {a : Addr} {n : Nat} (h : W.frozen? a = false) : (W.drewN n).frozen? a = false := h
theorem fdrew {W : World} {a : Addr} (h : W.frozen? a = false) : W.drew.frozen? a = false := h
theorem kset {W : World} {b j q k : Nat} {u v : Value} (hn : b ≠ q) (h : W.cell? ⟨b, j, none⟩ = some v) : (W.setCell ⟨q, k, none⟩ u).cell? ⟨b, j, none⟩ = some v := by
  rw [← h]
  exact World.cell?_of_block (w := W) (Below.heap_setCell W ⟨q, k, none⟩ u b hn)

/-- The ten primes. -/
def isP (p : Int) : Bool := decide (p = 3 ∨ p = 5 ∨ p = 7 ∨ p = 11 ∨ p = 13 ∨ p = 17 ∨ p = 19 ∨ p = 23 ∨ p = 29 ∨ p = 31)
/-- A number from lo to hi. -/
def inB (n lo hi : Int) : Bool := decide (lo ≤ n ∧ n ≤ hi)
theorem inB_true {n lo hi : Int} (h : lo ≤ n ∧ n ≤ hi) : inB n lo hi = true := by unfold inB; exact decide_eq_true h
theorem inB_false {n lo hi : Int} (h : ¬ (lo ≤ n ∧ n ≤ hi)) : inB n lo hi = false := by unfold inB; exact decide_eq_false h
theorem isP_iff {p : Int} : isP p = true ↔ (p = 3 ∨ p = 5 ∨ p = 7 ∨ p = 11 ∨ p = 13 ∨ p = 17 ∨ p = 19 ∨ p = 23 ∨ p = 29 ∨ p = 31) := by unfold isP; exact decide_eq_true_iff
theorem isP_range {p : Int} (h : isP p = true) : 3 ≤ p ∧ p ≤ 31 := by rw [isP_iff] at h; omega
theorem isP_none {p : Int} (h : ¬ (3 ≤ p ∧ p ≤ 31)) : isP p = false := by
  cases hh : isP p with
  | false => rfl
  | true => exact absurd (isP_range hh) h
/-- A number below 32 without a divisor from 2 on up to its root is a prime, and one with such a divisor is none. -/
theorem isP_divs_fin : ∀ p : Fin 32, ∀ d : Fin 7, 3 ≤ p.val → 2 ≤ d.val → p.val % d.val = 0 → d.val * d.val ≤ p.val → isP (p.val : Int) = false := by decide +kernel
theorem isP_nodivs_fin : ∀ p : Fin 32, ∀ k : Fin 7, 3 ≤ p.val → p.val < k.val * k.val → (∀ d : Fin 7, d.val < k.val → 2 ≤ d.val → p.val % d.val ≠ 0) → isP (p.val : Int) = true := by decide +kernel
theorem isP_divs (p d : Nat) (h : p < 32) (h3 : 3 ≤ p) (hd : d < 7) (h2 : 2 ≤ d) (hm : p % d = 0) (hq : d * d ≤ p) : isP (p : Int) = false :=
  isP_divs_fin ⟨p, h⟩ ⟨d, hd⟩ h3 h2 hm hq
theorem isP_nodivs (p k : Nat) (h : p < 32) (h3 : 3 ≤ p) (hk : k < 7) (hq : p < k * k) (hm : ∀ d, d < k → 2 ≤ d → p % d ≠ 0) : isP (p : Int) = true :=
  isP_nodivs_fin ⟨p, h⟩ ⟨k, hk⟩ h3 hq fun d hdk hd2 => hm d.val hdk hd2

end Go.Proofs.Ytodabjolblamgaa
