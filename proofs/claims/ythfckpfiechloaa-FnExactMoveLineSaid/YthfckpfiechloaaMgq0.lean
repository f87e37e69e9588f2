/-
  Small texts in one: Math, BaseMath, MoveMath, MoveProd, OrdMath, Field, ImplRest, ImplDiff, ImplInv, ImplMade, ImplLine, Slice, Btw, Pencil, ImplLineR, MovedLine, Mod, SpecVec, SpecProd1, SpecDir, SpecPlus, SpecLead, SpecMoved, Inv, SpecNormal, SpecThrough, MoveCode, SpecPts, SpecIsM, Code, Last, KeepDrew, SpecLins, Apart, SeqAll, PtCells, SpecAt0, RangeOn, KeepT, Grow, PtKey, SetMath, FlatAt, CollectPts.
-/
import Derived.WalkKit
import Derived.Deep.QuietTactic
import Derived.BigQuiet
import Derived.StillTailTactics
import Derived.LoopN
import Derived.Test.YthfckpfiechloaaRows
import Derived.Lib.Hide
import Derived.RangeFuncNested
import Derived.RangeFuncBound
import Derived.RangeFuncCalls
import Derived.RangeFuncLeaves
import Derived.Shelf.Abstract
import Derived.OwnWalkIn
import Derived.TacticsInMore
import Derived.LoopNIn
import Derived.LoopIn
import Derived.Deep.RegionHeld3
import Derived.Deep.DeepCutAuto
import Derived.Below
import Derived.Maps.Own
import Derived.Maps.OwnSet
import Derived.Maps.Views
import Derived.DeepKeys4
import Derived.WideKeyPair
import Derived.TacticsIn
import Derived.RegionIn
import Derived.Shelf.RegionOpen

namespace Go.Proofs.Ythfckpfiechloaa
open Go.RowKit

theorem balloc {w w1 : World} (h : Below w.heap.size w w1) (o : Obj) : Below w.heap.size w (w1.alloc o) := h.alloc h.size o
theorem bdrewN {B : Nat} {w w1 : World} (h : Below B w w1) (n : Nat) : Below B w (w1.drewN n) := ⟨h.os, h.tape, h.output, h.size, h.block⟩
/-- Two calls, one behind the other. -/
theorem bthen {w w1 w2 : World} (h : Below w.heap.size w w1) (k : Below w1.heap.size w1 w2) : Below w.heap.size w w2 := h.trans (k.mono h.size)

theorem cell_back {W w' : World} (h : Below W.heap.size W w') {b : Nat} (hb : b < W.heap.size) (j : Nat) : w'.cell? ⟨b, j, none⟩ = W.cell? ⟨b, j, none⟩ := h.cell (p := ⟨b, j, none⟩) hb

theorem bcell {W w1 : World} (hb : Below W.heap.size W w1) : (∀ b o, b < W.heap.size → w1.cell? ⟨b, o, none⟩ = W.cell? ⟨b, o, none⟩) ∧ (∀ b o, b < W.heap.size → w1.frozen? ⟨b, o, none⟩ = W.frozen? ⟨b, o, none⟩) :=
  ⟨fun b o h => hb.cell (p := ⟨b, o, none⟩) h, fun b o h => hb.frozen (p := ⟨b, o, none⟩) h⟩

theorem stillOf {P : Program} {f : FuncId} {args : Array Value} {w : World} {v : Value} (h : Calls P f args w fun e w' => e = .returned v ∧ w = w') : Calls P f args w fun e w'' => e = .returned v ∧ w'' = w :=
  Calls.mono h fun _ _ hh => ⟨hh.1, hh.2.symm⟩
theorem quietOf {P : Program} {f : FuncId} {args : Array Value} {w : World} {n : Nat} {v : Value} (h : Calls P f args (w.drewN n) fun e w' => e = .returned v ∧ w.drewN n = w') : Calls P f args (w.drewN n) fun e w'' => e = .returned v ∧ ∃ m, w'' = w.drewN m :=
  Calls.mono h fun _ _ hh => ⟨hh.1, n, hh.2.symm⟩

/-- A region that draws its order: what only reads and calls quietly, then a tail in one order. -/
theorem region_tail {P : Program} {id : Nat} {Q : Exit → Act → World → Prop} {a : Act} {w : World} {l : List Oper} (n : Nat) (hm : P.follows .mixedOrders = true) (hB : Region.lexTailB .any l.toArray n = true)
    (h : wpStill P l.toArray w.drew (fun a' => wpList P l.toArray Q (l.drop n) a' w.drew) (l.take n) a) : (Code.region id l.toArray true).wp P Q a w := wp_region_still_tail n hm hB h

theorem kalloc {W : World} {a : Addr} {v : Value} (o : Obj) (h : W.cell? a = some v) : (W.alloc o).cell? a = some v := by
  have hl : a.block < W.heap.size := World.block_lt_of_cell? W a h
  rw [← h]
  exact World.cell?_of_block (w := W) (Below.heap_alloc W o a.block hl)
theorem kcall {W W' : World} {b j : Nat} {v : Value} (hb : Below W.heap.size W W') (h : W.cell? ⟨b, j, none⟩ = some v) : W'.cell? ⟨b, j, none⟩ = some v :=
  (cell_back hb (World.block_lt_of_cell? W ⟨b, j, none⟩ h) j).trans h
theorem krealloc {W : World} {b j : Nat} {v : Value} {o o' : Obj} (hn : b ≠ W.heap.size) (h : (W.alloc o).cell? ⟨b, j, none⟩ = some v) : (W.alloc o').cell? ⟨b, j, none⟩ = some v := by
  have hl : b < (W.alloc o).heap.size := World.block_lt_of_cell? (W.alloc o) ⟨b, j, none⟩ h
  have hb : b < W.heap.size := by simp at hl; omega
  have h0 : W.cell? ⟨b, j, none⟩ = some v := (World.cell?_of_block (w := W) (a := ⟨b, j, none⟩) (Below.heap_alloc W o b hb)).symm.trans h
  exact kalloc o' h0
theorem ksame {W : World} {a : Addr} {u v : Value} (h : W.cell? a = some u) : (W.setCell a v).cell? a = some v := World.cell?_setCell_same' _ _ _ (by rw [h]; rfl)
theorem kother {W : World} {b j k : Nat} {u v : Value} (hn : j ≠ k) (h : W.cell? ⟨b, j, none⟩ = some v) : (W.setCell ⟨b, k, none⟩ u).cell? ⟨b, j, none⟩ = some v := by
  simp only [World.cell?, World.setCell, Array.getElem?_modify] at h ⊢
  simp only [if_true]
  cases hb : W.heap[b]? with
  | none => rw [hb] at h; simp at h
  | some o =>
    rw [hb] at h
    cases o <;> simp_all
    rw [Array.getElem?_setIfInBounds_ne (by omega)]; exact h
theorem kis_of {W : World} {a : Addr} {v : Value} (h : W.cell? a = some v) : (W.cell? a).isSome = true := by rw [h]; rfl
theorem kis_set {W : World} {a b : Addr} {u : Value} (h : (W.cell? a).isSome = true) : ((W.setCell b u).cell? a).isSome = true := by
  obtain ⟨v, hv⟩ := Option.isSome_iff_exists.1 h
  obtain ⟨v', h'⟩ := Go.RowKit.cell?_setCell_some (p := b) (x := u) hv
  rw [h']; rfl
theorem kis_alloc {W : World} {a : Addr} (o : Obj) (h : (W.cell? a).isSome = true) : ((W.alloc o).cell? a).isSome = true := by
  obtain ⟨v, hv⟩ := Option.isSome_iff_exists.1 h
  rw [kalloc o hv]; rfl
theorem kis_drew {W : World} {a : Addr} (h : (W.cell? a).isSome = true) : (W.drew.cell? a).isSome = true := h
theorem kis_call {W W' : World} {b j : Nat} (hb : Below W.heap.size W W') (h : (W.cell? ⟨b, j, none⟩).isSome = true) : (W'.cell? ⟨b, j, none⟩).isSome = true := by
  obtain ⟨v, hv⟩ := Option.isSome_iff_exists.1 h
  rw [kcall hb hv]; rfl
theorem ksameS {W : World} {a : Addr} {v : Value} (h : (W.cell? a).isSome = true) : (W.setCell a v).cell? a = some v := World.cell?_setCell_same' _ _ _ h
theorem kset3 {W : World} {q : Nat} {x y z u0 u1 u2 : Value} (h0 : W.cell? ⟨q, 0, none⟩ = some u0) (h1 : W.cell? ⟨q, 1, none⟩ = some u1) (h2 : W.cell? ⟨q, 2, none⟩ = some u2) :
    (((W.setCell ⟨q, 0, none⟩ x).setCell ⟨q, 1, none⟩ y).setCell ⟨q, 2, none⟩ z).cell? ⟨q, 0, none⟩ = some x ∧ (((W.setCell ⟨q, 0, none⟩ x).setCell ⟨q, 1, none⟩ y).setCell ⟨q, 2, none⟩ z).cell? ⟨q, 1, none⟩ = some y ∧
    (((W.setCell ⟨q, 0, none⟩ x).setCell ⟨q, 1, none⟩ y).setCell ⟨q, 2, none⟩ z).cell? ⟨q, 2, none⟩ = some z :=
  ⟨kother (by decide) (kother (by decide) (ksame h0)), kother (by decide) (ksame (kother (by decide) h1)), ksame (kother (by decide) (kother (by decide) h2))⟩
theorem kset2 {W : World} {q : Nat} {x y u0 u1 : Value} (h0 : W.cell? ⟨q, 0, none⟩ = some u0) (h1 : W.cell? ⟨q, 1, none⟩ = some u1) :
    ((W.setCell ⟨q, 0, none⟩ x).setCell ⟨q, 1, none⟩ y).cell? ⟨q, 0, none⟩ = some x ∧ ((W.setCell ⟨q, 0, none⟩ x).setCell ⟨q, 1, none⟩ y).cell? ⟨q, 1, none⟩ = some y :=
  ⟨kother (by decide) (ksame h0), ksame (kother (by decide) h1)⟩
theorem kfresh {W : World} {c : Array Value} {t : TypeId} {q j : Nat} {v : Value} (hq : q = W.heap.size) (hc : c[j]? = some v) : (W.alloc (.cells c t)).cell? ⟨q, j, none⟩ = some v := by
  subst hq
  have h : (W.alloc (.cells c t)).heap[W.heap.size]? = some (.cells c t) := by
    show (W.heap.push _)[W.heap.size]? = _
    simp
  simp only [World.cell?, h]
  exact hc
theorem kis_new {W : World} {c : Array Value} {t : TypeId} {q j : Nat} (hq : q = W.heap.size) (hc : (c[j]?).isSome = true) : ((W.alloc (.cells c t)).cell? ⟨q, j, none⟩).isSome = true := by
  obtain ⟨v, hv⟩ := Option.isSome_iff_exists.1 hc
  rw [kfresh hq hv]; rfl
theorem kfro {W W' : World} {b j : Nat} (hb : Below W.heap.size W W') (hl : b < W.heap.size) (h : W.frozen? ⟨b, j, none⟩ = false) : W'.frozen? ⟨b, j, none⟩ = false :=
  (hb.frozen (p := ⟨b, j, none⟩) hl).trans h
theorem fallocNew {W : World} {c : Array Value} {t : TypeId} {q j : Nat} (hq : q = W.heap.size) : (W.alloc (.cells c t)).frozen? ⟨q, j, none⟩ = false := by
  subst hq
  have h : (W.alloc (.cells c t)).heap[W.heap.size]? = some (.cells c t) := by
    show (W.heap.push _)[W.heap.size]? = _
    simp
  simp only [World.frozen?, h]
  simp
theorem falloc {W : World} {b j : Nat} {o : Obj} (hl : b < W.heap.size) (h : W.frozen? ⟨b, j, none⟩ = false) : (W.alloc o).frozen? ⟨b, j, none⟩ = false :=
  (World.frozen?_of_block (w := W) (a := ⟨b, j, none⟩) (Below.heap_alloc W o b hl)).trans h
theorem kback {W : World} {b j : Nat} {v : Value} {o : Obj} (hn : b ≠ W.heap.size) (h : (W.alloc o).cell? ⟨b, j, none⟩ = some v) : W.cell? ⟨b, j, none⟩ = some v := by
  have hl : b < (W.alloc o).heap.size := World.block_lt_of_cell? (W.alloc o) ⟨b, j, none⟩ h
  have hb : b < W.heap.size := by simp at hl; omega
  exact (World.cell?_of_block (w := W) (a := ⟨b, j, none⟩) (Below.heap_alloc W o b hb)).symm.trans h
theorem kundrew {W : World} {a : Addr} {v : Value} (h : W.drew.cell? a = some v) : W.cell? a = some v := h
theorem kdrew {W : World} {a : Addr} {v : Value} (h : W.cell? a = some v) : W.drew.cell? a = some v := h
theorem fdrew {W : World} {a : Addr} (h : W.frozen? a = false) : W.drew.frozen? a = false := h
theorem kset {W : World} {b j q k : Nat} {u v : Value} (hn : b ≠ q) (h : W.cell? ⟨b, j, none⟩ = some v) : (W.setCell ⟨q, k, none⟩ u).cell? ⟨b, j, none⟩ = some v := by
  rw [← h]
  exact World.cell?_of_block (w := W) (Below.heap_setCell W ⟨q, k, none⟩ u b hn)

/-- The ten primes. -/
def isP (p : Int) : Bool := decide (p = 3 ∨ p = 5 ∨ p = 7 ∨ p = 11 ∨ p = 13 ∨ p = 17 ∨ p = 19 ∨ p = 23 ∨ p = 29 ∨ p = 31)
/-- A number from lo to hi. -/
def inB (n lo hi : Int) : Bool := decide (lo ≤ n ∧ n ≤ hi)
theorem inB_true {n lo hi : Int} (h : lo ≤ n ∧ n ≤ hi) : inB n lo hi = true := by unfold inB; exact decide_eq_true h
theorem inB_false {n lo hi : Int} (h : ¬ (lo ≤ n ∧ n ≤ hi)) : inB n lo hi = false := by unfold inB; exact decide_eq_false h
theorem isP_iff {p : Int} : isP p = true ↔ (p = 3 ∨ p = 5 ∨ p = 7 ∨ p = 11 ∨ p = 13 ∨ p = 17 ∨ p = 19 ∨ p = 23 ∨ p = 29 ∨ p = 31) := by unfold isP; exact decide_eq_true_iff
theorem isP_range {p : Int} (h : isP p = true) : 3 ≤ p ∧ p ≤ 31 := by rw [isP_iff] at h; omega
theorem isP_none {p : Int} (h : ¬ (3 ≤ p ∧ p ≤ 31)) : isP p = false := by
  cases hh : isP p with
  | false => rfl
  | true => exact absurd (isP_range hh) h
/-- A number below 32 without a divisor from 2 on up to its root is a prime, and one with such a divisor is none. -/
theorem isP_divs_fin : ∀ p : Fin 32, ∀ d : Fin 7, 3 ≤ p.val → 2 ≤ d.val → p.val % d.val = 0 → d.val * d.val ≤ p.val → isP (p.val : Int) = false := by decide +kernel
theorem isP_nodivs_fin : ∀ p : Fin 32, ∀ k : Fin 7, 3 ≤ p.val → p.val < k.val * k.val → (∀ d : Fin 7, d.val < k.val → 2 ≤ d.val → p.val % d.val ≠ 0) → isP (p.val : Int) = true := by decide +kernel
theorem isP_divs (p d : Nat) (h : p < 32) (h3 : 3 ≤ p) (hd : d < 7) (h2 : 2 ≤ d) (hm : p % d = 0) (hq : d * d ≤ p) : isP (p : Int) = false :=
  isP_divs_fin ⟨p, h⟩ ⟨d, hd⟩ h3 h2 hm hq
theorem isP_nodivs (p k : Nat) (h : p < 32) (h3 : 3 ≤ p) (hk : k < 7) (hq : p < k * k) (hm : ∀ d, d < k → 2 ≤ d → p % d ≠ 0) : isP (p : Int) = true :=
  isP_nodivs_fin ⟨p, h⟩ ⟨k, hk⟩ h3 hq fun d hdk hd2 => hm d.val hdk hd2

end Go.Proofs.Ythfckpfiechloaa

namespace Go.Proofs.Ythfckpfiechloaa
open Go.RowKit

/-- No number before k answers yes. -/
def NoYes (f : Nat → Bool) (k : Nat) : Prop := ∀ c, c < k → f c = false
theorem NoYes.start (f : Nat → Bool) : NoYes f 0 := fun _ h => absurd h (by omega)
theorem NoYes.next {f : Nat → Bool} {k : Nat} (h : NoYes f k) (hk : f k = false) : NoYes f (k + 1) := fun c hc => by
  by_cases e : c = k
  · rw [e]; exact hk
  · exact h c (by omega)
theorem find_some {f : Nat → Bool} {n k : Nat} (h : NoYes f k) (hk : k < n) (hy : f k = true) : (List.range n).find? f = some k := by
  rw [List.find?_eq_some_iff_append]
  refine ⟨hy, List.range k, (List.range' (k + 1) (n - k - 1)), ?_, ?_⟩
  · rw [List.range_eq_range', List.range_eq_range', show (k :: List.range' (k + 1) (n - k - 1)) = List.range' k (n - k) by
      rw [show n - k = (n - k - 1) + 1 by omega, List.range'_succ]; rfl]
    have := @List.range'_append_1 0 k (n - k)
    rw [Nat.zero_add, show k + (n - k) = n by omega] at this
    exact this.symm
  · intro a ha
    have := h a (by simpa using ha)
    simp [this]
theorem find_none {f : Nat → Bool} {n k : Nat} (h : NoYes f k) (hk : n ≤ k) : (List.range n).find? f = none := by
  rw [List.find?_eq_none]
  intro x hx
  have := h x (by have := List.mem_range.1 hx; omega)
  simp [this]

/-- The inverse of m modulo n, or 0. -/
def invN (n m : Nat) : Nat := ((List.range n).find? fun b => m * b % n == 1).getD 0
/-- The inverse of a modulo p, or 0. -/
def inv (p a : Int) : Int := (invN p.toNat (a % p).toNat : Int)
theorem isP_ne {n : Nat} (h : isP (n : Int) = true) : 3 ≤ n ∧ n ≤ 31 := by have := isP_range h; omega
theorem pow_inv_fin : ∀ n : Fin 32, isP (n.val : Int) = true → ∀ m : Fin 32, m.val < n.val → m.val ^ (n.val - 2) % n.val = invN n.val m.val := by decide +kernel
theorem pow_inv {n m : Nat} (h : isP (n : Int) = true) (hm : m < n) : m ^ (n - 2) % n = invN n m :=
  have := isP_ne h
  pow_inv_fin ⟨n, by omega⟩ h ⟨m, by omega⟩ hm
theorem invN_mod (n m : Nat) : invN n (m % n) = invN n m := by
  unfold invN
  congr 2
  funext b
  rw [Nat.mod_mul_mod]
theorem inv_cast (n m : Nat) : inv (n : Int) (m : Int) = (invN n m : Int) := by
  unfold inv
  rw [show ((m : Int) % (n : Int)).toNat = m % n by omega, Int.toNat_natCast, invN_mod]
theorem invN_lt_fin : ∀ n : Fin 32, isP (n.val : Int) = true → ∀ m : Fin 32, m.val < n.val → invN n.val m.val < n.val ∧ (0 < m.val → m.val * invN n.val m.val % n.val = 1) := by decide +kernel
theorem inv_range {p : Int} (a : Int) (h : isP p = true) : 0 ≤ inv p a ∧ inv p a < p := by
  obtain ⟨n, rfl⟩ := Int.eq_ofNat_of_zero_le (by have := isP_range h; omega : 0 ≤ p)
  have h2 := isP_ne h
  have h3 : 0 ≤ a % (n : Int) := Int.emod_nonneg _ (by omega)
  have h4 : a % (n : Int) < n := Int.emod_lt_of_pos _ (by omega)
  have := (invN_lt_fin ⟨n, by omega⟩ h ⟨(a % (n : Int)).toNat, by omega⟩ (by show (a % (n : Int)).toNat < n; omega)).1
  unfold inv
  rw [Int.toNat_natCast]
  simp only at this
  omega

/-- One step of the power by squares: the exponent halves. -/
theorem pow_step_odd {n out base k r : Nat} (hk : k % 2 = 1) (h : out * base ^ k % n = r) : (out * base % n) * (base * base % n) ^ (k / 2) % n = r := by
  have e : k = k / 2 * 2 + 1 := by omega
  rw [← h, Nat.mul_mod, Nat.mod_mod, Nat.pow_mod, Nat.mod_mod, ← Nat.pow_mod, ← Nat.mul_mod]
  conv => rhs; rw [e, Nat.pow_succ, Nat.mul_comm (k / 2) 2, Nat.pow_mul, Nat.pow_two, Nat.mul_comm _ base, ← Nat.mul_assoc]
theorem pow_step_even {n out base k r : Nat} (hk : k % 2 = 0) (h : out * base ^ k % n = r) : out * (base * base % n) ^ (k / 2) % n = r := by
  have e : k = k / 2 * 2 := by omega
  rw [← h, Nat.mul_mod, Nat.pow_mod, Nat.mod_mod, ← Nat.pow_mod, ← Nat.mul_mod]
  conv => rhs; rw [e, Nat.mul_comm (k / 2) 2, Nat.pow_mul, Nat.pow_two]

/-- Whether r is a root of a. -/
def isRoot (n : Nat) (a : Int) (r : Nat) : Bool := ((r : Int) * r % n == a)
/-- The least root of a, if there is one. -/
def rootO (p a : Int) : Option Nat := (List.range p.toNat).find? (isRoot p.toNat a)
def rootV (p a : Int) : Int := ((rootO p a).getD 0 : Nat)
def rootB (p a : Int) : Bool := (rootO p a).isSome
theorem root_some {n k : Nat} {a : Int} (h : NoYes (isRoot n a) k) (hk : k < n) (hy : isRoot n a k = true) : rootV (n : Int) a = k ∧ rootB (n : Int) a = true := by
  have := find_some h hk hy
  simp [rootV, rootB, rootO, this]
theorem root_none {n k : Nat} {a : Int} (h : NoYes (isRoot n a) k) (hk : n ≤ k) : rootV (n : Int) a = 0 ∧ rootB (n : Int) a = false := by
  have := find_none h hk
  simp only [rootV, rootB, rootO, Int.toNat_natCast, this]
  exact ⟨rfl, rfl⟩

/-- Go's remainder twice is the rest. -/
theorem mod_twice (x p : Int) : (x.tmod p + p) % p = x % p := by
  rw [Int.add_emod_right]
  rw [Int.tmod_def, Int.sub_mul_emod_self_left]
theorem tmod_bounds (x p : Int) (h : 1 ≤ p) : -p < x.tmod p ∧ x.tmod p < p := by
  have h1 := Int.tmod_lt_of_pos x (by omega : 0 < p)
  have h2 := Int.lt_tmod_of_pos x (by omega : 0 < p)
  omega

end Go.Proofs.Ythfckpfiechloaa

namespace Go.Proofs.Ythfckpfiechloaa
open Go.RowKit

section
variable {n : Nat} [NeZero n]
/-- The class of a number modulo n. -/
def K (n : Nat) [NeZero n] (x : Int) : Fin n := (Lean.Grind.Ring.intCast.intCast x : Fin n)
theorem K_ext {x y : Int} : K n x = K n y ↔ x % n = y % n := Lean.Grind.IsCharP.intCast_ext_iff (α := Fin n) n
theorem K_add (x y : Int) : K n (x + y) = K n x + K n y := Lean.Grind.Ring.intCast_add x y
theorem K_mul (x y : Int) : K n (x * y) = K n x * K n y := Lean.Grind.Ring.intCast_mul x y
theorem K_sub (x y : Int) : K n (x - y) = K n x - K n y := Lean.Grind.Ring.intCast_sub x y
theorem K_neg (x : Int) : K n (-x) = -K n x := Lean.Grind.Ring.intCast_neg x
theorem K_mod (x : Int) : K n (x % n) = K n x := Lean.Grind.IsCharP.intCast_emod n x
theorem K_zero : K n 0 = 0 := Lean.Grind.Ring.intCast_zero
theorem K_one : K n 1 = 1 := Lean.Grind.Ring.intCast_one
theorem K_two : K n 2 = 2 := by rw [show (2 : Int) = 1 + 1 from rfl, K_add, K_one]; grind
theorem K_three : K n 3 = 3 := by rw [show (3 : Int) = 2 + 1 from rfl, K_add, K_two, K_one]; grind
theorem K_four : K n 4 = 4 := by rw [show (4 : Int) = 2 + 2 from rfl, K_add, K_two]; grind
theorem K_eq_zero {x : Int} : K n x = 0 ↔ x % n = 0 := by
  rw [← K_zero, K_ext, Int.zero_emod]
theorem K_self : K n n = 0 := by rw [K_eq_zero]; exact Int.emod_self
theorem K_inj {x y : Int} (hx : 0 ≤ x ∧ x < n) (hy : 0 ≤ y ∧ y < n) (h : K n x = K n y) : x = y := by
  have := K_ext.1 h
  rwa [Int.emod_eq_of_lt hx.1 hx.2, Int.emod_eq_of_lt hy.1 hy.2] at this
theorem K_small {x : Int} (hx : 0 ≤ x ∧ x < n) (h : x ≠ 0) : K n x ≠ 0 := fun e => h (by
  have := K_eq_zero.1 e
  rwa [Int.emod_eq_of_lt hx.1 hx.2] at this)
theorem K_inv (hp : isP (n : Int) = true) {y : Int} (hy : K n y ≠ 0) : K n y * K n (inv n y) = 1 := by
  have hr := isP_ne hp
  have h3 : 0 ≤ y % (n : Int) := Int.emod_nonneg _ (by omega)
  have h4 : y % (n : Int) < n := Int.emod_lt_of_pos _ (by omega)
  obtain ⟨m, hm⟩ := Int.eq_ofNat_of_zero_le h3
  have hm0 : 0 < m := by
    rcases Nat.eq_zero_or_pos m with h | h
    · exact absurd (K_eq_zero.2 (by rw [hm, h]; rfl)) hy
    · exact h
  have h5 := (invN_lt_fin ⟨n, by omega⟩ hp ⟨m, by omega⟩ (by show m < n; omega)).2 hm0
  have e : inv (n : Int) y = (invN n m : Int) := by
    unfold inv; rw [hm, Int.toNat_natCast, Int.toNat_natCast]
  rw [← K_mod y, hm, e, ← K_mul, ← K_one, K_ext, ← Int.natCast_mul, ← Int.natCast_emod]
  simp only at h5
  rw [h5, Int.emod_eq_of_lt (by omega) (by omega)]; rfl
theorem K_noz (hp : isP (n : Int) = true) {x y : Int} (h : K n x * K n y = 0) : K n x = 0 ∨ K n y = 0 := by
  by_cases hx : K n x = 0
  · exact .inl hx
  · have := K_inv hp hx
    right; grind
end
theorem neZero_of {n : Nat} (hp : isP (n : Int) = true) : NeZero n := ⟨by have := isP_ne hp; omega⟩
end Go.Proofs.Ythfckpfiechloaa

namespace Go.Proofs.Ythfckpfiechloaa
open Go.RowKit

/-- All the numbers are modulo p. -/
def numsIn (p : Int) (xs : List Int) : Bool := xs.all fun x => inB x 0 (p - 1)
/-- The code of a prime and a test. -/
def codeOf (p : Int) (b : Bool) : Int := if isP p then (if b then 0 else 2) else 1
theorem codeOf_no {p : Int} {b : Bool} (h : isP p = false) : codeOf p b = 1 := by simp [codeOf, h]
theorem codeOf_out {p : Int} {b : Bool} (h : isP p = true) (hb : b = false) : codeOf p b = 2 := by simp [codeOf, h, hb]
theorem codeOf_in {p : Int} {b : Bool} (h : isP p = true) (hb : b = true) : codeOf p b = 0 := by simp [codeOf, h, hb]

/-- The numbers before k are all in the range. -/
def UpIn (p : Int) (xs : List Int) (k : Nat) : Prop := ∀ i, i < k → inB (xs.getD i 0) 0 (p - 1) = true
theorem UpIn.start (p : Int) (xs : List Int) : UpIn p xs 0 := fun _ h => absurd h (by omega)
theorem UpIn.next {p : Int} {xs : List Int} {k : Nat} {x : Int} (h : UpIn p xs k) (hx : x = xs.getD k 0) (hin : inB x 0 (p - 1) = true) : UpIn p xs (k + 1) := fun i hi => by
  by_cases e : i = k
  · rw [e, ← hx]; exact hin
  · exact h i (by omega)
theorem UpIn.all {p : Int} {xs : List Int} {k : Nat} (h : UpIn p xs k) (hk : xs.length ≤ k) : numsIn p xs = true := by
  unfold numsIn
  rw [List.all_eq_true]
  intro x hx
  obtain ⟨i, hi, e⟩ := List.getElem_of_mem hx
  have h1 := h i (by omega)
  rw [List.getD_eq_getElem?_getD, List.getElem?_eq_getElem hi, Option.getD_some, e] at h1
  exact h1
theorem numsIn_no {p : Int} {xs : List Int} {k : Nat} {x : Int} (hk : k < xs.length) (hx : x = xs.getD k 0) (hin : inB x 0 (p - 1) = false) : numsIn p xs = false := by
  unfold numsIn
  rw [List.all_eq_false]
  refine ⟨xs[k], List.getElem_mem hk, ?_⟩
  rw [List.getD_eq_getElem?_getD, List.getElem?_eq_getElem hk, Option.getD_some] at hx
  rw [← hx, hin]; simp

/-- The cells from o on of block b hold the numbers. -/
def Cells (w : World) (b o : Nat) (xs : List Int) : Prop := ∀ i, i < xs.length → w.cell? ⟨b, o + i, none⟩ = some (.int .i64 (xs.getD i 0))

theorem cells_new (w : World) (xs : List Int) (t : TypeId) : Cells (w.alloc (.cells (xs.map (Value.int .i64)).toArray t)) w.heap.size 0 xs := by
  intro i hi
  have h : (w.alloc (.cells (xs.map (Value.int .i64)).toArray t)).heap[w.heap.size]? = some (.cells (xs.map (Value.int .i64)).toArray t) := by
    show (w.heap.push _)[w.heap.size]? = _
    simp
  simp only [World.cell?, h, Nat.zero_add]
  simp [List.getElem?_eq_getElem hi]

theorem code_cases (p : Int) (b : Bool) : (codeOf p b = 0 ∧ isP p = true ∧ b = true) ∨ codeOf p b = 1 ∨ codeOf p b = 2 := by
  unfold codeOf; cases isP p <;> cases b <;> simp
/-- A code that is no zero stays with another test behind it. -/
theorem code_and_1 {p : Int} {a b : Bool} (h : codeOf p a = 1) : codeOf p (a && b) = 1 := by
  cases hp : isP p
  · exact codeOf_no hp
  · revert h; cases a <;> simp [codeOf, hp]
theorem code_and_2 {p : Int} {a b : Bool} (h : codeOf p a = 2) : codeOf p (a && b) = 2 := by
  cases hp : isP p
  · rw [codeOf_no hp] at h; omega
  · revert h; cases a <;> simp [codeOf, hp]
/-- Which of two tests has failed. -/
theorem code_split_1 {p : Int} {a b : Bool} (h : codeOf p (a && b) = 1) : codeOf p a = 1 := by
  cases hp : isP p
  · exact codeOf_no hp
  · revert h; cases a <;> cases b <;> simp [codeOf, hp]
theorem code_split_2 {p : Int} {a b : Bool} (h : codeOf p (a && b) = 2) : (isP p = true ∧ codeOf p a = 0 ∧ a = true ∧ b = false ∧ codeOf p b = 2) ∨ codeOf p a = 2 := by
  cases hp : isP p
  · rw [codeOf_no hp] at h; omega
  · cases a
    · exact .inr (codeOf_out hp rfl)
    · cases b
      · exact .inl ⟨rfl, codeOf_in hp rfl, rfl, rfl, codeOf_out hp rfl⟩
      · simp [codeOf, hp] at h
theorem numsIn_one {p a : Int} (h : numsIn p [a] = true) : 0 ≤ a ∧ a < p := by
  simp [numsIn, inB] at h; omega

theorem numsIn2 (p a b : Int) : numsIn p [a, b] = (inB a 0 (p - 1) && inB b 0 (p - 1)) := by simp [numsIn]
theorem numsIn3 (p a b c : Int) : numsIn p [a, b, c] = (inB a 0 (p - 1) && (inB b 0 (p - 1) && inB c 0 (p - 1))) := by simp [numsIn]
theorem numsApp2 (p a b c d : Int) : numsIn p [a, b, c, d] = (numsIn p [a, b] && numsIn p [c, d]) := by simp [numsIn, Bool.and_assoc]
theorem numsApp3 (p a b c d e f : Int) : numsIn p [a, b, c, d, e, f] = (numsIn p [a, b] && (numsIn p [c, d] && numsIn p [e, f])) := by simp [numsIn, Bool.and_assoc]
theorem numsApp4 (p a b c d e f g h : Int) : numsIn p [a, b, c, d, e, f, g, h] = (numsIn p [a, b] && (numsIn p [c, d] && (numsIn p [e, f] && numsIn p [g, h]))) := by simp [numsIn, Bool.and_assoc]
/-- Three numbers are a line. -/
def leadB (a b : Int) : Bool := a == 1 || (a == 0 && b == 1)
def lineB (p a b c : Int) : Bool := leadB a b && numsIn p [a, b, c]
theorem cells_at {w : World} {b : Nat} (hb : b = w.heap.size) (xs : List Int) (t : TypeId) : Cells (w.alloc (.cells (xs.map (Value.int .i64)).toArray t)) b 0 xs := by
  subst hb; exact cells_new w xs t

end Go.Proofs.Ythfckpfiechloaa

namespace Go.Proofs.Ythfckpfiechloaa
open Go.RowKit

theorem lineB_of {p a b c : Int} (hl : leadB a b = true) (hn : numsIn p [a, b, c] = true) : lineB p a b c = true := by rw [lineB, hl, hn]; rfl
theorem lineB_no1 {p a b c : Int} (hl : leadB a b = false) : lineB p a b c = false := by rw [lineB, hl]; rfl
theorem lineB_no2 {p a b c : Int} (hn : numsIn p [a, b, c] = false) : lineB p a b c = false := by rw [lineB, hn, Bool.and_false]
theorem lineB_in {p a b c : Int} (h : lineB p a b c = true) : leadB a b = true ∧ numsIn p [a, b, c] = true := by simpa [lineB] using h

/-- The four ways of the two leading numbers. -/
theorem leadB_ways (a b : Int) : (a = 1 ∧ leadB a b = true) ∨ (a = 0 ∧ b = 1 ∧ leadB a b = true) ∨ (a = 0 ∧ (b == 1) = false ∧ leadB a b = false) ∨ ((a == 1) = false ∧ (a == 0) = false ∧ leadB a b = false) := by
  by_cases h1 : a = 1
  · exact .inl ⟨h1, by simp [leadB, h1]⟩
  · by_cases h0 : a = 0
    · by_cases hb : b = 1
      · exact .inr (.inl ⟨h0, hb, by simp [leadB, h0, hb]⟩)
      · exact .inr (.inr (.inl ⟨h0, by simpa using hb, by simp [leadB, h0, hb]⟩))
    · exact .inr (.inr (.inr ⟨by simpa using h1, by simpa using h0, by simp [leadB, h0, h1]⟩))

end Go.Proofs.Ythfckpfiechloaa

namespace Go.Proofs.Ythfckpfiechloaa
open Go.RowKit

theorem mulP {a b : Int} (ha : 0 ≤ a ∧ a ≤ 31) (hb : 0 ≤ b ∧ b ≤ 31) : 0 ≤ a * b ∧ a * b ≤ 961 :=
  ⟨Int.mul_nonneg ha.1 hb.1, by have := Int.mul_le_mul ha.2 hb.2 hb.1 (by omega); omega⟩
theorem mulB {a b : Int} (ha : -8192 ≤ a ∧ a ≤ 8192) (hb : -8192 ≤ b ∧ b ≤ 8192) : -67108864 ≤ a * b ∧ a * b ≤ 67108864 := by
  have h : (a * b).natAbs ≤ 8192 * 8192 := by rw [Int.natAbs_mul]; exact Nat.mul_le_mul (by omega) (by omega)
  omega
theorem wrapI (x : Int) (h : -1099511627776 ≤ x ∧ x ≤ 1099511627776) : IntKind.i64.wrap x = x := IntWalk.i64_in _ (by omega)
theorem modR (x : Int) {p : Int} (h : isP p = true) : 0 ≤ x % p ∧ x % p < p := by
  have := isP_range h
  exact ⟨Int.emod_nonneg _ (by omega), Int.emod_lt_of_pos _ (by omega)⟩
theorem modR31 (x : Int) {p : Int} (h : isP p = true) : 0 ≤ x % p ∧ x % p ≤ 31 := by
  have := isP_range h; have := modR x h; omega
theorem invR31 (x : Int) {p : Int} (h : isP p = true) : 0 ≤ inv p x ∧ inv p x ≤ 31 := by
  have := isP_range h; have := inv_range x h; omega
theorem nums2 {p a b : Int} (h : numsIn p [a, b] = true) : (0 ≤ a ∧ a < p) ∧ (0 ≤ b ∧ b < p) := by
  simp [numsIn, inB] at h; omega
theorem nums3 {p a b c : Int} (h : numsIn p [a, b, c] = true) : (0 ≤ a ∧ a < p) ∧ (0 ≤ b ∧ b < p) ∧ (0 ≤ c ∧ c < p) := by
  simp [numsIn, inB] at h; omega
theorem nums4 {p a b c d : Int} (h : numsIn p [a, b, c, d] = true) : (0 ≤ a ∧ a < p) ∧ (0 ≤ b ∧ b < p) ∧ (0 ≤ c ∧ c < p) ∧ (0 ≤ d ∧ d < p) := by
  simp [numsIn, inB] at h; omega
theorem nums6 {p a b c d e f : Int} (h : numsIn p [a, b, c, d, e, f] = true) : (0 ≤ a ∧ a < p) ∧ (0 ≤ b ∧ b < p) ∧ (0 ≤ c ∧ c < p) ∧ (0 ≤ d ∧ d < p) ∧ (0 ≤ e ∧ e < p) ∧ (0 ≤ f ∧ f < p) := by
  simp [numsIn, inB] at h; omega
theorem lead_ways {a b : Int} (h : leadB a b = true) : a = 1 ∨ a = 0 ∧ b = 1 := by
  simpa [leadB] using h

/-- What the first number that is not 0 is divided by. -/
def nrm (p a b : Int) : Int := if a % p = 0 then inv p b else inv p a
theorem inv_mod (p a : Int) : inv p (a % p) = inv p a := by unfold inv; rw [Int.emod_emod]
theorem nrm_mod (p a b : Int) : nrm p (a % p) (b % p) = nrm p a b := by unfold nrm; rw [Int.emod_emod, inv_mod, inv_mod]
theorem nrm_range {p : Int} (a b : Int) (h : isP p = true) : 0 ≤ nrm p a b ∧ nrm p a b ≤ 31 := by
  unfold nrm; split <;> exact invR31 _ h
/-- The numbers of the line that a, b, c make. -/
def mk1 (p a b _c : Int) : Int := a * nrm p a b % p
def mk2 (p a b _c : Int) : Int := b * nrm p a b % p
def mk3 (p a b c : Int) : Int := c * nrm p a b % p

section
variable {n : Nat} [NeZero n]
theorem K_nrm (hp : isP (n : Int) = true) {a b : Int} (h : ¬ (K n a = 0 ∧ K n b = 0)) : (K n a ≠ 0 ∧ K n a * K n (nrm n a b) = 1) ∨ (K n a = 0 ∧ K n b ≠ 0 ∧ K n b * K n (nrm n a b) = 1) := by
  unfold nrm
  by_cases ha : K n a = 0
  · have hb : K n b ≠ 0 := fun e => h ⟨ha, e⟩
    rw [if_pos (K_eq_zero.1 ha)]
    exact .inr ⟨ha, hb, K_inv hp hb⟩
  · rw [if_neg (fun e => ha (K_eq_zero.2 e))]
    exact .inl ⟨ha, K_inv hp ha⟩
/-- Numbers that are in one ratio make one line. -/
theorem mk_ratio (hp : isP (n : Int) = true) {a b c a' b' c' u : Int} (hu : K n u ≠ 0) (h : ¬ (K n a = 0 ∧ K n b = 0)) (ea : K n a' = K n u * K n a) (eb : K n b' = K n u * K n b) (ec : K n c' = K n u * K n c) :
    mk1 n a' b' c' = mk1 n a b c ∧ mk2 n a' b' c' = mk2 n a b c ∧ mk3 n a' b' c' = mk3 n a b c := by
  have hU := K_inv hp hu
  have h' : ¬ (K n a' = 0 ∧ K n b' = 0) := by
    rintro ⟨h1, h2⟩
    exact h ⟨by rw [ea] at h1; grind, by rw [eb] at h2; grind⟩
  unfold mk1 mk2 mk3
  simp only [← K_ext (n := n), K_mul]
  rw [ea, eb, ec]
  rcases K_nrm hp h with ⟨h1, h2⟩ | ⟨h1, h2, h3⟩ <;> rcases K_nrm hp h' with ⟨g1, g2⟩ | ⟨g1, g2, g3⟩
  · rw [ea] at g2
    refine ⟨?_, ?_, ?_⟩ <;> grind
  · rw [ea] at g1; exfalso; exact h1 (by grind)
  · rw [ea, h1] at g1; exfalso; exact g1 (by grind)
  · rw [eb] at g3
    refine ⟨?_, ?_, ?_⟩ <;> grind
end
/-- The numbers of the line through two points. -/
def th1 (p a1 a2 b1 b2 : Int) : Int := mk1 p (a2 - b2) (b1 - a1) (a1 * b2 - b1 * a2)
def th2 (p a1 a2 b1 b2 : Int) : Int := mk2 p (a2 - b2) (b1 - a1) (a1 * b2 - b1 * a2)
def th3 (p a1 a2 b1 b2 : Int) : Int := mk3 p (a2 - b2) (b1 - a1) (a1 * b2 - b1 * a2)
theorem thEq {p a1 a2 b1 b2 : Int} (hp : isP p = true) (ha1 : 0 ≤ a1 ∧ a1 < p) (ha2 : 0 ≤ a2 ∧ a2 < p) (hb1 : 0 ≤ b1 ∧ b1 < p) (hb2 : 0 ≤ b2 ∧ b2 < p) (hne : ¬ (a1 = b1 ∧ a2 = b2)) :
    th1 p a1 a2 b1 b2 = mk1 p ((b2 - a2) % p) (-((b1 - a1) % p) % p) (((b1 - a1) % p * a2 - (b2 - a2) % p * a1) % p) ∧
    th2 p a1 a2 b1 b2 = mk2 p ((b2 - a2) % p) (-((b1 - a1) % p) % p) (((b1 - a1) % p * a2 - (b2 - a2) % p * a1) % p) ∧
    th3 p a1 a2 b1 b2 = mk3 p ((b2 - a2) % p) (-((b1 - a1) % p) % p) (((b1 - a1) % p * a2 - (b2 - a2) % p * a1) % p) := by
  obtain ⟨n, rfl⟩ := Int.eq_ofNat_of_zero_le (by have := isP_range hp; omega : 0 ≤ p)
  haveI := neZero_of hp
  have hu : K n (-1) ≠ 0 := by
    intro e
    have h1 := K_eq_zero.1 e
    have := isP_ne hp
    rw [show ((-1 : Int) % (n : Int)) = n - 1 from by
      rw [Int.emod_eq_add_self_emod, Int.emod_eq_of_lt (by omega) (by omega)]; omega] at h1
    omega
  unfold th1 th2 th3
  refine mk_ratio hp hu ?_ ?_ ?_ ?_
  · rintro ⟨h1, h2⟩
    rw [K_mod, K_sub] at h1
    rw [K_mod, K_neg, K_mod, K_sub] at h2
    exact hne ⟨K_inj ha1 hb1 (by grind), K_inj ha2 hb2 (by grind)⟩
  all_goals
    simp only [K_mod, K_sub, K_neg, K_mul, K_one]
    grind
end Go.Proofs.Ythfckpfiechloaa

namespace Go.Proofs.Ythfckpfiechloaa
open Go.RowKit

/-- One of the three colours. -/
def colB (c : Int) : Bool := inB c 0 2
theorem colB_ways {c : Int} (h : colB c = true) : c = 0 ∨ c = 1 ∨ c = 2 := by
  unfold colB inB at h; have := of_decide_eq_true h; omega
theorem colB_range {c : Int} (h : colB c = true) : 0 ≤ c ∧ c ≤ 2 := by
  have := colB_ways h; omega
theorem code_col_T {p c : Int} {b : Bool} (h : colB c = true) : codeOf p (colB c && b) = codeOf p b := by rw [h, Bool.true_and]
theorem code_col_F {p c : Int} {b : Bool} (h : colB c = false) : codeOf p (colB c && b) = codeOf p false := by rw [h, Bool.false_and]
/-- A code of a test that is no zero: with another test beside it, it stays. -/
theorem code_col_1 {p : Int} {a b : Bool} (h : codeOf p b = 1) : codeOf p (a && b) = 1 := by
  cases hp : isP p
  · exact codeOf_no hp
  · revert h; cases b <;> simp [codeOf, hp]
theorem code_col_2 {p : Int} {a b : Bool} (h : codeOf p b = 2) : codeOf p (a && b) = 2 := by
  cases hp : isP p
  · rw [codeOf_no hp] at h; omega
  · revert h; cases b <;> simp [codeOf, hp]

end Go.Proofs.Ythfckpfiechloaa

namespace Go.Proofs.Ythfckpfiechloaa
open Go.RowKit

/-- The product of two points by a colour. -/
def prd (p c a1 a2 b1 b2 : Int) : Int := (if c = 0 then a1 * b1 + a2 * b2 else if c = 1 then a1 * b1 - a2 * b2 else a1 * b2 + a2 * b1) % p
theorem prd_0 (p a1 a2 b1 b2 : Int) : prd p 0 a1 a2 b1 b2 = (a1 * b1 + a2 * b2) % p := rfl
theorem prd_1 (p a1 a2 b1 b2 : Int) : prd p 1 a1 a2 b1 b2 = (a1 * b1 - a2 * b2) % p := rfl
theorem prd_2 (p a1 a2 b1 b2 : Int) : prd p 2 a1 a2 b1 b2 = (a1 * b2 + a2 * b1) % p := rfl
theorem prd_r (c a1 a2 b1 b2 : Int) {p : Int} (h : isP p = true) : 0 ≤ prd p c a1 a2 b1 b2 ∧ prd p c a1 a2 b1 b2 ≤ 31 := modR31 _ h
theorem prd_lt (c a1 a2 b1 b2 : Int) {p : Int} (h : isP p = true) : 0 ≤ prd p c a1 a2 b1 b2 ∧ prd p c a1 a2 b1 b2 < p := modR _ h
/-- The quadrance of two points by a colour. -/
def qdr (p c a1 a2 b1 b2 : Int) : Int := prd p c ((b1 - a1) % p) ((b2 - a2) % p) ((b1 - a1) % p) ((b2 - a2) % p)
/-- Whether two directions are perpendicular. -/
def perpB (p c l1 l2 m1 m2 : Int) : Bool := prd p c (-l2 % p) l1 (-m2 % p) m1 == 0

end Go.Proofs.Ythfckpfiechloaa

namespace Go.Proofs.Ythfckpfiechloaa
open Go.RowKit

def area (p a1 a2 b1 b2 c1 c2 : Int) : Int := ((b1 - a1) * (c2 - a2) - (b2 - a2) * (c1 - a1)) % p
theorem area_impl {p : Int} (a1 a2 b1 b2 c1 c2 : Int) (hp : isP p = true) :
    ((b1 - a1) % p * ((c2 - a2) % p) - (b2 - a2) % p * ((c1 - a1) % p)) % p = area p a1 a2 b1 b2 c1 c2 := by
  obtain ⟨n, rfl⟩ := Int.eq_ofNat_of_zero_le (by have := isP_range hp; omega : 0 ≤ p)
  haveI := neZero_of hp
  rw [area, ← K_ext]
  simp only [K_sub, K_mul, K_mod]

end Go.Proofs.Ythfckpfiechloaa

namespace Go.Proofs.Ythfckpfiechloaa
open Go.RowKit

/-- A number of the combination of two points. -/
def cmb (p a b t : Int) : Int := (a + t * (b - a)) % p
theorem cmb_spec {p : Int} (a b t : Int) (hp : isP p = true) : (a + t * ((b - a) % p) % p) % p = cmb p a b t := by
  obtain ⟨n, rfl⟩ := Int.eq_ofNat_of_zero_le (by have := isP_range hp; omega : 0 ≤ p)
  haveI := neZero_of hp
  rw [cmb, ← K_ext]
  simp only [K_add, K_sub, K_mul, K_mod]
theorem cmb_impl {p : Int} (a b t : Int) (hp : isP p = true) : (a + t * ((b - a) % p)) % p = cmb p a b t := by
  obtain ⟨n, rfl⟩ := Int.eq_ofNat_of_zero_le (by have := isP_range hp; omega : 0 ≤ p)
  haveI := neZero_of hp
  rw [cmb, ← K_ext]
  simp only [K_add, K_sub, K_mul, K_mod]
/-- A number of the midpoint of two points. -/
def mid (p a b : Int) : Int := (p + 1) / 2 * ((a + b) % p) % p
theorem half_two {p : Int} (hp : isP p = true) : 2 * ((p + 1) / 2) = p + 1 := by
  rw [isP_iff] at hp; omega
theorem mid_ring {n : Nat} [NeZero n] (A B H I : Fin n) (e : 2 * H = 1) (k : 2 * I = 1) : A + I * (B - A) = H * (A + B) := by
  have h : H = I := by
    have h1 : H * (2 * I) = I * (2 * H) := by grind
    rw [k, e] at h1
    grind
  have h2 : A = I * (2 * A) := by
    have : I * (2 * A) = A * (2 * I) := by grind
    rw [this, k]; grind
  subst h
  grind
theorem mid_impl {p : Int} (a b : Int) (hp : isP p = true) : cmb p a b (inv p 2) = mid p a b := by
  have h2 := half_two hp
  have hr := isP_range hp
  obtain ⟨n, rfl⟩ := Int.eq_ofNat_of_zero_le (by omega : 0 ≤ p)
  haveI := neZero_of hp
  obtain ⟨h, hh⟩ : ∃ h, h = ((n : Int) + 1) / 2 := ⟨_, rfl⟩
  rw [mid, cmb, ← K_ext, ← hh]
  rw [← hh] at h2
  have e := congrArg (K n) h2
  have k2 : K n 2 ≠ 0 := K_small (by omega) (by omega)
  have ki := K_inv hp k2
  rw [K_add, K_self, K_one, K_mul] at e
  simp only [K_add, K_sub, K_mul, K_mod]
  rw [K_two] at e ki
  exact mid_ring _ _ _ _ (by rw [e]; grind) ki

end Go.Proofs.Ythfckpfiechloaa

namespace Go.Proofs.Ythfckpfiechloaa
open Go.RowKit

def detM (l1 l2 m1 m2 : Int) : Int := l1 * m2 - l2 * m1
def meX (p l1 l2 l3 m1 m2 m3 : Int) : Int := (l2 * m3 - m2 * l3) * inv p (detM l1 l2 m1 m2) % p
def meY (p l1 l2 l3 m1 m2 m3 : Int) : Int := (m1 * l3 - l1 * m3) * inv p (detM l1 l2 m1 m2) % p

/-- Lines are parallel just where the determinant is 0. -/
theorem det_zero {p l1 l2 m1 m2 : Int} (hp : isP p = true) (hl : leadB l1 l2 = true) (hm : leadB m1 m2 = true) (hr : (0 ≤ l1 ∧ l1 < p) ∧ (0 ≤ l2 ∧ l2 < p)) (gr : (0 ≤ m1 ∧ m1 < p) ∧ (0 ≤ m2 ∧ m2 < p)) :
    detM l1 l2 m1 m2 % p = 0 ↔ (l1 = m1 ∧ l2 = m2) := by
  have h31 := isP_range hp
  unfold detM
  rcases lead_ways hl with rfl | ⟨rfl, rfl⟩ <;> rcases lead_ways hm with rfl | ⟨rfl, rfl⟩
  · rw [Int.one_mul, Int.mul_one]
    constructor
    · intro h
      have h1 := Int.emod_emod_of_dvd m2 (Int.dvd_refl p)
      have h2 : m2 % p = l2 % p := Int.emod_eq_emod_iff_emod_sub_eq_zero.2 h
      rw [Int.emod_eq_of_lt gr.2.1 gr.2.2, Int.emod_eq_of_lt hr.2.1 hr.2.2] at h2
      exact ⟨rfl, h2.symm⟩
    · rintro ⟨_, rfl⟩
      simp
  · rw [show (1 : Int) * 1 - l2 * 0 = 1 by simp, Int.emod_eq_of_lt (by omega) (by omega)]
    omega
  · rw [show (0 : Int) * m2 - 1 * 1 = -1 by simp]
    constructor
    · intro h
      rw [Int.emod_eq_add_self_emod, Int.emod_eq_of_lt (by omega) (by omega)] at h
      omega
    · omega
  · simp
theorem meX_impl (p l1 l2 l3 m1 m2 m3 : Int) : (l2 * m3 - m2 * l3) % p * inv p ((l1 * m2 - m1 * l2) % p) % p = meX p l1 l2 l3 m1 m2 m3 := by
  rw [meX, detM, inv_mod, Int.mul_comm m1 l2, Int.mul_emod ((l2 * m3 - m2 * l3) % p), Int.emod_emod, ← Int.mul_emod]
theorem meY_impl (p l1 l2 l3 m1 m2 m3 : Int) : (l3 * m1 - m3 * l1) % p * inv p ((l1 * m2 - m1 * l2) % p) % p = meY p l1 l2 l3 m1 m2 m3 := by
  rw [meY, detM, inv_mod, Int.mul_comm m1 l2, Int.mul_comm l3 m1, Int.mul_comm m3 l1, Int.mul_emod ((m1 * l3 - l1 * m3) % p), Int.emod_emod, ← Int.mul_emod]
theorem tmod_emod (x p : Int) : x.tmod p % p = x % p := by
  rw [Int.tmod_def, Int.sub_mul_emod_self_left]
theorem meX_spec (p l1 l2 l3 m1 m2 m3 : Int) : (l2 * m3 - m2 * l3).tmod p * inv p (detM l1 l2 m1 m2 % p) % p = meX p l1 l2 l3 m1 m2 m3 := by
  rw [meX, inv_mod, Int.mul_emod ((l2 * m3 - m2 * l3).tmod p), tmod_emod, ← Int.mul_emod]
theorem meY_spec (p l1 l2 l3 m1 m2 m3 : Int) : (m1 * l3 - l1 * m3).tmod p * inv p (detM l1 l2 m1 m2 % p) % p = meY p l1 l2 l3 m1 m2 m3 := by
  rw [meY, inv_mod, Int.mul_emod ((m1 * l3 - l1 * m3).tmod p), tmod_emod, ← Int.mul_emod]

end Go.Proofs.Ythfckpfiechloaa

namespace Go.Proofs.Ythfckpfiechloaa
open Go.RowKit

def moC0 (p l1 l2 l3 m1 m2 m3 : Int) : Int := codeOf p (lineB p l1 l2 l3 && lineB p m1 m2 m3)
def moC (p l1 l2 l3 m1 m2 m3 : Int) : Int := if moC0 p l1 l2 l3 m1 m2 m3 = 0 ∧ l1 = m1 ∧ l2 = m2 then 5 else moC0 p l1 l2 l3 m1 m2 m3
def moV (p l1 l2 l3 m1 m2 m3 x : Int) : Int := if moC0 p l1 l2 l3 m1 m2 m3 = 0 ∧ ¬ (l1 = m1 ∧ l2 = m2) then x else 0
def moV1 (p l1 l2 l3 m1 m2 m3 : Int) : Int := moV p l1 l2 l3 m1 m2 m3 (meX p l1 l2 l3 m1 m2 m3)
def moV2 (p l1 l2 l3 m1 m2 m3 : Int) : Int := moV p l1 l2 l3 m1 m2 m3 (meY p l1 l2 l3 m1 m2 m3)
abbrev moR (p l1 l2 l3 m1 m2 m3 : Int) : Value := .tuple #[.agg #[.int .i64 (moV1 p l1 l2 l3 m1 m2 m3), .int .i64 (moV2 p l1 l2 l3 m1 m2 m3)], .int .i64 (moC p l1 l2 l3 m1 m2 m3)]
theorem mo_err {p l1 l2 l3 m1 m2 m3 k : Int} (h : codeOf p (lineB p l1 l2 l3 && lineB p m1 m2 m3) = k) (hk : k ≠ 0) : moV1 p l1 l2 l3 m1 m2 m3 = 0 ∧ moV2 p l1 l2 l3 m1 m2 m3 = 0 ∧ moC p l1 l2 l3 m1 m2 m3 = k := by
  have h' : moC0 p l1 l2 l3 m1 m2 m3 = k := h
  simp [moV1, moV2, moV, moC, h', hk]
theorem mo_par {p l1 l2 l3 m1 m2 m3 : Int} (h : codeOf p (lineB p l1 l2 l3 && lineB p m1 m2 m3) = 0) (e : l1 = m1 ∧ l2 = m2) : moV1 p l1 l2 l3 m1 m2 m3 = 0 ∧ moV2 p l1 l2 l3 m1 m2 m3 = 0 ∧ moC p l1 l2 l3 m1 m2 m3 = 5 := by
  obtain ⟨rfl, rfl⟩ := e
  have h' : moC0 p l1 l2 l3 l1 l2 m3 = 0 := h
  simp [moV1, moV2, moV, moC, h']
theorem mo_good {p l1 l2 l3 m1 m2 m3 : Int} (h : codeOf p (lineB p l1 l2 l3 && lineB p m1 m2 m3) = 0) (e : ¬ (l1 = m1 ∧ l2 = m2)) : moV1 p l1 l2 l3 m1 m2 m3 = meX p l1 l2 l3 m1 m2 m3 ∧ moV2 p l1 l2 l3 m1 m2 m3 = meY p l1 l2 l3 m1 m2 m3 ∧ moC p l1 l2 l3 m1 m2 m3 = 0 := by
  have h' : moC0 p l1 l2 l3 m1 m2 m3 = 0 := h
  have g : moC0 p l1 l2 l3 m1 m2 m3 = 0 ∧ ¬ (l1 = m1 ∧ l2 = m2) := ⟨h', e⟩
  have f : ¬ (moC0 p l1 l2 l3 m1 m2 m3 = 0 ∧ l1 = m1 ∧ l2 = m2) := fun hh => e hh.2
  rw [moV1, moV2, moV, moV, moC, if_pos g, if_pos g, if_neg f, h']
  exact ⟨rfl, rfl, rfl⟩

end Go.Proofs.Ythfckpfiechloaa

namespace Go.Proofs.Ythfckpfiechloaa
open Go.RowKit

/-- The two numbers with which the product with a direction is made. -/
def uOf (c d1 d2 : Int) : Int := if c = 2 then d2 else d1
def vOf (p c d1 d2 : Int) : Int := if c = 1 then -d2 % p else if c = 2 then d1 else d2
/-- The line through a point whose points have one product with a direction. -/
def tw (p c d1 d2 a1 a2 : Int) : Int := -(uOf c d1 d2 * a1 + vOf p c d1 d2 * a2) % p
def tl1 (p c d1 d2 a1 a2 : Int) : Int := mk1 p (uOf c d1 d2) (vOf p c d1 d2) (tw p c d1 d2 a1 a2)
def tl2 (p c d1 d2 a1 a2 : Int) : Int := mk2 p (uOf c d1 d2) (vOf p c d1 d2) (tw p c d1 d2 a1 a2)
def tl3 (p c d1 d2 a1 a2 : Int) : Int := mk3 p (uOf c d1 d2) (vOf p c d1 d2) (tw p c d1 d2 a1 a2)
theorem uv_r {p c d1 d2 : Int} (hp : isP p = true) (h1 : 0 ≤ d1 ∧ d1 < p) (h2 : 0 ≤ d2 ∧ d2 < p) : (0 ≤ uOf c d1 d2 ∧ uOf c d1 d2 < p) ∧ (0 ≤ vOf p c d1 d2 ∧ vOf p c d1 d2 < p) := by
  have := modR (-d2) hp
  unfold uOf vOf
  constructor
  · split <;> assumption
  · split
    · assumption
    · split <;> assumption
/-- What the program takes for the same. -/
theorem tl_impl {p c d1 d2 a1 a2 : Int} (hp : isP p = true) (hc : colB c = true) (h1 : 0 ≤ d1 ∧ d1 < p) (h2 : 0 ≤ d2 ∧ d2 < p) :
    prd p c d1 d2 1 0 = uOf c d1 d2 ∧ prd p c d1 d2 0 1 = vOf p c d1 d2 ∧ -(prd p c d1 d2 a1 a2) % p = tw p c d1 d2 a1 a2 := by
  have e1 : d1 % p = d1 := Int.emod_eq_of_lt h1.1 h1.2
  have e2 : d2 % p = d2 := Int.emod_eq_of_lt h2.1 h2.2
  obtain ⟨n, rfl⟩ := Int.eq_ofNat_of_zero_le (by have := isP_range hp; omega : 0 ≤ p)
  haveI := neZero_of hp
  rcases colB_ways hc with rfl | rfl | rfl
  · refine ⟨by simp [prd, uOf, e1], by simp [prd, vOf, e2], ?_⟩
    rw [tw, prd_0, ← K_ext]
    simp only [uOf, vOf, K_neg, K_mod, K_add, K_mul]
    simp
  · refine ⟨by simp [prd, uOf, e1], by simp [prd, vOf], ?_⟩
    rw [tw, prd_1, ← K_ext]
    simp only [uOf, vOf, if_true]
    rw [if_neg (by decide)]
    simp only [K_neg, K_mod, K_sub, K_add, K_mul]
    grind
  · refine ⟨by simp [prd, uOf, e2], by simp [prd, vOf, e1], ?_⟩
    rw [tw, prd_2, ← K_ext]
    simp only [uOf, vOf, K_neg, K_mod, K_add, K_mul]
    simp
    grind
/-- The perpendicular line through a point. -/
def pt1 (p c l1 l2 a1 a2 : Int) : Int := tl1 p c (-l2 % p) l1 a1 a2
def pt2 (p c l1 l2 a1 a2 : Int) : Int := tl2 p c (-l2 % p) l1 a1 a2
def pt3 (p c l1 l2 a1 a2 : Int) : Int := tl3 p c (-l2 % p) l1 a1 a2

end Go.Proofs.Ythfckpfiechloaa

namespace Go.Proofs.Ythfckpfiechloaa
open Go.RowKit

section
variable {n : Nat} [NeZero n]
theorem K_one_ne (hp : isP (n : Int) = true) : K n 1 ≠ 0 := K_small (by have := isP_range hp; omega) (by omega)
theorem mk_line (hp : isP (n : Int) = true) {a b : Int} (c : Int) (h : ¬ (K n a = 0 ∧ K n b = 0)) : lineB n (mk1 n a b c) (mk2 n a b c) (mk3 n a b c) = true := by
  have hr := isP_range hp
  have r1 := modR (a * nrm n a b) hp
  have r2 := modR (b * nrm n a b) hp
  have r3 := modR (c * nrm n a b) hp
  refine lineB_of ?_ ?_
  · rcases K_nrm hp h with ⟨_, h2⟩ | ⟨h1, _, h3⟩
    · have e : mk1 n a b c = 1 := K_inj (n := n) r1 (by omega) (by rw [mk1, K_mod, K_mul, h2, K_one])
      simp [leadB, e]
    · have e1 : mk1 n a b c = 0 := K_inj (n := n) r1 (by omega) (by rw [mk1, K_mod, K_mul, h1, K_zero]; grind)
      have e2 : mk2 n a b c = 1 := K_inj (n := n) r2 (by omega) (by rw [mk2, K_mod, K_mul, h3, K_one])
      simp [leadB, e1, e2]
  · rw [numsIn3, inB_true (by rw [mk1]; omega), inB_true (by rw [mk2]; omega), inB_true (by rw [mk3]; omega)]
    rfl
theorem uv_key {c l1 l2 : Int} (hc : colB c = true) (h : K n (uOf c (-l2 % n) l1) = 0 ∧ K n (vOf n c (-l2 % n) l1) = 0) : K n l1 = 0 ∧ K n l2 = 0 := by
  obtain ⟨h1, h2⟩ := h
  rcases colB_ways hc with rfl | rfl | rfl
  · rw [show uOf 0 (-l2 % (n : Int)) l1 = -l2 % n from rfl, K_mod, K_neg] at h1
    rw [show vOf n 0 (-l2 % (n : Int)) l1 = l1 from rfl] at h2
    exact ⟨h2, by grind⟩
  · rw [show uOf 1 (-l2 % (n : Int)) l1 = -l2 % n from rfl, K_mod, K_neg] at h1
    rw [show vOf n 1 (-l2 % (n : Int)) l1 = -l1 % n from rfl, K_mod, K_neg] at h2
    exact ⟨by grind, by grind⟩
  · rw [show uOf 2 (-l2 % (n : Int)) l1 = l1 from rfl] at h1
    rw [show vOf n 2 (-l2 % (n : Int)) l1 = -l2 % n from rfl, K_mod, K_neg] at h2
    exact ⟨h1, by grind⟩
theorem uv_nz (hp : isP (n : Int) = true) {c l1 l2 : Int} (hc : colB c = true) (hl : leadB l1 l2 = true) : ¬ (K n (uOf c (-l2 % n) l1) = 0 ∧ K n (vOf n c (-l2 % n) l1) = 0) := fun h => by
  have hk := uv_key hc h
  rcases lead_ways hl with rfl | ⟨_, rfl⟩
  · exact K_one_ne hp hk.1
  · exact K_one_ne hp hk.2
theorem uv_prd {c l1 l2 : Int} (hc : colB c = true) : K n l1 * K n (vOf n c (-l2 % n) l1) - K n l2 * K n (uOf c (-l2 % n) l1) = K n (prd n c (-l2 % n) l1 (-l2 % n) l1) := by
  rcases colB_ways hc with rfl | rfl | rfl
  · rw [show uOf 0 (-l2 % (n : Int)) l1 = -l2 % n from rfl, show vOf n 0 (-l2 % (n : Int)) l1 = l1 from rfl, prd_0]
    simp only [K_mod, K_neg, K_add, K_mul]; grind
  · rw [show uOf 1 (-l2 % (n : Int)) l1 = -l2 % n from rfl, show vOf n 1 (-l2 % (n : Int)) l1 = -l1 % n from rfl, prd_1]
    simp only [K_mod, K_neg, K_sub, K_mul]; grind
  · rw [show uOf 2 (-l2 % (n : Int)) l1 = l1 from rfl, show vOf n 2 (-l2 % (n : Int)) l1 = -l2 % n from rfl, prd_2]
    simp only [K_mod, K_neg, K_add, K_mul]; grind
theorem det_pt (hp : isP (n : Int) = true) {c l1 l2 a1 a2 : Int} (hc : colB c = true) (hl : leadB l1 l2 = true) : detM l1 l2 (pt1 n c l1 l2 a1 a2) (pt2 n c l1 l2 a1 a2) % n = 0 ↔ perpB n c l1 l2 l1 l2 = true := by
  have hnz := uv_nz hp hc hl
  have hN : K n (nrm n (uOf c (-l2 % n) l1) (vOf n c (-l2 % n) l1)) ≠ 0 := fun e => by
    rcases K_nrm hp hnz with ⟨_, h2⟩ | ⟨_, _, h2⟩ <;>
      exact K_one_ne hp (by rw [K_one, ← h2, e]; grind)
  have e : K n (detM l1 l2 (pt1 n c l1 l2 a1 a2) (pt2 n c l1 l2 a1 a2)) = K n (nrm n (uOf c (-l2 % n) l1) (vOf n c (-l2 % n) l1)) * K n (prd n c (-l2 % n) l1 (-l2 % n) l1) := by
    rw [← uv_prd hc, detM, pt1, pt2, tl1, tl2, mk1, mk2]
    simp only [K_sub, K_mul, K_mod]
    grind
  rw [← K_eq_zero, e, perpB, beq_iff_eq]
  have hb := prd_lt c (-l2 % n) l1 (-l2 % n) l1 hp
  constructor
  · intro h
    rw [← K_mul] at h
    rcases K_noz hp (x := nrm n (uOf c (-l2 % n) l1) (vOf n c (-l2 % n) l1)) (y := prd n c (-l2 % n) l1 (-l2 % n) l1) (by rw [← K_mul]; exact h) with h1 | h1
    · exact absurd h1 hN
    · rcases Int.lt_or_eq_of_le hb.1 with h2 | h2
      · exact absurd h1 (K_small hb (by omega))
      · exact h2.symm
  · intro h; rw [h, K_zero]; grind
end
theorem pt_line {p c l1 l2 : Int} (a1 a2 : Int) (hp : isP p = true) (hc : colB c = true) (hl : leadB l1 l2 = true) : lineB p (pt1 p c l1 l2 a1 a2) (pt2 p c l1 l2 a1 a2) (pt3 p c l1 l2 a1 a2) = true := by
  obtain ⟨n, rfl⟩ := Int.eq_ofNat_of_zero_le (by have := isP_range hp; omega : 0 ≤ p)
  haveI := neZero_of hp
  exact mk_line hp _ (uv_nz hp hc hl)
theorem pt_det {p c l1 l2 : Int} (a1 a2 : Int) (hp : isP p = true) (hc : colB c = true) (hl : leadB l1 l2 = true) : detM l1 l2 (pt1 p c l1 l2 a1 a2) (pt2 p c l1 l2 a1 a2) % p = 0 ↔ perpB p c l1 l2 l1 l2 = true := by
  obtain ⟨n, rfl⟩ := Int.eq_ofNat_of_zero_le (by have := isP_range hp; omega : 0 ≤ p)
  haveI := neZero_of hp
  exact det_pt hp hc hl
theorem pt_same {p c l1 l2 l3 : Int} (a1 a2 : Int) (hp : isP p = true) (hc : colB c = true) (hb : lineB p l1 l2 l3 = true) : (l1 = pt1 p c l1 l2 a1 a2 ∧ l2 = pt2 p c l1 l2 a1 a2) ↔ perpB p c l1 l2 l1 l2 = true := by
  have hl := lineB_in hb
  have hm := lineB_in (pt_line (l1 := l1) (l2 := l2) a1 a2 hp hc hl.1)
  have n1 := nums3 hl.2
  have n2 := nums3 hm.2
  rw [← pt_det a1 a2 hp hc hl.1]
  exact (det_zero hp hl.1 hm.1 ⟨n1.1, n1.2.1⟩ ⟨n2.1, n2.2.1⟩).symm

end Go.Proofs.Ythfckpfiechloaa

namespace Go.Proofs.Ythfckpfiechloaa
open Go.RowKit

section
variable {p : Int}
theorem tl1_r (c d1 d2 a1 a2 : Int) (h : isP p = true) : 0 ≤ tl1 p c d1 d2 a1 a2 ∧ tl1 p c d1 d2 a1 a2 < p := modR _ h
theorem pt1_r (c l1 l2 a1 a2 : Int) (h : isP p = true) : 0 ≤ pt1 p c l1 l2 a1 a2 ∧ pt1 p c l1 l2 a1 a2 < p := modR _ h
theorem tl2_r (c d1 d2 a1 a2 : Int) (h : isP p = true) : 0 ≤ tl2 p c d1 d2 a1 a2 ∧ tl2 p c d1 d2 a1 a2 < p := modR _ h
theorem pt2_r (c l1 l2 a1 a2 : Int) (h : isP p = true) : 0 ≤ pt2 p c l1 l2 a1 a2 ∧ pt2 p c l1 l2 a1 a2 < p := modR _ h
theorem tl3_r (c d1 d2 a1 a2 : Int) (h : isP p = true) : 0 ≤ tl3 p c d1 d2 a1 a2 ∧ tl3 p c d1 d2 a1 a2 < p := modR _ h
theorem pt3_r (c l1 l2 a1 a2 : Int) (h : isP p = true) : 0 ≤ pt3 p c l1 l2 a1 a2 ∧ pt3 p c l1 l2 a1 a2 < p := modR _ h
end

end Go.Proofs.Ythfckpfiechloaa

namespace Go.Proofs.Ythfckpfiechloaa
open Go.RowKit

theorem bool_ways (b : Bool) : b = false ∨ b = true := by cases b <;> simp

theorem mulNN (A B C : Int) (hC : C = A * B) {a b : Int} (ha : 0 ≤ a ∧ a ≤ A) (hb : 0 ≤ b ∧ b ≤ B) : 0 ≤ a * b ∧ a * b ≤ C :=
  ⟨Int.mul_nonneg ha.1 hb.1, by have h := Int.mul_le_mul ha.2 hb.2 hb.1 (by omega : 0 ≤ A); omega⟩
theorem mulSS (A B C : Int) (hC : C = A * B) (hA : 0 ≤ A) {a b : Int} (ha : -A ≤ a ∧ a ≤ A) (hb : -B ≤ b ∧ b ≤ B) : -C ≤ a * b ∧ a * b ≤ C := by
  have h : (a * b).natAbs ≤ A.natAbs * B.natAbs := by rw [Int.natAbs_mul]; exact Nat.mul_le_mul (by omega) (by omega)
  have e : C.natAbs = A.natAbs * B.natAbs := by rw [hC, Int.natAbs_mul]
  have hB : 0 ≤ B := by omega
  have hc : 0 ≤ C := by rw [hC]; exact Int.mul_nonneg hA hB
  omega

theorem mulSq (A C : Int) (hC : C = A * A) {a : Int} (ha : -A ≤ a ∧ a ≤ A) : 0 ≤ a * a ∧ a * a ≤ C := by
  rcases Int.le_total 0 a with h | h
  · have h2 := Int.mul_le_mul ha.2 ha.2 h (by omega : 0 ≤ A)
    exact ⟨Int.mul_nonneg h h, by omega⟩
  · have h2 := Int.mul_le_mul (by omega : -a ≤ A) (by omega : -a ≤ A) (by omega : 0 ≤ -a) (by omega : 0 ≤ A)
    have h3 := Int.mul_nonneg (by omega : 0 ≤ -a) (by omega : 0 ≤ -a)
    rw [Int.neg_mul_neg] at h2 h3
    exact ⟨h3, by omega⟩

theorem fset {W : World} {a b : Addr} {v : Value} (h : W.frozen? b = false) : (W.setCell a v).frozen? b = false := by rw [World.frozen?_setCell]; exact h

theorem area_r (a1 a2 b1 b2 c1 c2 : Int) {p : Int} (h : isP p = true) : 0 ≤ area p a1 a2 b1 b2 c1 c2 ∧ area p a1 a2 b1 b2 c1 c2 < p := modR _ h

end Go.Proofs.Ythfckpfiechloaa

namespace Go.Proofs.Ythfckpfiechloaa
open Go.RowKit

/-- The product of two points by a colour, its rest not yet taken. -/
def rawp (c a1 a2 b1 b2 : Int) : Int := if c = 0 then a1 * b1 + a2 * b2 else if c = 1 then a1 * b1 - a2 * b2 else a1 * b2 + a2 * b1
theorem prd_raw (p c a1 a2 b1 b2 : Int) : prd p c a1 a2 b1 b2 = rawp c a1 a2 b1 b2 % p := rfl
theorem rawp_r {c a1 a2 b1 b2 : Int} (ha1 : 0 ≤ a1 ∧ a1 ≤ 31) (ha2 : 0 ≤ a2 ∧ a2 ≤ 31) (hb1 : 0 ≤ b1 ∧ b1 ≤ 31) (hb2 : 0 ≤ b2 ∧ b2 ≤ 31) : -961 ≤ rawp c a1 a2 b1 b2 ∧ rawp c a1 a2 b1 b2 ≤ 1922 := by
  have m1 := mulP ha1 hb1
  have m2 := mulP ha2 hb2
  have m3 := mulP ha1 hb2
  have m4 := mulP ha2 hb1
  unfold rawp
  split
  · omega
  · split <;> omega
/-- A line is null by a colour. -/
def nullB (p c l1 l2 : Int) : Bool := prd p c (-l2 % p) l1 (-l2 % p) l1 == 0
/-- The product of two lines' directions, the cross, the spread. -/
def crD (p c l1 l2 m1 m2 : Int) : Int := prd p c (-l2 % p) l1 (-m2 % p) m1
def crO (p c l1 l2 m1 m2 : Int) : Int := crD p c l1 l2 m1 m2 * crD p c l1 l2 m1 m2 % p * inv p (prd p c (-l2 % p) l1 (-l2 % p) l1 * prd p c (-m2 % p) m1 (-m2 % p) m1) % p
def crT (p c l1 l2 m1 m2 : Int) : Int := if (nullB p c l1 l2 || nullB p c m1 m2) = true then 5 else 0
def crV (p c l1 l2 m1 m2 : Int) : Int := if (nullB p c l1 l2 || nullB p c m1 m2) = true then 0 else crO p c l1 l2 m1 m2
def spO (p c l1 l2 m1 m2 : Int) : Int := (1 - crO p c l1 l2 m1 m2) % p
def spV (p c l1 l2 m1 m2 : Int) : Int := if (nullB p c l1 l2 || nullB p c m1 m2) = true then 0 else spO p c l1 l2 m1 m2
def twO (p c l1 l2 m1 m2 : Int) : Int := (1 - crO p c l1 l2 m1 m2) % p * inv p (crO p c l1 l2 m1 m2) % p
theorem crO_r {p : Int} (c l1 l2 m1 m2 : Int) (h : isP p = true) : 0 ≤ crO p c l1 l2 m1 m2 ∧ crO p c l1 l2 m1 m2 < p := modR _ h
theorem spO_r {p : Int} (c l1 l2 m1 m2 : Int) (h : isP p = true) : 0 ≤ spO p c l1 l2 m1 m2 ∧ spO p c l1 l2 m1 m2 < p := modR _ h
/-- What the program takes for a cross: its test, its number. -/
theorem mul_zero_iff {p x y : Int} (hp : isP p = true) : (x * y % p == 0) = (x % p == 0 || y % p == 0) := by
  have hr := isP_range hp
  obtain ⟨n, rfl⟩ := Int.eq_ofNat_of_zero_le (by omega : 0 ≤ p)
  haveI := neZero_of hp
  rw [Bool.eq_iff_iff]
  simp only [Bool.or_eq_true, beq_iff_eq]
  constructor
  · intro h
    have h1 : K n x * K n y = 0 := by rw [← K_mul]; exact K_eq_zero.2 h
    rcases K_noz hp h1 with h2 | h2
    · exact .inl (K_eq_zero.1 h2)
    · exact .inr (K_eq_zero.1 h2)
  · rintro (h | h)
    · rw [Int.mul_emod, h, Int.zero_mul, Int.zero_emod]
    · rw [Int.mul_emod, h, Int.mul_zero, Int.zero_emod]
theorem quad_null {p : Int} (c l1 l2 m1 m2 : Int) (hp : isP p = true) : ((rawp c (-l2 % p) l1 (-l2 % p) l1 * rawp c (-m2 % p) m1 (-m2 % p) m1) % p == 0) = (nullB p c l1 l2 || nullB p c m1 m2) := by
  rw [mul_zero_iff hp]; rfl
theorem cross_bad {p c l1 l2 m1 m2 : Int} (hp : isP p = true) (h : ((rawp c (-l2 % p) l1 (-l2 % p) l1 * rawp c (-m2 % p) m1 (-m2 % p) m1) % p == 0) = true) :
    crV p c l1 l2 m1 m2 = 0 ∧ crT p c l1 l2 m1 m2 = 5 := by
  rw [quad_null _ _ _ _ _ hp] at h
  simp [crV, crT, h]
theorem cross_good {p c l1 l2 m1 m2 : Int} (hp : isP p = true) (h : ((rawp c (-l2 % p) l1 (-l2 % p) l1 * rawp c (-m2 % p) m1 (-m2 % p) m1) % p == 0) = false) :
    crV p c l1 l2 m1 m2 = rawp c (-l2 % p) l1 (-m2 % p) m1 * rawp c (-l2 % p) l1 (-m2 % p) m1 * inv p ((rawp c (-l2 % p) l1 (-l2 % p) l1 * rawp c (-m2 % p) m1 (-m2 % p) m1) % p) % p ∧ crT p c l1 l2 m1 m2 = 0 := by
  rw [quad_null _ _ _ _ _ hp] at h
  refine ⟨?_, by simp [crT, h]⟩
  have e : crV p c l1 l2 m1 m2 = crO p c l1 l2 m1 m2 := by simp [crV, h]
  have hi : inv p (prd p c (-l2 % p) l1 (-l2 % p) l1 * prd p c (-m2 % p) m1 (-m2 % p) m1) = inv p ((rawp c (-l2 % p) l1 (-l2 % p) l1 * rawp c (-m2 % p) m1 (-m2 % p) m1) % p) := by
    rw [← inv_mod]; congr 1; rw [prd_raw, prd_raw, ← Int.mul_emod]
  rw [e, crO, hi, crD, prd_raw]
  rw [← Int.mul_emod, Int.mul_emod (rawp c (-l2 % p) l1 (-m2 % p) m1 * rawp c (-l2 % p) l1 (-m2 % p) m1 % p), Int.emod_emod, ← Int.mul_emod]
/-- Triple spreads. -/
def tripB (p r s t : Int) : Bool := ((r + s + t) * (r + s + t) - 2 * (r * r + s * s + t * t) - 4 * r * s * t) % p == 0

end Go.Proofs.Ythfckpfiechloaa

namespace Go.Proofs.Ythfckpfiechloaa
open Go.RowKit

/-- The spread at a of b and c. -/
def atD (p col a1 a2 b1 b2 c1 c2 : Int) : Int := prd p col ((b1 - a1) % p) ((b2 - a2) % p) ((c1 - a1) % p) ((c2 - a2) % p)
def atO (p col a1 a2 b1 b2 c1 c2 : Int) : Int := (1 - atD p col a1 a2 b1 b2 c1 c2 * atD p col a1 a2 b1 b2 c1 c2 % p * inv p (qdr p col a1 a2 b1 b2 * qdr p col a1 a2 c1 c2)) % p
def atT (p col a1 a2 b1 b2 c1 c2 : Int) : Int := if (qdr p col a1 a2 b1 b2 == 0 || qdr p col a1 a2 c1 c2 == 0) = true then 5 else 0
theorem atO_r {p : Int} (col a1 a2 b1 b2 c1 c2 : Int) (h : isP p = true) : 0 ≤ atO p col a1 a2 b1 b2 c1 c2 ∧ atO p col a1 a2 b1 b2 c1 c2 < p := modR _ h
theorem qdr_r {p : Int} (c a1 a2 b1 b2 : Int) (h : isP p = true) : 0 ≤ qdr p c a1 a2 b1 b2 ∧ qdr p c a1 a2 b1 b2 < p := modR _ h
theorem ne_of {a b c d : Int} (h : (a == c && b == d) = false) : ¬ (a = c ∧ b = d) := by
  rintro ⟨rfl, rfl⟩; simp at h

section
variable {n : Nat} [NeZero n]
/-- Products go with factors. -/
theorem K_raw {c : Int} (hc : colB c = true) {x1 x2 y1 y2 u1 u2 v1 v2 l m : Int} (e1 : K n x1 = K n l * K n u1) (e2 : K n x2 = K n l * K n u2) (f1 : K n y1 = K n m * K n v1) (f2 : K n y2 = K n m * K n v2) :
    K n (rawp c x1 x2 y1 y2) = K n l * K n m * K n (rawp c u1 u2 v1 v2) := by
  rcases colB_ways hc with rfl | rfl | rfl
  · show K n (x1 * y1 + x2 * y2) = K n l * K n m * K n (u1 * v1 + u2 * v2)
    simp only [K_add, K_mul, e1, e2, f1, f2]; grind
  · show K n (x1 * y1 - x2 * y2) = K n l * K n m * K n (u1 * v1 - u2 * v2)
    simp only [K_sub, K_mul, e1, e2, f1, f2]; grind
  · show K n (x1 * y2 + x2 * y1) = K n l * K n m * K n (u1 * v2 + u2 * v1)
    simp only [K_add, K_mul, e1, e2, f1, f2]; grind
/-- The direction of the line through two points. -/
theorem K_dir (hp : isP (n : Int) = true) {a1 a2 b1 b2 : Int} (ha1 : 0 ≤ a1 ∧ a1 < n) (ha2 : 0 ≤ a2 ∧ a2 < n) (hb1 : 0 ≤ b1 ∧ b1 < n) (hb2 : 0 ≤ b2 ∧ b2 < n) (hne : ¬ (a1 = b1 ∧ a2 = b2)) :
    ∃ l : Int, K n l ≠ 0 ∧ K n (-th2 n a1 a2 b1 b2 % n) = K n l * K n ((b1 - a1) % n) ∧ K n (th1 n a1 a2 b1 b2) = K n l * K n ((b2 - a2) % n) := by
  have h : ¬ (K n (a2 - b2) = 0 ∧ K n (b1 - a1) = 0) := by
    rintro ⟨h1, h2⟩
    rw [K_sub] at h1 h2
    exact hne ⟨K_inj ha1 hb1 (by grind), K_inj ha2 hb2 (by grind)⟩
  refine ⟨-nrm n (a2 - b2) (b1 - a1), ?_, ?_, ?_⟩
  · rw [K_neg]
    rcases K_nrm hp h with ⟨_, h2⟩ | ⟨_, _, h2⟩ <;> intro e <;> have e' : K n (nrm n (a2 - b2) (b1 - a1)) = 0 := by grind
    · rw [e'] at h2; exact absurd h2 (by have := K_small (n := n) (x := 1) ⟨by omega, by have := isP_ne hp; omega⟩ (by omega); rw [K_one] at this; grind)
    · rw [e'] at h2; exact absurd h2 (by have := K_small (n := n) (x := 1) ⟨by omega, by have := isP_ne hp; omega⟩ (by omega); rw [K_one] at this; grind)
  · unfold th2 mk2
    simp only [K_mod, K_neg, K_mul, K_sub]; grind
  · unfold th1 mk1
    simp only [K_mod, K_neg, K_mul, K_sub]; grind
end

theorem null_th {p c a1 a2 b1 b2 : Int} (hp : isP p = true) (hc : colB c = true) (ha1 : 0 ≤ a1 ∧ a1 < p) (ha2 : 0 ≤ a2 ∧ a2 < p) (hb1 : 0 ≤ b1 ∧ b1 < p) (hb2 : 0 ≤ b2 ∧ b2 < p) (hne : ¬ (a1 = b1 ∧ a2 = b2)) :
    nullB p c (th1 p a1 a2 b1 b2) (th2 p a1 a2 b1 b2) = (qdr p c a1 a2 b1 b2 == 0) := by
  obtain ⟨n, rfl⟩ := Int.eq_ofNat_of_zero_le (by have := isP_range hp; omega : 0 ≤ p)
  haveI := neZero_of hp
  obtain ⟨l, hl, e1, e2⟩ := K_dir hp ha1 ha2 hb1 hb2 hne
  have h := K_raw hc e1 e2 e1 e2
  unfold nullB qdr
  rw [prd_raw, prd_raw, Bool.eq_iff_iff]
  simp only [beq_iff_eq, ← K_eq_zero]
  rw [h]
  constructor
  · intro h0
    have : K n (l * l * rawp c ((b1 - a1) % n) ((b2 - a2) % n) ((b1 - a1) % n) ((b2 - a2) % n)) = 0 := by rw [K_mul, K_mul]; exact h0
    rw [K_mul] at this
    rcases K_noz hp this with h1 | h1
    · rw [K_mul] at h1
      have h2 : K n l * K n l = 0 := h1
      rcases K_noz hp h2 with h3 | h3 <;> exact absurd h3 hl
    · exact h1
  · intro h0; rw [h0]; grind
/-- A line with equal points is none, and the quadrance is 0. -/
theorem qdr_same (p c a1 a2 : Int) : qdr p c a1 a2 a1 a2 = 0 := by
  unfold qdr prd
  rw [Int.sub_self, Int.sub_self, Int.zero_emod]
  split
  · simp
  · split <;> simp
theorem spread_th {p col a1 a2 b1 b2 c1 c2 : Int} (hp : isP p = true) (hc : colB col = true) (ha1 : 0 ≤ a1 ∧ a1 < p) (ha2 : 0 ≤ a2 ∧ a2 < p) (hb1 : 0 ≤ b1 ∧ b1 < p) (hb2 : 0 ≤ b2 ∧ b2 < p) (hc1 : 0 ≤ c1 ∧ c1 < p) (hc2 : 0 ≤ c2 ∧ c2 < p)
    (hb : ¬ (a1 = b1 ∧ a2 = b2)) (hcc : ¬ (a1 = c1 ∧ a2 = c2)) (q1 : (qdr p col a1 a2 b1 b2 == 0) = false) (q2 : (qdr p col a1 a2 c1 c2 == 0) = false) :
    spO p col (th1 p a1 a2 b1 b2) (th2 p a1 a2 b1 b2) (th1 p a1 a2 c1 c2) (th2 p a1 a2 c1 c2) = atO p col a1 a2 b1 b2 c1 c2 := by
  obtain ⟨n, rfl⟩ := Int.eq_ofNat_of_zero_le (by have := isP_range hp; omega : 0 ≤ p)
  haveI := neZero_of hp
  obtain ⟨l, hl, e1, e2⟩ := K_dir hp ha1 ha2 hb1 hb2 hb
  obtain ⟨m, hm, f1, f2⟩ := K_dir hp ha1 ha2 hc1 hc2 hcc
  have n1 := null_th hp hc ha1 ha2 hb1 hb2 hb
  have n2 := null_th hp hc ha1 ha2 hc1 hc2 hcc
  rw [q1] at n1; rw [q2] at n2
  have k1 : K n (qdr n col a1 a2 b1 b2) ≠ 0 := K_small (qdr_r _ _ _ _ _ hp) (by simpa using q1)
  have k2 : K n (qdr n col a1 a2 c1 c2) ≠ 0 := K_small (qdr_r _ _ _ _ _ hp) (by simpa using q2)
  unfold nullB at n1 n2
  have k3 : K n (prd n col (-th2 n a1 a2 b1 b2 % n) (th1 n a1 a2 b1 b2) (-th2 n a1 a2 b1 b2 % n) (th1 n a1 a2 b1 b2)) ≠ 0 := K_small (prd_lt _ _ _ _ _ hp) (by simpa using n1)
  have k4 : K n (prd n col (-th2 n a1 a2 c1 c2 % n) (th1 n a1 a2 c1 c2) (-th2 n a1 a2 c1 c2 % n) (th1 n a1 a2 c1 c2)) ≠ 0 := K_small (prd_lt _ _ _ _ _ hp) (by simpa using n2)
  have i1 := K_inv hp (y := qdr n col a1 a2 b1 b2 * qdr n col a1 a2 c1 c2) (by rw [K_mul]; intro h; rcases K_noz hp h with h | h; exact k1 h; exact k2 h)
  have i2 := K_inv hp (y := prd n col (-th2 n a1 a2 b1 b2 % n) (th1 n a1 a2 b1 b2) (-th2 n a1 a2 b1 b2 % n) (th1 n a1 a2 b1 b2) * prd n col (-th2 n a1 a2 c1 c2 % n) (th1 n a1 a2 c1 c2) (-th2 n a1 a2 c1 c2 % n) (th1 n a1 a2 c1 c2)) (by rw [K_mul]; intro h; rcases K_noz hp h with h | h; exact k3 h; exact k4 h)
  have r1 := K_raw hc e1 e2 e1 e2
  have r2 := K_raw hc f1 f2 f1 f2
  have r3 := K_raw hc e1 e2 f1 f2
  unfold spO crO crD atO atD
  simp only [← K_ext (n := n), K_sub, K_mul, K_mod, K_one] at i1 i2 ⊢
  obtain ⟨I1, hI1⟩ : ∃ x, x = inv n (qdr n col a1 a2 b1 b2 * qdr n col a1 a2 c1 c2) := ⟨_, rfl⟩
  obtain ⟨I2, hI2⟩ : ∃ x, x = inv n (prd n col (-th2 n a1 a2 b1 b2 % n) (th1 n a1 a2 b1 b2) (-th2 n a1 a2 b1 b2 % n) (th1 n a1 a2 b1 b2) * prd n col (-th2 n a1 a2 c1 c2 % n) (th1 n a1 a2 c1 c2) (-th2 n a1 a2 c1 c2 % n) (th1 n a1 a2 c1 c2)) := ⟨_, rfl⟩
  rw [← hI1] at i1 ⊢
  rw [← hI2] at i2 ⊢
  unfold qdr at i1
  simp only [prd_raw, K_mod, r1, r2, r3] at i1 i2 ⊢
  grind

theorem qdr_comm {p : Int} (hp : isP p = true) {c : Int} (hc : colB c = true) (a1 a2 b1 b2 : Int) : qdr p c b1 b2 a1 a2 = qdr p c a1 a2 b1 b2 := by
  obtain ⟨n, rfl⟩ := Int.eq_ofNat_of_zero_le (by have := isP_range hp; omega : 0 ≤ p)
  haveI := neZero_of hp
  unfold qdr
  rw [prd_raw, prd_raw, ← K_ext (n := n)]
  have h := K_raw (n := n) hc (x1 := (a1 - b1) % n) (x2 := (a2 - b2) % n) (y1 := (a1 - b1) % n) (y2 := (a2 - b2) % n) (u1 := (b1 - a1) % n) (u2 := (b2 - a2) % n) (v1 := (b1 - a1) % n) (v2 := (b2 - a2) % n) (l := -1) (m := -1)
    (by simp only [K_mod, K_sub, K_neg, K_one]; grind) (by simp only [K_mod, K_sub, K_neg, K_one]; grind) (by simp only [K_mod, K_sub, K_neg, K_one]; grind) (by simp only [K_mod, K_sub, K_neg, K_one]; grind)
  rw [h]; simp only [K_neg, K_one]; grind
theorem th1_r {p : Int} (a1 a2 b1 b2 : Int) (h : isP p = true) : 0 ≤ th1 p a1 a2 b1 b2 ∧ th1 p a1 a2 b1 b2 < p := modR _ h
theorem th2_r {p : Int} (a1 a2 b1 b2 : Int) (h : isP p = true) : 0 ≤ th2 p a1 a2 b1 b2 ∧ th2 p a1 a2 b1 b2 < p := modR _ h
theorem th3_r {p : Int} (a1 a2 b1 b2 : Int) (h : isP p = true) : 0 ≤ th3 p a1 a2 b1 b2 ∧ th3 p a1 a2 b1 b2 < p := modR _ h
section
variable {p col a1 a2 b1 b2 c1 c2 : Int}
theorem atT_ab (h : (a1 == b1 && a2 == b2) = true) : atT p col a1 a2 b1 b2 c1 c2 = 5 := by
  simp only [Bool.and_eq_true, beq_iff_eq] at h
  obtain ⟨rfl, rfl⟩ := h
  simp [atT, qdr_same]
theorem atT_ac (h : (a1 == c1 && a2 == c2) = true) : atT p col a1 a2 b1 b2 c1 c2 = 5 := by
  simp only [Bool.and_eq_true, beq_iff_eq] at h
  obtain ⟨rfl, rfl⟩ := h
  simp [atT, qdr_same]
theorem atT_n1 (hp : isP p = true) (hc : colB col = true) (hb : (a1 == b1 && a2 == b2) = false) (h : nullB p col (th1 p a1 a2 b1 b2) (th2 p a1 a2 b1 b2) = true) (ha1 : 0 ≤ a1 ∧ a1 < p) (ha2 : 0 ≤ a2 ∧ a2 < p) (hb1 : 0 ≤ b1 ∧ b1 < p) (hb2 : 0 ≤ b2 ∧ b2 < p) : atT p col a1 a2 b1 b2 c1 c2 = 5 := by
  rw [null_th hp hc ha1 ha2 hb1 hb2 (ne_of hb)] at h
  simp only [atT, h, Bool.true_or, if_true]
theorem atT_n2 (hp : isP p = true) (hc : colB col = true) (hb : (a1 == c1 && a2 == c2) = false) (h : nullB p col (th1 p a1 a2 c1 c2) (th2 p a1 a2 c1 c2) = true) (ha1 : 0 ≤ a1 ∧ a1 < p) (ha2 : 0 ≤ a2 ∧ a2 < p) (hb1 : 0 ≤ c1 ∧ c1 < p) (hb2 : 0 ≤ c2 ∧ c2 < p) : atT p col a1 a2 b1 b2 c1 c2 = 5 := by
  rw [null_th hp hc ha1 ha2 hb1 hb2 (ne_of hb)] at h
  simp only [atT, h, Bool.or_true, if_true]
theorem atT_0 (hp : isP p = true) (hc : colB col = true) (hb : (a1 == b1 && a2 == b2) = false) (hcc : (a1 == c1 && a2 == c2) = false) (h1 : nullB p col (th1 p a1 a2 b1 b2) (th2 p a1 a2 b1 b2) = false) (h2 : nullB p col (th1 p a1 a2 c1 c2) (th2 p a1 a2 c1 c2) = false) (ha1 : 0 ≤ a1 ∧ a1 < p) (ha2 : 0 ≤ a2 ∧ a2 < p) (hb1 : 0 ≤ b1 ∧ b1 < p) (hb2 : 0 ≤ b2 ∧ b2 < p) (hc1 : 0 ≤ c1 ∧ c1 < p) (hc2 : 0 ≤ c2 ∧ c2 < p) : atT p col a1 a2 b1 b2 c1 c2 = 0 := by
  rw [null_th hp hc ha1 ha2 hb1 hb2 (ne_of hb)] at h1
  rw [null_th hp hc ha1 ha2 hc1 hc2 (ne_of hcc)] at h2
  simp [atT, h1, h2]
theorem atV_is (hp : isP p = true) (hc : colB col = true) (hb : (a1 == b1 && a2 == b2) = false) (hcc : (a1 == c1 && a2 == c2) = false) (h1 : nullB p col (th1 p a1 a2 b1 b2) (th2 p a1 a2 b1 b2) = false) (h2 : nullB p col (th1 p a1 a2 c1 c2) (th2 p a1 a2 c1 c2) = false) (ha1 : 0 ≤ a1 ∧ a1 < p) (ha2 : 0 ≤ a2 ∧ a2 < p) (hb1 : 0 ≤ b1 ∧ b1 < p) (hb2 : 0 ≤ b2 ∧ b2 < p) (hc1 : 0 ≤ c1 ∧ c1 < p) (hc2 : 0 ≤ c2 ∧ c2 < p) :
    atO p col a1 a2 b1 b2 c1 c2 = spO p col (th1 p a1 a2 b1 b2) (th2 p a1 a2 b1 b2) (th1 p a1 a2 c1 c2) (th2 p a1 a2 c1 c2) := by
  rw [null_th hp hc ha1 ha2 hb1 hb2 (ne_of hb)] at h1
  rw [null_th hp hc ha1 ha2 hc1 hc2 (ne_of hcc)] at h2
  exact (spread_th hp hc ha1 ha2 hb1 hb2 hc1 hc2 (ne_of hb) (ne_of hcc) h1 h2).symm
end

end Go.Proofs.Ythfckpfiechloaa

namespace Go.Proofs.Ythfckpfiechloaa
open Go.RowKit

theorem bundrew {B : Nat} {a W : World} (h : Below B a W.drew) : Below B a W := ⟨h.os, h.tape, h.output, h.size, h.block⟩
theorem bback {a W : World} {o : Obj} (hB : a.heap.size ≤ W.heap.size) (h : Below a.heap.size a (W.alloc o)) : Below a.heap.size a W :=
  ⟨h.os, h.tape, h.output, hB, fun k hk => by rw [← h.block k hk, Below.heap_alloc _ _ _ (by omega)]⟩
theorem brealloc {a W : World} {o o' : Obj} (hB : a.heap.size ≤ W.heap.size) (h : Below a.heap.size a (W.alloc o)) : Below a.heap.size a (W.alloc o') := (bback hB h).alloc hB o'
/-- What a cell below holds. -/
theorem bholds {a W : World} {b j : Nat} {v : Value} (h : a.cell? ⟨b, j, none⟩ = some v) (hB : Below a.heap.size a W) : W.cell? ⟨b, j, none⟩ = some v := kcall hB h

end Go.Proofs.Ythfckpfiechloaa

namespace Go.Proofs.Ythfckpfiechloaa
open Go.RowKit

theorem nums6_in (p a b c d e f : Int) : numsIn p [a, b, c, d, e, f] = (inB a 0 (p - 1) && (inB b 0 (p - 1) && (inB c 0 (p - 1) && (inB d 0 (p - 1) && numsIn p [e, f])))) := by simp [numsIn]
theorem nums6_42 (p a b c d e f : Int) : numsIn p [a, b, c, d, e, f] = (numsIn p [a, b, c, d] && numsIn p [e, f]) := by simp [numsIn, Bool.and_assoc]
theorem cells4 {w : World} {b : Nat} {a0 a1 a2 a3 : Int} (h0 : w.cell? ⟨b, 0, none⟩ = some (.int .i64 a0)) (h1 : w.cell? ⟨b, 1, none⟩ = some (.int .i64 a1)) (h2 : w.cell? ⟨b, 2, none⟩ = some (.int .i64 a2)) (h3 : w.cell? ⟨b, 3, none⟩ = some (.int .i64 a3)) : Cells w b 0 [a0, a1, a2, a3] := by
  intro i hi
  have : i = 0 ∨ i = 1 ∨ i = 2 ∨ i = 3 := by simp at hi; omega
  rcases this with rfl | rfl | rfl | rfl <;> simpa
theorem twoP {a b c d : Int} (ha : 0 ≤ a ∧ a ≤ 31) (hb : 0 ≤ b ∧ b ≤ 31) (hc : 0 ≤ c ∧ c ≤ 31) (hd : 0 ≤ d ∧ d ≤ 31) : 0 ≤ a * b + c * d ∧ a * b + c * d ≤ 1922 := by
  have h1 := mulP ha hb
  have h2 := mulP hc hd
  omega
/-- A row of a matrix at a point. -/
def ld (p a b x y : Int) : Int := (a * x + b * y) % p
/-- A row of a map at a point. -/
def mv (p a b u x y : Int) : Int := (a * x + b * y + u) % p
theorem ld_r (a b x y : Int) {p : Int} (h : isP p = true) : 0 ≤ ld p a b x y ∧ ld p a b x y < p := modR _ h
theorem mv_r (a b u x y : Int) {p : Int} (h : isP p = true) : 0 ≤ mv p a b u x y ∧ mv p a b u x y < p := modR _ h
theorem mv_ld (p a b u x y : Int) : (ld p a b x y + u) % p = mv p a b u x y := by unfold ld mv; rw [Int.emod_add_emod]
/-- Whether a map is a move. -/
def mvB (p c m1 m2 m3 m4 : Int) : Bool :=
  (prd p c (ld p m1 m2 1 0) (ld p m3 m4 1 0) (ld p m1 m2 1 0) (ld p m3 m4 1 0) == prd p c 1 0 1 0) &&
  ((prd p c (ld p m1 m2 0 1) (ld p m3 m4 0 1) (ld p m1 m2 0 1) (ld p m3 m4 0 1) == prd p c 0 1 0 1) &&
  (prd p c (ld p m1 m2 1 0) (ld p m3 m4 1 0) (ld p m1 m2 0 1) (ld p m3 m4 0 1) == prd p c 1 0 0 1))
def mvQ1 (p c m1 m2 m3 m4 m5 m6 : Int) : Bool := qdr p c (mv p m1 m2 m5 1 0) (mv p m3 m4 m6 1 0) (mv p m1 m2 m5 0 0) (mv p m3 m4 m6 0 0) == qdr p c 1 0 0 0
def mvQ2 (p c m1 m2 m3 m4 m5 m6 : Int) : Bool := qdr p c (mv p m1 m2 m5 0 1) (mv p m3 m4 m6 0 1) (mv p m1 m2 m5 0 0) (mv p m3 m4 m6 0 0) == qdr p c 0 1 0 0
def mvQ3 (p c m1 m2 m3 m4 m5 m6 : Int) : Bool := qdr p c (mv p m1 m2 m5 0 1) (mv p m3 m4 m6 0 1) (mv p m1 m2 m5 1 0) (mv p m3 m4 m6 1 0) == qdr p c 0 1 1 0
theorem prd_K (n : Nat) [NeZero n] (c a1 a2 b1 b2 : Int) : K n (prd n c a1 a2 b1 b2) = if c = 0 then K n a1 * K n b1 + K n a2 * K n b2 else if c = 1 then K n a1 * K n b1 - K n a2 * K n b2 else K n a1 * K n b2 + K n a2 * K n b1 := by
  unfold prd; split
  · simp only [K_mod, K_add, K_mul]
  · split <;> simp only [K_mod, K_add, K_sub, K_mul]
theorem prd_beq {n : Nat} [NeZero n] (hp : isP (n : Int) = true) (c a1 a2 b1 b2 c' a1' a2' b1' b2' : Int) : (prd n c a1 a2 b1 b2 == prd n c' a1' a2' b1' b2') = true ↔ K n (prd n c a1 a2 b1 b2) = K n (prd n c' a1' a2' b1' b2') := by
  rw [beq_iff_eq]
  exact ⟨fun h => by rw [h], fun h => K_inj (prd_lt _ _ _ _ _ hp) (prd_lt _ _ _ _ _ hp) h⟩
theorem K_halves {n : Nat} [NeZero n] (hp : isP (n : Int) = true) : ∃ h : Fin n, h * 2 = 1 := by
  have h2 : K n 2 ≠ 0 := K_small ⟨by decide, by have := isP_range hp; omega⟩ (by decide)
  have := K_inv hp h2
  exact ⟨K n (inv n 2), by rw [← K_two]; grind⟩
theorem half {R : Type} [Lean.Grind.CommRing R] {i x y : R} (hi : i * 2 = 1) (h : 2 * x = 2 * y) : x = y := by
  have e : i * (2 * x) = i * (2 * y) := by rw [h]
  have e1 : i * (2 * x) = i * 2 * x := by grind
  have e2 : i * (2 * y) = i * 2 * y := by grind
  rw [e1, e2, hi] at e
  grind
set_option linter.unusedSimpArgs false in
/-- A map keeps the products of the axes just where it keeps three quadrances. -/
theorem mvB_impl {p c m1 m2 m3 m4 m5 m6 : Int} (hp : isP p = true) (hc : colB c = true) : (mvQ1 p c m1 m2 m3 m4 m5 m6 && (mvQ2 p c m1 m2 m3 m4 m5 m6 && mvQ3 p c m1 m2 m3 m4 m5 m6)) = mvB p c m1 m2 m3 m4 := by
  obtain ⟨n, rfl⟩ := Int.eq_ofNat_of_zero_le (by have := isP_range hp; omega : 0 ≤ p)
  haveI := neZero_of hp
  obtain ⟨i2, hi⟩ := K_halves hp
  rw [Bool.eq_iff_iff]
  simp only [Bool.and_eq_true, mvQ1, mvQ2, mvQ3, mvB, qdr]
  rw [prd_beq hp, prd_beq hp, prd_beq hp, prd_beq hp, prd_beq hp, prd_beq hp]
  simp only [prd_K, K_mod, K_sub, ld, mv, K_add, K_mul, K_zero, K_one]
  generalize K n m1 = a at *
  generalize K n m2 = b at *
  generalize K n m3 = d at *
  generalize K n m4 = e at *
  rcases colB_ways hc with rfl | rfl | rfl <;> simp <;> clear hc <;> constructor <;> rintro ⟨h1, h2, h3⟩ <;> refine ⟨?_, ?_, ?_⟩ <;> first | grind | (refine half hi ?_; grind)
/-- The sign of a map. -/
def sgn (p m1 m2 m3 m4 : Int) : Int := (m1 * m4 - m2 * m3) % p
theorem sgn_r (m1 m2 m3 m4 : Int) {p : Int} (h : isP p = true) : 0 ≤ sgn p m1 m2 m3 m4 ∧ sgn p m1 m2 m3 m4 < p := modR _ h

end Go.Proofs.Ythfckpfiechloaa

namespace Go.Proofs.Ythfckpfiechloaa
open Go.RowKit

/-- A row of a product's matrix: the second map's row at the first one's column. -/
def pd (p a b m1 m2 m3 m4 x y : Int) : Int := ld p a b (ld p m1 m2 x y) (ld p m3 m4 x y)
theorem pd_r (a b m1 m2 m3 m4 x y : Int) {p : Int} (h : isP p = true) : 0 ≤ pd p a b m1 m2 m3 m4 x y ∧ pd p a b m1 m2 m3 m4 x y < p := modR _ h
def mm (p a b u m1 m2 m3 m4 m5 m6 x y : Int) : Int := mv p a b u (mv p m1 m2 m5 x y) (mv p m3 m4 m6 x y)
theorem mm_r (a b u m1 m2 m3 m4 m5 m6 x y : Int) {p : Int} (h : isP p = true) : 0 ≤ mm p a b u m1 m2 m3 m4 m5 m6 x y ∧ mm p a b u m1 m2 m3 m4 m5 m6 x y < p := modR _ h
section
variable {p : Int} (hp : isP p = true) (a b u m1 m2 m3 m4 m5 m6 : Int)
include hp
theorem pd_x : (mm p a b u m1 m2 m3 m4 m5 m6 1 0 - mm p a b u m1 m2 m3 m4 m5 m6 0 0) % p = pd p a b m1 m2 m3 m4 1 0 := by
  obtain ⟨n, rfl⟩ := Int.eq_ofNat_of_zero_le (by have := isP_range hp; omega : 0 ≤ p)
  haveI := neZero_of hp
  unfold pd mm ld mv
  rw [← K_ext]
  simp only [K_mod, K_sub, K_add, K_mul, K_zero, K_one]
  grind
theorem pd_y : (mm p a b u m1 m2 m3 m4 m5 m6 0 1 - mm p a b u m1 m2 m3 m4 m5 m6 0 0) % p = pd p a b m1 m2 m3 m4 0 1 := by
  obtain ⟨n, rfl⟩ := Int.eq_ofNat_of_zero_le (by have := isP_range hp; omega : 0 ≤ p)
  haveI := neZero_of hp
  unfold pd mm ld mv
  rw [← K_ext]
  simp only [K_mod, K_sub, K_add, K_mul, K_zero, K_one]
  grind
theorem pd_o : mm p a b u m1 m2 m3 m4 m5 m6 0 0 = mv p a b u m5 m6 := by
  obtain ⟨n, rfl⟩ := Int.eq_ofNat_of_zero_le (by have := isP_range hp; omega : 0 ≤ p)
  haveI := neZero_of hp
  unfold mm mv
  rw [← K_ext]
  simp only [K_mod, K_add, K_mul, K_zero]
  grind
end
/-- The inverse of a move. -/
def im1 (p m1 m2 m3 m4 : Int) : Int := sgn p m1 m2 m3 m4 * m4 % p
def im2 (p m1 m2 m3 m4 : Int) : Int := -sgn p m1 m2 m3 m4 * m2 % p
def im3 (p m1 m2 m3 m4 : Int) : Int := -sgn p m1 m2 m3 m4 * m3 % p
def im4 (p m1 m2 m3 m4 : Int) : Int := sgn p m1 m2 m3 m4 * m1 % p
def im5 (p m1 m2 m3 m4 m5 m6 : Int) : Int := (0 - ld p (im1 p m1 m2 m3 m4) (im2 p m1 m2 m3 m4) m5 m6) % p
def im6 (p m1 m2 m3 m4 m5 m6 : Int) : Int := (0 - ld p (im3 p m1 m2 m3 m4) (im4 p m1 m2 m3 m4) m5 m6) % p
theorem im_r {p m1 m2 m3 m4 m5 m6 : Int} (h : isP p = true) : (0 ≤ im1 p m1 m2 m3 m4 ∧ im1 p m1 m2 m3 m4 < p) ∧ (0 ≤ im2 p m1 m2 m3 m4 ∧ im2 p m1 m2 m3 m4 < p) ∧ (0 ≤ im3 p m1 m2 m3 m4 ∧ im3 p m1 m2 m3 m4 < p) ∧ (0 ≤ im4 p m1 m2 m3 m4 ∧ im4 p m1 m2 m3 m4 < p) ∧ (0 ≤ im5 p m1 m2 m3 m4 m5 m6 ∧ im5 p m1 m2 m3 m4 m5 m6 < p) ∧ (0 ≤ im6 p m1 m2 m3 m4 m5 m6 ∧ im6 p m1 m2 m3 m4 m5 m6 < p) := ⟨modR _ h, modR _ h, modR _ h, modR _ h, modR _ h, modR _ h⟩
theorem mv_0 (p a b x y : Int) : mv p a b 0 x y = ld p a b x y := by unfold mv ld; rw [Int.add_zero]

end Go.Proofs.Ythfckpfiechloaa

namespace Go.Proofs.Ythfckpfiechloaa
open Go.RowKit

theorem nodup_le : ∀ (N : Nat) (l : List Nat), l.Nodup → (∀ x ∈ l, x < N) → l.length ≤ N
  | 0, l, _, h => by
    cases l with
    | nil => simp
    | cons x l => have := h x (by simp); omega
  | N + 1, l, hn, h => by
    by_cases hm : N ∈ l
    · have h1 : (l.erase N).length ≤ N := nodup_le N (l.erase N) (hn.erase N) fun x hx => by
        have hx' := (List.Nodup.mem_erase_iff hn).1 hx
        have := h x hx'.2
        have := hx'.1
        omega
      rw [List.length_erase_of_mem hm] at h1
      omega
    · have := nodup_le N l hn fun x hx => by
        have h1 := h x hx
        have h2 : x ≠ N := fun e => hm (e ▸ hx)
        omega
      omega
theorem pigeon (N : Nat) (f : Nat → Nat) (h : ∀ i, f i < N) : ∃ i j, i < j ∧ j ≤ N ∧ f i = f j := by
  refine Classical.byContradiction fun hc => ?_
  have hd : ((List.range (N + 1)).map f).Nodup := by
    rw [List.Nodup, List.pairwise_map]
    refine List.Pairwise.imp_of_mem ?_ (List.pairwise_lt_range (n := N + 1))
    intro a b ha hb hab e
    exact hc ⟨a, b, hab, by have := List.mem_range.1 hb; omega, e⟩
  have := nodup_le N _ hd fun x hx => by
    obtain ⟨i, _, rfl⟩ := List.mem_map.1 hx
    exact h i
  simp at this
  omega
abbrev Mv := Int × Int × Int × Int × Int × Int
/-- First m, then n. -/
def tmM (p : Int) (m n : Mv) : Mv :=
  (pd p n.1 n.2.1 m.1 m.2.1 m.2.2.1 m.2.2.2.1 1 0, pd p n.1 n.2.1 m.1 m.2.1 m.2.2.1 m.2.2.2.1 0 1, pd p n.2.2.1 n.2.2.2.1 m.1 m.2.1 m.2.2.1 m.2.2.2.1 1 0, pd p n.2.2.1 n.2.2.2.1 m.1 m.2.1 m.2.2.1 m.2.2.2.1 0 1,
   mv p n.1 n.2.1 n.2.2.2.2.1 m.2.2.2.2.1 m.2.2.2.2.2, mv p n.2.2.1 n.2.2.2.1 n.2.2.2.2.2 m.2.2.2.2.1 m.2.2.2.2.2)
def MvR (p : Int) (x : Mv) : Prop := (0 ≤ x.1 ∧ x.1 < p) ∧ (0 ≤ x.2.1 ∧ x.2.1 < p) ∧ (0 ≤ x.2.2.1 ∧ x.2.2.1 < p) ∧ (0 ≤ x.2.2.2.1 ∧ x.2.2.2.1 < p) ∧ (0 ≤ x.2.2.2.2.1 ∧ x.2.2.2.2.1 < p) ∧ (0 ≤ x.2.2.2.2.2 ∧ x.2.2.2.2.2 < p)
theorem tmM_r {p : Int} (hp : isP p = true) (m n : Mv) : MvR p (tmM p m n) := ⟨modR _ hp, modR _ hp, modR _ hp, modR _ hp, modR _ hp, modR _ hp⟩
def unitM : Mv := (1, 0, 0, 1, 0, 0)
theorem unitM_r {p : Int} (hp : isP p = true) : MvR p unitM := by
  have := isP_range hp
  refine ⟨?_, ?_, ?_, ?_, ?_, ?_⟩ <;> (simp only [unitM]; omega)
section
variable {n : Nat} [NeZero n]
theorem mv_ext {x y : Mv} (hx : MvR n x) (hy : MvR n y) (h1 : K n x.1 = K n y.1) (h2 : K n x.2.1 = K n y.2.1) (h3 : K n x.2.2.1 = K n y.2.2.1) (h4 : K n x.2.2.2.1 = K n y.2.2.2.1) (h5 : K n x.2.2.2.2.1 = K n y.2.2.2.2.1) (h6 : K n x.2.2.2.2.2 = K n y.2.2.2.2.2) : x = y := by
  obtain ⟨a1, a2, a3, a4, a5, a6⟩ := x
  obtain ⟨b1, b2, b3, b4, b5, b6⟩ := y
  simp only [MvR] at *
  rw [K_inj hx.1 hy.1 h1, K_inj hx.2.1 hy.2.1 h2, K_inj hx.2.2.1 hy.2.2.1 h3, K_inj hx.2.2.2.1 hy.2.2.2.1 h4, K_inj hx.2.2.2.2.1 hy.2.2.2.2.1 h5, K_inj hx.2.2.2.2.2 hy.2.2.2.2.2 h6]
theorem tm_unit {m : Mv} (hm : MvR n m) (hp : isP (n : Int) = true) : tmM n unitM m = m := by
  refine mv_ext (tmM_r hp _ _) hm ?_ ?_ ?_ ?_ ?_ ?_ <;> simp only [tmM, unitM, pd, ld, mv, K_mod, K_add, K_mul, K_zero, K_one] <;> grind
/-- A product with a map whose sign is a unit tells its first map. -/
theorem cancel_ring {R : Type} [Lean.Grind.CommRing R] {a b c d i x y x' y' : R} (hi : (a * d - b * c) * i = 1) (h1 : a * x + b * y = a * x' + b * y') (h2 : c * x + d * y = c * x' + d * y') : x = x' ∧ y = y' := by
  constructor <;> grind
theorem tm_cancel {m x y : Mv} (hp : isP (n : Int) = true) (hd : K n (sgn n m.1 m.2.1 m.2.2.1 m.2.2.2.1) ≠ 0) (hx : MvR n x) (hy : MvR n y) (h : tmM n x m = tmM n y m) : x = y := by
  have hi := K_inv hp hd
  obtain ⟨a1, a2, a3, a4, a5, a6⟩ := x
  obtain ⟨b1, b2, b3, b4, b5, b6⟩ := y
  obtain ⟨m1, m2, m3, m4, m5, m6⟩ := m
  simp only [tmM, pd, ld, mv, Prod.mk.injEq] at h
  obtain ⟨h1, h2, h3, h4, h5, h6⟩ := h
  simp only [sgn, K_mod, K_sub, K_mul] at hi
  generalize K n (inv n ((m1 * m4 - m2 * m3) % n)) = I at hi
  rw [← K_ext] at h1 h2 h3 h4 h5 h6
  simp only [K_mod, K_add, K_mul, K_zero, K_one] at h1 h2 h3 h4 h5 h6
  have q1 := cancel_ring (x := K n a1) (y := K n a3) (x' := K n b1) (y' := K n b3) hi (by grind) (by grind)
  have q2 := cancel_ring (x := K n a2) (y := K n a4) (x' := K n b2) (y' := K n b4) hi (by grind) (by grind)
  have q3 := cancel_ring (x := K n a5) (y := K n a6) (x' := K n b5) (y' := K n b6) hi (by grind) (by grind)
  exact mv_ext hx hy q1.1 q2.1 q1.2 q2.2 q3.1 q3.2
end
/-- The powers of a move: pwM k is the product of k + 1 times the move. -/
def pwM (p : Int) (m : Mv) : Nat → Mv
  | 0 => m
  | k + 1 => tmM p (pwM p m k) m
theorem pwM_r {p : Int} (hp : isP p = true) {m : Mv} (hm : MvR p m) : ∀ k, MvR p (pwM p m k)
  | 0 => hm
  | _ + 1 => tmM_r hp _ _
def encM (x : Mv) : Nat := ((((x.1.toNat * 32 + x.2.1.toNat) * 32 + x.2.2.1.toNat) * 32 + x.2.2.2.1.toNat) * 32 + x.2.2.2.2.1.toNat) * 32 + x.2.2.2.2.2.toNat
theorem encM_lt {p : Int} (hp : isP p = true) {x : Mv} (h : MvR p x) : encM x < 1073741824 := by
  have := isP_range hp
  obtain ⟨h1, h2, h3, h4, h5, h6⟩ := h
  unfold encM; omega
theorem dig {a b a' b' : Nat} (hb : b < 32) (hb' : b' < 32) (h : a * 32 + b = a' * 32 + b') : a = a' ∧ b = b' := by omega
set_option maxRecDepth 20000 in
set_option maxHeartbeats 2000000 in
theorem encM_inj {p : Int} (hp : isP p = true) {x y : Mv} (hx : MvR p x) (hy : MvR p y) (h : encM x = encM y) : x = y := by
  have := isP_range hp
  obtain ⟨a1, a2, a3, a4, a5, a6⟩ := x
  obtain ⟨b1, b2, b3, b4, b5, b6⟩ := y
  obtain ⟨h1, h2, h3, h4, h5, h6⟩ := hx
  obtain ⟨g1, g2, g3, g4, g5, g6⟩ := hy
  simp only [encM] at *
  obtain ⟨q5, q6⟩ := dig (by omega) (by omega) h
  obtain ⟨q4, q5⟩ := dig (by omega) (by omega) q5
  obtain ⟨q3, q4⟩ := dig (by omega) (by omega) q4
  obtain ⟨q2, q3⟩ := dig (by omega) (by omega) q3
  obtain ⟨q1, q2⟩ := dig (by omega) (by omega) q2
  clear h
  have e6 : a6 = b6 := by clear q1 q2 q3 q4 q5; omega
  have e5 : a5 = b5 := by clear q1 q2 q3 q4 q6; omega
  have e4 : a4 = b4 := by clear q1 q2 q3 q5 q6; omega
  have e3 : a3 = b3 := by clear q1 q2 q4 q5 q6; omega
  have e2 : a2 = b2 := by clear q1 q3 q4 q5 q6; omega
  have e1 : a1 = b1 := by clear q2 q3 q4 q5 q6; omega
  rw [e1, e2, e3, e4, e5, e6]
/-- Some power is the identity. -/
theorem pw_back {p : Int} (hp : isP p = true) {m : Mv} (hm : MvR p m) (hd : sgn p m.1 m.2.1 m.2.2.1 m.2.2.2.1 % p ≠ 0) : ∃ k, k < 1073741825 ∧ pwM p m k = unitM := by
  obtain ⟨n, rfl⟩ := Int.eq_ofNat_of_zero_le (by have := isP_range hp; omega : 0 ≤ p)
  haveI := neZero_of hp
  have hd' : K n (sgn n m.1 m.2.1 m.2.2.1 m.2.2.2.1) ≠ 0 := fun e => hd (K_eq_zero.1 e)
  obtain ⟨i, j, hij, hj, he⟩ := pigeon 1073741824 (fun k => encM (pwM n m k)) fun k => encM_lt hp (pwM_r hp hm k)
  have he' := encM_inj hp (pwM_r hp hm i) (pwM_r hp hm j) he
  clear he
  have down : ∀ i d, pwM n m i = pwM n m (i + (d + 1)) → pwM n m d = unitM := by
    intro i
    induction i with
    | zero =>
      intro d e
      rw [Nat.zero_add] at e
      have e' : tmM n unitM m = tmM n (pwM n m d) m := by rw [tm_unit hm hp]; exact e
      exact (tm_cancel hp hd' (unitM_r hp) (pwM_r hp hm d) e').symm
    | succ i ih =>
      intro d e
      rw [show i + 1 + (d + 1) = (i + (d + 1)) + 1 by omega] at e
      exact ih d (tm_cancel hp hd' (pwM_r hp hm i) (pwM_r hp hm _) e)
  exact ⟨j - i - 1, by omega, down i (j - i - 1) (by rw [he']; congr 1; omega)⟩
def isU (p : Int) (m : Mv) (k : Nat) : Bool := pwM p m k == unitM
/-- The order. -/
def ordM (p : Int) (m : Mv) : Int := (((List.range 1073741825).find? (isU p m)).getD 0 : Nat) + 1
theorem ordM_at {p : Int} {m : Mv} {k : Nat} (h : NoYes (isU p m) k) (hk : k < 1073741825) (hy : isU p m k = true) : ordM p m = (k : Int) + 1 := by
  rw [ordM, find_some h hk hy]; rfl
theorem isU_unit (x1 x2 x3 x4 x5 x6 : Int) : (((x1, x2, x3, x4, x5, x6) : Mv) == unitM) = (x1 == 1 && x2 == 0 && x3 == 0 && x4 == 1 && x5 == 0 && x6 == 0) := by
  rw [Bool.eq_iff_iff]
  simp [unitM]
  omega
set_option linter.unusedSimpArgs false in
/-- The sign of a move is a unit. -/
theorem mv_sgn {p c m1 m2 m3 m4 : Int} (hp : isP p = true) (hc : colB c = true) (h : mvB p c m1 m2 m3 m4 = true) : sgn p m1 m2 m3 m4 % p ≠ 0 := by
  obtain ⟨n, rfl⟩ := Int.eq_ofNat_of_zero_le (by have := isP_range hp; omega : 0 ≤ p)
  haveI := neZero_of hp
  obtain ⟨i2, hi⟩ := K_halves hp
  have h1' : (1 : Fin n) ≠ 0 := by
    have := K_small (n := n) (x := 1) ⟨by decide, by have := isP_range hp; omega⟩ (by decide)
    rwa [K_one] at this
  simp only [mvB, Bool.and_eq_true] at h
  rw [prd_beq hp, prd_beq hp, prd_beq hp] at h
  simp only [prd_K, K_mod, ld, K_add, K_mul, K_zero, K_one] at h
  intro e
  rw [← K_eq_zero, sgn, K_mod, K_sub, K_mul, K_mul] at e
  generalize K n m1 = a at *
  generalize K n m2 = b at *
  generalize K n m3 = d at *
  generalize K n m4 = g at *
  clear hp
  rcases colB_ways hc with rfl | rfl | rfl <;> simp at h <;> clear hc <;> obtain ⟨q1, q2, q3⟩ := h
  · exact h1' (by have : (a * g - b * d) * (a * g - b * d) = 1 := by grind
                  rw [e] at this; grind)
  · exact h1' (by have : (a * g - b * d) * (a * g - b * d) = 1 := by grind
                  rw [e] at this; grind)
  · exact h1' (by have : (a * g - b * d) * (a * g - b * d) = 1 := by grind
                  rw [e] at this; grind)

end Go.Proofs.Ythfckpfiechloaa

namespace Go.Proofs.Ythfckpfiechloaa
open Go.RowKit

set_option maxRecDepth 20000 in
set_option maxHeartbeats 400000 in
theorem in_any (n lo hi : Int) (w : World) :
    Calls Try.prog 65 #[.int .i64 n, .int .i64 lo, .int .i64 hi] w fun e w' => e = .returned (.bool (inB n lo hi)) ∧ w = w' := by
  by_cases h1 : lo ≤ n
  · by_cases h2 : n ≤ hi
    · rw [inB_true ⟨h1, h2⟩]
      go_enter Try.func65, Try.ntmps65
      go_wp2
      go_ret
      exact ⟨rfl, rfl⟩
    · rw [inB_false (by omega)]
      go_enter Try.func65, Try.ntmps65
      go_wp2
      go_ret
      exact ⟨rfl, rfl⟩
  · rw [inB_false (by omega)]
    go_enter Try.func65, Try.ntmps65
    go_wp2
    go_ret
    exact ⟨rfl, rfl⟩

set_option maxRecDepth 20000 in
set_option maxHeartbeats 400000 in
theorem field_out (p : Int) (w : World) (h : ¬ (3 ≤ p ∧ p ≤ 31)) :
    Calls Try.prog 62 #[.int .i64 p] w fun e w' => e = .returned (.bool false) ∧ w = w' := by
  have hb := inB_false h
  go_enter Try.func62, Try.ntmps62
  go_wp2_with (go_at_call 65; refine Calls.mono (in_any _ _ _ _) ?_; rintro e w' ⟨rfl, rfl⟩)
  go_ret
  exact ⟨rfl, rfl⟩

theorem ret_bool {a b : Bool} (h : a = b) : Ending.returned (.bool a) = .returned (.bool b) := by rw [h]
theorem ret_int {k : IntKind} {a b : Int} (h : a = b) : Ending.returned (.int k a) = .returned (.int k b) := by rw [h]

theorem ret_ib {a a' : Int} {b b' : Bool} (h : a = a') (g : b = b') : Ending.returned (.tuple #[.int .i64 a, .bool b]) = .returned (.tuple #[.int .i64 a', .bool b']) := by rw [h, g]
theorem ret_ii {a a' b b' : Int} (h : a = a') (g : b = b') : Ending.returned (.tuple #[.int .i64 a, .int .i64 b]) = .returned (.tuple #[.int .i64 a', .int .i64 b']) := by rw [h, g]
theorem ret_bi {a a' : Int} {b b' : Bool} (g : b = b') (h : a = a') : Ending.returned (.tuple #[.bool b, .int .i64 a]) = .returned (.tuple #[.bool b', .int .i64 a']) := by rw [h, g]

def NoDiv (n k : Nat) : Prop := ∀ d, d < k → 2 ≤ d → n % d ≠ 0
theorem NoDiv.start (n : Nat) : NoDiv n 2 := fun d h1 h2 => absurd h1 (by omega)
theorem NoDiv.next {n k : Nat} (h : NoDiv n k) (hk : n % k ≠ 0) : NoDiv n (k + 1) := fun d h1 h2 => by
  by_cases e : d = k
  · rw [e]; exact hk
  · exact h d (by omega) h2

theorem sq_small {k : Nat} (h2 : 2 ≤ k) (h : k * k ≤ 31) : k ≤ 5 := by
  rcases Nat.lt_or_ge k 6 with h6 | h6
  · omega
  · have := Nat.mul_le_mul h6 h6; omega

set_option maxRecDepth 20000 in
set_option maxHeartbeats 400000 in
theorem field_in (n : Nat) (w : World) (h3 : 3 ≤ n) (h31 : n ≤ 31) :
    Calls Try.prog 62 #[.int .i64 (n : Int)] w fun e w' => e = .returned (.bool (isP n)) ∧ w = w' := by
  have hb := inB_true (n := n) (lo := 3) (hi := 31) (by omega)
  go_enter Try.func62, Try.ntmps62
  go_wp2_with (go_at_call 65; refine Calls.mono (in_any _ _ _ _) ?_; rintro e w' ⟨rfl, rfl⟩)
  clear hb
  go_loop [3] (fun d => ∃ k : Nat, 2 ≤ k ∧ k ≤ 6 ∧ d = .int .i64 k ∧ NoDiv n k) (fun d => 32 - (intOf d).toNat)
  case atStart => exact ⟨2, by omega, by omega, rfl, NoDiv.start n⟩
  case round =>
    obtain ⟨k, hk2, hk6, rfl, hd⟩ := hrel
    have hkk : 0 ≤ (k : Int) * k ∧ (k : Int) * k ≤ 36 := by
      have : k * k ≤ 6 * 6 := Nat.mul_le_mul hk6 hk6
      have e : ((k * k : Nat) : Int) = (k : Int) * k := by simp
      omega
    by_cases hq : k * k ≤ n
    · have hq' : (k : Int) * k ≤ n := by rw [← Int.natCast_mul]; omega
      have hk5 := sq_small hk2 (by omega)
      by_cases hm : n % k = 0
      · have hm' : ((n : Int) % k == 0) = true := by rw [beq_iff_eq]; omega
        have H := Lib.hid (isP_divs n k (by omega) h3 (by omega) hk2 hm hq)
        go_wp2
        go_ret
        exact ⟨ret_bool H.out.symm, rfl⟩
      · have hm' : ((n : Int) % k == 0) = false := by rw [beq_eq_false_iff_ne]; omega
        have H := Lib.hid (hd.next hm)
        go_wp2
        go_round
        case rel => exact ⟨k + 1, by omega, by omega, by go_num, H.out⟩
        case measure => simp [intOf]; omega
    · have hq' : (n : Int) < (k : Int) * k := by rw [← Int.natCast_mul]; omega
      have H := Lib.hid (isP_nodivs n k (by omega) h3 (by omega) (by omega) hd)
      go_wp2
      go_ret
      exact ⟨ret_bool H.out.symm, rfl⟩

theorem field_any (p : Int) (w : World) :
    Calls Try.prog 62 #[.int .i64 p] w fun e w' => e = .returned (.bool (isP p)) ∧ w = w' := by
  by_cases h : 3 ≤ p ∧ p ≤ 31
  · obtain ⟨n, rfl⟩ := Int.eq_ofNat_of_zero_le (by omega : 0 ≤ p)
    exact field_in n w (by omega) (by omega)
  · rw [isP_none h]
    exact field_out p w h

end Go.Proofs.Ythfckpfiechloaa

namespace Go.Proofs.Ythfckpfiechloaa
open Go.RowKit

set_option maxRecDepth 20000 in
set_option maxHeartbeats 400000 in
theorem rest_any (p x : Int) (w : World) (h1 : 1 ≤ p) (h2 : p ≤ 2147483648) (h3 : -1099511627776 ≤ x) (h4 : x ≤ 1099511627776) :
    Calls Try.prog 102 #[.int .i64 p, .int .i64 x] w fun e w' => e = .returned (.int .i64 (x % p)) ∧ w = w' := by
  have hb := tmod_bounds x p h1
  have hb1 : -p < x.tmod p := hb.1
  have hb2 : x.tmod p < p := hb.2
  clear hb
  have H := Lib.hid (by rw [← mod_twice x p, Int.add_emod_right] : x.tmod p % p = x % p)
  by_cases hx : 0 ≤ x
  · have hx1 : 0 ≤ x % p := Int.emod_nonneg _ (by omega)
    have hx2 : x % p < p := Int.emod_lt_of_pos _ (by omega)
    clear H hb1 hb2
    go_enter Try.func102, Try.ntmps102
    go_wp2
    go_ret
    exact ⟨ret_int (by simp), rfl⟩
  · go_enter Try.func102, Try.ntmps102
    go_wp2
    go_ret
    exact ⟨ret_int H.out, rfl⟩

end Go.Proofs.Ythfckpfiechloaa

namespace Go.Proofs.Ythfckpfiechloaa
open Go.RowKit

set_option maxRecDepth 20000 in
set_option maxHeartbeats 400000 in
theorem difference_any (p a1 a2 b1 b2 : Int) (w : World) (hp : isP p = true) (ha1 : 0 ≤ a1 ∧ a1 ≤ 31) (ha2 : 0 ≤ a2 ∧ a2 ≤ 31) (hb1 : 0 ≤ b1 ∧ b1 ≤ 31) (hb2 : 0 ≤ b2 ∧ b2 ≤ 31) :
    Calls Try.prog 108 #[.int .i64 p, .agg #[.int .i64 a1, .int .i64 a2], .agg #[.int .i64 b1, .int .i64 b2]] w fun e w' =>
      e = .returned (.agg #[.int .i64 ((a1 - b1) % p), .int .i64 ((a2 - b2) % p)]) ∧ Below w.heap.size w w' := by
  have hr := isP_range hp
  have e1 : IntKind.i64.wrap (a1 - b1) = a1 - b1 := wrapI _ (by omega)
  have e2 : IntKind.i64.wrap (a2 - b2) = a2 - b2 := wrapI _ (by omega)
  go_enter Try.func108, Try.ntmps108
  go_wp2_with fail
  (refine region_tail 15 (by kernel_rfl) (by kernel_rfl) ?_; simp only [List.take_succ_cons, List.take_zero, List.drop_succ_cons, List.drop_zero]; repeat still_step)
  (still_call (stillOf (rest_any _ _ _ (by omega) (by omega) (by omega) (by omega))); repeat still_step)
  (still_call (stillOf (rest_any _ _ _ (by omega) (by omega) (by omega) (by omega))); repeat still_step)
  refine wpStill_nil ?_
  go_wp2
  (refine bodyPost_ret (v := .agg #[.int .i64 ((a1 - b1) % p), .int .i64 ((a2 - b2) % p)]) (by simp [results, Try.results108, go_sem]) rfl ⟨?_, ?_⟩)
  · rfl
  · (repeat (first | exact Below.refl _ _ | assumption | refine balloc ?_ _ | refine bdrewN ?_ _ | refine Below.drew ?_ | refine Below.setCell ?_ (by first | (simp; done) | (simp; omega)) _))

end Go.Proofs.Ythfckpfiechloaa

namespace Go.Proofs.Ythfckpfiechloaa
open Go.RowKit

set_option maxRecDepth 20000 in
set_option maxHeartbeats 400000 in
theorem implInverse_any (a p : Int) (w : World) (hp : isP p = true) (h3 : 0 ≤ a) (h4 : a ≤ 1099511627776) :
    Calls Try.prog 120 #[.int .i64 p, .int .i64 a] w fun e w' => e = .returned (.int .i64 (inv p a)) ∧ w = w' := by
  have hr := isP_range hp
  obtain ⟨n, rfl⟩ := Int.eq_ofNat_of_zero_le (by omega : 0 ≤ p)
  obtain ⟨m, rfl⟩ := Int.eq_ofNat_of_zero_le h3
  have hn := isP_ne hp
  have HE := Lib.hid (inv_cast n m)
  clear hp hr
  go_enter Try.func120, Try.ntmps120
  go_wp2
  go_loop [5, 7] (fun _ d => ∃ k : Nat, k ≤ n ∧ d = .int .i64 k ∧ NoYes (fun b => m * b % n == 1) k) (fun _ d => n - (intOf d).toNat)
  case atStart => exact ⟨0, by omega, rfl, NoYes.start _⟩
  case round =>
    obtain ⟨k, hk, rfl, hd⟩ := hrel
    by_cases hlt : k < n
    · have hb1 : 0 ≤ (m : Int) * k := Int.mul_nonneg (by omega) (by omega)
      have hb2 : (m : Int) * k ≤ 1099511627776 * 31 := Int.mul_le_mul (by omega) (by omega) (by omega) (by omega)
      have ec : ((m * k % n : Nat) : Int) = (m : Int) * k % n := by simp
      by_cases ht : m * k % n = 1
      · have ht' : ((m : Int) * k % n == 1) = true := by rw [beq_iff_eq]; omega
        have H := Lib.hid (find_some (f := fun b => m * b % n == 1) hd hlt (by simpa using ht))
        clear ht ec
        go_wp2
        go_ret
        exact ⟨ret_int (by rw [HE.out, invN, H.out]; rfl), rfl⟩
      · have ht' : ((m : Int) * k % n == 1) = false := by rw [beq_eq_false_iff_ne]; omega
        have H := Lib.hid (hd.next (by simpa using ht))
        clear ht ec
        go_wp2
        go_round
        case rel => exact ⟨k + 1, by omega, by go_num, H.out⟩
        case measure => simp [intOf]; omega
    · have H := Lib.hid (find_none (n := n) hd (by omega))
      go_wp2
      go_ret
      exact ⟨ret_int (by rw [HE.out, invN, H.out]; rfl), rfl⟩

end Go.Proofs.Ythfckpfiechloaa

namespace Go.Proofs.Ythfckpfiechloaa
open Go.RowKit

set_option maxRecDepth 20000 in
set_option maxHeartbeats 400000 in
theorem lineMadeBy_any (p a b c : Int) (w : World) (hp : isP p = true) (ha : 0 ≤ a ∧ a < p) (hb : 0 ≤ b ∧ b < p) (hc : 0 ≤ c ∧ c < p) :
    Calls Try.prog 109 #[.int .i64 p, .int .i64 a, .int .i64 b, .int .i64 c] w fun e w' =>
      e = .returned (.agg #[.int .i64 (mk1 p a b c), .int .i64 (mk2 p a b c), .int .i64 (mk3 p a b c)]) ∧ Below w.heap.size w w' := by
  have hr := isP_range hp
  obtain ⟨d, hd⟩ : ∃ d, d = nrm p a b := ⟨_, rfl⟩
  have hd31 : 0 ≤ d ∧ d ≤ 31 := by rw [hd]; exact nrm_range a b hp
  have m1 := mulP (a := a) (b := d) (by omega) hd31
  have m2 := mulP (a := b) (b := d) (by omega) hd31
  have m3 := mulP (a := c) (b := d) (by omega) hd31
  have e1 : IntKind.i64.wrap (a * d) = a * d := wrapI _ (by omega)
  have e2 : IntKind.i64.wrap (b * d) = b * d := wrapI _ (by omega)
  have e3 : IntKind.i64.wrap (c * d) = c * d := wrapI _ (by omega)
  have t1 : (a * d).tmod p = a * d % p := Int.tmod_eq_emod_of_nonneg m1.1
  have t2 : (b * d).tmod p = b * d % p := Int.tmod_eq_emod_of_nonneg m2.1
  have t3 : (c * d).tmod p = c * d % p := Int.tmod_eq_emod_of_nonneg m3.1
  have hpos : p ≠ 0 := by omega
  have HV := Lib.hid (show mk1 p a b c = a * d % p ∧ mk2 p a b c = b * d % p ∧ mk3 p a b c = c * d % p by rw [hd]; exact ⟨rfl, rfl, rfl⟩)
  by_cases h : a = 0
  · have HD := Lib.hid (show inv p b = d by rw [hd, nrm, if_pos (by rw [h]; rfl)])
    clear hd
    subst h
    go_enter Try.func109, Try.ntmps109
    go_wp2_with fail
    refine Calls.mono (implInverse_any b p _ hp (by omega) (by omega)) ?_
    rw [HD.out]
    rintro e w' ⟨rfl, rfl⟩
    go_wp2_with fail
    (refine region_tail 16 (by kernel_rfl) (by kernel_rfl) ?_; simp only [List.take_succ_cons, List.take_zero, List.drop_succ_cons, List.drop_zero]; repeat still_step)
    refine wpStill_nil ?_
    go_wp2
    (refine bodyPost_ret (v := .agg #[.int .i64 (mk1 p 0 b c), .int .i64 (mk2 p 0 b c), .int .i64 (mk3 p 0 b c)]) (by simp [results, Try.results109, go_sem, HV.out.1, HV.out.2.1, HV.out.2.2]) rfl ⟨?_, ?_⟩)
    · rfl
    · (repeat (first | exact Below.refl _ _ | assumption | refine balloc ?_ _ | refine bdrewN ?_ _ | refine Below.drew ?_ | refine Below.setCell ?_ (by first | (simp; done) | (simp; omega)) _))
  · have HD := Lib.hid (show inv p a = d by rw [hd, nrm, if_neg (by rw [Int.emod_eq_of_lt (by omega) (by omega)]; exact h)])
    have h' : (a == 0) = false := by rw [beq_eq_false_iff_ne]; exact h
    clear hd h
    go_enter Try.func109, Try.ntmps109
    go_wp2_with fail
    refine Calls.mono (implInverse_any a p _ hp (by omega) (by omega)) ?_
    rw [HD.out]
    rintro e w' ⟨rfl, rfl⟩
    go_wp2_with fail
    (refine region_tail 16 (by kernel_rfl) (by kernel_rfl) ?_; simp only [List.take_succ_cons, List.take_zero, List.drop_succ_cons, List.drop_zero]; repeat still_step)
    refine wpStill_nil ?_
    go_wp2
    (refine bodyPost_ret (v := .agg #[.int .i64 (mk1 p a b c), .int .i64 (mk2 p a b c), .int .i64 (mk3 p a b c)]) (by simp [results, Try.results109, go_sem, HV.out.1, HV.out.2.1, HV.out.2.2]) rfl ⟨?_, ?_⟩)
    · rfl
    · (repeat (first | exact Below.refl _ _ | assumption | refine balloc ?_ _ | refine bdrewN ?_ _ | refine Below.drew ?_ | refine Below.setCell ?_ (by first | (simp; done) | (simp; omega)) _))

end Go.Proofs.Ythfckpfiechloaa

namespace Go.Proofs.Ythfckpfiechloaa
open Go.RowKit

set_option maxRecDepth 20000 in
set_option maxHeartbeats 400000 in
theorem implThrough_any (p a1 a2 b1 b2 : Int) (w : World) (hp : isP p = true) (ha1 : 0 ≤ a1 ∧ a1 < p) (ha2 : 0 ≤ a2 ∧ a2 < p) (hb1 : 0 ≤ b1 ∧ b1 < p) (hb2 : 0 ≤ b2 ∧ b2 < p) (hne : ¬ (a1 = b1 ∧ a2 = b2)) :
    Calls Try.prog 71 #[.int .i64 p, .agg #[.int .i64 a1, .int .i64 a2], .agg #[.int .i64 b1, .int .i64 b2]] w fun e w' =>
      e = .returned (.agg #[.int .i64 (th1 p a1 a2 b1 b2), .int .i64 (th2 p a1 a2 b1 b2), .int .i64 (th3 p a1 a2 b1 b2)]) ∧ Below w.heap.size w w' := by
  have hr := isP_range hp
  obtain ⟨d1, hd1⟩ : ∃ d, d = (b1 - a1) % p := ⟨_, rfl⟩
  obtain ⟨d2, hd2⟩ : ∃ d, d = (b2 - a2) % p := ⟨_, rfl⟩
  have r1 := modR (b1 - a1) hp
  have r2 := modR (b2 - a2) hp
  rw [← hd1] at r1
  rw [← hd2] at r2
  have m1 := mulP (a := d1) (b := a2) (by omega) (by omega)
  have m2 := mulP (a := d2) (b := a1) (by omega) (by omega)
  have e0 : IntKind.i64.wrap (-d1) = -d1 := wrapI _ (by omega)
  have e1 : IntKind.i64.wrap (d1 * a2) = d1 * a2 := wrapI _ (by omega)
  have e2 : IntKind.i64.wrap (d2 * a1) = d2 * a1 := wrapI _ (by omega)
  have e3 : IntKind.i64.wrap (d1 * a2 - d2 * a1) = d1 * a2 - d2 * a1 := wrapI _ (by omega)
  have HV := Lib.hid (thEq hp ha1 ha2 hb1 hb2 hne)
  rw [← hd1, ← hd2] at HV
  have HD1 := Lib.hid hd1
  have HD2 := Lib.hid hd2
  clear hd1 hd2 hne
  go_enter Try.func71, Try.ntmps71
  go_wp2_with fail
  refine Calls.mono (difference_any p b1 b2 a1 a2 _ hp (by omega) (by omega) (by omega) (by omega)) ?_
  rw [← HD1.out, ← HD2.out]
  rintro e w1 ⟨rfl, hB1⟩
  (obtain ⟨hB1c, hB1f⟩ := bcell hB1; have hB1s := hB1.size; (try simp at hB1s); (try have hB1q1 := Nat.lt_of_succ_le hB1s); (try have hB1q2 := Nat.lt_of_succ_lt hB1q1); (try have hB1q3 := Nat.lt_of_succ_lt hB1q2); (try have hB1zw0 : w.heap.size < w1.heap.size := (by omega)); (try have hB1zw1 : w.heap.size + 1 < w1.heap.size := (by omega)); (try have hB1zw2 : w.heap.size + 1 + 1 < w1.heap.size := (by omega)); (try have hB1zw3 : w.heap.size + 1 + 1 + 1 < w1.heap.size := (by omega)); (try have hB1zw4 : w.heap.size + 1 + 1 + 1 + 1 < w1.heap.size := (by omega)))
  go_wp2_with fail
  (refine region_tail 21 (by kernel_rfl) (by kernel_rfl) ?_; simp only [List.take_succ_cons, List.take_zero, List.drop_succ_cons, List.drop_zero]; repeat still_step)
  (still_call (stillOf (rest_any _ _ _ (by omega) (by omega) (by omega) (by omega))); repeat still_step)
  (still_call (stillOf (rest_any _ _ _ (by omega) (by omega) (by omega) (by omega))); repeat still_step)
  refine wpStill_nil ?_
  (go_wp2_with fail; refine Calls.mono (lineMadeBy_any p d2 (-d1 % p) ((d1 * a2 - d2 * a1) % p) _ hp r2 (modR _ hp) (modR _ hp)) ?_; rintro e w2 ⟨rfl, hB2⟩; obtain ⟨hB2c, hB2f⟩ := bcell hB2; have hB2s := hB2.size; (try simp at hB2s); (try have hB2q1 := Nat.lt_of_succ_le hB2s); (try have hB2q2 := Nat.lt_of_succ_lt hB2q1); (try have hB2q3 := Nat.lt_of_succ_lt hB2q2); (try have hB2zw0 : w.heap.size < w2.heap.size := (by omega)); (try have hB2zw1 : w.heap.size + 1 < w2.heap.size := (by omega)); (try have hB2zw2 : w.heap.size + 1 + 1 < w2.heap.size := (by omega)); (try have hB2zw3 : w.heap.size + 1 + 1 + 1 < w2.heap.size := (by omega)); (try have hB2zw4 : w.heap.size + 1 + 1 + 1 + 1 < w2.heap.size := (by omega)); (try have hB2zw10 : w1.heap.size < w2.heap.size := (by omega)); (try have hB2zw11 : w1.heap.size + 1 < w2.heap.size := (by omega)); (try have hB2zw12 : w1.heap.size + 1 + 1 < w2.heap.size := (by omega)); (try have hB2zw13 : w1.heap.size + 1 + 1 + 1 < w2.heap.size := (by omega)); (try have hB2zw14 : w1.heap.size + 1 + 1 + 1 + 1 < w2.heap.size := (by omega)))
  go_wp2
  (refine bodyPost_ret (v := .agg #[.int .i64 (th1 p a1 a2 b1 b2), .int .i64 (th2 p a1 a2 b1 b2), .int .i64 (th3 p a1 a2 b1 b2)]) (by simp [results, Try.results71, go_sem, HV.out.1, HV.out.2.1, HV.out.2.2, *]) rfl ⟨?_, ?_⟩)
  · rfl
  · (repeat (first | exact Below.refl _ _ | refine balloc ?_ _ | refine bdrewN ?_ _ | refine Below.drew ?_ | refine bthen ?_ hB1 | refine bthen ?_ hB2 | refine Below.setCell ?_ (by first | (simp; done) | (simp; omega)) _))

end Go.Proofs.Ythfckpfiechloaa

namespace Go.Proofs.Ythfckpfiechloaa
open Go.RowKit

def ints (xs : List Int) : List Value := xs.map (Value.int .i64)
theorem ints_length (xs : List Int) : (ints xs).length = xs.length := List.length_map _
theorem ints_append (xs ys : List Int) : ints (xs ++ ys) = ints xs ++ ints ys := List.map_append

/-- What a slice owns stays while nothing below a bound turns, if its row lies below the bound. -/
theorem own_below {w w' : World} {base B : Nat} {e : TypeId} {k n : Nat} {v : Value} {xs : List Value} (h : w.ownsRow base e k v n xs) (hb : Below B w w') (hv : ∀ g, v.ownBlock = some g → g < B) : w'.ownsRow base e k v n xs := by
  obtain ⟨h1, h2⟩ := h
  refine ⟨h1, ?_⟩
  rcases h2 with h2 | ⟨g, cap, cur, rfl, hg, hh, r⟩
  · exact .inl h2
  · exact .inr ⟨g, cap, cur, rfl, hg, by rw [hb.block g (hv g rfl)]; exact hh, r⟩
/-- .. the bound: the heap's size. -/
theorem own_call {w w' : World} {base : Nat} {e : TypeId} {k n : Nat} {v : Value} {xs : List Value} (h : w.ownsRow base e k v n xs) (hb : Below w.heap.size w w') : w'.ownsRow base e k v n xs :=
  own_below h hb fun g hg => (h.lt g hg).2
theorem own_base {w : World} {base base' : Nat} {e : TypeId} {k n : Nat} {v : Value} {xs : List Value} (h : w.ownsRow base e k v n xs) (hb : base' ≤ base) : w.ownsRow base' e k v n xs := by
  obtain ⟨h1, h2⟩ := h
  refine ⟨h1, ?_⟩
  rcases h2 with h2 | ⟨g, cap, cur, rfl, hg, r⟩
  · exact .inl h2
  · exact .inr ⟨g, cap, cur, rfl, by omega, r⟩
/-- A slice's two shapes. -/
theorem own_ways {w : World} {base : Nat} {e : TypeId} {k n : Nat} {v : Value} {xs : List Value} (h : w.ownsRow base e k v n xs) :
    (n = 0 ∧ ∃ ao cap, v = .slice ao 0 cap) ∨ (0 < n ∧ ∃ g cap, v = .slice (some ⟨g, 0, none⟩) n cap ∧ base ≤ g ∧ g < w.heap.size ∧ n ≤ 9223372036854775807) := by
  rcases h.2 with ⟨rfl, rfl⟩ | ⟨g, cap, cur, rfl, hg, hh, hn, hm, r⟩
  · exact .inl ⟨rfl, _, _, rfl⟩
  · rcases Nat.eq_zero_or_pos n with rfl | h0
    · exact .inl ⟨rfl, _, _, rfl⟩
    · exact .inr ⟨h0, g, cap, rfl, hg, lt_of_block hh, by unfold maxLen at hm; omega⟩
/-- The number at a place. -/
theorem own_cell {w : World} {base : Nat} {e : TypeId} {k n g cap : Nat} {xs : List Int} (h : w.ownsRow base e k (.slice (some ⟨g, 0, none⟩) n cap) n (ints xs)) {j : Nat} (hj : j < n * k) : w.cell? ⟨g, j, none⟩ = some (.int .i64 (xs.getD j 0)) := by
  rw [h.cellAt j hj]
  have hl : xs.length = n * k := by have := h.1; rwa [ints_length] at this
  simp [ints, List.getElem?_eq_getElem (show j < xs.length by omega)]

/-- What a call leaves that returns a slice of its own and a code. -/
def SlicePost (T : TypeId) (k : Nat) (L : List Int) (C : Int) (w : World) (e : Ending) (w' : World) : Prop :=
  ∃ v n, e = .returned (.tuple #[v, .int .i64 C]) ∧ w'.ownsRow w.heap.size T k v n (ints L) ∧ Below w.heap.size w w'
theorem slicePost_mk {T : TypeId} {k n : Nat} {L : List Int} {C : Int} {v : Value} {w w' : World} (h : w'.ownsRow w.heap.size T k v n (ints L)) (hb : Below w.heap.size w w') :
    SlicePost T k L C w (.returned (.tuple #[v, .int .i64 C])) w' := ⟨v, n, rfl, h, hb⟩
theorem slicePost_nil {T : TypeId} {k : Nat} {L : List Int} {C : Int} {w w' : World} (h : L = []) (hb : Below w.heap.size w w') :
    SlicePost T k L C w (.returned (.tuple #[.slice none 0 0, .int .i64 C])) w' := ⟨_, 0, rfl, by rw [h]; exact World.ownsRow_nil _ _ _ _, hb⟩

theorem own_same {w w' : World} {b b' : Nat} {e : TypeId} {k n m : Nat} {v v' : Value} {xs : List Value} (h : w.ownsRow b e (k + 1) v n xs) (h' : w'.ownsRow b' e (k + 1) v' m xs) : n = m :=
  Nat.eq_of_mul_eq_mul_right (Nat.succ_pos k) (h.1.symm.trans h'.1)
theorem own_few {w : World} {b : Nat} {e : TypeId} {k n N : Nat} {v : Value} {xs : List Int} (h : w.ownsRow b e k v n (ints xs)) (hx : xs.length ≤ N) (hk : 0 < k) : n ≤ N := by
  have h1 := h.1
  rw [ints_length] at h1
  have := Nat.le_mul_of_pos_right n hk
  omega
theorem cell_old {B : Nat} {W w' : World} (h : Below B W w') {b : Nat} (hb : b < B) (j : Nat) : w'.cell? ⟨b, j, none⟩ = W.cell? ⟨b, j, none⟩ := World.cell?_of_block (a := ⟨b, j, none⟩) (h.block b hb)

theorem bcellB {B : Nat} {W w1 : World} (hb : Below B W w1) : (∀ b o, b < B → w1.cell? ⟨b, o, none⟩ = W.cell? ⟨b, o, none⟩) ∧ (∀ b o, b < B → w1.frozen? ⟨b, o, none⟩ = W.frozen? ⟨b, o, none⟩) :=
  ⟨fun b o h => World.cell?_of_block (a := ⟨b, o, none⟩) (hb.block b h), fun b o h => World.frozen?_of_block (a := ⟨b, o, none⟩) (hb.block b h)⟩
theorem own_lit {w : World} {base b : Nat} {e : TypeId} {k n : Nat} {cs : List Int} (hb : base ≤ w.heap.size) (hq : b = w.heap.size) (hn : n ≤ 1000000) (hl : cs.length = n * k) :
    (w.alloc (.cells (cs.map (Value.int .i64)).toArray e)).ownsRow base e k (.slice (some ⟨b, 0, none⟩) n n) n (ints cs) := by
  subst hq; exact World.ownsRow_lit w _ n hb (by unfold maxLen; omega) (by simpa using hl)

theorem own_list {w : World} {base n m : Nat} {e : TypeId} {v : Value} {xs : List Int} (h : w.ownsRow base e 1 v n (ints xs)) (hm : xs.length = m + 1) :
    n = m + 1 ∧ ∃ g cap, v = .slice (some ⟨g, 0, none⟩) (m + 1) cap ∧ base ≤ g ∧ g < w.heap.size ∧ ∀ j, j < m + 1 → w.cell? ⟨g, j, none⟩ = some (.int .i64 (xs.getD j 0)) := by
  have hn : n = m + 1 := by have := h.1; rw [ints_length] at this; omega
  subst hn
  rcases own_ways h with ⟨h0, _⟩ | ⟨_, g, cap, rfl, h1, h2, _⟩
  · omega
  · exact ⟨rfl, g, cap, rfl, h1, h2, fun j hj => own_cell h (by omega)⟩

/-- The marks m, m + 1, .. -/
def marks (m n : Nat) : List Int := (List.range n).map fun i => ((m + i : Nat) : Int)
theorem marks_length (m n : Nat) : (marks m n).length = n := by simp [marks]
theorem marks_getD {m n j : Nat} (h : j < n) : (marks m n).getD j 0 = ((m + j : Nat) : Int) := by
  simp [marks, List.getElem?_map, List.getElem?_range h]
theorem marks_succ (m n : Nat) : marks m (n + 1) = marks m n ++ [((m + n : Nat) : Int)] := by simp [marks, List.range_succ]
/-- One mark more. -/
theorem marks_set {m j : Nat} {xs : List Int} (h : j < xs.length) : (ints (marks m j ++ xs.drop j)).set j (.int .i64 ((m + j : Nat) : Int)) = ints (marks m (j + 1) ++ xs.drop (j + 1)) := by
  rw [ints_append, ints_append, marks_succ, ints_append, List.append_assoc]
  rw [List.set_append_right _ _ (by simp [ints_length, marks_length])]
  congr 1
  rw [ints_length, marks_length, Nat.sub_self]
  rw [List.drop_eq_getElem_cons h]
  simp only [ints, List.map_cons, List.set_cons_zero]
  rfl

end Go.Proofs.Ythfckpfiechloaa

namespace Go.Proofs.Ythfckpfiechloaa

/-- Whether the point is on the line. -/
def onB (p a1 a2 l1 l2 l3 : Int) : Bool := (l1 * a1 + l2 * a2 + l3) % p == 0

end Go.Proofs.Ythfckpfiechloaa

namespace Go.Proofs.Ythfckpfiechloaa
open Go.RowKit

/-- The first two points of a line, in order. -/
def sqS1 (p _l1 l2 l3 : Int) : Int := if (l2 == 0) = true then (-l3) % p else 0
def sqS2 (p _l1 l2 l3 : Int) : Int := if (l2 == 0) = true then 0 else (-l3 * inv p l2) % p
def sqN1 (p _l1 l2 l3 : Int) : Int := if (l2 == 0) = true then (-l3) % p else 1
def sqN2 (p l1 l2 l3 : Int) : Int := if (l2 == 0) = true then 1 else (-(l1 + l3) * inv p l2) % p
/-- What the maker of an iterator leaves: a function that has captured three boxes: the prime, two points. -/
def SeqMade (g : Nat) (p s1 s2 n1 n2 : Int) (w : World) (e : Ending) (w' : World) : Prop :=
  ∃ b0 b1 b2 : Nat, e = .returned (.func (.func g) #[] #[.pointer (some ⟨b0, 0, none⟩), .pointer (some ⟨b1, 0, none⟩), .pointer (some ⟨b2, 0, none⟩)]) ∧
    w'.cell? ⟨b1, 0, none⟩ = some (.int .i64 s1) ∧ w'.cell? ⟨b1, 1, none⟩ = some (.int .i64 s2) ∧ w'.cell? ⟨b2, 0, none⟩ = some (.int .i64 n1) ∧ w'.cell? ⟨b2, 1, none⟩ = some (.int .i64 n2) ∧
    w'.cell? ⟨b0, 0, none⟩ = some (.int .i64 p) ∧ w.heap.size ≤ b0 ∧ w.heap.size ≤ b1 ∧ w.heap.size ≤ b2 ∧ Below w.heap.size w w'
theorem seqMade_mk {g b0 b1 b2 : Nat} {p s1 s2 n1 n2 : Int} {w w' : World} (h1 : w'.cell? ⟨b1, 0, none⟩ = some (.int .i64 s1)) (h2 : w'.cell? ⟨b1, 1, none⟩ = some (.int .i64 s2)) (h3 : w'.cell? ⟨b2, 0, none⟩ = some (.int .i64 n1))
    (h4 : w'.cell? ⟨b2, 1, none⟩ = some (.int .i64 n2)) (h0 : w'.cell? ⟨b0, 0, none⟩ = some (.int .i64 p)) (g0 : w.heap.size ≤ b0) (g1 : w.heap.size ≤ b1) (g2 : w.heap.size ≤ b2) (hb : Below w.heap.size w w') :
    SeqMade g p s1 s2 n1 n2 w (.returned (.func (.func g) #[] #[.pointer (some ⟨b0, 0, none⟩), .pointer (some ⟨b1, 0, none⟩), .pointer (some ⟨b2, 0, none⟩)])) w' := ⟨b0, b1, b2, rfl, h1, h2, h3, h4, h0, g0, g1, g2, hb⟩
end Go.Proofs.Ythfckpfiechloaa

namespace Go.Proofs.Ythfckpfiechloaa
open Go.RowKit

/-- The numbers of points, one behind the other. -/
def flat (xs : List (Int × Int)) : List Int := xs.flatMap fun x => [x.1, x.2]
theorem flat_append (xs : List (Int × Int)) (x : Int × Int) : flat (xs ++ [x]) = flat xs ++ [x.1, x.2] := by simp [flat]
theorem flat_length (xs : List (Int × Int)) : (flat xs).length = xs.length * 2 := by
  induction xs with
  | nil => rfl
  | cons x xs ih => simp [flat] at ih ⊢; omega
/-- The combinations of two points with the numbers below k. -/
def cbs (p s1 s2 n1 n2 : Int) (k : Nat) : List (Int × Int) := (List.range k).map fun t : Nat => (cmb p s1 n1 (t : Int), cmb p s2 n2 (t : Int))
/-- A row of the grid, up to y; the rows below x. -/
def rowL (f : Int → Int → Bool) (x y : Nat) : List (Int × Int) := ((List.range y).filter fun b : Nat => f (x : Int) (b : Int)).map fun b : Nat => ((x : Int), (b : Int))
def gridL (f : Int → Int → Bool) (m x : Nat) : List (Int × Int) := (List.range x).flatMap fun a : Nat => rowL f a m
theorem rowL_yes {f : Int → Int → Bool} {x y : Nat} (h : f x y = true) : rowL f x (y + 1) = rowL f x y ++ [((x : Int), (y : Int))] := by simp [rowL, List.range_succ, List.filter_append, h]
theorem rowL_no {f : Int → Int → Bool} {x y : Nat} (h : f x y = false) : rowL f x (y + 1) = rowL f x y := by simp [rowL, List.range_succ, List.filter_append, h]
theorem rowL_le (f : Int → Int → Bool) (x y : Nat) : (rowL f x y).length ≤ y := by
  have := List.length_filter_le (fun b : Nat => f (x : Int) (b : Int)) (List.range y)
  simpa [rowL] using this
theorem gridL_succ (f : Int → Int → Bool) (m x : Nat) : gridL f m (x + 1) = gridL f m x ++ rowL f x m := by simp [gridL, List.range_succ]
theorem gridL_le (f : Int → Int → Bool) (m x : Nat) : (gridL f m x).length ≤ x * m := by
  induction x with
  | zero => simp [gridL]
  | succ x ih =>
    have := rowL_le f x m
    rw [gridL_succ, List.length_append, Nat.add_mul]; omega

/-- A test with one answer. -/
theorem filter_one {m y0 : Nat} {f : Nat → Bool} (h : ∀ b, b < m → f b = decide (b = y0)) : (List.range m).filter f = if y0 < m then [y0] else [] := by
  induction m with
  | zero => simp
  | succ m ih =>
    rw [List.range_succ, List.filter_append, ih fun b hb => h b (by omega)]
    have hm := h m (by omega)
    by_cases e : m = y0
    · subst e; simp [hm]
    · have hq : (y0 < m + 1) = (y0 < m) := propext ⟨fun _ => by omega, fun _ => by omega⟩
      simp only [hq]; simp [hm, e]
theorem filter_all {m : Nat} {f : Nat → Bool} (h : ∀ b, b < m → f b = true) : (List.range m).filter f = List.range m := by
  rw [List.filter_eq_self]; intro b hb; exact h b (List.mem_range.1 hb)
theorem filter_none {m : Nat} {f : Nat → Bool} (h : ∀ b, b < m → f b = false) : (List.range m).filter f = [] := by
  rw [List.filter_eq_nil_iff]; intro b hb; rw [h b (List.mem_range.1 hb)]; simp
/-- One point a row. -/
theorem grid_each {f : Int → Int → Bool} {m : Nat} {g : Nat → Nat} : ∀ x : Nat, (∀ a, a < x → g a < m ∧ ∀ b, b < m → f (a : Int) (b : Int) = decide (b = g a)) → gridL f m x = (List.range x).map fun a : Nat => ((a : Int), (g a : Int))
  | 0, _ => rfl
  | x + 1, h => by
    rw [gridL_succ, grid_each x fun a ha => h a (by omega), List.range_succ, List.map_append]
    congr 1
    rw [rowL, filter_one (h x (by omega)).2, if_pos (h x (by omega)).1]; rfl
/-- One row alone. -/
theorem grid_alone {f : Int → Int → Bool} {m x0 : Nat} : ∀ x : Nat, (∀ a, a < x → ∀ b, b < m → f (a : Int) (b : Int) = decide (a = x0)) → gridL f m x = if x0 < x then (List.range m).map fun b : Nat => ((x0 : Int), (b : Int)) else []
  | 0, _ => by simp [gridL]
  | x + 1, h => by
    rw [gridL_succ, grid_alone x fun a ha => h a (by omega)]
    by_cases e : x = x0
    · subst e
      rw [if_neg (by omega), if_pos (by omega), List.nil_append, rowL, filter_all fun b hb => by rw [h x (by omega) b hb]; simp]
    · rw [rowL, filter_none fun b hb => by rw [h x (by omega) b hb]; simp [e]]
      have hq : (x0 < x + 1) = (x0 < x) := propext ⟨fun _ => by omega, fun _ => by omega⟩
      simp only [hq]; simp

section
variable {n : Nat} [NeZero n]
theorem onB_iff {l1 l2 l3 x y : Int} : onB n x y l1 l2 l3 = true ↔ K n l1 * K n x + K n l2 * K n y + K n l3 = 0 := by
  rw [onB, beq_iff_eq, ← K_eq_zero, K_add, K_add, K_mul, K_mul]
end
/-- The points of a line by rows are the combinations of its first two. -/
theorem points_line {p l1 l2 l3 : Int} (hp : isP p = true) (hl : leadB l1 l2 = true) (h1 : 0 ≤ l1 ∧ l1 < p) (h2 : 0 ≤ l2 ∧ l2 < p) (h3 : 0 ≤ l3 ∧ l3 < p) :
    cbs p (sqS1 p l1 l2 l3) (sqS2 p l1 l2 l3) (sqN1 p l1 l2 l3) (sqN2 p l1 l2 l3) p.toNat = gridL (fun x y => onB p x y l1 l2 l3) p.toNat p.toNat := by
  have hr := isP_range hp
  obtain ⟨n, rfl⟩ := Int.eq_ofNat_of_zero_le (by omega : 0 ≤ p)
  haveI := neZero_of hp
  rw [Int.toNat_natCast]
  have cast0 : ∀ x : Int, 0 ≤ x % n ∧ x % n < n := fun x => ⟨Int.emod_nonneg _ (by omega), Int.emod_lt_of_pos _ (by omega)⟩
  by_cases hb : l2 = 0
  · subst hb
    have hl1 : l1 = 1 := by rcases lead_ways hl with h | ⟨_, h⟩ <;> omega
    subst hl1
    obtain ⟨x0, hx0⟩ := Int.eq_ofNat_of_zero_le (cast0 (-l3)).1
    have hx1 := (cast0 (-l3)).2
    rw [grid_alone (x0 := x0) n ?_, if_pos (by omega)]
    · unfold cbs
      refine List.map_congr_left fun t ht => ?_
      have ht' := List.mem_range.1 ht
      simp only [sqS1, sqS2, sqN1, sqN2, beq_self_eq_true, if_true, hx0, cmb, Prod.mk.injEq]
      constructor
      · rw [Int.sub_self, Int.mul_zero, Int.add_zero, Int.emod_eq_of_lt (by omega) (by omega)]
      · rw [Int.sub_zero, Int.mul_one, Int.zero_add, Int.emod_eq_of_lt (by omega) (by omega)]
    · intro a ha b hb
      rw [Bool.eq_iff_iff, onB_iff, decide_eq_true_iff]
      have hk : K n (x0 : Int) = - K n l3 := by rw [← hx0, K_mod, K_neg]
      rw [K_one, K_zero]
      constructor
      · intro h
        have : K n (a : Int) = K n (x0 : Int) := by rw [hk]; grind
        have := K_inj (n := n) ⟨by omega, by omega⟩ ⟨by omega, by omega⟩ this
        omega
      · rintro rfl
        rw [hk]; grind
  · have hk2 : K n l2 ≠ 0 := K_small h2 hb
    have hinv := K_inv hp hk2
    have hbe : (l2 == 0) = false := by simpa using hb
    have hy : ∀ a : Nat, ∃ y : Nat, y < n ∧ K n (y : Int) = -(K n l1 * K n (a : Int) + K n l3) * K n (inv n l2) := fun a => by
      obtain ⟨y, e⟩ := Int.eq_ofNat_of_zero_le (cast0 (-(l1 * a + l3) * inv n l2)).1
      have := (cast0 (-(l1 * a + l3) * inv n l2)).2
      exact ⟨y, by omega, by rw [← e, K_mod, K_mul, K_neg, K_add, K_mul]⟩
    rw [grid_each (g := fun a => Classical.choose (hy a)) n ?_]
    · unfold cbs
      refine List.map_congr_left fun t ht => ?_
      have ht' := List.mem_range.1 ht
      obtain ⟨c1, c2⟩ := Classical.choose_spec (hy t)
      simp only [sqS1, sqS2, sqN1, sqN2, hbe, Bool.false_eq_true, if_false, cmb, Prod.mk.injEq]
      constructor
      · rw [Int.sub_zero, Int.mul_one, Int.zero_add, Int.emod_eq_of_lt (by omega) (by omega)]
      · refine K_inj (n := n) (cast0 _) ⟨by omega, by omega⟩ ?_
        rw [c2]
        simp only [K_mod, K_add, K_mul, K_sub, K_neg]
        grind
    · intro a ha
      obtain ⟨c1, c2⟩ := Classical.choose_spec (hy a)
      refine ⟨c1, fun b hb' => ?_⟩
      rw [Bool.eq_iff_iff, onB_iff, decide_eq_true_iff]
      constructor
      · intro h
        have : K n (b : Int) = K n ((Classical.choose (hy a) : Nat) : Int) := by rw [c2]; grind
        have := K_inj (n := n) ⟨by omega, by omega⟩ ⟨by omega, by omega⟩ this
        omega
      · intro h
        rw [h, c2]; grind

end Go.Proofs.Ythfckpfiechloaa

namespace Go.Proofs.Ythfckpfiechloaa
open Go.RowKit Go.Shelf

attribute [local go_sem] Oper.semAt_some

/-- A point as a value. -/
def ptV (x : Int × Int) : Value := .agg #[.int .i64 x.1, .int .i64 x.2]
theorem below_grown {W w1 : World} (h : Below W.heap.size W w1) : W.grownBy w1 none := ⟨h.os, h.tape, h.output, h.size, fun k hk _ => h.block k hk⟩

/-- The blocks from lo to hi lie as they lay; none has gone. -/
def Btw (lo hi : Nat) (W W' : World) : Prop := W.heap.size ≤ W'.heap.size ∧ ∀ k, lo ≤ k → k < hi → W'.heap[k]? = W.heap[k]?
theorem btw_refl (lo hi : Nat) (W : World) : Btw lo hi W W := ⟨Nat.le_refl _, fun _ _ _ => rfl⟩
theorem btw_trans {lo hi : Nat} {A B C : World} (h : Btw lo hi A B) (k : Btw lo hi B C) : Btw lo hi A C := ⟨Nat.le_trans h.1 k.1, fun i h1 h2 => (k.2 i h1 h2).trans (h.2 i h1 h2)⟩
theorem btw_below {lo hi B : Nat} {W W' : World} (h : Below B W W') (hB : hi ≤ B) : Btw lo hi W W' := ⟨h.size, fun k _ hk => h.block k (by omega)⟩
theorem btw_alloc {lo hi : Nat} (W : World) (o : Obj) (h : hi ≤ W.heap.size) : Btw lo hi W (W.alloc o) := btw_below ((Below.refl hi W).alloc h o) (Nat.le_refl _)
theorem btw_grown {lo hi : Nat} {W W' : World} {row : Option Nat} (h : W.grownBy W' row) (hi' : hi ≤ W.heap.size) (hr : ∀ g, row = some g → g < lo ∨ hi ≤ g) : Btw lo hi W W' :=
  ⟨h.size, fun k h1 h2 => h.block k (by omega) (fun e => by have := hr k e.symm; omega)⟩
theorem btw_setCell {lo hi : Nat} (W : World) (a : Addr) (v : Value) (h : a.block < lo ∨ hi ≤ a.block) : Btw lo hi W (W.setCell a v) :=
  ⟨by simp [World.setCell], fun k h1 h2 => Below.heap_setCell W a v k (by omega)⟩
theorem btw_putObj {lo hi : Nat} {w : World} (h : hi ≤ w.heap.size) (W : World) (l : Nat) (o o' : Obj) (hl : w.heap.size ≤ l) (_ : W.heap[l]? = some o) (_ : o.isCells = false) (_ : o.isWalk = false) : Btw lo hi W (W.putObj l o') := by
  have hg := grownBy_putObj' W l o'
  exact ⟨hg.size, fun k h1 h2 => hg.block k (by
    rcases Nat.lt_or_ge k W.heap.size with h3 | h3
    · exact h3
    · have := (Array.getElem?_eq_some_iff.1 (by assumption : W.heap[l]? = some o)).1; omega) (fun e => by cases e; omega)⟩
theorem btw_cell {lo hi : Nat} {W W' : World} (h : Btw lo hi W W') {b : Nat} (h1 : lo ≤ b) (h2 : b < hi) (j : Nat) : W'.cell? ⟨b, j, none⟩ = W.cell? ⟨b, j, none⟩ := World.cell?_of_block (a := ⟨b, j, none⟩) (h.2 b h1 h2)

/-- A box that holds a point. -/
def Box2 (W : World) (B : Nat) (t : TypeId) (x : Int × Int) : Prop := W.heap[B]? = some (.cells #[.int .i64 x.1, .int .i64 x.2] t (0, 0))
theorem box2_cell1 {W : World} {B : Nat} {t : TypeId} {x : Int × Int} (h : Box2 W B t x) : W.cell? ⟨B, 0, none⟩ = some (.int .i64 x.1) := by simp [World.cell?, show W.heap[B]? = _ from h]
theorem box2_cell2 {W : World} {B : Nat} {t : TypeId} {x : Int × Int} (h : Box2 W B t x) : W.cell? ⟨B, 1, none⟩ = some (.int .i64 x.2) := by simp [World.cell?, show W.heap[B]? = _ from h]
theorem box2_own (B C : Nat) (t : TypeId) (x : Int × Int) : OwnFrom C (fun (_ : Unit) W => Box2 W B t x) := fun _ X Y row hs hg hrow =>
  (hg.block B (Array.getElem?_eq_some_iff.1 hs).1 (fun e' => by
    obtain ⟨_, o, ho, hc⟩ := hrow B e'.symm
    rw [show X.heap[B]? = _ from hs] at ho; cases ho; cases hc)).trans hs
theorem box2_new (W : World) (t : TypeId) (x : Int × Int) : Box2 (W.alloc (.cells #[.int .i64 x.1, .int .i64 x.2] t)) W.heap.size t x := World.alloc_heap_new W _
theorem row_own {β : Type} (n₀ : Nat) (e : TypeId) (size : Nat) (v : β → Value) (k : β → Nat) (f : β → List Value) : Own (fun s W => W.ownsRow n₀ e size (v s) (k s) (f s)) := by
  rintro s X Y row hr hg hrow
  refine hr.kept hg ?_
  rcases hr.2 with ⟨hv, _⟩ | ⟨g, cap, cur, hv, _, hgb, _⟩
  · rw [hv]; exact .inl rfl
  · rw [hv]; refine .inr fun e' => ?_
    obtain ⟨o, ho, hc⟩ := hrow g (by simpa [Value.ownBlock] using e'.symm)
    rw [hgb] at ho; cases ho; cases hc
theorem size_own {β : Type} (B n : Nat) : OwnFrom B (fun (_ : β) W => n ≤ W.heap.size) := fun _ _ _ _ hs hg _ => Nat.le_trans hs hg.size

theorem btw_own {β : Type} {lo hi : Nat} {W0 : World} (h : hi ≤ W0.heap.size) : OwnFrom W0.heap.size (fun (_ : β) W => Btw lo hi W0 W) := fun _ _ _ _ hs hg hr =>
  btw_trans hs (btw_grown hg (Nat.le_trans h hs.1) (fun g e => .inr (Nat.le_trans h (hr g e).1)))
theorem below_drew {W w' : World} (h : Below W.drew.heap.size W.drew w') : Below W.heap.size W w' := ⟨h.os, h.tape, h.output, h.size, h.block⟩

end Go.Proofs.Ythfckpfiechloaa

namespace Go.Proofs.Ythfckpfiechloaa
open Go.RowKit

/-- The line with the given two numbers through a point. -/
def parL (p a1 a2 l1 l2 : Int) : Int × Int × Int := (l1, l2, (-l1 * a1 - l2 * a2) % p)
/-- The line 0, 1 and the lines 1, b, b below k. -/
def pencil (p a1 a2 : Int) (k : Nat) : List (Int × Int × Int) := parL p a1 a2 0 1 :: (List.range k).map fun b : Nat => parL p a1 a2 1 (b : Int)
theorem pencil_succ (p a1 a2 : Int) (k : Nat) : pencil p a1 a2 (k + 1) = pencil p a1 a2 k ++ [parL p a1 a2 1 (k : Int)] := by simp [pencil, List.range_succ]
theorem pencil_length (p a1 a2 : Int) (k : Nat) : (pencil p a1 a2 k).length = k + 1 := by simp [pencil]
/-- The order of lines. -/
def LtT (x y : Int × Int × Int) : Prop := x.1 < y.1 ∨ x.1 = y.1 ∧ (x.2.1 < y.2.1 ∨ x.2.1 = y.2.1 ∧ x.2.2 < y.2.2)
theorem pencil_sorted (p a1 a2 : Int) (k : Nat) : (pencil p a1 a2 k).Pairwise LtT := by
  rw [pencil, List.pairwise_cons]
  refine ⟨?_, ?_⟩
  · intro z hz
    obtain ⟨b, _, rfl⟩ := List.mem_map.1 hz
    exact .inl (by simp [parL])
  · rw [List.pairwise_map]
    refine List.Pairwise.imp ?_ (List.pairwise_lt_range (n := k))
    intro a b h
    exact .inr ⟨rfl, .inl (by simp only [parL]; omega)⟩
def onT (p a1 a2 : Int) (z : Int × Int × Int) : Prop := (z.1 * a1 + z.2.1 * a2 + z.2.2) % p = 0
theorem nums3_of {p a b c : Int} (ha : 0 ≤ a ∧ a < p) (hb : 0 ≤ b ∧ b < p) (hc : 0 ≤ c ∧ c < p) : numsIn p [a, b, c] = true := by
  rw [numsIn3, inB_true (by omega), inB_true (by omega), inB_true (by omega)]; rfl
theorem pencil_mem {p a1 a2 : Int} (hp : isP p = true) (z : Int × Int × Int) : z ∈ pencil p a1 a2 p.toNat ↔ (lineB p z.1 z.2.1 z.2.2 = true ∧ onT p a1 a2 z) := by
  have hr := isP_range hp
  have hpn : (p.toNat : Int) = p := Int.toNat_of_nonneg (by omega)
  constructor
  · intro h
    have hm := modR (-z.1 * a1 - z.2.1 * a2) hp
    have key : z = parL p a1 a2 z.1 z.2.1 ∧ ((z.1 = 0 ∧ z.2.1 = 1) ∨ (z.1 = 1 ∧ 0 ≤ z.2.1 ∧ z.2.1 < p)) := by
      rcases List.mem_cons.1 h with rfl | h
      · exact ⟨rfl, .inl ⟨rfl, rfl⟩⟩
      · obtain ⟨b, hb, rfl⟩ := List.mem_map.1 h
        have := List.mem_range.1 hb
        exact ⟨rfl, .inr ⟨rfl, by simp only [parL]; omega⟩⟩
    obtain ⟨e, hw⟩ := key
    have e3 : z.2.2 = (-z.1 * a1 - z.2.1 * a2) % p := by have := congrArg (fun t => t.2.2) e; exact this
    refine ⟨lineB_of ?_ (nums3_of (by omega) (by omega) (by omega)), ?_⟩
    · rcases hw with ⟨h1, h2⟩ | ⟨h1, _⟩
      · rw [leadB, h1, h2]; rfl
      · rw [leadB, h1]; rfl
    · rw [onT, e3, Int.add_emod_emod]
      rw [show z.1 * a1 + z.2.1 * a2 + (-z.1 * a1 - z.2.1 * a2) = 0 by rw [Int.neg_mul]; omega]
      exact Int.zero_emod p
  · rintro ⟨hl, ho⟩
    obtain ⟨l1, l2, l3⟩ := z
    obtain ⟨hd, hn⟩ := lineB_in hl
    have hq := nums3 hn
    simp only at hq hd
    have e3 : l3 = (-l1 * a1 - l2 * a2) % p := by
      have h : (l1 * a1 + l2 * a2 + l3) % p = 0 := ho
      have h2 : (l3 - (-l1 * a1 - l2 * a2)) % p = 0 := by rw [← h]; congr 1; rw [Int.neg_mul]; omega
      have := Int.emod_emod_of_dvd l3 (Int.dvd_refl p)
      have h3 := Int.emod_eq_emod_iff_emod_sub_eq_zero.2 h2
      rw [Int.emod_eq_of_lt hq.2.2.1 hq.2.2.2] at h3
      exact h3
    rcases lead_ways hd with rfl | ⟨rfl, rfl⟩
    · refine List.mem_cons.2 (.inr (List.mem_map.2 ⟨l2.toNat, List.mem_range.2 (by omega), ?_⟩))
      rw [Int.toNat_of_nonneg hq.2.1.1, parL, ← e3]
    · refine List.mem_cons.2 (.inl ?_)
      rw [parL, ← e3]
section
variable {n : Nat} [NeZero n]
theorem mk_lead (hp : isP (n : Int) = true) {l1 l2 l3 : Int} (hl : lineB n l1 l2 l3 = true) : mk1 n l1 l2 l3 = l1 ∧ mk2 n l1 l2 l3 = l2 ∧ mk3 n l1 l2 l3 = l3 := by
  obtain ⟨hd, hn⟩ := lineB_in hl
  have hq := nums3 hn
  have h1 := K_one_ne hp
  have hk : K n (nrm n l1 l2) = 1 := by
    rcases lead_ways hd with rfl | ⟨rfl, rfl⟩
    · rcases K_nrm hp (a := 1) (b := l2) (fun e => h1 e.1) with ⟨_, h⟩ | ⟨h, _⟩
      · rw [K_one] at h; grind
      · exact absurd h h1
    · rcases K_nrm hp (a := 0) (b := 1) (fun e => h1 e.2) with ⟨h, _⟩ | ⟨_, _, h⟩
      · exact absurd K_zero h
      · rw [K_one] at h; grind
  unfold mk1 mk2 mk3
  refine ⟨K_inj (modR _ hp) hq.1 ?_, K_inj (modR _ hp) hq.2.1 ?_, K_inj (modR _ hp) hq.2.2 ?_⟩ <;> (rw [K_mod, K_mul, hk]; grind)
end
/-- The line to another point is a line, and goes through the point. -/
theorem th_on {p a1 a2 b1 b2 : Int} (hp : isP p = true) (ha1 : 0 ≤ a1 ∧ a1 < p) (ha2 : 0 ≤ a2 ∧ a2 < p) (hb1 : 0 ≤ b1 ∧ b1 < p) (hb2 : 0 ≤ b2 ∧ b2 < p) (hne : ¬ (a1 = b1 ∧ a2 = b2)) :
    lineB p (th1 p a1 a2 b1 b2) (th2 p a1 a2 b1 b2) (th3 p a1 a2 b1 b2) = true ∧ onT p a1 a2 (th1 p a1 a2 b1 b2, th2 p a1 a2 b1 b2, th3 p a1 a2 b1 b2) := by
  obtain ⟨n, rfl⟩ := Int.eq_ofNat_of_zero_le (by have := isP_range hp; omega : 0 ≤ p)
  haveI := neZero_of hp
  refine ⟨mk_line hp _ ?_, ?_⟩
  · rintro ⟨h1, h2⟩
    rw [K_sub] at h1 h2
    exact hne ⟨K_inj ha1 hb1 (by grind), K_inj ha2 hb2 (by grind)⟩
  · rw [onT, ← K_eq_zero]
    unfold th1 th2 th3 mk1 mk2 mk3
    simp only [K_add, K_mul, K_mod, K_sub]
    grind
/-- Every line through the point leads to another one. -/
theorem on_th {p a1 a2 l1 l2 l3 : Int} (hp : isP p = true) (ha1 : 0 ≤ a1 ∧ a1 < p) (ha2 : 0 ≤ a2 ∧ a2 < p) (hl : lineB p l1 l2 l3 = true) (ho : onT p a1 a2 (l1, l2, l3)) :
    ¬ (a1 = (a1 - l2) % p ∧ a2 = (a2 + l1) % p) ∧ th1 p a1 a2 ((a1 - l2) % p) ((a2 + l1) % p) = l1 ∧ th2 p a1 a2 ((a1 - l2) % p) ((a2 + l1) % p) = l2 ∧ th3 p a1 a2 ((a1 - l2) % p) ((a2 + l1) % p) = l3 := by
  obtain ⟨n, rfl⟩ := Int.eq_ofNat_of_zero_le (by have := isP_range hp; omega : 0 ≤ p)
  haveI := neZero_of hp
  have h1 := K_one_ne hp
  obtain ⟨hd, hn⟩ := lineB_in hl
  have hnz : ¬ (K n l1 = 0 ∧ K n l2 = 0) := by
    rintro ⟨e1, e2⟩
    rcases lead_ways hd with rfl | ⟨_, rfl⟩
    · exact h1 e1
    · exact h1 e2
  have ho' : K n l1 * K n a1 + K n l2 * K n a2 + K n l3 = 0 := by
    have := K_eq_zero.2 ho; simpa only [K_add, K_mul] using this
  refine ⟨?_, ?_⟩
  · rintro ⟨e1, e2⟩
    have f1 := congrArg (K n) e1
    have f2 := congrArg (K n) e2
    rw [K_mod, K_sub] at f1
    rw [K_mod, K_add] at f2
    exact hnz ⟨by grind, by grind⟩
  · have hm := mk_lead hp hl
    have hr := mk_ratio hp (u := -1) (a := l1) (b := l2) (c := l3) (a' := a2 - (a2 + l1) % n) (b' := (a1 - l2) % n - a1) (c' := a1 * ((a2 + l1) % n) - (a1 - l2) % n * a2)
      (fun e => h1 (by rw [K_neg, K_one] at e; rw [K_one]; grind)) hnz ?_ ?_ ?_
    · unfold th1 th2 th3
      exact ⟨hr.1.trans hm.1, hr.2.1.trans hm.2.1, hr.2.2.trans hm.2.2⟩
    all_goals
      simp only [K_sub, K_mod, K_neg, K_add, K_mul, K_one]
      grind
/-- The lines to all points but one. -/
def thT (p a1 a2 : Int) (b : Int × Int) : Int × Int × Int := (th1 p a1 a2 b.1 b.2, th2 p a1 a2 b.1 b.2, th3 p a1 a2 b.1 b.2)
def linesTo (p a1 a2 : Int) (bs : List (Int × Int)) : List (Int × Int × Int) := (bs.filter fun b => !(b.1 == a1 && b.2 == a2)).map (thT p a1 a2)
theorem linesTo_snoc (p a1 a2 : Int) (bs : List (Int × Int)) (b : Int × Int) : linesTo p a1 a2 (bs ++ [b]) = linesTo p a1 a2 bs ++ (if (!(b.1 == a1 && b.2 == a2)) = true then [thT p a1 a2 b] else []) := by
  rw [linesTo, linesTo, List.filter_append, List.map_append]
  congr 1
  rw [List.filter_cons]
  split <;> simp
theorem linesTo_le (p a1 a2 : Int) (bs : List (Int × Int)) : (linesTo p a1 a2 bs).length ≤ bs.length := by
  rw [linesTo, List.length_map]; exact List.length_filter_le _ _
theorem linesTo_all {p a1 a2 : Int} (hp : isP p = true) (ha1 : 0 ≤ a1 ∧ a1 < p) (ha2 : 0 ≤ a2 ∧ a2 < p) {bs : List (Int × Int)} (hb : ∀ b, b ∈ bs ↔ (0 ≤ b.1 ∧ b.1 < p) ∧ 0 ≤ b.2 ∧ b.2 < p) (z : Int × Int × Int) :
    z ∈ linesTo p a1 a2 bs ↔ z ∈ pencil p a1 a2 p.toNat := by
  rw [pencil_mem hp, linesTo, List.mem_map]
  constructor
  · rintro ⟨b, h, rfl⟩
    obtain ⟨h1, h2⟩ := List.mem_filter.1 h
    have hr := (hb b).1 h1
    exact th_on hp ha1 ha2 hr.1 hr.2 (by rintro ⟨e1, e2⟩; simp [← e1, ← e2] at h2)
  · rintro ⟨hl, ho⟩
    obtain ⟨l1, l2, l3⟩ := z
    have h := on_th hp ha1 ha2 hl ho
    refine ⟨((a1 - l2) % p, (a2 + l1) % p), List.mem_filter.2 ⟨(hb _).2 ⟨modR _ hp, modR _ hp⟩, ?_⟩, by rw [thT]; simp only [h.2.1, h.2.2.1, h.2.2.2]⟩
    rw [Bool.not_eq_true', Bool.and_eq_false_iff]
    by_cases e : a1 = (a1 - l2) % p
    · right; rw [beq_eq_false_iff_ne]; exact fun e2 => h.1 ⟨e, e2.symm⟩
    · left; rw [beq_eq_false_iff_ne]; exact fun e2 => e e2.symm

end Go.Proofs.Ythfckpfiechloaa

namespace Go.Proofs.Ythfckpfiechloaa
open Go.RowKit

/-- What lineThrough makes of any two points. -/
def tr1 (p a1 a2 b1 b2 : Int) : Int := mk1 p ((b2 - a2) % p) (-((b1 - a1) % p) % p) (((b1 - a1) % p * a2 - (b2 - a2) % p * a1) % p)
def tr2 (p a1 a2 b1 b2 : Int) : Int := mk2 p ((b2 - a2) % p) (-((b1 - a1) % p) % p) (((b1 - a1) % p * a2 - (b2 - a2) % p * a1) % p)
def tr3 (p a1 a2 b1 b2 : Int) : Int := mk3 p ((b2 - a2) % p) (-((b1 - a1) % p) % p) (((b1 - a1) % p * a2 - (b2 - a2) % p * a1) % p)
theorem trEq (p a1 a2 b1 b2 : Int) : tr1 p a1 a2 b1 b2 = mk1 p ((b2 - a2) % p) (-((b1 - a1) % p) % p) (((b1 - a1) % p * a2 - (b2 - a2) % p * a1) % p) ∧
    tr2 p a1 a2 b1 b2 = mk2 p ((b2 - a2) % p) (-((b1 - a1) % p) % p) (((b1 - a1) % p * a2 - (b2 - a2) % p * a1) % p) ∧
    tr3 p a1 a2 b1 b2 = mk3 p ((b2 - a2) % p) (-((b1 - a1) % p) % p) (((b1 - a1) % p * a2 - (b2 - a2) % p * a1) % p) := ⟨rfl, rfl, rfl⟩
theorem tr1_r {p : Int} (a1 a2 b1 b2 : Int) (h : isP p = true) : 0 ≤ tr1 p a1 a2 b1 b2 ∧ tr1 p a1 a2 b1 b2 < p := modR _ h
theorem tr2_r {p : Int} (a1 a2 b1 b2 : Int) (h : isP p = true) : 0 ≤ tr2 p a1 a2 b1 b2 ∧ tr2 p a1 a2 b1 b2 < p := modR _ h
theorem tr3_r {p : Int} (a1 a2 b1 b2 : Int) (h : isP p = true) : 0 ≤ tr3 p a1 a2 b1 b2 ∧ tr3 p a1 a2 b1 b2 < p := modR _ h
/-- The lines to all points but one, as the program makes them. -/
def trT (p a1 a2 : Int) (b : Int × Int) : Int × Int × Int := (tr1 p a1 a2 b.1 b.2, tr2 p a1 a2 b.1 b.2, tr3 p a1 a2 b.1 b.2)
def linesR (p a1 a2 : Int) (bs : List (Int × Int)) : List (Int × Int × Int) := (bs.filter fun b => !(b.1 == a1 && b.2 == a2)).map (trT p a1 a2)
theorem linesR_no {p a1 a2 : Int} (bs : List (Int × Int)) {b : Int × Int} (h : (b.1 == a1 && b.2 == a2) = true) : linesR p a1 a2 (bs ++ [b]) = linesR p a1 a2 bs := by
  rw [linesR, linesR, List.filter_append, List.filter_cons, h]; simp
theorem linesR_yes {p a1 a2 : Int} (bs : List (Int × Int)) {b : Int × Int} (h : (b.1 == a1 && b.2 == a2) = false) : linesR p a1 a2 (bs ++ [b]) = linesR p a1 a2 bs ++ [trT p a1 a2 b] := by
  rw [linesR, linesR, List.filter_append, List.filter_cons, h]; simp
theorem linesR_le (p a1 a2 : Int) (bs : List (Int × Int)) : (linesR p a1 a2 bs).length ≤ bs.length := by
  rw [linesR, List.length_map]; exact List.length_filter_le _ _
theorem linesR_r {p a1 a2 : Int} (hp : isP p = true) (bs : List (Int × Int)) : ∀ z, z ∈ linesR p a1 a2 bs → (0 ≤ z.1 ∧ z.1 < p) ∧ (0 ≤ z.2.1 ∧ z.2.1 < p) ∧ 0 ≤ z.2.2 ∧ z.2.2 < p := fun z hz => by
  obtain ⟨b, _, rfl⟩ := List.mem_map.1 hz
  exact ⟨tr1_r _ _ _ _ hp, tr2_r _ _ _ _ hp, tr3_r _ _ _ _ hp⟩
theorem linesR_all {p a1 a2 : Int} (hp : isP p = true) (ha1 : 0 ≤ a1 ∧ a1 < p) (ha2 : 0 ≤ a2 ∧ a2 < p) {bs : List (Int × Int)} (hb : ∀ b, b ∈ bs ↔ (0 ≤ b.1 ∧ b.1 < p) ∧ 0 ≤ b.2 ∧ b.2 < p) (z : Int × Int × Int) :
    z ∈ linesR p a1 a2 bs ↔ z ∈ pencil p a1 a2 p.toNat := by
  rw [← linesTo_all hp ha1 ha2 hb]
  have e : linesR p a1 a2 bs = linesTo p a1 a2 bs := by
    unfold linesR linesTo
    refine List.map_congr_left fun b h => ?_
    obtain ⟨h1, h2⟩ := List.mem_filter.1 h
    have hr := (hb b).1 h1
    have he := thEq hp ha1 ha2 hr.1 hr.2 (by rintro ⟨e1, e2⟩; simp [← e1, ← e2] at h2)
    unfold trT thT tr1 tr2 tr3
    rw [← he.1, ← he.2.1, ← he.2.2]
  rw [e]

set_option maxRecDepth 20000 in
set_option maxHeartbeats 400000 in
theorem implThroughR_any (p a1 a2 b1 b2 : Int) (w : World) (hp : isP p = true) (ha1 : 0 ≤ a1 ∧ a1 < p) (ha2 : 0 ≤ a2 ∧ a2 < p) (hb1 : 0 ≤ b1 ∧ b1 ≤ 31) (hb2 : 0 ≤ b2 ∧ b2 ≤ 31) :
    Calls Try.prog 71 #[.int .i64 p, .agg #[.int .i64 a1, .int .i64 a2], .agg #[.int .i64 b1, .int .i64 b2]] w fun e w' =>
      e = .returned (.agg #[.int .i64 (tr1 p a1 a2 b1 b2), .int .i64 (tr2 p a1 a2 b1 b2), .int .i64 (tr3 p a1 a2 b1 b2)]) ∧ Below w.heap.size w w' := by
  have hr := isP_range hp
  obtain ⟨d1, hd1⟩ : ∃ d, d = (b1 - a1) % p := ⟨_, rfl⟩
  obtain ⟨d2, hd2⟩ : ∃ d, d = (b2 - a2) % p := ⟨_, rfl⟩
  have r1 := modR (b1 - a1) hp
  have r2 := modR (b2 - a2) hp
  rw [← hd1] at r1
  rw [← hd2] at r2
  have m1 := mulP (a := d1) (b := a2) (by omega) (by omega)
  have m2 := mulP (a := d2) (b := a1) (by omega) (by omega)
  have e0 : IntKind.i64.wrap (-d1) = -d1 := wrapI _ (by omega)
  have e1 : IntKind.i64.wrap (d1 * a2) = d1 * a2 := wrapI _ (by omega)
  have e2 : IntKind.i64.wrap (d2 * a1) = d2 * a1 := wrapI _ (by omega)
  have e3 : IntKind.i64.wrap (d1 * a2 - d2 * a1) = d1 * a2 - d2 * a1 := wrapI _ (by omega)
  have HV := Lib.hid (trEq p a1 a2 b1 b2)
  rw [← hd1, ← hd2] at HV
  have HD1 := Lib.hid hd1
  have HD2 := Lib.hid hd2
  clear hd1 hd2
  go_enter Try.func71, Try.ntmps71
  go_wp2_with fail
  refine Calls.mono (difference_any p b1 b2 a1 a2 _ hp (by omega) (by omega) (by omega) (by omega)) ?_
  rw [← HD1.out, ← HD2.out]
  rintro e w1 ⟨rfl, hB1⟩
  (obtain ⟨hB1c, hB1f⟩ := bcell hB1; have hB1s := hB1.size; (try simp at hB1s); (try have hB1q1 := Nat.lt_of_succ_le hB1s); (try have hB1q2 := Nat.lt_of_succ_lt hB1q1); (try have hB1q3 := Nat.lt_of_succ_lt hB1q2); (try have hB1zw0 : w.heap.size < w1.heap.size := (by omega)); (try have hB1zw1 : w.heap.size + 1 < w1.heap.size := (by omega)); (try have hB1zw2 : w.heap.size + 1 + 1 < w1.heap.size := (by omega)); (try have hB1zw3 : w.heap.size + 1 + 1 + 1 < w1.heap.size := (by omega)); (try have hB1zw4 : w.heap.size + 1 + 1 + 1 + 1 < w1.heap.size := (by omega)))
  go_wp2_with fail
  (refine region_tail 21 (by kernel_rfl) (by kernel_rfl) ?_; simp only [List.take_succ_cons, List.take_zero, List.drop_succ_cons, List.drop_zero]; repeat still_step)
  (still_call (stillOf (rest_any _ _ _ (by omega) (by omega) (by omega) (by omega))); repeat still_step)
  (still_call (stillOf (rest_any _ _ _ (by omega) (by omega) (by omega) (by omega))); repeat still_step)
  refine wpStill_nil ?_
  (go_wp2_with fail; refine Calls.mono (lineMadeBy_any p d2 (-d1 % p) ((d1 * a2 - d2 * a1) % p) _ hp r2 (modR _ hp) (modR _ hp)) ?_; rintro e w2 ⟨rfl, hB2⟩; obtain ⟨hB2c, hB2f⟩ := bcell hB2; have hB2s := hB2.size; (try simp at hB2s); (try have hB2q1 := Nat.lt_of_succ_le hB2s); (try have hB2q2 := Nat.lt_of_succ_lt hB2q1); (try have hB2q3 := Nat.lt_of_succ_lt hB2q2); (try have hB2zw0 : w.heap.size < w2.heap.size := (by omega)); (try have hB2zw1 : w.heap.size + 1 < w2.heap.size := (by omega)); (try have hB2zw2 : w.heap.size + 1 + 1 < w2.heap.size := (by omega)); (try have hB2zw3 : w.heap.size + 1 + 1 + 1 < w2.heap.size := (by omega)); (try have hB2zw4 : w.heap.size + 1 + 1 + 1 + 1 < w2.heap.size := (by omega)); (try have hB2zw10 : w1.heap.size < w2.heap.size := (by omega)); (try have hB2zw11 : w1.heap.size + 1 < w2.heap.size := (by omega)); (try have hB2zw12 : w1.heap.size + 1 + 1 < w2.heap.size := (by omega)); (try have hB2zw13 : w1.heap.size + 1 + 1 + 1 < w2.heap.size := (by omega)); (try have hB2zw14 : w1.heap.size + 1 + 1 + 1 + 1 < w2.heap.size := (by omega)))
  go_wp2
  (refine bodyPost_ret (v := .agg #[.int .i64 (tr1 p a1 a2 b1 b2), .int .i64 (tr2 p a1 a2 b1 b2), .int .i64 (tr3 p a1 a2 b1 b2)]) (by simp [results, Try.results71, go_sem, HV.out.1, HV.out.2.1, HV.out.2.2, *]) rfl ⟨?_, ?_⟩)
  · rfl
  · (repeat (first | exact Below.refl _ _ | refine balloc ?_ _ | refine bdrewN ?_ _ | refine Below.drew ?_ | refine bthen ?_ hB1 | refine bthen ?_ hB2 | refine Below.setCell ?_ (by first | (simp; done) | (simp; omega)) _))

end Go.Proofs.Ythfckpfiechloaa

namespace Go.Proofs.Ythfckpfiechloaa
open Go.RowKit

/-- The model's two points of a line. -/
def tw1 (p l1 l3 : Int) : Int := if (l1 == 1) = true then (-l3) % p else 0
def tw2 (p l1 l3 : Int) : Int := if (l1 == 1) = true then 0 else (-l3) % p
def tw3 (p l1 l2 l3 : Int) : Int := (tw1 p l1 l3 + (-l2) % p) % p
def tw4 (p l1 l3 : Int) : Int := (tw2 p l1 l3 + l1) % p
theorem tw_r {p : Int} (l1 l2 l3 : Int) (hp : isP p = true) : (0 ≤ tw1 p l1 l3 ∧ tw1 p l1 l3 < p) ∧ (0 ≤ tw2 p l1 l3 ∧ tw2 p l1 l3 < p) ∧ (0 ≤ tw3 p l1 l2 l3 ∧ tw3 p l1 l2 l3 < p) ∧ (0 ≤ tw4 p l1 l3 ∧ tw4 p l1 l3 < p) := by
  have hr := isP_range hp
  have h := modR (-l3) hp
  refine ⟨?_, ?_, modR _ hp, modR _ hp⟩
  · unfold tw1; split <;> omega
  · unfold tw2; split <;> omega
section
variable {n : Nat} [NeZero n]
theorem moved_key (hp : isP (n : Int) = true) {m1 m2 m3 m4 m5 m6 l1 l2 A1 A2 B1 B2 S1 S2 N1 N2 t r : Int} (hd : K n (sgn n m1 m2 m3 m4) ≠ 0) (hl : ¬ (K n l1 = 0 ∧ K n l2 = 0)) (ht : K n t ≠ 0)
    (eB1 : K n B1 = K n A1 - K n l2) (eB2 : K n B2 = K n A2 + K n l1) (eS1 : K n S1 = K n A1 - K n r * K n l2) (eS2 : K n S2 = K n A2 + K n r * K n l1) (eN1 : K n N1 = K n S1 - K n t * K n l2) (eN2 : K n N2 = K n S2 + K n t * K n l1) :
    th1 n (mv n m1 m2 m5 A1 A2) (mv n m3 m4 m6 A1 A2) (mv n m1 m2 m5 B1 B2) (mv n m3 m4 m6 B1 B2) = tr1 n (mv n m1 m2 m5 S1 S2) (mv n m3 m4 m6 S1 S2) (mv n m1 m2 m5 N1 N2) (mv n m3 m4 m6 N1 N2) ∧
    th2 n (mv n m1 m2 m5 A1 A2) (mv n m3 m4 m6 A1 A2) (mv n m1 m2 m5 B1 B2) (mv n m3 m4 m6 B1 B2) = tr2 n (mv n m1 m2 m5 S1 S2) (mv n m3 m4 m6 S1 S2) (mv n m1 m2 m5 N1 N2) (mv n m3 m4 m6 N1 N2) ∧
    th3 n (mv n m1 m2 m5 A1 A2) (mv n m3 m4 m6 A1 A2) (mv n m1 m2 m5 B1 B2) (mv n m3 m4 m6 B1 B2) = tr3 n (mv n m1 m2 m5 S1 S2) (mv n m3 m4 m6 S1 S2) (mv n m1 m2 m5 N1 N2) (mv n m3 m4 m6 N1 N2) := by
  have hi := K_inv hp hd
  simp only [sgn, K_mod, K_sub, K_mul] at hi
  generalize K n (inv n ((m1 * m4 - m2 * m3) % n)) = I at hi
  have hu : K n (-t) ≠ 0 := fun e => ht (by rw [K_neg] at e; grind)
  have h := mk_ratio hp (u := -t) (a := mv n m3 m4 m6 A1 A2 - mv n m3 m4 m6 B1 B2) (b := mv n m1 m2 m5 B1 B2 - mv n m1 m2 m5 A1 A2) (c := mv n m1 m2 m5 A1 A2 * mv n m3 m4 m6 B1 B2 - mv n m1 m2 m5 B1 B2 * mv n m3 m4 m6 A1 A2)
    (a' := (mv n m3 m4 m6 N1 N2 - mv n m3 m4 m6 S1 S2) % n) (b' := -((mv n m1 m2 m5 N1 N2 - mv n m1 m2 m5 S1 S2) % n) % n) (c' := ((mv n m1 m2 m5 N1 N2 - mv n m1 m2 m5 S1 S2) % n * mv n m3 m4 m6 S1 S2 - (mv n m3 m4 m6 N1 N2 - mv n m3 m4 m6 S1 S2) % n * mv n m1 m2 m5 S1 S2) % n) hu ?_ ?_ ?_ ?_
  · exact ⟨h.1.symm, h.2.1.symm, h.2.2.symm⟩
  · rintro ⟨h1, h2⟩
    simp only [mv, K_sub, K_mod, K_add, K_mul, eB1, eB2] at h1 h2
    exact hl ⟨by grind, by grind⟩
  · simp only [mv, K_sub, K_mod, K_add, K_mul, K_neg, eB1, eB2, eN1, eN2]; grind
  · simp only [mv, K_sub, K_mod, K_add, K_mul, K_neg, eB1, eB2, eN1, eN2]; grind
  · simp only [mv, K_sub, K_mod, K_add, K_mul, K_neg, eB1, eB2, eN1, eN2, eS1, eS2]; grind
end
set_option linter.unusedSimpArgs false in
theorem moved_line {p l1 l2 l3 m1 m2 m3 m4 m5 m6 : Int} (hp : isP p = true) (hl : leadB l1 l2 = true) (h2 : 0 ≤ l2 ∧ l2 < p) (hd : sgn p m1 m2 m3 m4 % p ≠ 0) :
    th1 p (mv p m1 m2 m5 (tw1 p l1 l3) (tw2 p l1 l3)) (mv p m3 m4 m6 (tw1 p l1 l3) (tw2 p l1 l3)) (mv p m1 m2 m5 (tw3 p l1 l2 l3) (tw4 p l1 l3)) (mv p m3 m4 m6 (tw3 p l1 l2 l3) (tw4 p l1 l3)) =
      tr1 p (mv p m1 m2 m5 (sqS1 p l1 l2 l3) (sqS2 p l1 l2 l3)) (mv p m3 m4 m6 (sqS1 p l1 l2 l3) (sqS2 p l1 l2 l3)) (mv p m1 m2 m5 (sqN1 p l1 l2 l3) (sqN2 p l1 l2 l3)) (mv p m3 m4 m6 (sqN1 p l1 l2 l3) (sqN2 p l1 l2 l3)) ∧
    th2 p (mv p m1 m2 m5 (tw1 p l1 l3) (tw2 p l1 l3)) (mv p m3 m4 m6 (tw1 p l1 l3) (tw2 p l1 l3)) (mv p m1 m2 m5 (tw3 p l1 l2 l3) (tw4 p l1 l3)) (mv p m3 m4 m6 (tw3 p l1 l2 l3) (tw4 p l1 l3)) =
      tr2 p (mv p m1 m2 m5 (sqS1 p l1 l2 l3) (sqS2 p l1 l2 l3)) (mv p m3 m4 m6 (sqS1 p l1 l2 l3) (sqS2 p l1 l2 l3)) (mv p m1 m2 m5 (sqN1 p l1 l2 l3) (sqN2 p l1 l2 l3)) (mv p m3 m4 m6 (sqN1 p l1 l2 l3) (sqN2 p l1 l2 l3)) ∧
    th3 p (mv p m1 m2 m5 (tw1 p l1 l3) (tw2 p l1 l3)) (mv p m3 m4 m6 (tw1 p l1 l3) (tw2 p l1 l3)) (mv p m1 m2 m5 (tw3 p l1 l2 l3) (tw4 p l1 l3)) (mv p m3 m4 m6 (tw3 p l1 l2 l3) (tw4 p l1 l3)) =
      tr3 p (mv p m1 m2 m5 (sqS1 p l1 l2 l3) (sqS2 p l1 l2 l3)) (mv p m3 m4 m6 (sqS1 p l1 l2 l3) (sqS2 p l1 l2 l3)) (mv p m1 m2 m5 (sqN1 p l1 l2 l3) (sqN2 p l1 l2 l3)) (mv p m3 m4 m6 (sqN1 p l1 l2 l3) (sqN2 p l1 l2 l3)) := by
  obtain ⟨n, rfl⟩ := Int.eq_ofNat_of_zero_le (by have := isP_range hp; omega : 0 ≤ p)
  haveI := neZero_of hp
  have hd' : K n (sgn n m1 m2 m3 m4) ≠ 0 := fun e => hd (K_eq_zero.1 e)
  have h1' : (1 : Fin n) ≠ 0 := by
    have := K_small (n := n) (x := 1) ⟨by decide, by have := isP_range hp; omega⟩ (by decide)
    rwa [K_one] at this
  have k1 : K n (1 : Int) ≠ 0 := by rw [K_one]; exact h1'
  by_cases hz : l2 = 0
  · rcases lead_ways hl with rfl | ⟨_, e⟩
    · subst hz
      refine moved_key hp (l1 := 1) (l2 := 0) (t := 1) (r := 0) hd' (fun e => k1 e.1) k1 ?_ ?_ ?_ ?_ ?_ ?_ <;> simp [tw1, tw2, tw3, tw4, sqS1, sqS2, sqN1, sqN2, K_mod, K_add, K_neg, K_zero, K_one] <;> grind
    · omega
  · have hk2 : K n l2 ≠ 0 := K_small h2 hz
    have hi := K_inv hp hk2
    have hzb : (l2 == 0) = false := beq_eq_false_iff_ne.2 hz
    have hinv : K n (-inv n l2) ≠ 0 := fun e => h1' (by rw [K_neg] at e; grind)
    rcases lead_ways hl with rfl | ⟨rfl, rfl⟩
    · refine moved_key hp (l1 := 1) (l2 := l2) (t := -inv n l2) (r := -(l3 * inv n l2)) hd' (fun e => k1 e.1) hinv ?_ ?_ ?_ ?_ ?_ ?_ <;> simp [tw1, tw2, tw3, tw4, sqS1, sqS2, sqN1, sqN2, hzb, K_mod, K_add, K_mul, K_neg, K_zero, K_one] <;> grind
    · refine moved_key hp (l1 := 0) (l2 := 1) (t := -inv n 1) (r := 0) hd' (fun e => k1 e.2) hinv ?_ ?_ ?_ ?_ ?_ ?_ <;> simp [tw1, tw2, tw3, tw4, sqS1, sqS2, sqN1, sqN2, K_mod, K_add, K_mul, K_neg, K_zero, K_one] <;> (simp only [K_one] at hi; grind)

end Go.Proofs.Ythfckpfiechloaa

namespace Go.Proofs.Ythfckpfiechloaa
open Go.RowKit

set_option maxRecDepth 20000 in
set_option maxHeartbeats 400000 in
theorem mod_any (x p : Int) (w : World) (h1 : 1 ≤ p) (h2 : p ≤ 2147483648) (h3 : -1099511627776 ≤ x) (h4 : x ≤ 1099511627776) :
    Calls Try.prog 103 #[.int .i64 x, .int .i64 p] w fun e w' => e = .returned (.int .i64 (x % p)) ∧ w = w' := by
  have hb := tmod_bounds x p h1
  have hb1 : -p < x.tmod p := hb.1
  have hb2 : x.tmod p < p := hb.2
  clear hb
  have H := Lib.hid (by rw [← mod_twice x p, Int.add_emod_right] : x.tmod p % p = x % p)
  by_cases hx : 0 ≤ x
  · have hx1 : 0 ≤ x % p := Int.emod_nonneg _ (by omega)
    have hx2 : x % p < p := Int.emod_lt_of_pos _ (by omega)
    clear H hb1 hb2
    go_enter Try.func103, Try.ntmps103
    go_wp2
    go_ret
    exact ⟨ret_int (by simp), rfl⟩
  · go_enter Try.func103, Try.ntmps103
    go_wp2
    go_ret
    exact ⟨ret_int H.out, rfl⟩

end Go.Proofs.Ythfckpfiechloaa

namespace Go.Proofs.Ythfckpfiechloaa
open Go.RowKit

set_option maxRecDepth 20000 in
set_option maxHeartbeats 400000 in
theorem specMinus_any (p a1 a2 b1 b2 : Int) (w : World) (hp : isP p = true) (ha1 : 0 ≤ a1 ∧ a1 ≤ 31) (ha2 : 0 ≤ a2 ∧ a2 ≤ 31) (hb1 : 0 ≤ b1 ∧ b1 ≤ 31) (hb2 : 0 ≤ b2 ∧ b2 ≤ 31) :
    Calls Try.prog 112 #[.int .i64 p, .agg #[.int .i64 a1, .int .i64 a2], .agg #[.int .i64 b1, .int .i64 b2]] w fun e w' =>
      e = .returned (.agg #[.int .i64 ((a1 - b1) % p), .int .i64 ((a2 - b2) % p)]) ∧ Below w.heap.size w w' := by
  have hr := isP_range hp
  have e1 : IntKind.i64.wrap (a1 - b1) = a1 - b1 := wrapI _ (by omega)
  have e2 : IntKind.i64.wrap (a2 - b2) = a2 - b2 := wrapI _ (by omega)
  go_enter Try.func112, Try.ntmps112
  go_wp2_with fail
  (refine region_tail 15 (by kernel_rfl) (by kernel_rfl) ?_; simp only [List.take_succ_cons, List.take_zero, List.drop_succ_cons, List.drop_zero]; repeat still_step)
  (still_call (stillOf (mod_any _ _ _ (by omega) (by omega) (by omega) (by omega))); repeat still_step)
  (still_call (stillOf (mod_any _ _ _ (by omega) (by omega) (by omega) (by omega))); repeat still_step)
  refine wpStill_nil ?_
  go_wp2
  (refine bodyPost_ret (v := .agg #[.int .i64 ((a1 - b1) % p), .int .i64 ((a2 - b2) % p)]) (by simp [results, Try.results112, go_sem]) rfl ⟨?_, ?_⟩)
  · rfl
  · (repeat (first | exact Below.refl _ _ | assumption | refine balloc ?_ _ | refine bdrewN ?_ _ | refine Below.drew ?_ | refine Below.setCell ?_ (by first | (simp; done) | (simp; omega)) _))

end Go.Proofs.Ythfckpfiechloaa

namespace Go.Proofs.Ythfckpfiechloaa
open Go.RowKit

set_option maxRecDepth 20000 in
set_option maxHeartbeats 1000000 in
theorem specProduct_any (p c a1 a2 b1 b2 : Int) (w : World) (hp : isP p = true) (hc : colB c = true) (ha1 : 0 ≤ a1 ∧ a1 ≤ 31) (ha2 : 0 ≤ a2 ∧ a2 ≤ 31) (hb1 : 0 ≤ b1 ∧ b1 ≤ 31) (hb2 : 0 ≤ b2 ∧ b2 ≤ 31) :
    Calls Try.prog 114 #[.int .i64 p, .int .i64 c, .agg #[.int .i64 a1, .int .i64 a2], .agg #[.int .i64 b1, .int .i64 b2]] w fun e w' =>
      e = .returned (.int .i64 (prd p c a1 a2 b1 b2)) ∧ Below w.heap.size w w' := by
  have hr := isP_range hp
  have m1 := mulP ha1 hb1
  have m2 := mulP ha2 hb2
  have m3 := mulP ha1 hb2
  have m4 := mulP ha2 hb1
  rcases colB_ways hc with rfl | rfl | rfl
  · have HV := Lib.hid (prd_0 p a1 a2 b1 b2)
    go_enter Try.func114, Try.ntmps114
    (go_wp2_with fail; refine Calls.mono (mod_any _ _ _ (by omega) (by omega) (by omega) (by omega)) ?_; rintro e w' ⟨rfl, rfl⟩)
    go_wp2
    go_ret
    exact ⟨ret_int HV.out.symm, by (repeat (first | exact Below.refl _ _ | assumption | refine balloc ?_ _ | refine bdrewN ?_ _ | refine Below.drew ?_ | refine Below.setCell ?_ (by first | (simp; done) | (simp; omega)) _))⟩
  · have HV := Lib.hid (prd_1 p a1 a2 b1 b2)
    go_enter Try.func114, Try.ntmps114
    (go_wp2_with fail; refine Calls.mono (mod_any _ _ _ (by omega) (by omega) (by omega) (by omega)) ?_; rintro e w' ⟨rfl, rfl⟩)
    go_wp2
    go_ret
    exact ⟨ret_int HV.out.symm, by (repeat (first | exact Below.refl _ _ | assumption | refine balloc ?_ _ | refine bdrewN ?_ _ | refine Below.drew ?_ | refine Below.setCell ?_ (by first | (simp; done) | (simp; omega)) _))⟩
  · have HV := Lib.hid (prd_2 p a1 a2 b1 b2)
    go_enter Try.func114, Try.ntmps114
    (go_wp2_with fail; refine Calls.mono (mod_any _ _ _ (by omega) (by omega) (by omega) (by omega)) ?_; rintro e w' ⟨rfl, rfl⟩)
    go_wp2
    go_ret
    exact ⟨ret_int HV.out.symm, by (repeat (first | exact Below.refl _ _ | assumption | refine balloc ?_ _ | refine bdrewN ?_ _ | refine Below.drew ?_ | refine Below.setCell ?_ (by first | (simp; done) | (simp; omega)) _))⟩

end Go.Proofs.Ythfckpfiechloaa

namespace Go.Proofs.Ythfckpfiechloaa
open Go.RowKit

set_option maxRecDepth 20000 in
set_option maxHeartbeats 400000 in
theorem specDir_any (p l1 l2 l3 : Int) (w : World) (hp : isP p = true) (h2 : 0 ≤ l2 ∧ l2 ≤ 31) :
    Calls Try.prog 104 #[.int .i64 p, .agg #[.int .i64 l1, .int .i64 l2, .int .i64 l3]] w fun e w' =>
      e = .returned (.agg #[.int .i64 (-l2 % p), .int .i64 l1]) ∧ Below w.heap.size w w' := by
  have hr := isP_range hp
  have e1 : IntKind.i64.wrap (-l2) = -l2 := wrapI _ (by omega)
  go_enter Try.func104, Try.ntmps104
  go_wp2_with fail
  (refine region_tail 7 (by kernel_rfl) (by kernel_rfl) ?_; simp only [List.take_succ_cons, List.take_zero, List.drop_succ_cons, List.drop_zero]; repeat still_step)
  (still_call (stillOf (mod_any _ _ _ (by omega) (by omega) (by omega) (by omega))); repeat still_step)
  refine wpStill_nil ?_
  go_wp2
  (refine bodyPost_ret (v := .agg #[.int .i64 (-l2 % p), .int .i64 l1]) (by simp [results, Try.results104, go_sem]) rfl ⟨?_, ?_⟩)
  · rfl
  · (repeat (first | exact Below.refl _ _ | assumption | refine balloc ?_ _ | refine bdrewN ?_ _ | refine Below.drew ?_ | refine Below.setCell ?_ (by first | (simp; done) | (simp; omega)) _))

end Go.Proofs.Ythfckpfiechloaa

namespace Go.Proofs.Ythfckpfiechloaa
open Go.RowKit

set_option maxRecDepth 20000 in
set_option maxHeartbeats 400000 in
theorem specPlus_any (p a1 a2 b1 b2 : Int) (w : World) (hp : isP p = true) (ha1 : 0 ≤ a1 ∧ a1 ≤ 31) (ha2 : 0 ≤ a2 ∧ a2 ≤ 31) (hb1 : 0 ≤ b1 ∧ b1 ≤ 31) (hb2 : 0 ≤ b2 ∧ b2 ≤ 31) :
    Calls Try.prog 98 #[.int .i64 p, .agg #[.int .i64 a1, .int .i64 a2], .agg #[.int .i64 b1, .int .i64 b2]] w fun e w' =>
      e = .returned (.agg #[.int .i64 ((a1 + b1) % p), .int .i64 ((a2 + b2) % p)]) ∧ Below w.heap.size w w' := by
  have hr := isP_range hp
  have e1 : IntKind.i64.wrap (a1 + b1) = a1 + b1 := wrapI _ (by omega)
  have e2 : IntKind.i64.wrap (a2 + b2) = a2 + b2 := wrapI _ (by omega)
  go_enter Try.func98, Try.ntmps98
  go_wp2_with fail
  (refine region_tail 15 (by kernel_rfl) (by kernel_rfl) ?_; simp only [List.take_succ_cons, List.take_zero, List.drop_succ_cons, List.drop_zero]; repeat still_step)
  (still_call (stillOf (mod_any _ _ _ (by omega) (by omega) (by omega) (by omega))); repeat still_step)
  (still_call (stillOf (mod_any _ _ _ (by omega) (by omega) (by omega) (by omega))); repeat still_step)
  refine wpStill_nil ?_
  go_wp2
  (refine bodyPost_ret (v := .agg #[.int .i64 ((a1 + b1) % p), .int .i64 ((a2 + b2) % p)]) (by simp [results, Try.results98, go_sem]) rfl ⟨?_, ?_⟩)
  · rfl
  · (repeat (first | exact Below.refl _ _ | assumption | refine balloc ?_ _ | refine bdrewN ?_ _ | refine Below.drew ?_ | refine Below.setCell ?_ (by first | (simp; done) | (simp; omega)) _))

end Go.Proofs.Ythfckpfiechloaa

namespace Go.Proofs.Ythfckpfiechloaa
open Go.RowKit

set_option linter.unusedVariables false in
set_option linter.unusedSimpArgs false in
set_option maxRecDepth 20000 in
set_option maxHeartbeats 4000000 in
theorem specLead_any (p m1 m2 m3 m4 m5 m6 a1 a2 : Int)  (w : World) (hp : isP p = true) (hm1 : 0 ≤ m1 ∧ m1 ≤ 31) (hm2 : 0 ≤ m2 ∧ m2 ≤ 31) (hm3 : 0 ≤ m3 ∧ m3 ≤ 31) (hm4 : 0 ≤ m4 ∧ m4 ≤ 31) (hm5 : 0 ≤ m5 ∧ m5 ≤ 31) (hm6 : 0 ≤ m6 ∧ m6 ≤ 31) (ha1 : 0 ≤ a1 ∧ a1 ≤ 31) (ha2 : 0 ≤ a2 ∧ a2 ≤ 31) :
    Calls Try.prog 99 #[.int .i64 p, .agg #[.int .i64 m1, .int .i64 m2, .int .i64 m3, .int .i64 m4, .int .i64 m5, .int .i64 m6], .agg #[.int .i64 a1, .int .i64 a2]] w fun e w' =>
      e = .returned (.agg #[.int .i64 (ld p m1 m2 a1 a2), .int .i64 (ld p m3 m4 a1 a2)]) ∧ Below w.heap.size w w' := by
  have hr := isP_range hp
  have mu_1 := mulNN 31 31 961 (by decide) (a := m1) (b := a1) (by omega) (by omega)
  have e_1 : IntKind.i64.wrap (m1 * a1) = m1 * a1 := wrapI _ (by omega)
  have mu_2 := mulNN 31 31 961 (by decide) (a := m2) (b := a2) (by omega) (by omega)
  have e_2 : IntKind.i64.wrap (m2 * a2) = m2 * a2 := wrapI _ (by omega)
  have e_3 : IntKind.i64.wrap (m1 * a1 + (m2 * a2)) = m1 * a1 + (m2 * a2) := wrapI _ (by omega)
  have d_4 := modR (m1 * a1 + (m2 * a2)) hp
  have mu_3 := mulNN 31 31 961 (by decide) (a := m3) (b := a1) (by omega) (by omega)
  have e_5 : IntKind.i64.wrap (m3 * a1) = m3 * a1 := wrapI _ (by omega)
  have mu_4 := mulNN 31 31 961 (by decide) (a := m4) (b := a2) (by omega) (by omega)
  have e_6 : IntKind.i64.wrap (m4 * a2) = m4 * a2 := wrapI _ (by omega)
  have e_7 : IntKind.i64.wrap (m3 * a1 + (m4 * a2)) = m3 * a1 + (m4 * a2) := wrapI _ (by omega)
  have d_8 := modR (m3 * a1 + (m4 * a2)) hp
  go_enter Try.func99, Try.ntmps99
  go_wp2_with fail
  (refine region_tail 31 (by kernel_rfl) (by kernel_rfl) ?_; simp only [List.take_succ_cons, List.take_zero, List.drop_succ_cons, List.drop_zero]; repeat still_step)
  (still_call (stillOf (mod_any _ _ _ (by omega) (by omega) (by omega) (by omega))); repeat still_step)
  (still_call (stillOf (mod_any _ _ _ (by omega) (by omega) (by omega) (by omega))); repeat still_step)
  refine wpStill_nil ?_
  have HV := Lib.hid (show ld p m1 m2 a1 a2 = ((m1 * a1 + (m2 * a2)) % p) ∧ ld p m3 m4 a1 a2 = ((m3 * a1 + (m4 * a2)) % p) from by
    all_goals (exact ⟨rfl, rfl⟩))
  go_wp2
  (refine bodyPost_ret (v := .agg #[.int .i64 (ld p m1 m2 a1 a2), .int .i64 (ld p m3 m4 a1 a2)]) (by simp [results, Try.results99, go_sem, HV.out.1, HV.out.2, *]) rfl ⟨?_, ?_⟩)
  · rfl
  · (repeat (first | with_reducible exact Below.refl _ _ | with_reducible refine balloc ?_ _ | with_reducible refine bdrewN ?_ _ | with_reducible refine Below.drew ?_ | with_reducible refine bthen ?_ (by with_reducible assumption) | with_reducible refine Below.setCell ?_ (by first | (simp; done) | (simp; omega)) _))

end Go.Proofs.Ythfckpfiechloaa

namespace Go.Proofs.Ythfckpfiechloaa
open Go.RowKit

set_option linter.unusedVariables false in
set_option linter.unusedSimpArgs false in
set_option maxRecDepth 20000 in
set_option maxHeartbeats 4000000 in
theorem specMoved_any (p m1 m2 m3 m4 m5 m6 a1 a2 : Int)  (w : World) (hp : isP p = true) (hm1 : 0 ≤ m1 ∧ m1 ≤ 31) (hm2 : 0 ≤ m2 ∧ m2 ≤ 31) (hm3 : 0 ≤ m3 ∧ m3 ≤ 31) (hm4 : 0 ≤ m4 ∧ m4 ≤ 31) (hm5 : 0 ≤ m5 ∧ m5 ≤ 31) (hm6 : 0 ≤ m6 ∧ m6 ≤ 31) (ha1 : 0 ≤ a1 ∧ a1 ≤ 31) (ha2 : 0 ≤ a2 ∧ a2 ≤ 31) :
    Calls Try.prog 59 #[.int .i64 p, .agg #[.int .i64 m1, .int .i64 m2, .int .i64 m3, .int .i64 m4, .int .i64 m5, .int .i64 m6], .agg #[.int .i64 a1, .int .i64 a2]] w fun e w' =>
      e = .returned (.agg #[.int .i64 (mv p m1 m2 m5 a1 a2), .int .i64 (mv p m3 m4 m6 a1 a2)]) ∧ Below w.heap.size w w' := by
  have hr := isP_range hp
  obtain ⟨v1, hv1⟩ : ∃ v : Int, v = ld p m1 m2 a1 a2 := ⟨_, rfl⟩
  have rv1 := ld_r m1 m2 a1 a2 hp
  rw [← hv1] at rv1
  have Hv1 := Lib.hid hv1
  clear hv1
  obtain ⟨v2, hv2⟩ : ∃ v : Int, v = ld p m3 m4 a1 a2 := ⟨_, rfl⟩
  have rv2 := ld_r m3 m4 a1 a2 hp
  rw [← hv2] at rv2
  have Hv2 := Lib.hid hv2
  clear hv2
  obtain ⟨v3, hv3⟩ : ∃ v : Int, v = (v1 + m5) % p := ⟨_, rfl⟩
  have rv3 := modR (v1 + m5) hp
  rw [← hv3] at rv3
  have Hv3 := Lib.hid hv3
  clear hv3
  obtain ⟨v4, hv4⟩ : ∃ v : Int, v = (v2 + m6) % p := ⟨_, rfl⟩
  have rv4 := modR (v2 + m6) hp
  rw [← hv4] at rv4
  have Hv4 := Lib.hid hv4
  clear hv4
  go_enter Try.func59, Try.ntmps59
  go_upto_region 1 with fail
  go_cut [] (fun  wx => wx.cell? ⟨w.heap.size + 1 + 1, 0, none⟩ = some (.int .i64 v3) ∧ wx.cell? ⟨w.heap.size + 1 + 1, 1, none⟩ = some (.int .i64 v4) ∧ (wx.cell? ⟨w.heap.size, 0, none⟩ = some (.int .i64 m1) ∧ wx.cell? ⟨w.heap.size, 1, none⟩ = some (.int .i64 m2) ∧ wx.cell? ⟨w.heap.size, 2, none⟩ = some (.int .i64 m3) ∧ wx.cell? ⟨w.heap.size, 3, none⟩ = some (.int .i64 m4) ∧ wx.cell? ⟨w.heap.size, 4, none⟩ = some (.int .i64 m5) ∧ wx.cell? ⟨w.heap.size, 5, none⟩ = some (.int .i64 m6) ∧ wx.cell? ⟨w.heap.size + 1, 0, none⟩ = some (.int .i64 a1) ∧ wx.cell? ⟨w.heap.size + 1, 1, none⟩ = some (.int .i64 a2)) ∧ Below w.heap.size w wx)
  case first =>
    go_region_held3 (fun W => W.cell? ⟨w.heap.size, 0, none⟩ = some (.int .i64 m1) ∧ W.cell? ⟨w.heap.size, 1, none⟩ = some (.int .i64 m2) ∧ W.cell? ⟨w.heap.size, 2, none⟩ = some (.int .i64 m3) ∧ W.cell? ⟨w.heap.size, 3, none⟩ = some (.int .i64 m4) ∧ W.cell? ⟨w.heap.size, 4, none⟩ = some (.int .i64 m5) ∧ W.cell? ⟨w.heap.size, 5, none⟩ = some (.int .i64 m6) ∧ W.cell? ⟨w.heap.size + 1, 0, none⟩ = some (.int .i64 a1) ∧ W.cell? ⟨w.heap.size + 1, 1, none⟩ = some (.int .i64 a2)) ((first | with_reducible assumption | with_reducible exact (And.imp (kcall hB) (And.imp (kcall hB) (And.imp (kcall hB) (And.imp (kcall hB) (And.imp (kcall hB) (And.imp (kcall hB) (And.imp (kcall hB) ((kcall hB))))))))) (by with_reducible assumption) | with_reducible exact (And.imp (kalloc _) (And.imp (kalloc _) (And.imp (kalloc _) (And.imp (kalloc _) (And.imp (kalloc _) (And.imp (kalloc _) (And.imp (kalloc _) ((kalloc _))))))))) (by with_reducible assumption) | with_reducible exact (And.imp (krealloc (by first | omega | (simp; done) | (simp; omega))) (And.imp (krealloc (by first | omega | (simp; done) | (simp; omega))) (And.imp (krealloc (by first | omega | (simp; done) | (simp; omega))) (And.imp (krealloc (by first | omega | (simp; done) | (simp; omega))) (And.imp (krealloc (by first | omega | (simp; done) | (simp; omega))) (And.imp (krealloc (by first | omega | (simp; done) | (simp; omega))) (And.imp (krealloc (by first | omega | (simp; done) | (simp; omega))) ((krealloc (by first | omega | (simp; done) | (simp; omega))))))))))) (by with_reducible assumption) | with_reducible exact (And.imp (fun h => kdrew (kalloc _ (kundrew h))) (And.imp (fun h => kdrew (kalloc _ (kundrew h))) (And.imp (fun h => kdrew (kalloc _ (kundrew h))) (And.imp (fun h => kdrew (kalloc _ (kundrew h))) (And.imp (fun h => kdrew (kalloc _ (kundrew h))) (And.imp (fun h => kdrew (kalloc _ (kundrew h))) (And.imp (fun h => kdrew (kalloc _ (kundrew h))) ((fun h => kdrew (kalloc _ (kundrew h))))))))))) (by with_reducible assumption) | with_reducible exact (And.imp (fun h => kdrew (krealloc (by first | omega | (simp; done) | (simp; omega)) (kundrew h))) (And.imp (fun h => kdrew (krealloc (by first | omega | (simp; done) | (simp; omega)) (kundrew h))) (And.imp (fun h => kdrew (krealloc (by first | omega | (simp; done) | (simp; omega)) (kundrew h))) (And.imp (fun h => kdrew (krealloc (by first | omega | (simp; done) | (simp; omega)) (kundrew h))) (And.imp (fun h => kdrew (krealloc (by first | omega | (simp; done) | (simp; omega)) (kundrew h))) (And.imp (fun h => kdrew (krealloc (by first | omega | (simp; done) | (simp; omega)) (kundrew h))) (And.imp (fun h => kdrew (krealloc (by first | omega | (simp; done) | (simp; omega)) (kundrew h))) ((fun h => kdrew (krealloc (by first | omega | (simp; done) | (simp; omega)) (kundrew h))))))))))) (by with_reducible assumption) | with_reducible exact (And.imp (fun h => kset (by first | omega | (simp; done) | (simp; omega)) (kset (by first | omega | (simp; done) | (simp; omega)) (kset (by first | omega | (simp; done) | (simp; omega)) h))) (And.imp (fun h => kset (by first | omega | (simp; done) | (simp; omega)) (kset (by first | omega | (simp; done) | (simp; omega)) (kset (by first | omega | (simp; done) | (simp; omega)) h))) (And.imp (fun h => kset (by first | omega | (simp; done) | (simp; omega)) (kset (by first | omega | (simp; done) | (simp; omega)) (kset (by first | omega | (simp; done) | (simp; omega)) h))) (And.imp (fun h => kset (by first | omega | (simp; done) | (simp; omega)) (kset (by first | omega | (simp; done) | (simp; omega)) (kset (by first | omega | (simp; done) | (simp; omega)) h))) (And.imp (fun h => kset (by first | omega | (simp; done) | (simp; omega)) (kset (by first | omega | (simp; done) | (simp; omega)) (kset (by first | omega | (simp; done) | (simp; omega)) h))) (And.imp (fun h => kset (by first | omega | (simp; done) | (simp; omega)) (kset (by first | omega | (simp; done) | (simp; omega)) (kset (by first | omega | (simp; done) | (simp; omega)) h))) (And.imp (fun h => kset (by first | omega | (simp; done) | (simp; omega)) (kset (by first | omega | (simp; done) | (simp; omega)) (kset (by first | omega | (simp; done) | (simp; omega)) h))) ((fun h => kset (by first | omega | (simp; done) | (simp; omega)) (kset (by first | omega | (simp; done) | (simp; omega)) (kset (by first | omega | (simp; done) | (simp; omega)) h))))))))))) (by with_reducible assumption) | with_reducible exact (And.imp (fun h => kset (by first | omega | (simp; done) | (simp; omega)) (kset (by first | omega | (simp; done) | (simp; omega)) h)) (And.imp (fun h => kset (by first | omega | (simp; done) | (simp; omega)) (kset (by first | omega | (simp; done) | (simp; omega)) h)) (And.imp (fun h => kset (by first | omega | (simp; done) | (simp; omega)) (kset (by first | omega | (simp; done) | (simp; omega)) h)) (And.imp (fun h => kset (by first | omega | (simp; done) | (simp; omega)) (kset (by first | omega | (simp; done) | (simp; omega)) h)) (And.imp (fun h => kset (by first | omega | (simp; done) | (simp; omega)) (kset (by first | omega | (simp; done) | (simp; omega)) h)) (And.imp (fun h => kset (by first | omega | (simp; done) | (simp; omega)) (kset (by first | omega | (simp; done) | (simp; omega)) h)) (And.imp (fun h => kset (by first | omega | (simp; done) | (simp; omega)) (kset (by first | omega | (simp; done) | (simp; omega)) h)) ((fun h => kset (by first | omega | (simp; done) | (simp; omega)) (kset (by first | omega | (simp; done) | (simp; omega)) h)))))))))) (by with_reducible assumption) | with_reducible exact (And.imp (fun h => kset (by first | omega | (simp; done) | (simp; omega)) h) (And.imp (fun h => kset (by first | omega | (simp; done) | (simp; omega)) h) (And.imp (fun h => kset (by first | omega | (simp; done) | (simp; omega)) h) (And.imp (fun h => kset (by first | omega | (simp; done) | (simp; omega)) h) (And.imp (fun h => kset (by first | omega | (simp; done) | (simp; omega)) h) (And.imp (fun h => kset (by first | omega | (simp; done) | (simp; omega)) h) (And.imp (fun h => kset (by first | omega | (simp; done) | (simp; omega)) h) ((fun h => kset (by first | omega | (simp; done) | (simp; omega)) h))))))))) (by with_reducible assumption) | with_reducible exact (And.imp (fun h => kalloc _ (kset (by first | omega | (simp; done) | (simp; omega)) (kset (by first | omega | (simp; done) | (simp; omega)) (kback (by first | omega | (simp; done) | (simp; omega)) h)))) (And.imp (fun h => kalloc _ (kset (by first | omega | (simp; done) | (simp; omega)) (kset (by first | omega | (simp; done) | (simp; omega)) (kback (by first | omega | (simp; done) | (simp; omega)) h)))) (And.imp (fun h => kalloc _ (kset (by first | omega | (simp; done) | (simp; omega)) (kset (by first | omega | (simp; done) | (simp; omega)) (kback (by first | omega | (simp; done) | (simp; omega)) h)))) (And.imp (fun h => kalloc _ (kset (by first | omega | (simp; done) | (simp; omega)) (kset (by first | omega | (simp; done) | (simp; omega)) (kback (by first | omega | (simp; done) | (simp; omega)) h)))) (And.imp (fun h => kalloc _ (kset (by first | omega | (simp; done) | (simp; omega)) (kset (by first | omega | (simp; done) | (simp; omega)) (kback (by first | omega | (simp; done) | (simp; omega)) h)))) (And.imp (fun h => kalloc _ (kset (by first | omega | (simp; done) | (simp; omega)) (kset (by first | omega | (simp; done) | (simp; omega)) (kback (by first | omega | (simp; done) | (simp; omega)) h)))) (And.imp (fun h => kalloc _ (kset (by first | omega | (simp; done) | (simp; omega)) (kset (by first | omega | (simp; done) | (simp; omega)) (kback (by first | omega | (simp; done) | (simp; omega)) h)))) ((fun h => kalloc _ (kset (by first | omega | (simp; done) | (simp; omega)) (kset (by first | omega | (simp; done) | (simp; omega)) (kback (by first | omega | (simp; done) | (simp; omega)) h)))))))))))) (by with_reducible assumption) | with_reducible exact (And.imp (fun h => kalloc _ (kset (by first | omega | (simp; done) | (simp; omega)) (kset (by first | omega | (simp; done) | (simp; omega)) (kset (by first | omega | (simp; done) | (simp; omega)) (kback (by first | omega | (simp; done) | (simp; omega)) h))))) (And.imp (fun h => kalloc _ (kset (by first | omega | (simp; done) | (simp; omega)) (kset (by first | omega | (simp; done) | (simp; omega)) (kset (by first | omega | (simp; done) | (simp; omega)) (kback (by first | omega | (simp; done) | (simp; omega)) h))))) (And.imp (fun h => kalloc _ (kset (by first | omega | (simp; done) | (simp; omega)) (kset (by first | omega | (simp; done) | (simp; omega)) (kset (by first | omega | (simp; done) | (simp; omega)) (kback (by first | omega | (simp; done) | (simp; omega)) h))))) (And.imp (fun h => kalloc _ (kset (by first | omega | (simp; done) | (simp; omega)) (kset (by first | omega | (simp; done) | (simp; omega)) (kset (by first | omega | (simp; done) | (simp; omega)) (kback (by first | omega | (simp; done) | (simp; omega)) h))))) (And.imp (fun h => kalloc _ (kset (by first | omega | (simp; done) | (simp; omega)) (kset (by first | omega | (simp; done) | (simp; omega)) (kset (by first | omega | (simp; done) | (simp; omega)) (kback (by first | omega | (simp; done) | (simp; omega)) h))))) (And.imp (fun h => kalloc _ (kset (by first | omega | (simp; done) | (simp; omega)) (kset (by first | omega | (simp; done) | (simp; omega)) (kset (by first | omega | (simp; done) | (simp; omega)) (kback (by first | omega | (simp; done) | (simp; omega)) h))))) (And.imp (fun h => kalloc _ (kset (by first | omega | (simp; done) | (simp; omega)) (kset (by first | omega | (simp; done) | (simp; omega)) (kset (by first | omega | (simp; done) | (simp; omega)) (kback (by first | omega | (simp; done) | (simp; omega)) h))))) ((fun h => kalloc _ (kset (by first | omega | (simp; done) | (simp; omega)) (kset (by first | omega | (simp; done) | (simp; omega)) (kset (by first | omega | (simp; done) | (simp; omega)) (kback (by first | omega | (simp; done) | (simp; omega)) h))))))))))))) (by with_reducible assumption) | with_reducible exact (And.imp (fun h => kalloc _ (kalloc _ (kback (by first | omega | (simp; done) | (simp; omega)) (kback (by first | omega | (simp; done) | (simp; omega)) h)))) (And.imp (fun h => kalloc _ (kalloc _ (kback (by first | omega | (simp; done) | (simp; omega)) (kback (by first | omega | (simp; done) | (simp; omega)) h)))) (And.imp (fun h => kalloc _ (kalloc _ (kback (by first | omega | (simp; done) | (simp; omega)) (kback (by first | omega | (simp; done) | (simp; omega)) h)))) (And.imp (fun h => kalloc _ (kalloc _ (kback (by first | omega | (simp; done) | (simp; omega)) (kback (by first | omega | (simp; done) | (simp; omega)) h)))) (And.imp (fun h => kalloc _ (kalloc _ (kback (by first | omega | (simp; done) | (simp; omega)) (kback (by first | omega | (simp; done) | (simp; omega)) h)))) (And.imp (fun h => kalloc _ (kalloc _ (kback (by first | omega | (simp; done) | (simp; omega)) (kback (by first | omega | (simp; done) | (simp; omega)) h)))) (And.imp (fun h => kalloc _ (kalloc _ (kback (by first | omega | (simp; done) | (simp; omega)) (kback (by first | omega | (simp; done) | (simp; omega)) h)))) ((fun h => kalloc _ (kalloc _ (kback (by first | omega | (simp; done) | (simp; omega)) (kback (by first | omega | (simp; done) | (simp; omega)) h)))))))))))) (by with_reducible assumption) | with_reducible exact (And.imp (fun h => kdrew (kalloc _ (kalloc _ (kback (by first | omega | (simp; done) | (simp; omega)) (kback (by first | omega | (simp; done) | (simp; omega)) (kundrew h)))))) (And.imp (fun h => kdrew (kalloc _ (kalloc _ (kback (by first | omega | (simp; done) | (simp; omega)) (kback (by first | omega | (simp; done) | (simp; omega)) (kundrew h)))))) (And.imp (fun h => kdrew (kalloc _ (kalloc _ (kback (by first | omega | (simp; done) | (simp; omega)) (kback (by first | omega | (simp; done) | (simp; omega)) (kundrew h)))))) (And.imp (fun h => kdrew (kalloc _ (kalloc _ (kback (by first | omega | (simp; done) | (simp; omega)) (kback (by first | omega | (simp; done) | (simp; omega)) (kundrew h)))))) (And.imp (fun h => kdrew (kalloc _ (kalloc _ (kback (by first | omega | (simp; done) | (simp; omega)) (kback (by first | omega | (simp; done) | (simp; omega)) (kundrew h)))))) (And.imp (fun h => kdrew (kalloc _ (kalloc _ (kback (by first | omega | (simp; done) | (simp; omega)) (kback (by first | omega | (simp; done) | (simp; omega)) (kundrew h)))))) (And.imp (fun h => kdrew (kalloc _ (kalloc _ (kback (by first | omega | (simp; done) | (simp; omega)) (kback (by first | omega | (simp; done) | (simp; omega)) (kundrew h)))))) ((fun h => kdrew (kalloc _ (kalloc _ (kback (by first | omega | (simp; done) | (simp; omega)) (kback (by first | omega | (simp; done) | (simp; omega)) (kundrew h)))))))))))))) (by with_reducible assumption) | (simp; done) | (refine ⟨?_, ?_, ?_, ?_, ?_, ?_, ?_, ?_⟩ <;> (refine kdrew ?_; repeat (first | exact kfresh (by first | rfl | (simp; done)) (by rfl) | refine kalloc _ ?_)); done))) (first | (go_at_call 99; refine Calls.mono (specLead_any _ _ _ _ _ _ _ _ _ _ hp (by omega) (by omega) (by omega) (by omega) (by omega) (by omega) (by omega) (by omega)) ?_; rw [← Hv1.out, ← Hv2.out]; rintro e wq ⟨rfl, hB⟩; (obtain ⟨hBc, hBf⟩ := bcell hB; have hBs := hB.size; (try simp at hBs); (try have hBq1 := Nat.lt_of_succ_le hBs); (try have hBq2 := Nat.lt_of_succ_lt hBq1); (try have hBq3 := Nat.lt_of_succ_lt hBq2); (try have hBzw0 : w.heap.size < wq.heap.size := (by omega)); (try have hBzw1 : w.heap.size + 1 < wq.heap.size := (by omega)); (try have hBzw2 : w.heap.size + 1 + 1 < wq.heap.size := (by omega)); (try have hBzw3 : w.heap.size + 1 + 1 + 1 < wq.heap.size := (by omega)); (try have hBzw4 : w.heap.size + 1 + 1 + 1 + 1 < wq.heap.size := (by omega))); have rb0_0 : wq.cell? ⟨w.heap.size + 1 + 1, 0, none⟩ = some (.int .i64 0) := (by (first | with_reducible assumption | (repeat (first | with_reducible assumption | ((with_reducible refine kfresh ?_ ?_) <;> (first | with_reducible rfl | (simp; done))) | ((with_reducible refine ksameS ?_); focus ((repeat (first | with_reducible exact kis_of (by with_reducible assumption) | with_reducible refine kis_set ?_ | ((with_reducible refine kis_new ?_ ?_) <;> (first | with_reducible rfl | rfl | (simp; done))) | with_reducible refine kis_alloc _ ?_ | with_reducible refine kis_drew ?_ | with_reducible refine kis_call (by with_reducible assumption) ?_ | with_reducible exact kis_of (kcall (by with_reducible assumption) (by with_reducible assumption)))); done)) | with_reducible refine kother (by decide) ?_ | with_reducible refine kset (by first | omega | (simp; done) | (simp; omega)) ?_ | with_reducible refine kalloc _ ?_ | with_reducible refine kdrew ?_ | with_reducible refine kcall (by with_reducible assumption) ?_)))); have rf0_0 : wq.frozen? ⟨w.heap.size + 1 + 1, 0, none⟩ = false := (by (first | with_reducible assumption | (repeat (first | with_reducible assumption | with_reducible refine fdrew ?_ | with_reducible refine fset ?_ | ((with_reducible refine fallocNew ?_) <;> (first | with_reducible rfl | (simp; done))) | ((with_reducible refine kfro (by with_reducible assumption) ?_ ?_); focus (first | with_reducible assumption | (simp; done) | (simp; omega))) | ((with_reducible refine falloc ?_ ?_); focus (first | with_reducible assumption | (simp; done) | (simp; omega))))))); have rb0_1 : wq.cell? ⟨w.heap.size + 1 + 1, 1, none⟩ = some (.int .i64 0) := (by (first | with_reducible assumption | (repeat (first | with_reducible assumption | ((with_reducible refine kfresh ?_ ?_) <;> (first | with_reducible rfl | (simp; done))) | ((with_reducible refine ksameS ?_); focus ((repeat (first | with_reducible exact kis_of (by with_reducible assumption) | with_reducible refine kis_set ?_ | ((with_reducible refine kis_new ?_ ?_) <;> (first | with_reducible rfl | rfl | (simp; done))) | with_reducible refine kis_alloc _ ?_ | with_reducible refine kis_drew ?_ | with_reducible refine kis_call (by with_reducible assumption) ?_ | with_reducible exact kis_of (kcall (by with_reducible assumption) (by with_reducible assumption)))); done)) | with_reducible refine kother (by decide) ?_ | with_reducible refine kset (by first | omega | (simp; done) | (simp; omega)) ?_ | with_reducible refine kalloc _ ?_ | with_reducible refine kdrew ?_ | with_reducible refine kcall (by with_reducible assumption) ?_)))); have rf0_1 : wq.frozen? ⟨w.heap.size + 1 + 1, 1, none⟩ = false := (by (first | with_reducible assumption | (repeat (first | with_reducible assumption | with_reducible refine fdrew ?_ | with_reducible refine fset ?_ | ((with_reducible refine fallocNew ?_) <;> (first | with_reducible rfl | (simp; done))) | ((with_reducible refine kfro (by with_reducible assumption) ?_ ?_); focus (first | with_reducible assumption | (simp; done) | (simp; omega))) | ((with_reducible refine falloc ?_ ?_); focus (first | with_reducible assumption | (simp; done) | (simp; omega))))))); clear hBc hBf) | (go_at_call 98; refine Calls.mono (specPlus_any _ _ _ _ _ _ hp (by omega) (by omega) (by omega) (by omega)) ?_; rw [← Hv3.out, ← Hv4.out]; rintro e wq ⟨rfl, hB⟩; (obtain ⟨hBc, hBf⟩ := bcell hB; have hBs := hB.size; (try simp at hBs); (try have hBq1 := Nat.lt_of_succ_le hBs); (try have hBq2 := Nat.lt_of_succ_lt hBq1); (try have hBq3 := Nat.lt_of_succ_lt hBq2); (try have hBzw0 : w.heap.size < wq.heap.size := (by omega)); (try have hBzw1 : w.heap.size + 1 < wq.heap.size := (by omega)); (try have hBzw2 : w.heap.size + 1 + 1 < wq.heap.size := (by omega)); (try have hBzw3 : w.heap.size + 1 + 1 + 1 < wq.heap.size := (by omega)); (try have hBzw4 : w.heap.size + 1 + 1 + 1 + 1 < wq.heap.size := (by omega))); have rb0_0 : wq.cell? ⟨w.heap.size + 1 + 1, 0, none⟩ = some (.int .i64 0) := (by (first | with_reducible assumption | (repeat (first | with_reducible assumption | ((with_reducible refine kfresh ?_ ?_) <;> (first | with_reducible rfl | (simp; done))) | ((with_reducible refine ksameS ?_); focus ((repeat (first | with_reducible exact kis_of (by with_reducible assumption) | with_reducible refine kis_set ?_ | ((with_reducible refine kis_new ?_ ?_) <;> (first | with_reducible rfl | rfl | (simp; done))) | with_reducible refine kis_alloc _ ?_ | with_reducible refine kis_drew ?_ | with_reducible refine kis_call (by with_reducible assumption) ?_ | with_reducible exact kis_of (kcall (by with_reducible assumption) (by with_reducible assumption)))); done)) | with_reducible refine kother (by decide) ?_ | with_reducible refine kset (by first | omega | (simp; done) | (simp; omega)) ?_ | with_reducible refine kalloc _ ?_ | with_reducible refine kdrew ?_ | with_reducible refine kcall (by with_reducible assumption) ?_)))); have rf0_0 : wq.frozen? ⟨w.heap.size + 1 + 1, 0, none⟩ = false := (by (first | with_reducible assumption | (repeat (first | with_reducible assumption | with_reducible refine fdrew ?_ | with_reducible refine fset ?_ | ((with_reducible refine fallocNew ?_) <;> (first | with_reducible rfl | (simp; done))) | ((with_reducible refine kfro (by with_reducible assumption) ?_ ?_); focus (first | with_reducible assumption | (simp; done) | (simp; omega))) | ((with_reducible refine falloc ?_ ?_); focus (first | with_reducible assumption | (simp; done) | (simp; omega))))))); have rb0_1 : wq.cell? ⟨w.heap.size + 1 + 1, 1, none⟩ = some (.int .i64 0) := (by (first | with_reducible assumption | (repeat (first | with_reducible assumption | ((with_reducible refine kfresh ?_ ?_) <;> (first | with_reducible rfl | (simp; done))) | ((with_reducible refine ksameS ?_); focus ((repeat (first | with_reducible exact kis_of (by with_reducible assumption) | with_reducible refine kis_set ?_ | ((with_reducible refine kis_new ?_ ?_) <;> (first | with_reducible rfl | rfl | (simp; done))) | with_reducible refine kis_alloc _ ?_ | with_reducible refine kis_drew ?_ | with_reducible refine kis_call (by with_reducible assumption) ?_ | with_reducible exact kis_of (kcall (by with_reducible assumption) (by with_reducible assumption)))); done)) | with_reducible refine kother (by decide) ?_ | with_reducible refine kset (by first | omega | (simp; done) | (simp; omega)) ?_ | with_reducible refine kalloc _ ?_ | with_reducible refine kdrew ?_ | with_reducible refine kcall (by with_reducible assumption) ?_)))); have rf0_1 : wq.frozen? ⟨w.heap.size + 1 + 1, 1, none⟩ = false := (by (first | with_reducible assumption | (repeat (first | with_reducible assumption | with_reducible refine fdrew ?_ | with_reducible refine fset ?_ | ((with_reducible refine fallocNew ?_) <;> (first | with_reducible rfl | (simp; done))) | ((with_reducible refine kfro (by with_reducible assumption) ?_ ?_); focus (first | with_reducible assumption | (simp; done) | (simp; omega))) | ((with_reducible refine falloc ?_ ?_); focus (first | with_reducible assumption | (simp; done) | (simp; omega))))))); clear hBc hBf))
    all_goals
      go_wp2_with fail
      go_meet
      refine ⟨?_, ?_, by with_reducible assumption, ?_⟩
      · (repeat (first | with_reducible assumption | ((with_reducible refine kfresh ?_ ?_) <;> (first | with_reducible rfl | (simp; done))) | ((with_reducible refine ksameS ?_); focus ((repeat (first | with_reducible exact kis_of (by with_reducible assumption) | with_reducible refine kis_set ?_ | ((with_reducible refine kis_new ?_ ?_) <;> (first | with_reducible rfl | rfl | (simp; done))) | with_reducible refine kis_alloc _ ?_ | with_reducible refine kis_drew ?_ | with_reducible refine kis_call (by with_reducible assumption) ?_ | with_reducible exact kis_of (kcall (by with_reducible assumption) (by with_reducible assumption)))); done)) | with_reducible refine kother (by decide) ?_ | with_reducible refine kset (by first | omega | (simp; done) | (simp; omega)) ?_ | with_reducible refine kalloc _ ?_ | with_reducible refine kdrew ?_ | with_reducible refine kcall (by with_reducible assumption) ?_))
      · (repeat (first | with_reducible assumption | ((with_reducible refine kfresh ?_ ?_) <;> (first | with_reducible rfl | (simp; done))) | ((with_reducible refine ksameS ?_); focus ((repeat (first | with_reducible exact kis_of (by with_reducible assumption) | with_reducible refine kis_set ?_ | ((with_reducible refine kis_new ?_ ?_) <;> (first | with_reducible rfl | rfl | (simp; done))) | with_reducible refine kis_alloc _ ?_ | with_reducible refine kis_drew ?_ | with_reducible refine kis_call (by with_reducible assumption) ?_ | with_reducible exact kis_of (kcall (by with_reducible assumption) (by with_reducible assumption)))); done)) | with_reducible refine kother (by decide) ?_ | with_reducible refine kset (by first | omega | (simp; done) | (simp; omega)) ?_ | with_reducible refine kalloc _ ?_ | with_reducible refine kdrew ?_ | with_reducible refine kcall (by with_reducible assumption) ?_))
      · (repeat (first | with_reducible exact Below.refl _ _ | with_reducible refine balloc ?_ _ | with_reducible refine bdrewN ?_ _ | with_reducible refine Below.drew ?_ | with_reducible refine bthen ?_ (by with_reducible assumption) | with_reducible refine Below.setCell ?_ (by first | (simp; done) | (simp; omega)) _))
  case' rest => obtain ⟨qA0, qA1, ⟨bA0, bA1, bA2, bA3, bA4, bA5, bA6, bA7⟩, hxA⟩ := hcut
  obtain ⟨wA, rfl⟩ : ∃ wA : World, wA = wc := ⟨_, rfl⟩
  have lA_1 : w.heap.size + 1 + 1 < wA.heap.size := World.block_lt_of_cell? wA ⟨w.heap.size + 1 + 1, 0, none⟩ qA0
  have lA_2 : w.heap.size < wA.heap.size := World.block_lt_of_cell? wA ⟨w.heap.size, 0, none⟩ bA0
  have lA_3 : w.heap.size + 1 < wA.heap.size := World.block_lt_of_cell? wA ⟨w.heap.size + 1, 0, none⟩ bA6
  have HV := Lib.hid (show mv p m1 m2 m5 a1 a2 = v3 ∧ mv p m3 m4 m6 a1 a2 = v4 from by
    try rw [Hv4.out]
    try rw [Hv3.out]
    try rw [Hv2.out]
    try rw [Hv1.out]
    all_goals (exact ⟨(mv_ld _ _ _ _ _ _).symm, (mv_ld _ _ _ _ _ _).symm⟩))
  go_wp2
  (refine bodyPost_ret (v := .agg #[.int .i64 (mv p m1 m2 m5 a1 a2), .int .i64 (mv p m3 m4 m6 a1 a2)]) (by simp [results, Try.results59, go_sem, HV.out.1, HV.out.2, *]) rfl ⟨?_, ?_⟩)
  · rfl
  · (repeat (first | with_reducible exact Below.refl _ _ | with_reducible exact hxA | with_reducible refine balloc ?_ _ | with_reducible refine bdrewN ?_ _ | with_reducible refine Below.drew ?_ | with_reducible refine bthen ?_ (by with_reducible assumption) | with_reducible refine Below.setCell ?_ (by first | (simp; done) | (simp; omega)) _))

end Go.Proofs.Ythfckpfiechloaa

namespace Go.Proofs.Ythfckpfiechloaa
open Go.RowKit

def PowRel (n r out base k : Nat) : Prop := out < n ∧ base < n ∧ out * base ^ k % n = r
theorem PowRel.bounds {n a b : Nat} (h : n ≤ 31) (ha : a < n) (hb : b < n) : 0 ≤ (a : Int) * b ∧ (a : Int) * b ≤ 961 := by
  have : a * b ≤ 31 * 31 := Nat.mul_le_mul (by omega) (by omega)
  have e : ((a * b : Nat) : Int) = (a : Int) * b := by simp
  omega
theorem PowRel.odd {n r out base k : Nat} (h : PowRel n r out base k) (hk : k % 2 = 1) : PowRel n r (out * base % n) (base * base % n) (k / 2) :=
  ⟨Nat.mod_lt _ (by have := h.1; omega), Nat.mod_lt _ (by have := h.1; omega), pow_step_odd hk h.2.2⟩
theorem PowRel.even {n r out base k : Nat} (h : PowRel n r out base k) (hk : k % 2 = 0) : PowRel n r out (base * base % n) (k / 2) :=
  ⟨h.1, Nat.mod_lt _ (by have := h.1; omega), pow_step_even hk h.2.2⟩
theorem PowRel.ends {n r out base : Nat} (h : PowRel n r out base 0) : out = r := by
  have h3 := h.2.2
  rw [Nat.pow_zero, Nat.mul_one, Nat.mod_eq_of_lt h.1] at h3
  exact h3

set_option maxRecDepth 20000 in
set_option maxHeartbeats 800000 in
theorem inverse_any (a p : Int) (w : World) (hp : isP p = true) (h3 : -1099511627776 ≤ a) (h4 : a ≤ 1099511627776) :
    Calls Try.prog 115 #[.int .i64 a, .int .i64 p] w fun e w' => e = .returned (.int .i64 (inv p a)) ∧ w = w' := by
  have hr := isP_range hp
  obtain ⟨n, rfl⟩ := Int.eq_ofNat_of_zero_le (by omega : 0 ≤ p)
  have hn := isP_ne hp
  have hm0 : 0 ≤ a % (n : Int) := Int.emod_nonneg _ (by omega)
  have hm1 : a % (n : Int) < n := Int.emod_lt_of_pos _ (by omega)
  obtain ⟨m, hm⟩ := Int.eq_ofNat_of_zero_le hm0
  have hmn : m < n := by omega
  have hpw := pow_inv hp hmn
  have hend : inv (n : Int) a = (invN n m : Int) := by
    unfold inv; rw [hm, Int.toNat_natCast, Int.toNat_natCast]
  have HE := Lib.hid hend
  have HS := Lib.hid (show PowRel n (invN n m) 1 m (n - 2) from ⟨by omega, hmn, by rw [Nat.one_mul]; exact hpw⟩)
  have HM := Lib.hid hm
  clear hend hm hpw hm0 hm1 hp hr
  go_enter Try.func115, Try.ntmps115
  go_wp2_with (go_at_call 103; refine (mod_any _ _ _ (by omega) (by omega) h3 h4).mono ?_; rw [HM.out]; rintro e w' ⟨rfl, rfl⟩)
  go_loop [5, 6, 7] (fun o b d => ∃ out base k : Nat, k ≤ 29 ∧ o = .int .i64 out ∧ b = .int .i64 base ∧ d = .int .i64 k ∧ PowRel n (invN n m) out base k) (fun _ _ d => (intOf d).toNat)
  case atStart => exact ⟨1, m, n - 2, by omega, rfl, rfl, by congr 1; omega, HS.out⟩
  case round =>
    obtain ⟨out, base, k, hk, rfl, rfl, rfl, hd⟩ := hrel
    have hb1 := PowRel.bounds hn.2 hd.1 hd.2.1
    have hb2 := PowRel.bounds hn.2 hd.2.1 hd.2.1
    by_cases hk0 : k = 0
    · subst hk0
      have H := Lib.hid hd.ends
      go_wp2
      go_ret
      exact ⟨ret_int (by rw [HE.out, H.out]), rfl⟩
    · have hk1 : (0 : Int) < k := by omega
      by_cases hk2 : k % 2 = 1
      · have hk2' : ((k : Int) % 2 == 1) = true := by rw [beq_iff_eq]; omega
        have H := Lib.hid (hd.odd hk2)
        have HK := Lib.hid hk0
        clear hk0 hk2
        go_wp2
        go_round
        case rel => exact ⟨out * base % n, base * base % n, k / 2, by omega, by simp, by simp, by simp, H.out⟩
        case measure => have := HK.out; simp [intOf]; omega
      · have hk2' : ((k : Int) % 2 == 1) = false := by rw [beq_eq_false_iff_ne]; omega
        have H := Lib.hid (hd.even (by omega))
        have HK := Lib.hid hk0
        clear hk0 hk2
        go_wp2
        go_round
        case rel => exact ⟨out, base * base % n, k / 2, by omega, rfl, by simp, by simp, H.out⟩
        case measure => have := HK.out; simp [intOf]; omega

end Go.Proofs.Ythfckpfiechloaa

namespace Go.Proofs.Ythfckpfiechloaa
open Go.RowKit

set_option maxRecDepth 20000 in
set_option maxHeartbeats 1000000 in
theorem normal_any (p a b c : Int) (w : World) (hp : isP p = true) (ha : -8192 ≤ a ∧ a ≤ 8192) (hb : -8192 ≤ b ∧ b ≤ 8192) (hc : -8192 ≤ c ∧ c ≤ 8192) :
    Calls Try.prog 105 #[.int .i64 p, .int .i64 a, .int .i64 b, .int .i64 c] w fun e w' =>
      e = .returned (.agg #[.int .i64 (mk1 p a b c), .int .i64 (mk2 p a b c), .int .i64 (mk3 p a b c)]) ∧ Below w.heap.size w w' := by
  have hr := isP_range hp
  obtain ⟨d, hd⟩ : ∃ d, d = nrm p a b := ⟨_, rfl⟩
  have hd31 : 0 ≤ d ∧ d ≤ 31 := by rw [hd]; exact nrm_range a b hp
  have m1 := mulB (a := a) (b := d) ha (by omega)
  have m2 := mulB (a := b) (b := d) hb (by omega)
  have m3 := mulB (a := c) (b := d) hc (by omega)
  have HV := Lib.hid (show mk1 p a b c = a * d % p ∧ mk2 p a b c = b * d % p ∧ mk3 p a b c = c * d % p by rw [hd]; exact ⟨rfl, rfl, rfl⟩)
  by_cases h : a % p = 0
  · have HD := Lib.hid (show inv p (b % p) = d by rw [hd, nrm, if_pos h, inv_mod])
    have hz : (a % p == 0) = true := by rw [beq_iff_eq]; exact h
    have hb2 := modR31 b hp
    clear hd h
    go_enter Try.func105, Try.ntmps105
    (go_wp2_with fail; refine Calls.mono (mod_any _ _ _ (by omega) (by omega) (by omega) (by omega)) ?_; rintro e w' ⟨rfl, rfl⟩)
    (go_wp2_with fail; refine Calls.mono (mod_any _ _ _ (by omega) (by omega) (by omega) (by omega)) ?_; rintro e w' ⟨rfl, rfl⟩)
    go_wp2_with fail
    refine Calls.mono (inverse_any _ _ _ hp (by omega) (by omega)) ?_
    rw [HD.out]
    rintro e w' ⟨rfl, rfl⟩
    (go_wp2_with fail; refine Calls.mono (mod_any _ _ _ (by omega) (by omega) (by omega) (by omega)) ?_; rintro e w' ⟨rfl, rfl⟩)
    (go_wp2_with fail; refine Calls.mono (mod_any _ _ _ (by omega) (by omega) (by omega) (by omega)) ?_; rintro e w' ⟨rfl, rfl⟩)
    (go_wp2_with fail; refine Calls.mono (mod_any _ _ _ (by omega) (by omega) (by omega) (by omega)) ?_; rintro e w' ⟨rfl, rfl⟩)
    go_wp2
    (refine bodyPost_ret (v := .agg #[.int .i64 (mk1 p a b c), .int .i64 (mk2 p a b c), .int .i64 (mk3 p a b c)]) (by simp [results, Try.results105, go_sem, HV.out.1, HV.out.2.1, HV.out.2.2]) rfl ⟨?_, ?_⟩)
    · rfl
    · (repeat (first | exact Below.refl _ _ | assumption | refine balloc ?_ _ | refine bdrewN ?_ _ | refine Below.drew ?_ | refine Below.setCell ?_ (by first | (simp; done) | (simp; omega)) _))
  · have HD := Lib.hid (show inv p (a % p) = d by rw [hd, nrm, if_neg h, inv_mod])
    have hz : (a % p == 0) = false := by rw [beq_eq_false_iff_ne]; exact h
    have ha2 := modR31 a hp
    clear hd h
    go_enter Try.func105, Try.ntmps105
    (go_wp2_with fail; refine Calls.mono (mod_any _ _ _ (by omega) (by omega) (by omega) (by omega)) ?_; rintro e w' ⟨rfl, rfl⟩)
    go_wp2_with fail
    refine Calls.mono (inverse_any _ _ _ hp (by omega) (by omega)) ?_
    rw [HD.out]
    rintro e w' ⟨rfl, rfl⟩
    (go_wp2_with fail; refine Calls.mono (mod_any _ _ _ (by omega) (by omega) (by omega) (by omega)) ?_; rintro e w' ⟨rfl, rfl⟩)
    (go_wp2_with fail; refine Calls.mono (mod_any _ _ _ (by omega) (by omega) (by omega) (by omega)) ?_; rintro e w' ⟨rfl, rfl⟩)
    (go_wp2_with fail; refine Calls.mono (mod_any _ _ _ (by omega) (by omega) (by omega) (by omega)) ?_; rintro e w' ⟨rfl, rfl⟩)
    go_wp2
    (refine bodyPost_ret (v := .agg #[.int .i64 (mk1 p a b c), .int .i64 (mk2 p a b c), .int .i64 (mk3 p a b c)]) (by simp [results, Try.results105, go_sem, HV.out.1, HV.out.2.1, HV.out.2.2]) rfl ⟨?_, ?_⟩)
    · rfl
    · (repeat (first | exact Below.refl _ _ | assumption | refine balloc ?_ _ | refine bdrewN ?_ _ | refine Below.drew ?_ | refine Below.setCell ?_ (by first | (simp; done) | (simp; omega)) _))

end Go.Proofs.Ythfckpfiechloaa

namespace Go.Proofs.Ythfckpfiechloaa
open Go.RowKit

set_option maxRecDepth 20000 in
set_option maxHeartbeats 1000000 in
theorem specThrough_any (p a1 a2 b1 b2 : Int) (w : World) (hp : isP p = true) (ha1 : 0 ≤ a1 ∧ a1 ≤ 31) (ha2 : 0 ≤ a2 ∧ a2 ≤ 31) (hb1 : 0 ≤ b1 ∧ b1 ≤ 31) (hb2 : 0 ≤ b2 ∧ b2 ≤ 31) :
    Calls Try.prog 67 #[.int .i64 p, .agg #[.int .i64 a1, .int .i64 a2], .agg #[.int .i64 b1, .int .i64 b2]] w fun e w' =>
      e = .returned (.agg #[.int .i64 (th1 p a1 a2 b1 b2), .int .i64 (th2 p a1 a2 b1 b2), .int .i64 (th3 p a1 a2 b1 b2)]) ∧ Below w.heap.size w w' := by
  have hr := isP_range hp
  have m1 := mulP (a := a1) (b := b2) ha1 hb2
  have m2 := mulP (a := b1) (b := a2) hb1 ha2
  have HV := Lib.hid (show th1 p a1 a2 b1 b2 = mk1 p (a2 - b2) (b1 - a1) (a1 * b2 - b1 * a2) ∧ th2 p a1 a2 b1 b2 = mk2 p (a2 - b2) (b1 - a1) (a1 * b2 - b1 * a2) ∧ th3 p a1 a2 b1 b2 = mk3 p (a2 - b2) (b1 - a1) (a1 * b2 - b1 * a2) from ⟨rfl, rfl, rfl⟩)
  go_enter Try.func67, Try.ntmps67
  (go_wp2_with fail; refine Calls.mono (normal_any _ _ _ _ _ hp (by omega) (by omega) (by omega)) ?_; rintro e w1 ⟨rfl, hB1⟩; obtain ⟨hB1c, hB1f⟩ := bcell hB1; have hB1s := hB1.size; (try simp at hB1s); (try have hB1q1 := Nat.lt_of_succ_le hB1s); (try have hB1q2 := Nat.lt_of_succ_lt hB1q1); (try have hB1q3 := Nat.lt_of_succ_lt hB1q2); (try have hB1zw0 : w.heap.size < w1.heap.size := (by omega)); (try have hB1zw1 : w.heap.size + 1 < w1.heap.size := (by omega)); (try have hB1zw2 : w.heap.size + 1 + 1 < w1.heap.size := (by omega)); (try have hB1zw3 : w.heap.size + 1 + 1 + 1 < w1.heap.size := (by omega)); (try have hB1zw4 : w.heap.size + 1 + 1 + 1 + 1 < w1.heap.size := (by omega)))
  go_wp2
  (refine bodyPost_ret (v := .agg #[.int .i64 (th1 p a1 a2 b1 b2), .int .i64 (th2 p a1 a2 b1 b2), .int .i64 (th3 p a1 a2 b1 b2)]) (by simp [results, Try.results67, go_sem, HV.out.1, HV.out.2.1, HV.out.2.2, *]) rfl ⟨?_, ?_⟩)
  · rfl
  · (repeat (first | exact Below.refl _ _ | refine balloc ?_ _ | refine bdrewN ?_ _ | refine Below.drew ?_ | refine bthen ?_ hB1 | refine Below.setCell ?_ (by first | (simp; done) | (simp; omega)) _))

end Go.Proofs.Ythfckpfiechloaa

namespace Go.Proofs.Ythfckpfiechloaa
open Go.RowKit

def mvCb (b : Bool) (p c m1 m2 m3 m4 m5 m6 : Int) : Int := if isP p = true then (if (b && (colB c && numsIn p [m1, m2, m3, m4, m5, m6])) = true then (if mvB p c m1 m2 m3 m4 = true then 0 else 5) else 2) else 1

end Go.Proofs.Ythfckpfiechloaa

namespace Go.Proofs.Ythfckpfiechloaa
open Go.RowKit

set_option maxRecDepth 20000 in
set_option maxHeartbeats 400000 in
theorem specPoint_any (p a1 a2 : Int) (w : World) (hp : isP p = true) :
    Calls Try.prog 97 #[.int .i64 p, .agg #[.int .i64 a1, .int .i64 a2]] w fun e w' => e = .returned (.bool (numsIn p [a1, a2])) ∧ Below w.heap.size w w' := by
  have hr := isP_range hp
  cases h1 : inB a1 0 (p - 1) <;> cases h2 : inB a2 0 (p - 1)
  all_goals
    have HV := Lib.hid (numsIn2 p a1 a2)
    rw [h1, h2] at HV
    go_enter Try.func97, Try.ntmps97
    go_wp2_with (go_at_call 65; refine Calls.mono (in_any _ _ _ _) ?_; rintro e w' ⟨rfl, rfl⟩)
    go_ret
    exact ⟨ret_bool (by rw [HV.out]; rfl), balloc (Below.refl _ _) _⟩

set_option maxRecDepth 20000 in
set_option maxHeartbeats 1000000 in
theorem specCode1 (p a1 a2 : Int) (b : Nat) (w : World) (hb : b = w.heap.size) :
    Calls Try.prog 58 #[.int .i64 p, .slice (some ⟨b, 0, none⟩) 1 1] (w.alloc (.cells #[.int .i64 a1, .int .i64 a2] 28)) fun e w' => e = .returned (.int .i64 (codeOf p (numsIn p [a1, a2]))) ∧ Below w.heap.size w w' := by
  subst hb
  cases hp : isP p
  · go_enter Try.func58, Try.ntmps58
    go_wp2_with (go_at_call 62; refine Calls.mono (field_any _ _) ?_; rintro e w' ⟨rfl, rfl⟩)
    go_ret
    exact ⟨ret_int (by rw [codeOf_no hp]), by (repeat (first | exact Below.refl _ _ | assumption | refine balloc ?_ _ | refine bdrewN ?_ _ | refine Below.drew ?_ | refine Below.setCell ?_ (by first | (simp; done) | (simp; omega)) _))⟩
  · cases h0 : numsIn p [a1, a2]
    · have HV := Lib.hid (show codeOf p (numsIn p [a1, a2]) = 2 by rw [codeOf_out hp (by simp [h0])])
      go_enter Try.func58, Try.ntmps58
      go_wp2_with (go_at_call 62; refine Calls.mono (field_any _ _) ?_; rintro e w' ⟨rfl, rfl⟩)
      refine wp_loop_rounds 2 ?_
      rw [rounds_succ]
      (go_wp2_with fail; refine Calls.mono (specPoint_any _ _ _ _ hp) ?_; rintro e w1 ⟨rfl, hB1⟩)
      have hs1 : w.heap.size < w1.heap.size := by have := hB1.size; simp at this; omega
      have hc1 : ∀ j, w1.cell? ⟨w.heap.size, j, none⟩ = (w.alloc (.cells #[.int .i64 a1, .int .i64 a2] 28)).cell? ⟨w.heap.size, j, none⟩ := fun j => cell_back hB1 (by simp) j
      go_wp2
      go_ret
      exact ⟨ret_int (by first | exact HV.out.symm | exact (codeOf_out hp (by simp)).symm | exact (codeOf_in hp (by simp)).symm), bthen (balloc (Below.refl _ _) _) hB1⟩
    · have HV := Lib.hid (show codeOf p (numsIn p [a1, a2]) = 0 by rw [codeOf_in hp (by simp [h0])])
      go_enter Try.func58, Try.ntmps58
      go_wp2_with (go_at_call 62; refine Calls.mono (field_any _ _) ?_; rintro e w' ⟨rfl, rfl⟩)
      refine wp_loop_rounds 2 ?_
      rw [rounds_succ]
      (go_wp2_with fail; refine Calls.mono (specPoint_any _ _ _ _ hp) ?_; rintro e w1 ⟨rfl, hB1⟩)
      have hs1 : w.heap.size < w1.heap.size := by have := hB1.size; simp at this; omega
      have hc1 : ∀ j, w1.cell? ⟨w.heap.size, j, none⟩ = (w.alloc (.cells #[.int .i64 a1, .int .i64 a2] 28)).cell? ⟨w.heap.size, j, none⟩ := fun j => cell_back hB1 (by simp) j
      go_wp2
      rw [rounds_succ]
      go_wp2
      go_ret
      exact ⟨ret_int (by first | exact HV.out.symm | exact (codeOf_out hp (by simp)).symm | exact (codeOf_in hp (by simp)).symm), bthen (balloc (Below.refl _ _) _) hB1⟩

set_option maxRecDepth 20000 in
set_option maxHeartbeats 1000000 in
theorem specCode2 (p a1 a2 b1 b2 : Int) (b : Nat) (w : World) (hb : b = w.heap.size) :
    Calls Try.prog 58 #[.int .i64 p, .slice (some ⟨b, 0, none⟩) 2 2] (w.alloc (.cells #[.int .i64 a1, .int .i64 a2, .int .i64 b1, .int .i64 b2] 28)) fun e w' => e = .returned (.int .i64 (codeOf p (numsIn p [a1, a2, b1, b2]))) ∧ Below w.heap.size w w' := by
  subst hb
  cases hp : isP p
  · go_enter Try.func58, Try.ntmps58
    go_wp2_with (go_at_call 62; refine Calls.mono (field_any _ _) ?_; rintro e w' ⟨rfl, rfl⟩)
    go_ret
    exact ⟨ret_int (by rw [codeOf_no hp]), by (repeat (first | exact Below.refl _ _ | assumption | refine balloc ?_ _ | refine bdrewN ?_ _ | refine Below.drew ?_ | refine Below.setCell ?_ (by first | (simp; done) | (simp; omega)) _))⟩
  · cases h0 : numsIn p [a1, a2]
    · have HV := Lib.hid (show codeOf p (numsIn p [a1, a2, b1, b2]) = 2 by rw [numsApp2, codeOf_out hp (by simp [h0])])
      go_enter Try.func58, Try.ntmps58
      go_wp2_with (go_at_call 62; refine Calls.mono (field_any _ _) ?_; rintro e w' ⟨rfl, rfl⟩)
      refine wp_loop_rounds 3 ?_
      rw [rounds_succ]
      (go_wp2_with fail; refine Calls.mono (specPoint_any _ _ _ _ hp) ?_; rintro e w1 ⟨rfl, hB1⟩)
      have hs1 : w.heap.size < w1.heap.size := by have := hB1.size; simp at this; omega
      have hc1 : ∀ j, w1.cell? ⟨w.heap.size, j, none⟩ = (w.alloc (.cells #[.int .i64 a1, .int .i64 a2, .int .i64 b1, .int .i64 b2] 28)).cell? ⟨w.heap.size, j, none⟩ := fun j => cell_back hB1 (by simp) j
      go_wp2
      go_ret
      exact ⟨ret_int (by first | exact HV.out.symm | exact (codeOf_out hp (by simp)).symm | exact (codeOf_in hp (by simp)).symm), bthen (balloc (Below.refl _ _) _) hB1⟩
    · cases h1 : numsIn p [b1, b2]
      · have HV := Lib.hid (show codeOf p (numsIn p [a1, a2, b1, b2]) = 2 by rw [numsApp2, codeOf_out hp (by simp [h0, h1])])
        go_enter Try.func58, Try.ntmps58
        go_wp2_with (go_at_call 62; refine Calls.mono (field_any _ _) ?_; rintro e w' ⟨rfl, rfl⟩)
        refine wp_loop_rounds 3 ?_
        rw [rounds_succ]
        (go_wp2_with fail; refine Calls.mono (specPoint_any _ _ _ _ hp) ?_; rintro e w1 ⟨rfl, hB1⟩)
        have hs1 : w.heap.size < w1.heap.size := by have := hB1.size; simp at this; omega
        have hc1 : ∀ j, w1.cell? ⟨w.heap.size, j, none⟩ = (w.alloc (.cells #[.int .i64 a1, .int .i64 a2, .int .i64 b1, .int .i64 b2] 28)).cell? ⟨w.heap.size, j, none⟩ := fun j => cell_back hB1 (by simp) j
        go_wp2
        rw [rounds_succ]
        (go_wp2_with fail; refine Calls.mono (specPoint_any _ _ _ _ hp) ?_; rintro e w2 ⟨rfl, hB2⟩)
        have hs2 : w.heap.size < w2.heap.size := Nat.lt_of_lt_of_le hs1 hB2.size
        have hc2 : ∀ j, w2.cell? ⟨w.heap.size, j, none⟩ = (w.alloc (.cells #[.int .i64 a1, .int .i64 a2, .int .i64 b1, .int .i64 b2] 28)).cell? ⟨w.heap.size, j, none⟩ := fun j => (cell_back hB2 hs1 j).trans (hc1 j)
        go_wp2
        go_ret
        exact ⟨ret_int (by first | exact HV.out.symm | exact (codeOf_out hp (by simp)).symm | exact (codeOf_in hp (by simp)).symm), bthen (bthen (balloc (Below.refl _ _) _) hB1) hB2⟩
      · have HV := Lib.hid (show codeOf p (numsIn p [a1, a2, b1, b2]) = 0 by rw [numsApp2, codeOf_in hp (by simp [h0, h1])])
        go_enter Try.func58, Try.ntmps58
        go_wp2_with (go_at_call 62; refine Calls.mono (field_any _ _) ?_; rintro e w' ⟨rfl, rfl⟩)
        refine wp_loop_rounds 3 ?_
        rw [rounds_succ]
        (go_wp2_with fail; refine Calls.mono (specPoint_any _ _ _ _ hp) ?_; rintro e w1 ⟨rfl, hB1⟩)
        have hs1 : w.heap.size < w1.heap.size := by have := hB1.size; simp at this; omega
        have hc1 : ∀ j, w1.cell? ⟨w.heap.size, j, none⟩ = (w.alloc (.cells #[.int .i64 a1, .int .i64 a2, .int .i64 b1, .int .i64 b2] 28)).cell? ⟨w.heap.size, j, none⟩ := fun j => cell_back hB1 (by simp) j
        go_wp2
        rw [rounds_succ]
        (go_wp2_with fail; refine Calls.mono (specPoint_any _ _ _ _ hp) ?_; rintro e w2 ⟨rfl, hB2⟩)
        have hs2 : w.heap.size < w2.heap.size := Nat.lt_of_lt_of_le hs1 hB2.size
        have hc2 : ∀ j, w2.cell? ⟨w.heap.size, j, none⟩ = (w.alloc (.cells #[.int .i64 a1, .int .i64 a2, .int .i64 b1, .int .i64 b2] 28)).cell? ⟨w.heap.size, j, none⟩ := fun j => (cell_back hB2 hs1 j).trans (hc1 j)
        go_wp2
        rw [rounds_succ]
        go_wp2
        go_ret
        exact ⟨ret_int (by first | exact HV.out.symm | exact (codeOf_out hp (by simp)).symm | exact (codeOf_in hp (by simp)).symm), bthen (bthen (balloc (Below.refl _ _) _) hB1) hB2⟩

set_option maxRecDepth 20000 in
set_option maxHeartbeats 1000000 in
theorem specCode3 (p a1 a2 b1 b2 c1 c2 : Int) (b : Nat) (w : World) (hb : b = w.heap.size) :
    Calls Try.prog 58 #[.int .i64 p, .slice (some ⟨b, 0, none⟩) 3 3] (w.alloc (.cells #[.int .i64 a1, .int .i64 a2, .int .i64 b1, .int .i64 b2, .int .i64 c1, .int .i64 c2] 28)) fun e w' => e = .returned (.int .i64 (codeOf p (numsIn p [a1, a2, b1, b2, c1, c2]))) ∧ Below w.heap.size w w' := by
  subst hb
  cases hp : isP p
  · go_enter Try.func58, Try.ntmps58
    go_wp2_with (go_at_call 62; refine Calls.mono (field_any _ _) ?_; rintro e w' ⟨rfl, rfl⟩)
    go_ret
    exact ⟨ret_int (by rw [codeOf_no hp]), by (repeat (first | exact Below.refl _ _ | assumption | refine balloc ?_ _ | refine bdrewN ?_ _ | refine Below.drew ?_ | refine Below.setCell ?_ (by first | (simp; done) | (simp; omega)) _))⟩
  · cases h0 : numsIn p [a1, a2]
    · have HV := Lib.hid (show codeOf p (numsIn p [a1, a2, b1, b2, c1, c2]) = 2 by rw [numsApp3, codeOf_out hp (by simp [h0])])
      go_enter Try.func58, Try.ntmps58
      go_wp2_with (go_at_call 62; refine Calls.mono (field_any _ _) ?_; rintro e w' ⟨rfl, rfl⟩)
      refine wp_loop_rounds 4 ?_
      rw [rounds_succ]
      (go_wp2_with fail; refine Calls.mono (specPoint_any _ _ _ _ hp) ?_; rintro e w1 ⟨rfl, hB1⟩)
      have hs1 : w.heap.size < w1.heap.size := by have := hB1.size; simp at this; omega
      have hc1 : ∀ j, w1.cell? ⟨w.heap.size, j, none⟩ = (w.alloc (.cells #[.int .i64 a1, .int .i64 a2, .int .i64 b1, .int .i64 b2, .int .i64 c1, .int .i64 c2] 28)).cell? ⟨w.heap.size, j, none⟩ := fun j => cell_back hB1 (by simp) j
      go_wp2
      go_ret
      exact ⟨ret_int (by first | exact HV.out.symm | exact (codeOf_out hp (by simp)).symm | exact (codeOf_in hp (by simp)).symm), bthen (balloc (Below.refl _ _) _) hB1⟩
    · cases h1 : numsIn p [b1, b2]
      · have HV := Lib.hid (show codeOf p (numsIn p [a1, a2, b1, b2, c1, c2]) = 2 by rw [numsApp3, codeOf_out hp (by simp [h0, h1])])
        go_enter Try.func58, Try.ntmps58
        go_wp2_with (go_at_call 62; refine Calls.mono (field_any _ _) ?_; rintro e w' ⟨rfl, rfl⟩)
        refine wp_loop_rounds 4 ?_
        rw [rounds_succ]
        (go_wp2_with fail; refine Calls.mono (specPoint_any _ _ _ _ hp) ?_; rintro e w1 ⟨rfl, hB1⟩)
        have hs1 : w.heap.size < w1.heap.size := by have := hB1.size; simp at this; omega
        have hc1 : ∀ j, w1.cell? ⟨w.heap.size, j, none⟩ = (w.alloc (.cells #[.int .i64 a1, .int .i64 a2, .int .i64 b1, .int .i64 b2, .int .i64 c1, .int .i64 c2] 28)).cell? ⟨w.heap.size, j, none⟩ := fun j => cell_back hB1 (by simp) j
        go_wp2
        rw [rounds_succ]
        (go_wp2_with fail; refine Calls.mono (specPoint_any _ _ _ _ hp) ?_; rintro e w2 ⟨rfl, hB2⟩)
        have hs2 : w.heap.size < w2.heap.size := Nat.lt_of_lt_of_le hs1 hB2.size
        have hc2 : ∀ j, w2.cell? ⟨w.heap.size, j, none⟩ = (w.alloc (.cells #[.int .i64 a1, .int .i64 a2, .int .i64 b1, .int .i64 b2, .int .i64 c1, .int .i64 c2] 28)).cell? ⟨w.heap.size, j, none⟩ := fun j => (cell_back hB2 hs1 j).trans (hc1 j)
        go_wp2
        go_ret
        exact ⟨ret_int (by first | exact HV.out.symm | exact (codeOf_out hp (by simp)).symm | exact (codeOf_in hp (by simp)).symm), bthen (bthen (balloc (Below.refl _ _) _) hB1) hB2⟩
      · cases h2 : numsIn p [c1, c2]
        · have HV := Lib.hid (show codeOf p (numsIn p [a1, a2, b1, b2, c1, c2]) = 2 by rw [numsApp3, codeOf_out hp (by simp [h0, h1, h2])])
          go_enter Try.func58, Try.ntmps58
          go_wp2_with (go_at_call 62; refine Calls.mono (field_any _ _) ?_; rintro e w' ⟨rfl, rfl⟩)
          refine wp_loop_rounds 4 ?_
          rw [rounds_succ]
          (go_wp2_with fail; refine Calls.mono (specPoint_any _ _ _ _ hp) ?_; rintro e w1 ⟨rfl, hB1⟩)
          have hs1 : w.heap.size < w1.heap.size := by have := hB1.size; simp at this; omega
          have hc1 : ∀ j, w1.cell? ⟨w.heap.size, j, none⟩ = (w.alloc (.cells #[.int .i64 a1, .int .i64 a2, .int .i64 b1, .int .i64 b2, .int .i64 c1, .int .i64 c2] 28)).cell? ⟨w.heap.size, j, none⟩ := fun j => cell_back hB1 (by simp) j
          go_wp2
          rw [rounds_succ]
          (go_wp2_with fail; refine Calls.mono (specPoint_any _ _ _ _ hp) ?_; rintro e w2 ⟨rfl, hB2⟩)
          have hs2 : w.heap.size < w2.heap.size := Nat.lt_of_lt_of_le hs1 hB2.size
          have hc2 : ∀ j, w2.cell? ⟨w.heap.size, j, none⟩ = (w.alloc (.cells #[.int .i64 a1, .int .i64 a2, .int .i64 b1, .int .i64 b2, .int .i64 c1, .int .i64 c2] 28)).cell? ⟨w.heap.size, j, none⟩ := fun j => (cell_back hB2 hs1 j).trans (hc1 j)
          go_wp2
          rw [rounds_succ]
          (go_wp2_with fail; refine Calls.mono (specPoint_any _ _ _ _ hp) ?_; rintro e w3 ⟨rfl, hB3⟩)
          have hs3 : w.heap.size < w3.heap.size := Nat.lt_of_lt_of_le hs2 hB3.size
          have hc3 : ∀ j, w3.cell? ⟨w.heap.size, j, none⟩ = (w.alloc (.cells #[.int .i64 a1, .int .i64 a2, .int .i64 b1, .int .i64 b2, .int .i64 c1, .int .i64 c2] 28)).cell? ⟨w.heap.size, j, none⟩ := fun j => (cell_back hB3 hs2 j).trans (hc2 j)
          go_wp2
          go_ret
          exact ⟨ret_int (by first | exact HV.out.symm | exact (codeOf_out hp (by simp)).symm | exact (codeOf_in hp (by simp)).symm), bthen (bthen (bthen (balloc (Below.refl _ _) _) hB1) hB2) hB3⟩
        · have HV := Lib.hid (show codeOf p (numsIn p [a1, a2, b1, b2, c1, c2]) = 0 by rw [numsApp3, codeOf_in hp (by simp [h0, h1, h2])])
          go_enter Try.func58, Try.ntmps58
          go_wp2_with (go_at_call 62; refine Calls.mono (field_any _ _) ?_; rintro e w' ⟨rfl, rfl⟩)
          refine wp_loop_rounds 4 ?_
          rw [rounds_succ]
          (go_wp2_with fail; refine Calls.mono (specPoint_any _ _ _ _ hp) ?_; rintro e w1 ⟨rfl, hB1⟩)
          have hs1 : w.heap.size < w1.heap.size := by have := hB1.size; simp at this; omega
          have hc1 : ∀ j, w1.cell? ⟨w.heap.size, j, none⟩ = (w.alloc (.cells #[.int .i64 a1, .int .i64 a2, .int .i64 b1, .int .i64 b2, .int .i64 c1, .int .i64 c2] 28)).cell? ⟨w.heap.size, j, none⟩ := fun j => cell_back hB1 (by simp) j
          go_wp2
          rw [rounds_succ]
          (go_wp2_with fail; refine Calls.mono (specPoint_any _ _ _ _ hp) ?_; rintro e w2 ⟨rfl, hB2⟩)
          have hs2 : w.heap.size < w2.heap.size := Nat.lt_of_lt_of_le hs1 hB2.size
          have hc2 : ∀ j, w2.cell? ⟨w.heap.size, j, none⟩ = (w.alloc (.cells #[.int .i64 a1, .int .i64 a2, .int .i64 b1, .int .i64 b2, .int .i64 c1, .int .i64 c2] 28)).cell? ⟨w.heap.size, j, none⟩ := fun j => (cell_back hB2 hs1 j).trans (hc1 j)
          go_wp2
          rw [rounds_succ]
          (go_wp2_with fail; refine Calls.mono (specPoint_any _ _ _ _ hp) ?_; rintro e w3 ⟨rfl, hB3⟩)
          have hs3 : w.heap.size < w3.heap.size := Nat.lt_of_lt_of_le hs2 hB3.size
          have hc3 : ∀ j, w3.cell? ⟨w.heap.size, j, none⟩ = (w.alloc (.cells #[.int .i64 a1, .int .i64 a2, .int .i64 b1, .int .i64 b2, .int .i64 c1, .int .i64 c2] 28)).cell? ⟨w.heap.size, j, none⟩ := fun j => (cell_back hB3 hs2 j).trans (hc2 j)
          go_wp2
          rw [rounds_succ]
          go_wp2
          go_ret
          exact ⟨ret_int (by first | exact HV.out.symm | exact (codeOf_out hp (by simp)).symm | exact (codeOf_in hp (by simp)).symm), bthen (bthen (bthen (balloc (Below.refl _ _) _) hB1) hB2) hB3⟩

end Go.Proofs.Ythfckpfiechloaa

namespace Go.Proofs.Ythfckpfiechloaa
open Go.RowKit

theorem colIn_any (c : Int) (w : World) : Calls Try.prog 65 #[.int .i64 c, .int .i64 0, .int .i64 2] w fun e w' => e = .returned (.bool (colB c)) ∧ w = w' := in_any c 0 2 w

set_option linter.unusedVariables false in
set_option linter.unusedSimpArgs false in
set_option maxRecDepth 20000 in
set_option maxHeartbeats 4000000 in
theorem specIsM_any (p m1 m2 m3 m4 m5 m6 : Int)  (w : World) (hp : isP p = true) :
    Calls Try.prog 64 #[.int .i64 p, .agg #[.int .i64 m1, .int .i64 m2, .int .i64 m3, .int .i64 m4, .int .i64 m5, .int .i64 m6]] w fun e w' =>
      e = .returned (.bool (numsIn p [m1, m2, m3, m4, m5, m6])) ∧ Below w.heap.size w w' := by
  have hr := isP_range hp
  go_enter Try.func64, Try.ntmps64
  go_wp2
  refine wp_loop_rounds 8 ?_
  rw [rounds_succ]
  go_wp2_with fail
  refine Calls.mono (in_any _ _ _ _) ?_
  rintro e w' ⟨rfl, rfl⟩
  rcases bool_ways (inB m1 0 (p - 1)) with hd1 | hd1
  · skip
    have HV := Lib.hid (show numsIn p [m1, m2, m3, m4, m5, m6] = false from by rw [nums6_in]; simp [hd1])
    go_wp2
    (refine bodyPost_ret (v := .bool (numsIn p [m1, m2, m3, m4, m5, m6])) (by simp [results, Try.results64, go_sem, HV.out, *]) rfl ⟨?_, ?_⟩)
    · rfl
    · (repeat (first | with_reducible exact Below.refl _ _ | with_reducible refine balloc ?_ _ | with_reducible refine bdrewN ?_ _ | with_reducible refine Below.drew ?_ | with_reducible refine bthen ?_ (by with_reducible assumption) | with_reducible refine Below.setCell ?_ (by first | (simp; done) | (simp; omega)) _))
  · skip
    go_wp2
    rw [rounds_succ]
    go_wp2_with fail
    refine Calls.mono (in_any _ _ _ _) ?_
    rintro e w' ⟨rfl, rfl⟩
    rcases bool_ways (inB m2 0 (p - 1)) with hd2 | hd2
    · skip
      have HV := Lib.hid (show numsIn p [m1, m2, m3, m4, m5, m6] = false from by rw [nums6_in]; simp [hd1, hd2])
      go_wp2
      (refine bodyPost_ret (v := .bool (numsIn p [m1, m2, m3, m4, m5, m6])) (by simp [results, Try.results64, go_sem, HV.out, *]) rfl ⟨?_, ?_⟩)
      · rfl
      · (repeat (first | with_reducible exact Below.refl _ _ | with_reducible refine balloc ?_ _ | with_reducible refine bdrewN ?_ _ | with_reducible refine Below.drew ?_ | with_reducible refine bthen ?_ (by with_reducible assumption) | with_reducible refine Below.setCell ?_ (by first | (simp; done) | (simp; omega)) _))
    · skip
      go_wp2
      rw [rounds_succ]
      go_wp2_with fail
      refine Calls.mono (in_any _ _ _ _) ?_
      rintro e w' ⟨rfl, rfl⟩
      rcases bool_ways (inB m3 0 (p - 1)) with hd3 | hd3
      · skip
        have HV := Lib.hid (show numsIn p [m1, m2, m3, m4, m5, m6] = false from by rw [nums6_in]; simp [hd1, hd2, hd3])
        go_wp2
        (refine bodyPost_ret (v := .bool (numsIn p [m1, m2, m3, m4, m5, m6])) (by simp [results, Try.results64, go_sem, HV.out, *]) rfl ⟨?_, ?_⟩)
        · rfl
        · (repeat (first | with_reducible exact Below.refl _ _ | with_reducible refine balloc ?_ _ | with_reducible refine bdrewN ?_ _ | with_reducible refine Below.drew ?_ | with_reducible refine bthen ?_ (by with_reducible assumption) | with_reducible refine Below.setCell ?_ (by first | (simp; done) | (simp; omega)) _))
      · skip
        go_wp2
        rw [rounds_succ]
        go_wp2_with fail
        refine Calls.mono (in_any _ _ _ _) ?_
        rintro e w' ⟨rfl, rfl⟩
        rcases bool_ways (inB m4 0 (p - 1)) with hd4 | hd4
        · skip
          have HV := Lib.hid (show numsIn p [m1, m2, m3, m4, m5, m6] = false from by rw [nums6_in]; simp [hd1, hd2, hd3, hd4])
          go_wp2
          (refine bodyPost_ret (v := .bool (numsIn p [m1, m2, m3, m4, m5, m6])) (by simp [results, Try.results64, go_sem, HV.out, *]) rfl ⟨?_, ?_⟩)
          · rfl
          · (repeat (first | with_reducible exact Below.refl _ _ | with_reducible refine balloc ?_ _ | with_reducible refine bdrewN ?_ _ | with_reducible refine Below.drew ?_ | with_reducible refine bthen ?_ (by with_reducible assumption) | with_reducible refine Below.setCell ?_ (by first | (simp; done) | (simp; omega)) _))
        · skip
          go_wp2
          rw [rounds_succ]
          go_wp2_with fail
          refine Calls.mono (specPoint_any _ _ _ _ hp) ?_
          rintro e w1 ⟨rfl, hB1⟩
          (obtain ⟨hB1c, hB1f⟩ := bcell hB1; have hB1s := hB1.size; (try simp at hB1s); (try have hB1q1 := Nat.lt_of_succ_le hB1s); (try have hB1q2 := Nat.lt_of_succ_lt hB1q1); (try have hB1q3 := Nat.lt_of_succ_lt hB1q2); (try have hB1zw0 : w.heap.size < w1.heap.size := (by omega)); (try have hB1zw1 : w.heap.size + 1 < w1.heap.size := (by omega)); (try have hB1zw2 : w.heap.size + 1 + 1 < w1.heap.size := (by omega)); (try have hB1zw3 : w.heap.size + 1 + 1 + 1 < w1.heap.size := (by omega)); (try have hB1zw4 : w.heap.size + 1 + 1 + 1 + 1 < w1.heap.size := (by omega)))
          have HV := Lib.hid (show numsIn p [m1, m2, m3, m4, m5, m6] = numsIn p [m5, m6] from by rw [nums6_in]; simp [hd1, hd2, hd3, hd4])
          go_wp2
          (refine bodyPost_ret (v := .bool (numsIn p [m1, m2, m3, m4, m5, m6])) (by simp [results, Try.results64, go_sem, HV.out, *]) rfl ⟨?_, ?_⟩)
          · rfl
          · (repeat (first | with_reducible exact Below.refl _ _ | with_reducible refine balloc ?_ _ | with_reducible refine bdrewN ?_ _ | with_reducible refine Below.drew ?_ | with_reducible refine bthen ?_ (by with_reducible assumption) | with_reducible refine Below.setCell ?_ (by first | (simp; done) | (simp; omega)) _))

end Go.Proofs.Ythfckpfiechloaa

namespace Go.Proofs.Ythfckpfiechloaa
open Go.RowKit

set_option maxRecDepth 20000 in
set_option maxHeartbeats 400000 in
theorem isField_any (p : Int) (w : World) :
    Calls Try.prog 94 #[.int .i64 p] w fun e w' => e = .returned (.bool (isP p)) ∧ w = w' := by
  by_cases h : p = 3 ∨ p = 5 ∨ p = 7 ∨ p = 11 ∨ p = 13 ∨ p = 17 ∨ p = 19 ∨ p = 23 ∨ p = 29 ∨ p = 31
  · have hp := Lib.hid (isP_iff.2 h)
    rcases h with rfl | rfl | rfl | rfl | rfl | rfl | rfl | rfl | rfl | rfl
    all_goals
      go_enter Try.func94, Try.ntmps94
      go_wp2
      go_ret
      exact ⟨ret_bool hp.out.symm, rfl⟩
  · have hp : isP p = false := by
      cases hh : isP p with
      | false => rfl
      | true => exact absurd (isP_iff.1 hh) h
    have HP := Lib.hid hp
    clear hp
    have h3 : (p == 3) = false := by rw [beq_eq_false_iff_ne]; omega
    have h5 : (p == 5) = false := by rw [beq_eq_false_iff_ne]; omega
    have h7 : (p == 7) = false := by rw [beq_eq_false_iff_ne]; omega
    have h11 : (p == 11) = false := by rw [beq_eq_false_iff_ne]; omega
    have h13 : (p == 13) = false := by rw [beq_eq_false_iff_ne]; omega
    have h17 : (p == 17) = false := by rw [beq_eq_false_iff_ne]; omega
    have h19 : (p == 19) = false := by rw [beq_eq_false_iff_ne]; omega
    have h23 : (p == 23) = false := by rw [beq_eq_false_iff_ne]; omega
    have h29 : (p == 29) = false := by rw [beq_eq_false_iff_ne]; omega
    have h31 : (p == 31) = false := by rw [beq_eq_false_iff_ne]; omega
    clear h
    go_enter Try.func94, Try.ntmps94
    go_wp2
    go_ret
    exact ⟨ret_bool HP.out.symm, rfl⟩

set_option maxRecDepth 20000 in
set_option maxHeartbeats 400000 in
theorem codeFor_any (p : Int) (b : Bool) (w : World) :
    Calls Try.prog 53 #[.int .i64 p, .bool b] w fun e w' => e = .returned (.int .i64 (codeOf p b)) ∧ w = w' := by
  by_cases hp : isP p = true
  · cases b
    all_goals
      go_enter Try.func53, Try.ntmps53
      go_wp2_with (go_at_call 94; refine Calls.mono (isField_any _ _) ?_; rintro e w' ⟨rfl, rfl⟩)
      go_ret
    · exact ⟨ret_int (by rw [codeOf_out hp rfl]), rfl⟩
    · exact ⟨ret_int (by rw [codeOf_in hp rfl]), rfl⟩
  · rw [Bool.not_eq_true] at hp
    go_enter Try.func53, Try.ntmps53
    go_wp2_with (go_at_call 94; refine Calls.mono (isField_any _ _) ?_; rintro e w' ⟨rfl, rfl⟩)
    go_ret
    exact ⟨ret_int (by rw [codeOf_no hp]), rfl⟩

end Go.Proofs.Ythfckpfiechloaa

namespace Go.Proofs.Ythfckpfiechloaa
open Go.RowKit

theorem wp_last {P : Program} {c : Code} {Q : Exit → Act → World → Prop} {a : Act} {w : World}
    (h : ∀ K : Act → World → Prop, (∀ a w, Q .normal a w → K a w) → c.wp P (Exit.then K Q) a w) : c.wp P Q a w :=
  wp_mono (h (fun a w => Q .normal a w) (fun _ _ h => h)) (by intro e a w hq; cases e <;> exact hq)

theorem wp_name {P : Program} {c : Code} {Q : Exit → Act → World → Prop} {a : Act} {w : World} (h : ∀ W : World, W = w → c.wp P Q a W) : c.wp P Q a w := h w rfl

theorem brealloc2 {a W : World} {o1 o1' o2 o2' : Obj} (hB : a.heap.size ≤ W.heap.size) (h : Below a.heap.size a ((W.alloc o1).alloc o2)) : Below a.heap.size a ((W.alloc o1').alloc o2') :=
  balloc (brealloc hB (bback (Nat.le_trans hB (by simp)) h)) o2'

end Go.Proofs.Ythfckpfiechloaa

namespace Go.Proofs.Ythfckpfiechloaa
open Go.RowKit

theorem bfromdrew {W w' : World} (h : Below W.drew.heap.size W.drew w') : Below W.heap.size W w' := ⟨h.os, h.tape, h.output, h.size, h.block⟩

end Go.Proofs.Ythfckpfiechloaa

namespace Go.Proofs.Ythfckpfiechloaa
open Go.RowKit

set_option maxRecDepth 20000 in
set_option maxHeartbeats 1000000 in
theorem specLine_any (p a1 a2 a3 : Int) (w : World) (hp : isP p = true) :
    Calls Try.prog 63 #[.int .i64 p, .agg #[.int .i64 a1, .int .i64 a2, .int .i64 a3]] w fun e w' => e = .returned (.bool (lineB p a1 a2 a3)) ∧ Below w.heap.size w w' := by
  have hr := isP_range hp
  rcases leadB_ways a1 a2 with ⟨rfl, hl⟩ | ⟨rfl, rfl, hl⟩ | ⟨rfl, hb, hl⟩ | ⟨ha, hb, hl⟩
  all_goals
    have HL := Lib.hid hl
    clear hl
  · cases h2 : inB a2 0 (p - 1) <;> cases h3 : inB a3 0 (p - 1)
    all_goals
      have HV := Lib.hid (show lineB p 1 a2 a3 = (true && (inB 1 0 (p - 1) && (inB a2 0 (p - 1) && inB a3 0 (p - 1)))) by rw [lineB, HL.out, numsIn3])
      rw [h2, h3, inB_true (by omega)] at HV
      have h1 : inB 1 0 (p - 1) = true := inB_true (by omega)
      go_enter Try.func63, Try.ntmps63
      go_wp2_with (go_at_call 65; refine Calls.mono (in_any _ _ _ _) ?_; rintro e w' ⟨rfl, rfl⟩)
      go_ret
      exact ⟨ret_bool (by rw [HV.out]; rfl), balloc (Below.refl _ _) _⟩
  · cases h3 : inB a3 0 (p - 1)
    all_goals
      have HV := Lib.hid (show lineB p 0 1 a3 = (true && (inB 0 0 (p - 1) && (inB 1 0 (p - 1) && inB a3 0 (p - 1)))) by rw [lineB, HL.out, numsIn3])
      rw [h3, inB_true (by omega), inB_true (by omega)] at HV
      have h1 : inB 1 0 (p - 1) = true := inB_true (by omega)
      have h0 : inB 0 0 (p - 1) = true := inB_true (by omega)
      go_enter Try.func63, Try.ntmps63
      go_wp2_with (go_at_call 65; refine Calls.mono (in_any _ _ _ _) ?_; rintro e w' ⟨rfl, rfl⟩)
      go_ret
      exact ⟨ret_bool (by rw [HV.out]; rfl), balloc (Below.refl _ _) _⟩
  · have HV := Lib.hid (show lineB p 0 a2 a3 = false by rw [lineB, HL.out]; rfl)
    have h0 : inB 0 0 (p - 1) = true := inB_true (by omega)
    cases h2 : inB a2 0 (p - 1) <;> cases h3 : inB a3 0 (p - 1)
    all_goals
      go_enter Try.func63, Try.ntmps63
      go_wp2_with (go_at_call 65; refine Calls.mono (in_any _ _ _ _) ?_; rintro e w' ⟨rfl, rfl⟩)
      go_ret
      exact ⟨ret_bool (by rw [HV.out]), balloc (Below.refl _ _) _⟩
  · have HV := Lib.hid (show lineB p a1 a2 a3 = false by rw [lineB, HL.out]; rfl)
    cases h1 : inB a1 0 (p - 1) <;> cases h2 : inB a2 0 (p - 1) <;> cases h3 : inB a3 0 (p - 1)
    all_goals
      go_enter Try.func63, Try.ntmps63
      go_wp2_with (go_at_call 65; refine Calls.mono (in_any _ _ _ _) ?_; rintro e w' ⟨rfl, rfl⟩)
      go_ret
      exact ⟨ret_bool (by rw [HV.out]), balloc (Below.refl _ _) _⟩

set_option maxRecDepth 20000 in
set_option maxHeartbeats 1000000 in
theorem specLines1 (p a1 a2 a3 : Int) (b : Nat) (w : World) (hb : b = w.heap.size) :
    Calls Try.prog 113 #[.int .i64 p, .slice (some ⟨b, 0, none⟩) 1 1] (w.alloc (.cells #[.int .i64 a1, .int .i64 a2, .int .i64 a3] 39)) fun e w' => e = .returned (.int .i64 (codeOf p (lineB p a1 a2 a3))) ∧ Below w.heap.size w w' := by
  subst hb
  cases hp : isP p
  · go_enter Try.func113, Try.ntmps113
    go_wp2_with (go_at_call 62; refine Calls.mono (field_any _ _) ?_; rintro e w' ⟨rfl, rfl⟩)
    go_ret
    exact ⟨ret_int (by rw [codeOf_no hp]), by (repeat (first | exact Below.refl _ _ | assumption | refine balloc ?_ _ | refine bdrewN ?_ _ | refine Below.drew ?_ | refine Below.setCell ?_ (by first | (simp; done) | (simp; omega)) _))⟩
  · cases h0 : lineB p a1 a2 a3
    · have HV := Lib.hid (show codeOf p (lineB p a1 a2 a3) = 2 by rw [codeOf_out hp (by simp [h0])])
      go_enter Try.func113, Try.ntmps113
      go_wp2_with (go_at_call 62; refine Calls.mono (field_any _ _) ?_; rintro e w' ⟨rfl, rfl⟩)
      refine wp_loop_rounds 2 ?_
      rw [rounds_succ]
      (go_wp2_with fail; refine Calls.mono (specLine_any _ _ _ _ _ hp) ?_; rintro e w1 ⟨rfl, hB1⟩)
      have hs1 : w.heap.size < w1.heap.size := by have := hB1.size; simp at this; omega
      have hc1 : ∀ j, w1.cell? ⟨w.heap.size, j, none⟩ = (w.alloc (.cells #[.int .i64 a1, .int .i64 a2, .int .i64 a3] 39)).cell? ⟨w.heap.size, j, none⟩ := fun j => cell_back hB1 (by simp) j
      go_wp2
      go_ret
      exact ⟨ret_int (by first | exact HV.out.symm | exact (codeOf_out hp (by simp)).symm | exact (codeOf_in hp (by simp)).symm), bthen (balloc (Below.refl _ _) _) hB1⟩
    · have HV := Lib.hid (show codeOf p (lineB p a1 a2 a3) = 0 by rw [codeOf_in hp (by simp [h0])])
      go_enter Try.func113, Try.ntmps113
      go_wp2_with (go_at_call 62; refine Calls.mono (field_any _ _) ?_; rintro e w' ⟨rfl, rfl⟩)
      refine wp_loop_rounds 2 ?_
      rw [rounds_succ]
      (go_wp2_with fail; refine Calls.mono (specLine_any _ _ _ _ _ hp) ?_; rintro e w1 ⟨rfl, hB1⟩)
      have hs1 : w.heap.size < w1.heap.size := by have := hB1.size; simp at this; omega
      have hc1 : ∀ j, w1.cell? ⟨w.heap.size, j, none⟩ = (w.alloc (.cells #[.int .i64 a1, .int .i64 a2, .int .i64 a3] 39)).cell? ⟨w.heap.size, j, none⟩ := fun j => cell_back hB1 (by simp) j
      go_wp2
      rw [rounds_succ]
      go_wp2
      go_ret
      exact ⟨ret_int (by first | exact HV.out.symm | exact (codeOf_out hp (by simp)).symm | exact (codeOf_in hp (by simp)).symm), bthen (balloc (Below.refl _ _) _) hB1⟩

set_option maxRecDepth 20000 in
set_option maxHeartbeats 1000000 in
theorem specLines2 (p a1 a2 a3 b1 b2 b3 : Int) (b : Nat) (w : World) (hb : b = w.heap.size) :
    Calls Try.prog 113 #[.int .i64 p, .slice (some ⟨b, 0, none⟩) 2 2] (w.alloc (.cells #[.int .i64 a1, .int .i64 a2, .int .i64 a3, .int .i64 b1, .int .i64 b2, .int .i64 b3] 39)) fun e w' => e = .returned (.int .i64 (codeOf p (lineB p a1 a2 a3 && lineB p b1 b2 b3))) ∧ Below w.heap.size w w' := by
  subst hb
  cases hp : isP p
  · go_enter Try.func113, Try.ntmps113
    go_wp2_with (go_at_call 62; refine Calls.mono (field_any _ _) ?_; rintro e w' ⟨rfl, rfl⟩)
    go_ret
    exact ⟨ret_int (by rw [codeOf_no hp]), by (repeat (first | exact Below.refl _ _ | assumption | refine balloc ?_ _ | refine bdrewN ?_ _ | refine Below.drew ?_ | refine Below.setCell ?_ (by first | (simp; done) | (simp; omega)) _))⟩
  · cases h0 : lineB p a1 a2 a3
    · have HV := Lib.hid (show codeOf p (lineB p a1 a2 a3 && lineB p b1 b2 b3) = 2 by rw [codeOf_out hp (by simp [h0])])
      go_enter Try.func113, Try.ntmps113
      go_wp2_with (go_at_call 62; refine Calls.mono (field_any _ _) ?_; rintro e w' ⟨rfl, rfl⟩)
      refine wp_loop_rounds 3 ?_
      rw [rounds_succ]
      (go_wp2_with fail; refine Calls.mono (specLine_any _ _ _ _ _ hp) ?_; rintro e w1 ⟨rfl, hB1⟩)
      have hs1 : w.heap.size < w1.heap.size := by have := hB1.size; simp at this; omega
      have hc1 : ∀ j, w1.cell? ⟨w.heap.size, j, none⟩ = (w.alloc (.cells #[.int .i64 a1, .int .i64 a2, .int .i64 a3, .int .i64 b1, .int .i64 b2, .int .i64 b3] 39)).cell? ⟨w.heap.size, j, none⟩ := fun j => cell_back hB1 (by simp) j
      go_wp2
      go_ret
      exact ⟨ret_int (by first | exact HV.out.symm | exact (codeOf_out hp (by simp)).symm | exact (codeOf_in hp (by simp)).symm), bthen (balloc (Below.refl _ _) _) hB1⟩
    · cases h1 : lineB p b1 b2 b3
      · have HV := Lib.hid (show codeOf p (lineB p a1 a2 a3 && lineB p b1 b2 b3) = 2 by rw [codeOf_out hp (by simp [h0, h1])])
        go_enter Try.func113, Try.ntmps113
        go_wp2_with (go_at_call 62; refine Calls.mono (field_any _ _) ?_; rintro e w' ⟨rfl, rfl⟩)
        refine wp_loop_rounds 3 ?_
        rw [rounds_succ]
        (go_wp2_with fail; refine Calls.mono (specLine_any _ _ _ _ _ hp) ?_; rintro e w1 ⟨rfl, hB1⟩)
        have hs1 : w.heap.size < w1.heap.size := by have := hB1.size; simp at this; omega
        have hc1 : ∀ j, w1.cell? ⟨w.heap.size, j, none⟩ = (w.alloc (.cells #[.int .i64 a1, .int .i64 a2, .int .i64 a3, .int .i64 b1, .int .i64 b2, .int .i64 b3] 39)).cell? ⟨w.heap.size, j, none⟩ := fun j => cell_back hB1 (by simp) j
        go_wp2
        rw [rounds_succ]
        (go_wp2_with fail; refine Calls.mono (specLine_any _ _ _ _ _ hp) ?_; rintro e w2 ⟨rfl, hB2⟩)
        have hs2 : w.heap.size < w2.heap.size := Nat.lt_of_lt_of_le hs1 hB2.size
        have hc2 : ∀ j, w2.cell? ⟨w.heap.size, j, none⟩ = (w.alloc (.cells #[.int .i64 a1, .int .i64 a2, .int .i64 a3, .int .i64 b1, .int .i64 b2, .int .i64 b3] 39)).cell? ⟨w.heap.size, j, none⟩ := fun j => (cell_back hB2 hs1 j).trans (hc1 j)
        go_wp2
        go_ret
        exact ⟨ret_int (by first | exact HV.out.symm | exact (codeOf_out hp (by simp)).symm | exact (codeOf_in hp (by simp)).symm), bthen (bthen (balloc (Below.refl _ _) _) hB1) hB2⟩
      · have HV := Lib.hid (show codeOf p (lineB p a1 a2 a3 && lineB p b1 b2 b3) = 0 by rw [codeOf_in hp (by simp [h0, h1])])
        go_enter Try.func113, Try.ntmps113
        go_wp2_with (go_at_call 62; refine Calls.mono (field_any _ _) ?_; rintro e w' ⟨rfl, rfl⟩)
        refine wp_loop_rounds 3 ?_
        rw [rounds_succ]
        (go_wp2_with fail; refine Calls.mono (specLine_any _ _ _ _ _ hp) ?_; rintro e w1 ⟨rfl, hB1⟩)
        have hs1 : w.heap.size < w1.heap.size := by have := hB1.size; simp at this; omega
        have hc1 : ∀ j, w1.cell? ⟨w.heap.size, j, none⟩ = (w.alloc (.cells #[.int .i64 a1, .int .i64 a2, .int .i64 a3, .int .i64 b1, .int .i64 b2, .int .i64 b3] 39)).cell? ⟨w.heap.size, j, none⟩ := fun j => cell_back hB1 (by simp) j
        go_wp2
        rw [rounds_succ]
        (go_wp2_with fail; refine Calls.mono (specLine_any _ _ _ _ _ hp) ?_; rintro e w2 ⟨rfl, hB2⟩)
        have hs2 : w.heap.size < w2.heap.size := Nat.lt_of_lt_of_le hs1 hB2.size
        have hc2 : ∀ j, w2.cell? ⟨w.heap.size, j, none⟩ = (w.alloc (.cells #[.int .i64 a1, .int .i64 a2, .int .i64 a3, .int .i64 b1, .int .i64 b2, .int .i64 b3] 39)).cell? ⟨w.heap.size, j, none⟩ := fun j => (cell_back hB2 hs1 j).trans (hc1 j)
        go_wp2
        rw [rounds_succ]
        go_wp2
        go_ret
        exact ⟨ret_int (by first | exact HV.out.symm | exact (codeOf_out hp (by simp)).symm | exact (codeOf_in hp (by simp)).symm), bthen (bthen (balloc (Below.refl _ _) _) hB1) hB2⟩

end Go.Proofs.Ythfckpfiechloaa

namespace Go.Proofs.Ythfckpfiechloaa
open Go.RowKit

structure Apart (r : Nat) (a W : World) : Prop where
  os : W.os = a.os
  tape : W.tape = a.tape
  output : W.output = a.output
  size : a.heap.size ≤ W.heap.size
  block : ∀ k, k < a.heap.size → k ≠ r → W.heap[k]? = a.heap[k]?

theorem Apart.refl (r : Nat) (a : World) : Apart r a a := ⟨rfl, rfl, rfl, Nat.le_refl _, fun _ _ _ => rfl⟩
theorem Apart.drew {r : Nat} {a W : World} (h : Apart r a W) : Apart r a W.drew := ⟨h.os, h.tape, h.output, h.size, h.block⟩
theorem Apart.undrew {r : Nat} {a W : World} (h : Apart r a W.drew) : Apart r a W := ⟨h.os, h.tape, h.output, h.size, h.block⟩
theorem Apart.call {r : Nat} {a W W' : World} (h : Apart r a W) (k : Below W.heap.size W W') : Apart r a W' :=
  ⟨k.os.trans h.os, k.tape.trans h.tape, k.output.trans h.output, Nat.le_trans h.size k.size, fun i hi hr => (k.block i (Nat.lt_of_lt_of_le hi h.size)).trans (h.block i hi hr)⟩
theorem Apart.alloc {r : Nat} {a W : World} (h : Apart r a W) (o : Obj) : Apart r a (W.alloc o) := h.call ((Below.refl _ _).alloc (Nat.le_refl _) o)
theorem Apart.back {r : Nat} {a W : World} {o : Obj} (hB : a.heap.size ≤ W.heap.size) (h : Apart r a (W.alloc o)) : Apart r a W :=
  ⟨h.os, h.tape, h.output, hB, fun k hk hr => by rw [← h.block k hk hr, Below.heap_alloc _ _ _ (by omega)]⟩
theorem Apart.set {r : Nat} {a W : World} (h : Apart r a W) (j : Nat) (u : Value) : Apart r a (W.setCell ⟨r, j, none⟩ u) :=
  ⟨h.os, h.tape, h.output, by simpa [World.setCell] using h.size, fun k hk hr => (Below.heap_setCell _ _ _ _ hr).trans (h.block k hk hr)⟩
theorem Apart.setNew {r : Nat} {a W : World} (h : Apart r a W) {p : Addr} (hp : a.heap.size ≤ p.block) (u : Value) : Apart r a (W.setCell p u) :=
  ⟨h.os, h.tape, h.output, by simpa [World.setCell] using h.size, fun k hk hr => (Below.heap_setCell _ _ _ _ (by omega)).trans (h.block k hk hr)⟩
theorem Apart.cell {r : Nat} {a W : World} (h : Apart r a W) {b j : Nat} {v : Value} (hr : b ≠ r) (hc : a.cell? ⟨b, j, none⟩ = some v) : W.cell? ⟨b, j, none⟩ = some v :=
  (World.cell?_of_block (w := a) (a := ⟨b, j, none⟩) (h.block b (World.block_lt_of_cell? a ⟨b, j, none⟩ hc) hr)).trans hc
theorem Apart.below {r : Nat} {w a W : World} (hw : Below w.heap.size w a) (hr : w.heap.size ≤ r) (h : Apart r a W) : Below w.heap.size w W :=
  ⟨h.os.trans hw.os, h.tape.trans hw.tape, h.output.trans hw.output, Nat.le_trans hw.size h.size, fun k hk => (h.block k (Nat.lt_of_lt_of_le hk hw.size) (by omega)).trans (hw.block k hk)⟩
theorem frozen_of_block {w w' : World} {a : Addr} (h : w'.heap[a.block]? = w.heap[a.block]?) : w'.frozen? a = w.frozen? a := by
  unfold World.frozen?; rw [h]
theorem Apart.frozen {r : Nat} {a W : World} (h : Apart r a W) {b j : Nat} (hr : b ≠ r) (hl : b < a.heap.size) (hf : a.frozen? ⟨b, j, none⟩ = false) : W.frozen? ⟨b, j, none⟩ = false :=
  (frozen_of_block (w := a) (a := ⟨b, j, none⟩) (h.block b hl hr)).trans hf

end Go.Proofs.Ythfckpfiechloaa

namespace Go.Proofs.Ythfckpfiechloaa
open Go.RowKit Go.Shelf

attribute [local go_sem] Oper.semAt_some

/-- All points: the rows below x, and of row x those below y. -/
def tt2 (_ _ : Int) : Bool := true
def allL (m x y : Nat) : List (Int × Int) := gridL tt2 m x ++ rowL tt2 x y
theorem rowT_len (x y : Nat) : (rowL tt2 x y).length = y := by rw [rowL, filter_all (f := fun b : Nat => tt2 (x : Int) (b : Int)) fun _ _ => rfl]; simp
theorem gridT_len (m x : Nat) : (gridL tt2 m x).length = x * m := by
  induction x with
  | zero => simp [gridL]
  | succ x ih => rw [gridL_succ, List.length_append, ih, rowT_len, Nat.add_mul, Nat.one_mul]
theorem allL_len (m x y : Nat) : (allL m x y).length = x * m + y := by rw [allL, List.length_append, gridT_len, rowT_len]
theorem allL_zero (m x : Nat) : allL m x 0 = gridL tt2 m x := by simp [allL, rowL]
theorem allL_next (m x y : Nat) : allL m x (y + 1) = allL m x y ++ [((x : Int), (y : Int))] := by
  rw [allL, rowL_yes (f := tt2) rfl, ← List.append_assoc]; rfl
theorem allL_row (m x : Nat) : allL m x m = allL m (x + 1) 0 := by rw [allL_zero, gridL_succ, allL]
theorem gridT_pre (m : Nat) {x n : Nat} (h : x ≤ n) : gridL tt2 m x <+: gridL tt2 m n := by
  induction n with
  | zero => rw [Nat.le_zero.1 h]; exact List.prefix_refl _
  | succ n ih =>
    by_cases e : x = n + 1
    · rw [e]; exact List.prefix_refl _
    · exact (ih (by omega)).trans ⟨_, (gridL_succ _ _ _).symm⟩
theorem rowT_pre (x : Nat) {y m : Nat} (h : y ≤ m) : rowL tt2 x y <+: rowL tt2 x m := by
  induction m with
  | zero => rw [Nat.le_zero.1 h]; exact List.prefix_refl _
  | succ m ih =>
    by_cases e : y = m + 1
    · rw [e]; exact List.prefix_refl _
    · exact (ih (by omega)).trans ⟨_, (rowL_yes (f := tt2) rfl).symm⟩
theorem allL_pre {m x y : Nat} (hx : x < m) (hy : y ≤ m) : allL m x y <+: gridL tt2 m m := by
  have h1 : allL m x y <+: gridL tt2 m (x + 1) := by
    rw [gridL_succ, allL]; exact (List.prefix_append_right_inj _).2 (rowT_pre x hy)
  exact h1.trans (gridT_pre m (by omega))

/-- A point whose numbers are small: what a loop over all points is handed. -/
abbrev Pt32 := Fin 32 × Fin 32
def toF (z : Int × Int) : Pt32 := (Fin.ofNat 32 z.1.toNat, Fin.ofNat 32 z.2.toNat)
def toP (x : Pt32) : Int × Int := ((x.1.val : Int), (x.2.val : Int))
def allF (m x y : Nat) : List Pt32 := (allL m x y).map toF
theorem allF_len (m x y : Nat) : (allF m x y).length = x * m + y := by rw [allF, List.length_map, allL_len]
theorem allF_next (m x y : Nat) : allF m x (y + 1) = allF m x y ++ [toF ((x : Int), (y : Int))] := by simp [allF, allL_next]
theorem allF_row (m x : Nat) : allF m x m = allF m (x + 1) 0 := by rw [allF, allL_row]; rfl
theorem toP_toF {x y : Nat} (hx : x < 32) (hy : y < 32) : toP (toF ((x : Int), (y : Int))) = ((x : Int), (y : Int)) := by
  simp [toP, toF, Fin.ofNat, Nat.mod_eq_of_lt hx, Nat.mod_eq_of_lt hy]
theorem allF_back {m x : Nat} (hm : m ≤ 32) (hx : x ≤ 32) : (allF m x 0).map toP = gridL tt2 m x := by
  rw [allF, allL_zero, List.map_map]
  have : ∀ z ∈ gridL tt2 m x, (toP ∘ toF) z = id z := by
    intro z hz
    rw [gridL, List.mem_flatMap] at hz
    obtain ⟨a, ha, hz⟩ := hz
    rw [rowL, List.mem_map] at hz
    obtain ⟨b, hb, rfl⟩ := hz
    have h1 := List.mem_range.1 ha
    have h2 := List.mem_range.1 (List.mem_filter.1 hb).1
    exact toP_toF (by omega) (by omega)
  rw [List.map_congr_left this, List.map_id]
theorem allF_pre {m x y : Nat} (hx : x < m) (hy : y ≤ m) : allF m x y <+: allF m m 0 := by
  have h := allL_pre hx hy
  obtain ⟨t, ht⟩ := h
  exact ⟨t.map toF, by rw [allF, allF, allL_zero, ← ht, List.map_append]⟩

set_option maxRecDepth 20000 in
set_option maxHeartbeats 400000 in
theorem allPoints_any (p : Int) (w : World) :
    Calls Try.prog 123 #[.int .i64 p] w fun e w' => e = .returned (.func (.func 136) #[] #[.pointer (some ⟨w.heap.size, 0, none⟩)]) ∧ w' = w.alloc (.cells #[.int .i64 p] 2) := by
  go_enter Try.func123, Try.ntmps123
  go_wp2
  go_ret
  exact ⟨rfl, rfl⟩

set_option maxRecDepth 100000 in
set_option maxRecDepth 20000 in
set_option maxHeartbeats 1000000 in
theorem seqAll_in (n l b0 lo hi : Nat) (p : Int) (hn : 1 ≤ n) (hp : isP p = true) (J Jx : List Pt32 → World → Prop)
    (W : World) (hY : ∀ pre x W1, J pre W1 → pre.length < p.toNat * p.toNat → YieldAt Fence.wide (n - 1) Try.prog l #[ptV (toP x)] W1 fun e W' =>
      (e = .returned (.bool true) ∧ J (pre ++ [x]) W' ∧ Btw lo hi W1 W') ∨ (e = .returned (.bool false) ∧ Jx (pre ++ [x]) W'))
    (h0 : W.cell? ⟨b0, 0, none⟩ = some (.int .i64 p)) (g0 : lo ≤ b0 ∧ b0 < hi) (hst : J [] W) :
    CallsIn Fence.wide n Try.prog 136 #[.func (.yield l) #[] #[], .pointer (some ⟨b0, 0, none⟩)] W fun e W' => (∃ v, e = .returned v) ∧
      ((∃ ys, ys = allF p.toNat p.toNat 0 ∧ J ys W') ∨ (∃ pre, pre <+: allF p.toNat p.toNat 0 ∧ Jx pre W')) := by
  have hr := isP_range hp
  have hc0 : (p.toNat : Int) = p := Int.toNat_of_nonneg (by omega)
  have HC0 := Lib.hid hc0
  clear hc0
  refine callsIn_of_wp Try.func136 rfl trivial ?_ rfl
  simp only [Try.ntmps136, List.size_toArray, List.length_cons, List.length_nil, Nat.reduceAdd, Nat.reduceSub, Array.replicate_succ, Array.replicate_zero, List.push_toArray, List.append_toArray, List.nil_append, List.cons_append]
  gi_wp2
  gi_loopw [3, 4, 6] (fun _ _ i wr => ∃ x : Nat, (x : Int) ≤ p ∧ i = .int .i64 x ∧ J (allF p.toNat x 0) wr ∧ Btw lo hi W wr) (fun _ _ i _ => p.toNat - (intOf i).toNat)
  case atStart => exact ⟨0, by omega, rfl, hst, btw_refl _ _ _⟩
  case round =>
    obtain ⟨x, hx, rfl, hJx', hbel⟩ := hrel
    obtain ⟨wo, rfl⟩ : ∃ wo : World, wo = wr := ⟨_, rfl⟩
    by_cases hlt : (x : Int) < p
    · have c0 : wo.cell? ⟨b0, 0, none⟩ = some (.int .i64 p) := (btw_cell hbel g0.1 g0.2 0).trans h0
      have HR := Lib.hid (allF_row p.toNat x)
      gi_wp2
      gi_loopw [4, 10] (fun _ j wr => ∃ y : Nat, (y : Int) ≤ p ∧ j = .int .i64 y ∧ J (allF p.toNat x y) wr ∧ Btw lo hi W wr) (fun _ j _ => p.toNat - (intOf j).toNat)
      case atStart => exact ⟨0, by omega, rfl, hJx', hbel⟩
      case round =>
        obtain ⟨y, hy, rfl, hJy, hbel⟩ := hrel
        by_cases hlty : (y : Int) < p
        · have HS := Lib.hid (allF_next p.toNat x y)
          have hxm : x < p.toNat ∧ y < p.toNat := by have := HC0.out; omega
          have hlen : (allF p.toNat x y).length < p.toNat * p.toNat := by
            rw [allF_len]
            have := Nat.mul_le_mul_right p.toNat (show x + 1 ≤ p.toNat by omega)
            rw [Nat.add_mul] at this; omega
          obtain ⟨fn, tmps, assign, body, hyy, hR⟩ := hY (allF p.toNat x y) (toF ((x : Int), (y : Int))) wr hJy hlen
          rw [toP_toF (by omega) (by omega)] at hyy
          dsimp only [ptV] at hyy
          clear hlen
          gi_wp2
          refine hR.mono ?_
          rintro e W3 (⟨rfl, hJ3, hk3⟩ | ⟨rfl, hJx3⟩)
          · gi_wp2
            go_roundw
            case rel => exact ⟨y + 1, by omega, by go_num, by rw [HS.out]; exact hJ3, btw_trans hbel hk3⟩
            case measure => have := HC0.out; simp [intOf]; omega
          · gi_wp2
            refine bodyPost_ret (results_none rfl _ _ _) rfl ?_
            exact ⟨⟨_, rfl⟩, .inr ⟨_, by rw [← HS.out]; exact allF_pre hxm.1 (by omega), hJx3⟩⟩
        · have e : y = p.toNat := by have := HC0.out; omega
          have HE := Lib.hid e
          clear e
          gi_wp2
          go_roundw
          case rel => exact ⟨x + 1, by omega, by go_num, by rw [← HR.out]; have h := hJy; rw [HE.out] at h; exact h, hbel⟩
          case measure => have := HC0.out; simp [intOf]; omega
    · have e : x = p.toNat := by have := HC0.out; omega
      have HE := Lib.hid e
      clear e
      gi_wp2
      go_end0
      exact ⟨⟨_, rfl⟩, .inl (by have := hJx'; rw [HE.out] at this; exact this)⟩

theorem seqAll_stops (n b0 lo hi : Nat) (p : Int) (hn : 1 ≤ n) (hp : isP p = true) (w : World)
    (h0 : w.cell? ⟨b0, 0, none⟩ = some (.int .i64 p)) (g0 : lo ≤ b0 ∧ b0 < hi) (hhi : hi ≤ w.heap.size) :
    SeqStopsK Fence.wide n Try.prog 136 #[.pointer (some ⟨b0, 0, none⟩)] (fun x => #[ptV (toP x)]) (Btw lo hi)
      (fun ys => ys = allF p.toNat p.toNat 0) (fun pre => pre <+: allF p.toNat p.toNat 0) (p.toNat * p.toNat) w := fun l J Jx W hW _ _ hY hst =>
  seqAll_in n l b0 lo hi p hn hp J Jx W hY ((cell_old hW (by omega) 0).trans h0) g0 hst

end Go.Proofs.Ythfckpfiechloaa

namespace Go.Proofs.Ythfckpfiechloaa
open Go.RowKit

theorem infoPt : (Try.prog.info? 28).map (fun i => (i.zero, i.size, i.bytes)) = some (some (.agg #[.int .i64 0, .int .i64 0]), 2, 16) := by kernel_rfl
/-- What is appended: a point's two numbers, each one cell. -/
theorem pt_cells {w : World} {x y : Int} {t : TypeId} {q : Nat} (hq : q = w.heap.size) : ∀ j u, [Value.int .i64 x, Value.int .i64 y][j]? = some u → (w.alloc (.cells #[.int .i64 x, .int .i64 y] t)).cell? ((⟨q, 0, none⟩ : Addr).add j) = some u := by
  intro j u hj
  subst hq
  match j, hj with
  | 0, hj => simp at hj; subst hj; exact kfresh (by simp) rfl
  | 1, hj => simp at hj; subst hj; exact kfresh (by simp) rfl
theorem pt_one (x y : Int) : ∀ u ∈ [Value.int .i64 x, Value.int .i64 y], u.oneCell' = true := by
  intro u hu; simp at hu; rcases hu with rfl | rfl <;> rfl

end Go.Proofs.Ythfckpfiechloaa

namespace Go.Proofs.Ythfckpfiechloaa
open Go.RowKit

/-- What a call leaves that returns a slice of its own alone. -/
def OnePost (T : TypeId) (k : Nat) (L : List Int) (n : Nat) (w : World) (e : Ending) (w' : World) : Prop :=
  ∃ v, e = .returned v ∧ w'.ownsRow w.heap.size T k v n (ints L) ∧ Below w.heap.size w w'

end Go.Proofs.Ythfckpfiechloaa

namespace Go.Proofs.Ythfckpfiechloaa
open Go Go.RowKit

variable {F : Fence} {n : Nat} {P : Program}

/-- An iterator's contract where the caller's rounds leave all records laid since its call as they were. -/
def SeqOn {α : Type} (F : Fence) (n : Nat) (P : Program) (g : Nat) (lb : Array Value) (enc : α → Array Value) (Kp : World → World → Prop) (S Sp : List α → Prop) (N : Nat) (w : World) : Prop :=
  ∀ (l : Nat) (J Jx : List α → World → Prop) (W : World), Below w.heap.size w W → OwnFrom W.heap.size J → OwnFrom W.heap.size Jx →
    (∀ pre x W1, J pre W1 → pre.length < N → YieldAt F (n - 1) P l (enc x) W1 fun e W' =>
      (e = .returned (.bool true) ∧ J (pre ++ [x]) W' ∧ Kp W1 W' ∧ KeepsFrom W.heap.size W1 W') ∨ (e = .returned (.bool false) ∧ Jx (pre ++ [x]) W' ∧ KeepsFrom W.heap.size W1 W')) →
    J [] W →
    CallsIn F n P g (#[.func (.yield l) #[] #[]] ++ lb) W fun e W' => (∃ v, e = .returned v) ∧ ((∃ xs, S xs ∧ J xs W') ∨ (∃ pre, Sp pre ∧ Jx pre W'))
/-- The elder contract serves here, also where it asks the body for less. -/
theorem seqOn_of {α : Type} {g : Nat} {lb : Array Value} {enc : α → Array Value} {Kp Kq : World → World → Prop} {S Sp : List α → Prop} {N : Nat} {w : World} (h : SeqStopsK F n P g lb enc Kp S Sp N w) (hK : ∀ A B, Kq A B → Kp A B) :
    SeqOn F n P g lb enc Kq S Sp N w := fun l J Jx W hW hJ hX hY h0 =>
  h l J Jx W hW (fun s A B row hs hg hr => hJ s A B row hs hg fun r e => ⟨(hr r e).1, (hr r e).2.choose, (hr r e).2.choose_spec.1, Obj.not_cells_of_walk (hr r e).2.choose_spec.2⟩)
    (fun s A B row hs hg hr => hX s A B row hs hg fun r e => ⟨(hr r e).1, (hr r e).2.choose, (hr r e).2.choose_spec.1, Obj.not_cells_of_walk (hr r e).2.choose_spec.2⟩)
    (fun pre x W1 hj hl => (hY pre x W1 hj hl).mono fun _ _ q => q.imp (fun q => ⟨q.1, q.2.1, hK _ _ q.2.2.1⟩) fun q => ⟨q.1, q.2.1⟩) h0

/-- A loop's two records. -/
def Recs (b : Nat) (r : Loop) (W : World) : Prop := W.heap[b]? = some (.deferred (some [])) ∧ W.heap[b + 1]? = some (.loop r)
theorem Recs.lt {b : Nat} {r : Loop} {W : World} (h : Recs b r W) : b + 1 < W.heap.size := (Array.getElem?_eq_some_iff.1 h.2).1
theorem Recs.kept {b B : Nat} {r : Loop} {W W' : World} (h : Recs b r W) (hk : KeepsFrom B W W') (hB : B ≤ b) : Recs b r W' := ⟨hk.same _ _ hB h.1 rfl, hk.same _ _ (by omega) h.2 rfl⟩
theorem Recs.put {b : Nat} {r : Loop} {W : World} (h : Recs b r W) (r' : Loop) : Recs b r' (W.putObj (b + 1) (.loop r')) := ⟨(World.putObj_heap_other (by omega)).trans h.1, World.putObj_heap_same h.lt⟩
theorem recs_own {β : Type} {b B : Nat} (hB : b + 2 ≤ B) (r : Loop) : OwnFrom B (fun (_ : β) W => Recs b r W) := fun _ X Y row hs hg hr =>
  ⟨(hg.block _ (Array.getElem?_eq_some_iff.1 hs.1).1 fun e => by have := (hr _ e.symm).1; omega).trans hs.1, (hg.block _ hs.lt fun e => by have := (hr _ e.symm).1; omega).trans hs.2⟩
theorem own_later {β : Type} {B B' : Nat} {I : β → World → Prop} (h : OwnFrom B I) (hB : B ≤ B') : OwnFrom B' I := fun s X Y row hs hg hr => h s X Y row hs hg fun r e => ⟨Nat.le_trans hB (hr r e).1, (hr r e).2⟩
theorem keeps_put {B k : Nat} {W : World} {o : Obj} (h : k < B) : KeepsFrom B W (W.putObj k o) := ⟨by simp, fun i o' hB hi _ => (World.putObj_heap_other (by omega)).trans hi⟩
/-- A round at the wide fence is one at whatever depth, within whatever round. -/
theorem yield_wide {m m' l l' : Nat} {args : Array Value} {W : World} {R : Ending → World → Prop} (h : YieldAt Fence.wide m P l args W R) : YieldAt (Fence.wide.inRound l') m' P l args W R := by
  obtain ⟨fn, tmps, assign, body, h1, h2⟩ := h
  exact ⟨fn, tmps, assign, body, h1, h2.1, fun c cs _ => h2.2 c cs (by simp [Fence.room, Fence.wide])⟩

theorem range_on {α : Type} {g : Operand} {ps : Array Tmp} {assign body : Code} {Q : Exit → Act → World → Prop} {a : Act} {w : World}
    (hro : F.round = none) (h1 : 1 ≤ n) {gf : Nat} {lb : Array Value} (hg : a.eval g = .func (.func gf) #[] lb) (hFg : F.fn gf) (eg : ∀ args w, (callFunc gf args).run P w = .ok (.enter gf args) w)
    {enc : α → Array Value} {Kp : World → World → Prop} {S Sp : List α → Prop} {N : Nat} {w0 : World} (hseq : SeqOn F (n - 1) P gf lb enc Kp S Sp N w0)
    (hKt : ∀ {A B C : World}, Kp A B → Kp B C → Kp A C) (hKb : ∀ (W : World) (o o' : Obj), W.heap[w.heap.size + 1]? = some o → o.isCells = false → Kp W (W.putObj (w.heap.size + 1) o'))
    (hb0 : Below w0.heap.size w0 w) (hps : ∀ x, (enc x).size = ps.size)
    (I : List α → World → Prop) (Ix : Code → List α → World → Prop) (hI : OwnFrom w.heap.size I) (hIx : ∀ c, OwnFrom w.heap.size (Ix c)) (h0 : I [] w) (Ax : α → Act → World → Prop) (hAx : ∀ x a', OwnFrom w.heap.size (fun (_ : Unit) W => Ax x a' W))
    (hassign : ∀ (l : Nat) (pre : List α) (x : α) (W : World) (K : Act → World → Prop), I pre W → (∀ a' W', KeepsFrom w.heap.size W W' → Kp W W' → I pre W' → Ax x a' W' → K a' W') →
      assign.wpIn (F.inRound l) (n - 1 - 1) P (Exit.then K (fun _ _ _ => False)) { tmps := (ps.zip (enc x)).foldl (fun t (p, v) => t.setIfInBounds p v) a.tmps, defers := [] } W)
    (hbody : ∀ (l : Nat) (pre : List α) (x : α) (a' : Act) (W : World), I pre W → Ax x a' W → pre.length < N → body.wpIn (F.inRound l) (n - 1 - 1) P (ownPostG w.heap.size Kp I Ix (pre ++ [x]) W) a' W)
    (hdone : ∀ (D : Nat) (xs : List α) (W : World), w.heap.size ≤ D → S xs → I xs W → W.heap[D]? = some (.deferred (some [])) → Q .normal { a with defers := { target := .collected D, args := #[] } :: a.defers } W)
    (hstop : ∀ (D : Nat) (c : Code) (pre : List α) (W : World), w.heap.size ≤ D → Sp pre → Ix c pre W → W.heap[D]? = some (.deferred (some [])) → c.wpIn F n P Q { a with defers := { target := .collected D, args := #[] } :: a.defers } W) :
    (Code.rangeFunc g ps assign body).wpIn F n P Q a w := by
  refine wpIn_rangeFunc fun fn hfn => ?_
  rw [hro]
  have he := run_enterLoop_outer (P := P) (w := w) fn a.tmps ps assign body
  obtain ⟨r0, hr0⟩ : ∃ r : Loop, r = { state := .ready, pending := none, fn := fn, tmps := a.tmps, params := ps, assign := assign, body := body, defers := w.heap.size } := ⟨_, rfl⟩
  rw [← hr0] at he
  have hrs : Recs w.heap.size r0 ((w.alloc (.deferred (some []))).alloc (.loop r0)) :=
    ⟨(Below.heap_alloc _ _ _ (by simp)).trans (World.alloc_heap_new w _), by have := World.alloc_heap_new (w.alloc (.deferred (some []))) (.loop r0); rwa [World.size_alloc] at this⟩
  have hi0 : I [] ((w.alloc (.deferred (some []))).alloc (.loop r0)) := hI.alloc _ (hI.alloc _ h0)
  have hbe : Below w0.heap.size w0 ((w.alloc (.deferred (some []))).alloc (.loop r0)) := hb0.trans ((((Below.refl _ w).alloc (Nat.le_refl _) _).alloc (by simp) _).mono hb0.size)
  have hsz : ((w.alloc (.deferred (some []))).alloc (.loop r0)).heap.size = w.heap.size + 2 := by simp
  obtain ⟨Ws, hWs⟩ : ∃ X, X = (w.alloc (.deferred (some []))).alloc (.loop r0) := ⟨_, rfl⟩
  rw [← hWs] at he hrs hi0 hbe hsz
  clear hWs
  refine ⟨w.heap.size + 1, _, Ws, { target := .fn (.func gf) lb, args := #[.func (.yield (w.heap.size + 1)) #[] #[]] }, Ws, gf, #[.func (.yield (w.heap.size + 1)) #[] #[]] ++ lb, Ws, he, ?_, ?_, ?_, fun _ => h1, ?_⟩
  · simp only [resolve, hg]; simp [go_sem]
  · intro f' hf'; simp [Target.leads] at hf'; subst hf'; exact hFg
  · simp [invoke, go_sem, eg]
  have hsm : w.heap.size ≤ Ws.heap.size := by omega
  refine (hseq (w.heap.size + 1) (fun pre W => I pre W ∧ Recs w.heap.size r0 W) (fun pre W => ∃ c, Ix c pre W ∧ Recs w.heap.size { r0 with state := .done, pending := some c } W) Ws hbe
    (OwnFrom.and (own_later hI hsm) (recs_own (by omega) r0)) (fun s X Y row hs hg' hr => by obtain ⟨c, h, k⟩ := hs; exact ⟨c, own_later (hIx c) hsm s X Y row h hg' hr, recs_own (β := Unit) (by omega) _ () X Y row k hg' hr⟩) ?_ ⟨hi0, hrs⟩).mono ?_
  · rintro pre x W ⟨hi, hr⟩ hlen
    have hy := run_yield (P := P) (args := enc x) hr.2 (by rw [hr0]; exact hps x)
    rw [hr0] at hy
    refine ⟨fn, _, assign, body, hy, roundIn_of_wpIn hfn (hassign _ pre x W _ hi fun a' W1 hk1 hp1 hi1 hx1 => ?_)⟩
    have hr1 := hr.kept hk1 (Nat.le_refl _)
    have hr2 := hr1.put { r0 with state := .busy }
    have hp2 := hKb W1 (.loop r0) (.loop { r0 with state := .busy }) hr1.2 rfl
    refine ⟨_, run_beginRound hr1.2 (by rw [hr0]), wpIn_mono (hbody _ pre x a' _ (hI.putObj _ hi1 (by omega) hr1.2 rfl) ((hAx x a').putObj (s := ()) _ hx1 (by omega) hr1.2 rfl) hlen) ?_⟩
    have k12 : KeepsFrom Ws.heap.size W (W1.putObj (w.heap.size + 1) (.loop { r0 with state := .busy })) :=
      KeepsFrom.trans ⟨hk1.size, fun i o hB => hk1.same i o (by omega)⟩ (keeps_put (by omega))
    have over : ∀ (j : Option Code) (W3 : World), KeepsFrom w.heap.size (W1.putObj (w.heap.size + 1) (.loop { r0 with state := .busy })) W3 →
        ∃ r3 : Loop, r3 = { r0 with state := if j.isNone then .ready else .done, pending := j } ∧ (Instr.endRound (w.heap.size + 1) j).run P W3 = .ok (.bool j.isNone) (W3.putObj (w.heap.size + 1) (.loop r3)) ∧ Recs w.heap.size { r0 with state := .busy } W3 ∧
          KeepsFrom Ws.heap.size W (W3.putObj (w.heap.size + 1) (.loop r3)) := fun j W3 hk3 => by
      have hr3 := hr2.kept hk3 (Nat.le_refl _)
      exact ⟨_, rfl, run_endRound (P := P) (r := { r0 with state := .busy }) j hr3.2, hr3, (k12.trans ⟨hk3.size, fun i o hB => hk3.same i o (by omega)⟩).trans (keeps_put (by omega))⟩
    rintro e a3 W3 hp
    cases e with
    | normal =>
      obtain ⟨hk3, hp3, hi3⟩ := hp
      obtain ⟨r3, e3, hrun, hr3, hk4⟩ := over none W3 hk3
      have hrr : r3 = r0 := by rw [e3, hr0]; rfl
      refine ⟨_, _, hrun, .inl ⟨rfl, ⟨hI.putObj _ hi3 (by omega) hr3.2 rfl, by rw [hrr]; exact hr3.put _⟩, hKt hp1 (hKt hp2 (hKt hp3 (hKb _ _ _ hr3.2 rfl))), hk4⟩⟩
    | ret =>
      obtain ⟨hk3, hi3⟩ := hp
      obtain ⟨r3, e3, hrun, hr3, hk4⟩ := over (some .ret) W3 hk3
      exact ⟨_, _, hrun, .inr ⟨rfl, ⟨.ret, (hIx _).putObj _ hi3 (by omega) hr3.2 rfl, by have := hr3.put r3; rw [e3] at this ⊢; exact this⟩, hk4⟩⟩
    | exit id =>
      obtain ⟨hk3, hi3⟩ := hp
      obtain ⟨r3, e3, hrun, hr3, hk4⟩ := over (some (.exit id)) W3 hk3
      exact ⟨_, _, hrun, .inr ⟨rfl, ⟨.exit id, (hIx _).putObj _ hi3 (by omega) hr3.2 rfl, by have := hr3.put r3; rw [e3] at this ⊢; exact this⟩, hk4⟩⟩
    | goto t =>
      obtain ⟨hk3, hi3⟩ := hp
      obtain ⟨r3, e3, hrun, hr3, hk4⟩ := over (some (.goto t)) W3 hk3
      exact ⟨_, _, hrun, .inr ⟨rfl, ⟨.goto t, (hIx _).putObj _ hi3 (by omega) hr3.2 rfl, by have := hr3.put r3; rw [e3] at this ⊢; exact this⟩, hk4⟩⟩
    | panic ch => exact hp.elim
    | outgrown => exact hp.elim
  · rintro e W2 ⟨⟨v, rfl⟩, (⟨xs, hS, hi, hr⟩ | ⟨pre, hSp, c, hi, hr⟩)⟩
    · exact ⟨none, _, by have := run_endLoop (P := P) hr.2 (by rw [hr0]; simp); rwa [show r0.pending = none from by rw [hr0]] at this, hdone _ xs _ (Nat.le_refl _) hS (hI.putObj _ hi (by omega) hr.2 rfl) ((World.putObj_heap_other (by omega)).trans hr.1)⟩
    · exact ⟨some c, _, run_endLoop (P := P) hr.2 (by simp), hstop _ c pre _ (Nat.le_refl _) hSp ((hIx c).putObj _ hi (by omega) hr.2 rfl) ((World.putObj_heap_other (by omega)).trans hr.1)⟩

end Go.Proofs.Ythfckpfiechloaa

namespace Go.Proofs.Ythfckpfiechloaa
open Go.RowKit Go.Shelf

theorem btw_ownLe {β : Type} {lo hi B : Nat} {W0 : World} (h : hi ≤ W0.heap.size ∧ hi ≤ B) : OwnFrom B (fun (_ : β) W => Btw lo hi W0 W) := fun _ _ _ _ hs hg hr =>
  btw_trans hs (btw_grown hg (Nat.le_trans h.1 hs.1) (fun g e => .inr (Nat.le_trans h.2 (hr g e).1)))
theorem own_isSlice {w : World} {base : Nat} {e : TypeId} {k n : Nat} {v : Value} {xs : List Value} (h : w.ownsRow base e k v n xs) : ∃ ao m cap, v = .slice ao m cap := by
  rcases own_ways h with ⟨_, ao, cap, rfl⟩ | ⟨_, g, cap, rfl, _⟩
  · exact ⟨_, _, _, rfl⟩
  · exact ⟨_, _, _, rfl⟩
theorem row_cells {w : World} {base : Nat} {e : TypeId} {k n : Nat} {v : Value} {xs : List Value} (h : w.ownsRow base e k v n xs) : ∀ j o, v.ownBlock = some j → w.heap[j]? = some o → o.isCells = true := by
  intro j o e' ho
  rcases h.2 with ⟨hv, _⟩ | ⟨g, cap, cur, hv, _, hgb, _⟩
  · rw [hv] at e'; cases e'
  · rw [hv] at e'
    simp only [Value.ownBlock, Option.some.injEq] at e'
    subst e'
    rw [hgb] at ho; cases ho; rfl
theorem ownFrom_ex {β γ : Type} {B : Nat} {I : γ → β → World → Prop} (h : ∀ v, OwnFrom B (I v)) : OwnFrom B (fun s W => ∃ v, I v s W) := fun s W W' row ⟨v, hv⟩ hg hr => ⟨v, h v s W W' row hv hg hr⟩
/-- What a body keeps that writes rows of points and slices of points alone: all cells of other types. -/
def KeepT (W W' : World) : Prop := W.heap.size ≤ W'.heap.size ∧ ∀ (b : Nat) (cs : Array Value) (t : TypeId) (tg), W.heap[b]? = some (Obj.cells cs t tg) → t ≠ 28 → t ≠ 54 → W'.heap[b]? = some (Obj.cells cs t tg)
theorem kt_trans {A B C : World} (h : KeepT A B) (k : KeepT B C) : KeepT A C := ⟨Nat.le_trans h.1 k.1, fun b cs t tg h1 h2 h3 => k.2 b cs t tg (h.2 b cs t tg h1 h2 h3) h2 h3⟩
theorem kt_grown {W W' : World} {row : Option Nat} (h : W.grownBy W' row) (hr : ∀ (r : Nat) (cs : Array Value) (t : TypeId) (tg), row = some r → W.heap[r]? = some (Obj.cells cs t tg) → t = 28 ∨ t = 54) : KeepT W W' :=
  ⟨h.size, fun b cs t tg h1 h2 h3 => (h.block b (Array.getElem?_eq_some_iff.1 h1).1 (fun e => by rcases hr b cs t tg e.symm h1 with e | e; exact h2 e; exact h3 e)).trans h1⟩
theorem kt_none {W W' : World} (h : W.grownBy W' none) : KeepT W W' := kt_grown h fun _ _ _ _ e => by cases e
theorem kt_row {w : World} {base : Nat} {k n : Nat} {v : Value} {xs : List Value} (h : w.ownsRow base 28 k v n xs) : ∀ (r : Nat) (cs : Array Value) (t : TypeId) (tg), v.ownBlock = some r → w.heap[r]? = some (Obj.cells cs t tg) → t = 28 ∨ t = 54 := by
  intro r cs t tg e ho
  rcases h.2 with ⟨hv, _⟩ | ⟨g, cap, cur, hv, _, hgb, _⟩
  · rw [hv] at e; cases e
  · rw [hv] at e
    simp only [Value.ownBlock, Option.some.injEq] at e
    subst e
    rw [hgb] at ho; cases ho; exact .inl rfl
/-- .. and the blocks from lo to hi. -/
def KeepBT (lo hi : Nat) (W W' : World) : Prop := Btw lo hi W W' ∧ KeepT W W'
theorem bt_trans {lo hi : Nat} {A B C : World} (h : KeepBT lo hi A B) (k : KeepBT lo hi B C) : KeepBT lo hi A C := ⟨btw_trans h.1 k.1, kt_trans h.2 k.2⟩
theorem bt_put {lo hi r : Nat} (hr : hi ≤ r) (W : World) (o o' : Obj) (h : W.heap[r]? = some o) (hc : o.isCells = false) : KeepBT lo hi W (W.putObj r o') :=
  ⟨btw_grown (grownBy_putObj' W r o') (by have := (Array.getElem?_eq_some_iff.1 h).1; omega) (fun g e => by cases e; exact .inr hr), kt_grown (grownBy_putObj' W r o') (fun g cs t tg e hg => by cases e; rw [h] at hg; cases hg; cases hc)⟩

end Go.Proofs.Ythfckpfiechloaa

namespace Go.Proofs.Ythfckpfiechloaa
open Go.RowKit

/-- The numbers below k that a test takes. -/
def upTo (f : Int → Bool) (k : Nat) : List Int := ((List.range k).filter fun t : Nat => f (t : Int)).map fun t : Nat => (t : Int)
theorem upTo_yes {f : Int → Bool} {k : Nat} (h : f k = true) : upTo f (k + 1) = upTo f k ++ [(k : Int)] := by simp [upTo, List.range_succ, List.filter_append, h]
theorem upTo_no {f : Int → Bool} {k : Nat} (h : f k = false) : upTo f (k + 1) = upTo f k := by simp [upTo, List.range_succ, List.filter_append, h]
theorem upTo_le (f : Int → Bool) (k : Nat) : (upTo f k).length ≤ k := by
  have := List.length_filter_le (fun t : Nat => f (t : Int)) (List.range k)
  simpa [upTo] using this
theorem infoInt1 : (Try.prog.info? 2).map (fun i => (i.zero, i.size, i.bytes)) = some (some (.int .i64 0), 1, 8) := by kernel_rfl
/-- A slice of numbers to which a number is appended. -/
theorem own_snoc {w : World} {base : Nat} {e : TypeId} {v : Value} {n m : Nat} {xs : List Int} {y : Int} (h : w.ownsRow base e 1 v n (ints xs ++ [.int .i64 y])) (hm : n = m) : w.ownsRow base e 1 v m (ints (xs ++ [y])) := by
  subst hm; rw [ints_append]; exact h
theorem own_lit0 (w : World) {base b : Nat} (e : TypeId) (k : Nat) (hb : base ≤ w.heap.size) (hq : b = w.heap.size) : (w.alloc (.cells #[] e)).ownsRow base e k (.slice (some ⟨b, 0, none⟩) 0 0) 0 (ints []) := by
  subst hq; exact World.ownsRow_lit w #[] 0 hb (by decide) (by simp)
theorem int_oneCell (y : Int) : ∀ u ∈ [Value.int .i64 y], u.oneCell' = true := by
  intro u hu; simp at hu; subst hu; rfl
end Go.Proofs.Ythfckpfiechloaa

namespace Go.Proofs.Ythfckpfiechloaa
open Go.RowKit

set_option maxRecDepth 100000 in
theorem laidOut : laidOutB Try.prog = true := by kernel_rfl
set_option maxRecDepth 100000 in
theorem ptRow : (28 : TypeId) < Try.prog.types.size := of_decide_eq_true (by kernel_rfl)
theorem ptWide : (match Try.prog.underlying 28 with | some (.array _ _) | some (.struct _) => true | _ => false) = true := by rw [Try.underlying28]
set_option maxRecDepth 100000 in
theorem ptLaw : Go.Maps.Keyed Try.prog 28 := Go.Maps.Keyed.of_law (deep_law_laid laidOut (m := 2) (by omega) ptRow (by kernel_rfl) ptWide)
set_option maxRecDepth 100000 in
theorem ptArr : Go.WideMaps.ArrKey Try.prog 28 2 2 := ⟨Try.underlying28, by kernel_rfl, by kernel_rfl, by kernel_rfl⟩
theorem pred_of {n k : Nat} (h : k < n) : ∃ m, n = m + 1 := ⟨n - 1, by omega⟩
theorem typesSome : ∃ m, Try.prog.types.size = m + 1 := pred_of ptRow
/-- A point as a key. -/
def klP (x y : Int) : Lit := .string (Go.keyBytes [.int .i64 x, .int .i64 y])
theorem wf31 {x : Int} (h : 0 ≤ x ∧ x ≤ 31) : (Lit.int .i64 x).wf = true := WalkArith.wf_i64 (by omega)
theorem keyOf_pt {x y : Int} (hx : 0 ≤ x ∧ x ≤ 31) (hy : 0 ≤ y ∧ y ≤ 31) : keyOf Try.prog 28 (.agg #[.int .i64 x, .int .i64 y]) = some (klP x y) :=
  Go.WideMaps.keyOf_pair ptArr Try.underlying2 typesSome (wf31 hx) (wf31 hy)
theorem klP_inj {x y x' y' : Int} (hx : 0 ≤ x ∧ x ≤ 31) (hy : 0 ≤ y ∧ y ≤ 31) (hx' : 0 ≤ x' ∧ x' ≤ 31) (hy' : 0 ≤ y' ∧ y' ≤ 31) (h : klP x y = klP x' y') : x = x' ∧ y = y' := by
  have := ptLaw.inj (keyOf_pt hx hy) (by rw [h]; exact keyOf_pt hx' hy')
  simpa using this
theorem klP_key {x y : Int} (hx : 0 ≤ x ∧ x ≤ 31) (hy : 0 ≤ y ∧ y ≤ 31) : WideAt.IsKeyLit (klP x y) := ptLaw.key (keyOf_pt hx hy)

end Go.Proofs.Ythfckpfiechloaa

namespace Go.Proofs.Ythfckpfiechloaa
open Go.RowKit

/-- A set of points, put in one after the other. -/
def setD (xs : List (Int × Int)) : DataW Unit := xs.foldl (fun D x => D.put (klP x.1 x.2) (.lit (.bool true))) (.map [])
theorem setD_snoc (xs : List (Int × Int)) (x : Int × Int) : setD (xs ++ [x]) = (setD xs).put (klP x.1 x.2) (.lit (.bool true)) := by simp [setD]

/-- The points of the grid that a test takes. -/
theorem row_filter (f : Int → Int → Bool) (x y : Nat) : rowL f x y = (rowL tt2 x y).filter fun z => f z.1 z.2 := by
  induction y with
  | zero => rfl
  | succ y ih =>
    rw [rowL_yes (f := tt2) rfl, List.filter_append, ← ih]
    cases h : f x y
    · rw [rowL_no h]; simp [h]
    · rw [rowL_yes h]; simp [h]
theorem grid_filter (f : Int → Int → Bool) (m x : Nat) : gridL f m x = (gridL tt2 m x).filter fun z => f z.1 z.2 := by
  induction x with
  | zero => rfl
  | succ x ih => rw [gridL_succ, gridL_succ, List.filter_append, ← ih, ← row_filter]
theorem row_mem {f : Int → Int → Bool} {x y : Nat} {z : Int × Int} (h : z ∈ rowL f x y) : z.1 = x ∧ 0 ≤ z.2 ∧ z.2 < y := by
  rw [rowL, List.mem_map] at h
  obtain ⟨b, hb, rfl⟩ := h
  have := List.mem_range.1 (List.mem_filter.1 hb).1
  exact ⟨rfl, by simp, by simpa using this⟩
theorem grid_mem {f : Int → Int → Bool} {m x : Nat} {z : Int × Int} (h : z ∈ gridL f m x) : (0 ≤ z.1 ∧ z.1 < x) ∧ 0 ≤ z.2 ∧ z.2 < m := by
  rw [gridL, List.mem_flatMap] at h
  obtain ⟨a, ha, hz⟩ := h
  have h1 := List.mem_range.1 ha
  have h2 := row_mem hz
  omega
theorem row_nodup (f : Int → Int → Bool) (x y : Nat) : (rowL f x y).Nodup := by
  induction y with
  | zero => exact List.nodup_nil
  | succ y ih =>
    cases h : f x y
    · rw [rowL_no h]; exact ih
    · rw [rowL_yes h, List.nodup_append]
      refine ⟨ih, by simp, fun a ha b hb e => ?_⟩
      have h1 := row_mem ha
      simp only [List.mem_singleton] at hb
      rw [e, hb] at h1
      simp at h1
theorem grid_nodup (f : Int → Int → Bool) (m x : Nat) : (gridL f m x).Nodup := by
  induction x with
  | zero => exact List.nodup_nil
  | succ x ih =>
    rw [gridL_succ, List.nodup_append]
    refine ⟨ih, row_nodup f x m, fun a ha b hb e => ?_⟩
    have h1 := grid_mem ha
    have h2 := row_mem hb
    rw [e] at h1; omega
theorem size_nodup (u : DataW Unit) : ∀ (xs : List Lit) (m : DataW Unit), Maps.Tidy m → (∀ x ∈ xs, WideAt.IsKeyLit x) → xs.Nodup → (∀ x ∈ xs, Maps.has m x = false) →
    Maps.size (xs.foldl (fun m x => m.put x u) m) = Maps.size m + xs.length
  | [], _, _, _, _, _ => by simp
  | x :: r, m, hm, hk, hn, hh => by
    have hn' := List.nodup_cons.1 hn
    rw [List.foldl_cons, size_nodup u r (m.put x u) (hm.put (hk x (by simp)) u) (fun y hy => hk y (by simp [hy])) hn'.2 (fun y hy => by
      rw [Maps.has_put_other (fun e => by subst e; exact hn'.1 hy)]; exact hh y (by simp [hy])), Maps.size_put hm, hh x (by simp)]
    simp; omega
theorem setD_size {xs : List (Int × Int)} (hr : ∀ z ∈ xs, (0 ≤ z.1 ∧ z.1 ≤ 31) ∧ 0 ≤ z.2 ∧ z.2 ≤ 31) (hn : xs.Nodup) : Maps.size (setD xs) = xs.length := by
  have e : setD xs = (xs.map fun z => klP z.1 z.2).foldl (fun m x => m.put x (.lit (.bool true))) (.map []) := by rw [setD, List.foldl_map]
  rw [e, size_nodup _ _ _ Maps.tidy_empty]
  · simp [Maps.size_eq]
  · intro k hk
    obtain ⟨z, hz, rfl⟩ := List.mem_map.1 hk
    exact klP_key (hr z hz).1 (hr z hz).2
  · refine List.pairwise_map.2 (List.Pairwise.imp_of_mem ?_ hn)
    intro a b ha hb hne e
    have := klP_inj (hr a ha).1 (hr a ha).2 (hr b hb).1 (hr b hb).2 e
    exact hne (Prod.ext this.1 this.2)
  · intro k _; rfl

end Go.Proofs.Ythfckpfiechloaa

namespace Go.Proofs.Ythfckpfiechloaa
open Go.RowKit

theorem flat_getD (xs : List (Int × Int)) (j : Nat) (h : j < xs.length) : (flat xs).getD (j * 2) 0 = xs[j].1 ∧ (flat xs).getD (j * 2 + 1) 0 = xs[j].2 := by
  induction xs generalizing j with
  | nil => simp at h
  | cons x xs ih =>
    cases j with
    | zero => simp [flat]
    | succ j =>
      have := ih j (by simpa using h)
      have e : flat (x :: xs) = x.1 :: x.2 :: flat xs := rfl
      rw [e, Nat.succ_mul, show j * 2 + 2 = (j * 2 + 1) + 1 from rfl, show j * 2 + 1 + 1 + 1 = ((j * 2 + 1) + 1) + 1 from rfl]
      simpa using this
theorem take_succ_at {xs : List (Int × Int)} {j : Nat} (h : j < xs.length) : xs.take (j + 1) = xs.take j ++ [xs[j]] := by
  rw [List.take_succ_eq_append_getElem h]
theorem sift_yes {f : Int × Int → Bool} {xs : List (Int × Int)} {j : Nat} (h : j < xs.length) (hf : f xs[j] = true) : (xs.take (j + 1)).filter f = (xs.take j).filter f ++ [xs[j]] := by
  rw [take_succ_at h, List.filter_append]; simp [hf]
theorem sift_no {f : Int × Int → Bool} {xs : List (Int × Int)} {j : Nat} (h : j < xs.length) (hf : f xs[j] = false) : (xs.take (j + 1)).filter f = (xs.take j).filter f := by
  rw [take_succ_at h, List.filter_append]; simp [hf]
theorem sift_le (f : Int × Int → Bool) (xs : List (Int × Int)) (j : Nat) : ((xs.take j).filter f).length ≤ xs.length := by
  have h1 := List.length_filter_le f (xs.take j)
  have h2 : (xs.take j).length ≤ xs.length := by rw [List.length_take]; omega
  omega
/-- A slice's shape: its row, where it has one. -/
theorem own_shape {w : World} {base : Nat} {e : TypeId} {k n : Nat} {v : Value} {xs : List Value} (h : w.ownsRow base e k v n xs) : ∃ ao cap, v = .slice ao n cap ∧ n ≤ 9223372036854775807 ∧ (0 < n → ∃ g, ao = some ⟨g, 0, none⟩ ∧ base ≤ g ∧ g < w.heap.size) := by
  rcases own_ways h with ⟨rfl, ao, cap, rfl⟩ | ⟨h0, g, cap, rfl, h1, h2, h3⟩
  · exact ⟨_, _, rfl, by omega, fun h => by omega⟩
  · exact ⟨_, _, rfl, h3, fun _ => ⟨g, rfl, h1, h2⟩⟩

end Go.Proofs.Ythfckpfiechloaa

namespace Go.Proofs.Ythfckpfiechloaa
open Go.RowKit

open Go.Shelf
attribute [local go_sem] Oper.semAt_some

set_option maxRecDepth 100000 in
set_option maxRecDepth 20000 in
set_option maxHeartbeats 4000000 in
theorem appendSeq_any (L : List Pt32) (N lo hi gf : Nat) (lb : Array Value) (w : World)
    (he : ∀ args w, (callFunc gf args).run Try.prog w = .ok (.enter gf args) w) (hN : N ≤ 4096) (hhi : hi ≤ w.heap.size)
    (hseq : ∀ W : World, Below w.heap.size w W → SeqOn Fence.wide 8 Try.prog gf lb (fun x : Pt32 => #[ptV (toP x)]) (KeepBT lo hi) (fun ys => ys = L) (fun pre => pre <+: L) N W) :
    Calls Try.prog 129 #[.slice none 0 0, .func (.func gf) #[] lb] w fun e w' => OnePost 28 2 (flat (L.map toP)) (L.map toP).length w e w' := by
  obtain ⟨i0, hi0, hz0, hz1, hz2⟩ := info_parts infoPt
  refine (callsIn_wide (n := 9)).1 ?_
  refine callsIn_of_wp_marks Try.func129 rfl trivial ?_ rfl
  simp only [Try.ntmps129, List.size_toArray, List.length_cons, List.length_nil, Nat.reduceAdd, Nat.reduceSub, Array.replicate_succ, Array.replicate_zero, List.push_toArray, List.append_toArray, List.nil_append, List.cons_append]
  gi_wp2_with fail
  have bS : Boxed (w.alloc (.cells #[.slice none 0 0] 54)) w.heap.size 54 (.slice none 0 0) := by
    have := Boxed.new w 54 (.slice none 0 0)
    simpa using this
  have hB0 : Below w.heap.size w (w.alloc (.cells #[.slice none 0 0] 54)) := by (repeat (first | with_reducible exact Below.refl _ _ | with_reducible refine balloc ?_ _ | with_reducible refine bdrewN ?_ _ | with_reducible refine Below.drew ?_ | with_reducible refine bthen ?_ (by with_reducible assumption) | with_reducible refine Below.setCell ?_ (by first | (simp; done) | (simp; omega)) _))
  have hsz : (w.alloc (.cells #[.slice none 0 0] 54)).heap.size = w.heap.size + 1 := by simp
  obtain ⟨Wn, hWn⟩ : ∃ Wn, Wn = (w.alloc (.cells #[.slice none 0 0] 54)) := ⟨_, rfl⟩
  rw [← hWn] at bS hB0 hsz ⊢
  clear hWn
  refine range_on rfl (by decide) (gf := gf) (lb := lb) rfl trivial he (hseq Wn hB0) bt_trans (bt_put (by omega)) (Below.refl _ _) (fun _ => rfl)
    (fun pre W => (∃ v, Boxed W w.heap.size 54 v ∧ W.ownsRow (w.heap.size + 1) 28 2 v (pre.map toP).length (ints (flat (pre.map toP)))) ∧ (Below w.heap.size w W ∧ w.heap.size + 1 ≤ W.heap.size))
    (fun _ _ _ => False)
    (OwnFrom.and (ownFrom_ex fun v => OwnFrom.and (Own.from (boxed_own _ _ _) _) (Own.from (row_own _ _ _ _ _ _) _)) (OwnFrom.and (ownFrom_below (by omega) hB0.size) (size_own _ _)))
    (fun _ _ _ _ _ hs _ _ => hs)
    ⟨⟨_, bS, World.ownsRow_nil _ _ _ _⟩, hB0, by omega⟩
    (fun x a' W => ∃ Bx, w.heap.size + 1 ≤ Bx ∧ Box2 W Bx 28 (toP x) ∧ a' = { tmps := #[.slice none 0 0, .func (.func gf) #[] lb, .pointer (some ⟨w.heap.size, 0, none⟩), undef, .slice none 0 0, .pointer (some ⟨Bx, 0, none⟩), .func (.func gf) #[] lb, .agg #[.int .i64 (x.1.val : Int), .int .i64 (x.2.val : Int)], undef, undef, undef, undef, undef], defers := [] })
    (fun x a' _ X Y row hs hg hr => by obtain ⟨Bx, h1, h2, h3⟩ := hs; exact ⟨Bx, h1, box2_own Bx Wn.heap.size 28 (toP x) () X Y row h2 hg hr, h3⟩)
    ?assign ?body ?done ?stop
  case assign =>
    rintro l pre x W K ⟨⟨v, bx, hrow⟩, hB, hs⟩ hK
    obtain ⟨⟨x1, hx1⟩, ⟨x2, hx2⟩⟩ := x
    simp only [ptV, toP]
    gi_wp2
    exact hK _ _ ((KeepsOthers.alloc _ _).from _) ⟨btw_alloc _ _ (by omega), kt_none (World.grownBy_alloc _ _ none)⟩ ⟨⟨v, bx.alloc _, hrow.alloc _⟩, hB.alloc hB.size _, by simp; omega⟩ ⟨W.heap.size, hs, box2_new W _ (toP ((⟨x1, hx1⟩, ⟨x2, hx2⟩) : Pt32)), rfl⟩
  case body =>
    rintro l pre x a' W ⟨⟨v, bx, hrow⟩, hB, hs⟩ ⟨Bx, hBx, hX, rfl⟩ hlt
    have hX1 := box2_cell1 hX
    have hX2 := box2_cell2 hX
    have hXl := World.block_lt_of_cell? W ⟨Bx, 0, none⟩ hX1
    simp only at hXl
    obtain ⟨⟨x1, hx1⟩, ⟨x2, hx2⟩⟩ := x
    simp only [toP] at hX1 hX2
    have hHF : (pre ++ [((⟨x1, hx1⟩, ⟨x2, hx2⟩) : Pt32)]).map toP = pre.map toP ++ [((x1 : Int), (x2 : Int))] := by rw [List.map_append]; rfl
    have HF := Lib.hid hHF
    clear hHF
    have hpl : (pre.map toP).length = pre.length := by simp
    have hc1 := bx.cell
    have hf1 := bx.frozen
    gi_wp2_with (gi_at_builtin; refine wpListIn_append_own _ rfl _ _ 54 rfl (w.heap.size + 1) 28 i0 _ 2 16 Try.underlying54 hi0 hz0 hz1 hz2 rfl (by decide) _ _ _ rfl (hrow.alloc _) ⟨W.heap.size, 0, none⟩ 1 1 [.int .i64 x1, .int .i64 x2] rfl rfl (pt_cells rfl) (pt_one _ _) ?c3 ?c4 ?c5 ?_)
    case c3 => unfold maxLen; omega
    case c4 => omega
    case c5 => simp; omega
    intro v' w2 hown' hgrow _
    have bx2 : Boxed w2 w.heap.size 54 v := (bx.alloc _).kept hgrow (fun e => by have := (hrow.lt _ e.symm).1; omega)
    have hc2 := bx2.cell
    have hf2 := bx2.frozen
    have hs2 := hgrow.size
    have hrl := fun g hg => (hrow.lt g hg).1
    have HRL := Lib.hid hrl
    have HKT := Lib.hid (kt_row (hrow.alloc (.cells #[.int .i64 (x1 : Int), .int .i64 (x2 : Int)] 28)))
    have HCC := Lib.hid (row_cells (hrow.alloc (.cells #[.int .i64 (x1 : Int), .int .i64 (x2 : Int)] 28)))
    clear hrl
    simp only [World.size_alloc] at hs2
    obtain ⟨ao, an, ac, rfl⟩ := own_isSlice hown'
    gi_wp2
    refine ⟨((KeepsOthers.alloc W _).from _).trans (((KeepsOthers.of_grownBy hgrow (fun j o e ho => HCC.out j o e ho)).from _).trans ((KeepsOthers.setCell _ _ _).from _)),
      ⟨btw_trans (btw_alloc W _ (by omega)) (btw_trans (btw_grown hgrow (by rw [World.size_alloc]; omega) (fun g e => .inr (by have := HRL.out _ e; omega))) (btw_setCell _ _ _ (.inr (by show hi ≤ w.heap.size; omega)))), kt_trans (kt_none (World.grownBy_alloc W _ none)) (kt_trans (kt_grown hgrow HKT.out) (kt_grown (grownBy_setCell' w2 _ _) (fun r cs t tg e hg => by cases e; rw [show w2.heap[_]? = _ from bx2] at hg; cases hg; exact .inr rfl)))⟩,
      ⟨⟨_, bx2.set _, ?_⟩, ?_, ?_⟩⟩
    · rw [HF.out, flat_append, ints_append, List.length_append, List.length_map]
      exact hown'.kept (grownBy_setCell' w2 w.heap.size _) (.inr (by intro e; have := (hown'.lt _ e).1; omega))
    · exact ((hB.alloc (by omega) _).grown hgrow (by rw [World.size_alloc]; omega) (fun g e => by have := HRL.out _ e; omega)).setCell (p := ⟨w.heap.size, 0, none⟩) (by show w.heap.size ≤ w.heap.size; omega) _
    · have : (w2.setCell ⟨w.heap.size, 0, none⟩ (.slice ao an ac)).heap.size = w2.heap.size := by simp [World.setCell]
      omega
  case done =>
    rintro D ys W hD rfl ⟨⟨v, bx, hrow⟩, hB, hs⟩ hK
    have hc := bx.cell
    gi_wp2
    refine ⟨by simp, .inl ⟨_, _, rfl, run_takeDeferred hK, ?_⟩⟩
    exact ⟨_, results_tmp rfl _ _ _, _, rfl, own_base (ownsRow_putObj hrow _ hK rfl) (by omega), hB.trans (belowK_b (w := w) (Nat.le_refl _) W D _ _ (by omega) hK rfl rfl)⟩
  case stop =>
    rintro D c pre W _ _ h _
    exact h.elim

set_option maxRecDepth 20000 in
set_option maxHeartbeats 1000000 in
theorem collect_any (L : List Pt32) (N lo hi gf : Nat) (lb : Array Value) (w : World)
    (he : ∀ args w, (callFunc gf args).run Try.prog w = .ok (.enter gf args) w) (hN : N ≤ 4096) (hhi : hi ≤ w.heap.size)
    (hseq : ∀ W : World, Below w.heap.size w W → SeqOn Fence.wide 8 Try.prog gf lb (fun x : Pt32 => #[ptV (toP x)]) (KeepBT lo hi) (fun ys => ys = L) (fun pre => pre <+: L) N W) :
    Calls Try.prog 106 #[.func (.func gf) #[] lb] w fun e w' => OnePost 28 2 (flat (L.map toP)) (L.map toP).length w e w' := by
  go_enter Try.func106, Try.ntmps106
  go_wp2_with fail
  refine Calls.mono (appendSeq_any L N lo hi gf lb _ he hN hhi hseq) ?_
  rintro e w' ⟨v, rfl, ho, hB⟩
  obtain ⟨ao, cap, hv, -, -⟩ := own_shape ho
  subst hv
  go_wp2
  (refine bodyPost_ret (v := .slice ao (L.map toP).length cap) (by simp [results, Try.results106, go_sem]) rfl ⟨_, rfl, ho, hB⟩)

end Go.Proofs.Ythfckpfiechloaa
