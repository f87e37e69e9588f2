/-
  Small texts in one: Math, BaseMath, MoveMath, Ins6Math, Slice, Btw, SeqAll, PtKey, SetMath, All7Math, MoveBet, TurnMath.
-/
import Derived.WalkKit
import Derived.Deep.QuietTactic
import Derived.BigQuiet
import Derived.StillTailTactics
import Derived.LoopN
import Derived.RangeFuncNested
import Derived.RangeFuncBound
import Derived.RangeFuncCalls
import Derived.RangeFuncLeaves
import Derived.Shelf.Abstract
import Derived.OwnWalkIn
import Derived.TacticsInMore
import Derived.LoopNIn
import Derived.LoopIn
import Derived.Test.YtibfbdgenamlkaaRows
import Derived.Lib.Hide
import Derived.Maps.Own
import Derived.Maps.OwnSet
import Derived.Maps.Views
import Derived.DeepKeys4
import Derived.WideKeyPair

namespace Go.Proofs.Ytibfbdgenamlkaa
open Go.RowKit

theorem balloc {w w1 : World} (h : Below w.heap.size w w1) (o : Obj) : Below w.heap.size w (w1.alloc o) := h.alloc h.size o
theorem bdrewN {B : Nat} {w w1 : World} (h : Below B w w1) (n : Nat) : Below B w (w1.drewN n) := ⟨h.os, h.tape, h.output, h.size, h.block⟩
/-- Two calls, one behind the other. -/
theorem bthen {w w1 w2 : World} (h : Below w.heap.size w w1) (k : Below w1.heap.size w1 w2) : Below w.heap.size w w2 := h.trans (k.mono h.size)

theorem cell_back {W w' : World} (h : Below W.heap.size W w') {b : Nat} (hb : b < W.heap.size) (j : Nat) : w'.cell? ⟨b, j, none⟩ = W.cell? ⟨b, j, none⟩ := h.cell (p := ⟨b, j, none⟩) hb

theorem bcell {W w1 : World} (hb : Below W.heap.size W w1) : (∀ b o, b < W.heap.size → w1.cell? ⟨b, o, none⟩ = W.cell? ⟨b, o, none⟩) ∧ (∀ b o, b < W.heap.size → w1.frozen? ⟨b, o, none⟩ = W.frozen? ⟨b, o, none⟩) :=
  ⟨fun b o h => hb.cell (p := ⟨b, o, none⟩) h, fun b o h => hb.frozen (p := ⟨b, o, none⟩) h⟩

theorem stillOf {P : Program} {f : FuncId} {args : Array Value} {w : World} {v : Value} (h : Calls P f args w fun e w' => e = .returned v ∧ w = w') : Calls P f args w fun e w'' => e = .returned v ∧ w'' = w :=
  Calls.mono h fun _ _ hh => ⟨hh.1, hh.2.symm⟩
theorem quietOf {P : Program} {f : FuncId} {args : Array Value} {w : World} {n : Nat} {v : Value} (h : Calls P f args (w.drewN n) fun e w' => e = .returned v ∧ w.drewN n = w') : Calls P f args (w.drewN n) fun e w'' => e = .returned v ∧ ∃ m, w'' = w.drewN m :=
  Calls.mono h fun _ _ hh => ⟨hh.1, n, hh.2.symm⟩

/-- A region that draws its order: what only reads and calls quietly, then a tail in one order. -/
theorem region_tail {P : Program} {id : Nat} {Q : Exit → Act → World → Prop} {a : Act} {w : World} {l : List Oper} (n : Nat) (hm : P.follows .mixedOrders = true) (hB : Region.lexTailB .any l.toArray n = true)
    (h : wpStill P l.toArray w.drew (fun a' => wpList P l.toArray Q (l.drop n) a' w.drew) (l.take n) a) : (Code.region id l.toArray true).wp P Q a w := wp_region_still_tail n hm hB h

theorem kalloc {W : World} {a : Addr} {v : Value} (o : Obj) (h : W.cell? a = some v) : (W.alloc o).cell? a = some v := by
  have hl : a.block < W.heap.size := World.block_lt_of_cell? W a h
  rw [← h]
  exact World.cell?_of_block (w := W) (Below.heap_alloc W o a.block hl)
theorem kcall {W W' : World} {b j : Nat} {v : Value} (hb : Below W.heap.size W W') (h : W.cell? ⟨b, j, none⟩ = some v) : W'.cell? ⟨b, j, none⟩ = some v :=
  (cell_back hb (World.block_lt_of_cell? W ⟨b, j, none⟩ h) j).trans h
theorem krealloc {W : World} {b j : Nat} {v : Value} {o o' : Obj} (hn : b ≠ W.heap.size) (h : (W.alloc o).cell? ⟨b, j, none⟩ = some v) : (W.alloc o').cell? ⟨b, j, none⟩ = some v := by
  have hl : b < (W.alloc o).heap.size := World.block_lt_of_cell? (W.alloc o) ⟨b, j, none⟩ h
  have hb : b < W.heap.size := by simp at hl; omega
  have h0 : W.cell? ⟨b, j, none⟩ = some v := (World.cell?_of_block (w := W) (a := ⟨b, j, none⟩) (Below.heap_alloc W o b hb)).symm.trans h
  exact kalloc o' h0
theorem ksame {W : World} {a : Addr} {u v : Value} (h : W.cell? a = some u) : (W.setCell a v).cell? a = some v := World.cell?_setCell_same' _ _ _ (by rw [h]; rfl)
theorem kother {W : World} {b j k : Nat} {u v : Value} (hn : j ≠ k) (h : W.cell? ⟨b, j, none⟩ = some v) : (W.setCell ⟨b, k, none⟩ u).cell? ⟨b, j, none⟩ = some v := by
  simp only [World.cell?, World.setCell, Array.getElem?_modify] at h ⊢
  simp only [if_true]
  cases hb : W.heap[b]? with
  | none => rw [hb] at h; simp at h
  | some o =>
    rw [hb] at h
    cases o <;> simp_all
    rw [Array.getElem?_setIfInBounds_ne (by omega)]; exact h
theorem kis_of {W : World} {a : Addr} {v : Value} (h : W.cell? a = some v) : (W.cell? a).isSome = true := by rw [h]; rfl
theorem kis_set {W : World} {a b : Addr} {u : Value} (h : (W.cell? a).isSome = true) : ((W.setCell b u).cell? a).isSome = true := by
  obtain ⟨v, hv⟩ := Option.isSome_iff_exists.1 h
  obtain ⟨v', h'⟩ := Go.RowKit.cell?_setCell_some (p := b) (x := u) hv
  rw [h']; rfl
theorem kis_alloc {W : World} {a : Addr} (o : Obj) (h : (W.cell? a).isSome = true) : ((W.alloc o).cell? a).isSome = true := by
  obtain ⟨v, hv⟩ := Option.isSome_iff_exists.1 h
  rw [kalloc o hv]; rfl
theorem kis_drew {W : World} {a : Addr} (h : (W.cell? a).isSome = true) : (W.drew.cell? a).isSome = true := h
theorem kis_call {W W' : World} {b j : Nat} (hb : Below W.heap.size W W') (h : (W.cell? ⟨b, j, none⟩).isSome = true) : (W'.cell? ⟨b, j, none⟩).isSome = true := by
  obtain ⟨v, hv⟩ := Option.isSome_iff_exists.1 h
  rw [kcall hb hv]; rfl
theorem ksameS {W : World} {a : Addr} {v : Value} (h : (W.cell? a).isSome = true) : (W.setCell a v).cell? a = some v := World.cell?_setCell_same' _ _ _ h
theorem kset3 {W : World} {q : Nat} {x y z u0 u1 u2 : Value} (h0 : W.cell? ⟨q, 0, none⟩ = some u0) (h1 : W.cell? ⟨q, 1, none⟩ = some u1) (h2 : W.cell? ⟨q, 2, none⟩ = some u2) :
    (((W.setCell ⟨q, 0, none⟩ x).setCell ⟨q, 1, none⟩ y).setCell ⟨q, 2, none⟩ z).cell? ⟨q, 0, none⟩ = some x ∧ (((W.setCell ⟨q, 0, none⟩ x).setCell ⟨q, 1, none⟩ y).setCell ⟨q, 2, none⟩ z).cell? ⟨q, 1, none⟩ = some y ∧
    (((W.setCell ⟨q, 0, none⟩ x).setCell ⟨q, 1, none⟩ y).setCell ⟨q, 2, none⟩ z).cell? ⟨q, 2, none⟩ = some z :=
  ⟨kother (by decide) (kother (by decide) (ksame h0)), kother (by decide) (ksame (kother (by decide) h1)), ksame (kother (by decide) (kother (by decide) h2))⟩
theorem kset2 {W : World} {q : Nat} {x y u0 u1 : Value} (h0 : W.cell? ⟨q, 0, none⟩ = some u0) (h1 : W.cell? ⟨q, 1, none⟩ = some u1) :
    ((W.setCell ⟨q, 0, none⟩ x).setCell ⟨q, 1, none⟩ y).cell? ⟨q, 0, none⟩ = some x ∧ ((W.setCell ⟨q, 0, none⟩ x).setCell ⟨q, 1, none⟩ y).cell? ⟨q, 1, none⟩ = some y :=
  ⟨kother (by decide) (ksame h0), ksame (kother (by decide) h1)⟩
theorem kfresh {W : World} {c : Array Value} {t : TypeId} {q j : Nat} {v : Value} (hq : q = W.heap.size) (hc : c[j]? = some v) : (W.alloc (.cells c t)).cell? ⟨q, j, none⟩ = some v := by
  subst hq
  have h : (W.alloc (.cells c t)).heap[W.heap.size]? = some (.cells c t) := by
    show (W.heap.push _)[W.heap.size]? = _
    simp
  simp only [World.cell?, h]
  exact hc
theorem kis_new {W : World} {c : Array Value} {t : TypeId} {q j : Nat} (hq : q = W.heap.size) (hc : (c[j]?).isSome = true) : ((W.alloc (.cells c t)).cell? ⟨q, j, none⟩).isSome = true := by
  obtain ⟨v, hv⟩ := Option.isSome_iff_exists.1 hc
  rw [kfresh hq hv]; rfl
theorem kfro {W W' : World} {b j : Nat} (hb : Below W.heap.size W W') (hl : b < W.heap.size) (h : W.frozen? ⟨b, j, none⟩ = false) : W'.frozen? ⟨b, j, none⟩ = false :=
  (hb.frozen (p := ⟨b, j, none⟩) hl).trans h
theorem fallocNew {W : World} {c : Array Value} {t : TypeId} {q j : Nat} (hq : q = W.heap.size) : (W.alloc (.cells c t)).frozen? ⟨q, j, none⟩ = false := by
  subst hq
  have h : (W.alloc (.cells c t)).heap[W.heap.size]? = some (.cells c t) := by
    show (W.heap.push _)[W.heap.size]? = _
    simp
  simp only [World.frozen?, h]
  simp
theorem falloc {W : World} {b j : Nat} {o : Obj} (hl : b < W.heap.size) (h : W.frozen? ⟨b, j, none⟩ = false) : (W.alloc o).frozen? ⟨b, j, none⟩ = false :=
  (World.frozen?_of_block (w := W) (a := ⟨b, j, none⟩) (Below.heap_alloc W o b hl)).trans h
theorem kback {W : World} {b j : Nat} {v : Value} {o : Obj} (hn : b ≠ W.heap.size) (h : (W.alloc o).cell? ⟨b, j, none⟩ = some v) : W.cell? ⟨b, j, none⟩ = some v := by
  have hl : b < (W.alloc o).heap.size := World.block_lt_of_cell? (W.alloc o) ⟨b, j, none⟩ h
  have hb : b < W.heap.size := by simp at hl; omega
  exact (World.cell?_of_block (w := W) (a := ⟨b, j, none⟩) (Below.heap_alloc W o b hb)).symm.trans h
theorem kundrew {W : World} {a : Addr} {v : Value} (h : W.drew.cell? a = some v) : W.cell? a = some v := h
theorem kdrew {W : World} {a : Addr} {v : Value} (h : W.cell? a = some v) : W.drew.cell? a = some v := h
theorem kdrewN {W : World} {a : Addr} {v : Value} {n : Nat} (h : W.cell? a = some v) : (W.drewN n).cell? a = some v := h
theorem fdrewN {W : World} {a : Addr} {n : Nat} (h : W.frozen? a = false) : (W.drewN n).frozen? a = false := h
theorem fdrew {W : World} {a : Addr} (h : W.frozen? a = false) : W.drew.frozen? a = false := h
theorem kset {W : World} {b j q k : Nat} {u v : Value} (hn : b ≠ q) (h : W.cell? ⟨b, j, none⟩ = some v) : (W.setCell ⟨q, k, none⟩ u).cell? ⟨b, j, none⟩ = some v := by
  rw [← h]
  exact World.cell?_of_block (w := W) (Below.heap_setCell W ⟨q, k, none⟩ u b hn)

/-- The ten primes. -/
def isP (p : Int) : Bool := decide (p = 3 ∨ p = 5 ∨ p = 7 ∨ p = 11 ∨ p = 13 ∨ p = 17 ∨ p = 19 ∨ p = 23 ∨ p = 29 ∨ p = 31)
/-- A number from lo to hi. -/
def inB (n lo hi : Int) : Bool := decide (lo ≤ n ∧ n ≤ hi)
theorem inB_true {n lo hi : Int} (h : lo ≤ n ∧ n ≤ hi) : inB n lo hi = true := by unfold inB; exact decide_eq_true h
theorem inB_false {n lo hi : Int} (h : ¬ (lo ≤ n ∧ n ≤ hi)) : inB n lo hi = false := by unfold inB; exact decide_eq_false h
theorem isP_iff {p : Int} : isP p = true ↔ (p = 3 ∨ p = 5 ∨ p = 7 ∨ p = 11 ∨ p = 13 ∨ p = 17 ∨ p = 19 ∨ p = 23 ∨ p = 29 ∨ p = 31) := by unfold isP; exact decide_eq_true_iff
theorem isP_range {p : Int} (h : isP p = true) : 3 ≤ p ∧ p ≤ 31 := by rw [isP_iff] at h; omega
theorem isP_none {p : Int} (h : ¬ (3 ≤ p ∧ p ≤ 31)) : isP p = false := by
  cases hh : isP p with
  | false => rfl
  | true => exact absurd (isP_range hh) h
/-- A number below 32 without a divisor from 2 on up to its root is a prime, and one with such a divisor is none. -/
theorem isP_divs_fin : ∀ p : Fin 32, ∀ d : Fin 7, 3 ≤ p.val → 2 ≤ d.val → p.val % d.val = 0 → d.val * d.val ≤ p.val → isP (p.val : Int) = false := by decide +kernel
theorem isP_nodivs_fin : ∀ p : Fin 32, ∀ k : Fin 7, 3 ≤ p.val → p.val < k.val * k.val → (∀ d : Fin 7, d.val < k.val → 2 ≤ d.val → p.val % d.val ≠ 0) → isP (p.val : Int) = true := by decide +kernel
theorem isP_divs (p d : Nat) (h : p < 32) (h3 : 3 ≤ p) (hd : d < 7) (h2 : 2 ≤ d) (hm : p % d = 0) (hq : d * d ≤ p) : isP (p : Int) = false :=
  isP_divs_fin ⟨p, h⟩ ⟨d, hd⟩ h3 h2 hm hq
theorem isP_nodivs (p k : Nat) (h : p < 32) (h3 : 3 ≤ p) (hk : k < 7) (hq : p < k * k) (hm : ∀ d, d < k → 2 ≤ d → p % d ≠ 0) : isP (p : Int) = true :=
  isP_nodivs_fin ⟨p, h⟩ ⟨k, hk⟩ h3 hq fun d hdk hd2 => hm d.val hdk hd2

end Go.Proofs.Ytibfbdgenamlkaa

namespace Go.Proofs.Ytibfbdgenamlkaa
open Go.RowKit

/-- No number before k answers yes. -/
def NoYes (f : Nat → Bool) (k : Nat) : Prop := ∀ c, c < k → f c = false
theorem NoYes.start (f : Nat → Bool) : NoYes f 0 := fun _ h => absurd h (by omega)
theorem NoYes.next {f : Nat → Bool} {k : Nat} (h : NoYes f k) (hk : f k = false) : NoYes f (k + 1) := fun c hc => by
  by_cases e : c = k
  · rw [e]; exact hk
  · exact h c (by omega)
theorem find_some {f : Nat → Bool} {n k : Nat} (h : NoYes f k) (hk : k < n) (hy : f k = true) : (List.range n).find? f = some k := by
  rw [List.find?_eq_some_iff_append]
  refine ⟨hy, List.range k, (List.range' (k + 1) (n - k - 1)), ?_, ?_⟩
  · rw [List.range_eq_range', List.range_eq_range', show (k :: List.range' (k + 1) (n - k - 1)) = List.range' k (n - k) by
      rw [show n - k = (n - k - 1) + 1 by omega, List.range'_succ]; rfl]
    have := @List.range'_append_1 0 k (n - k)
    rw [Nat.zero_add, show k + (n - k) = n by omega] at this
    exact this.symm
  · intro a ha
    have := h a (by simpa using ha)
    simp [this]
theorem find_none {f : Nat → Bool} {n k : Nat} (h : NoYes f k) (hk : n ≤ k) : (List.range n).find? f = none := by
  rw [List.find?_eq_none]
  intro x hx
  have := h x (by have := List.mem_range.1 hx; omega)
  simp [this]

/-- The inverse of m modulo n, or 0. -/
def invN (n m : Nat) : Nat := ((List.range n).find? fun b => m * b % n == 1).getD 0
/-- The inverse of a modulo p, or 0. -/
def inv (p a : Int) : Int := (invN p.toNat (a % p).toNat : Int)
theorem isP_ne {n : Nat} (h : isP (n : Int) = true) : 3 ≤ n ∧ n ≤ 31 := by have := isP_range h; omega
theorem pow_inv_fin : ∀ n : Fin 32, isP (n.val : Int) = true → ∀ m : Fin 32, m.val < n.val → m.val ^ (n.val - 2) % n.val = invN n.val m.val := by decide +kernel
theorem pow_inv {n m : Nat} (h : isP (n : Int) = true) (hm : m < n) : m ^ (n - 2) % n = invN n m :=
  have := isP_ne h
  pow_inv_fin ⟨n, by omega⟩ h ⟨m, by omega⟩ hm
theorem invN_mod (n m : Nat) : invN n (m % n) = invN n m := by
  unfold invN
  congr 2
  funext b
  rw [Nat.mod_mul_mod]
theorem inv_cast (n m : Nat) : inv (n : Int) (m : Int) = (invN n m : Int) := by
  unfold inv
  rw [show ((m : Int) % (n : Int)).toNat = m % n by omega, Int.toNat_natCast, invN_mod]
theorem invN_lt_fin : ∀ n : Fin 32, isP (n.val : Int) = true → ∀ m : Fin 32, m.val < n.val → invN n.val m.val < n.val ∧ (0 < m.val → m.val * invN n.val m.val % n.val = 1) := by decide +kernel
theorem inv_range {p : Int} (a : Int) (h : isP p = true) : 0 ≤ inv p a ∧ inv p a < p := by
  obtain ⟨n, rfl⟩ := Int.eq_ofNat_of_zero_le (by have := isP_range h; omega : 0 ≤ p)
  have h2 := isP_ne h
  have h3 : 0 ≤ a % (n : Int) := Int.emod_nonneg _ (by omega)
  have h4 : a % (n : Int) < n := Int.emod_lt_of_pos _ (by omega)
  have := (invN_lt_fin ⟨n, by omega⟩ h ⟨(a % (n : Int)).toNat, by omega⟩ (by show (a % (n : Int)).toNat < n; omega)).1
  unfold inv
  rw [Int.toNat_natCast]
  simp only at this
  omega

/-- One step of the power by squares: the exponent halves. -/
theorem pow_step_odd {n out base k r : Nat} (hk : k % 2 = 1) (h : out * base ^ k % n = r) : (out * base % n) * (base * base % n) ^ (k / 2) % n = r := by
  have e : k = k / 2 * 2 + 1 := by omega
  rw [← h, Nat.mul_mod, Nat.mod_mod, Nat.pow_mod, Nat.mod_mod, ← Nat.pow_mod, ← Nat.mul_mod]
  conv => rhs; rw [e, Nat.pow_succ, Nat.mul_comm (k / 2) 2, Nat.pow_mul, Nat.pow_two, Nat.mul_comm _ base, ← Nat.mul_assoc]
theorem pow_step_even {n out base k r : Nat} (hk : k % 2 = 0) (h : out * base ^ k % n = r) : out * (base * base % n) ^ (k / 2) % n = r := by
  have e : k = k / 2 * 2 := by omega
  rw [← h, Nat.mul_mod, Nat.pow_mod, Nat.mod_mod, ← Nat.pow_mod, ← Nat.mul_mod]
  conv => rhs; rw [e, Nat.mul_comm (k / 2) 2, Nat.pow_mul, Nat.pow_two]

/-- Whether r is a root of a. -/
def isRoot (n : Nat) (a : Int) (r : Nat) : Bool := ((r : Int) * r % n == a)
/-- The least root of a, if there is one. -/
def rootO (p a : Int) : Option Nat := (List.range p.toNat).find? (isRoot p.toNat a)
def rootV (p a : Int) : Int := ((rootO p a).getD 0 : Nat)
def rootB (p a : Int) : Bool := (rootO p a).isSome
theorem root_some {n k : Nat} {a : Int} (h : NoYes (isRoot n a) k) (hk : k < n) (hy : isRoot n a k = true) : rootV (n : Int) a = k ∧ rootB (n : Int) a = true := by
  have := find_some h hk hy
  simp [rootV, rootB, rootO, this]
theorem root_none {n k : Nat} {a : Int} (h : NoYes (isRoot n a) k) (hk : n ≤ k) : rootV (n : Int) a = 0 ∧ rootB (n : Int) a = false := by
  have := find_none h hk
  simp only [rootV, rootB, rootO, Int.toNat_natCast, this]
  exact ⟨rfl, rfl⟩

/-- Go's remainder twice is the rest. -/
theorem mod_twice (x p : Int) : (x.tmod p + p) % p = x % p := by
  rw [Int.add_emod_right]
  rw [Int.tmod_def, Int.sub_mul_emod_self_left]
theorem tmod_bounds (x p : Int) (h : 1 ≤ p) : -p < x.tmod p ∧ x.tmod p < p := by
  have h1 := Int.tmod_lt_of_pos x (by omega : 0 < p)
  have h2 := Int.lt_tmod_of_pos x (by omega : 0 < p)
  omega

end Go.Proofs.Ytibfbdgenamlkaa

namespace Go.Proofs.Ytibfbdgenamlkaa
open Go.RowKit

section
variable {n : Nat} [NeZero n]
/-- The class of a number modulo n. -/
def K (n : Nat) [NeZero n] (x : Int) : Fin n := (Lean.Grind.Ring.intCast.intCast x : Fin n)
theorem K_ext {x y : Int} : K n x = K n y ↔ x % n = y % n := Lean.Grind.IsCharP.intCast_ext_iff (α := Fin n) n
theorem K_add (x y : Int) : K n (x + y) = K n x + K n y := Lean.Grind.Ring.intCast_add x y
theorem K_mul (x y : Int) : K n (x * y) = K n x * K n y := Lean.Grind.Ring.intCast_mul x y
theorem K_sub (x y : Int) : K n (x - y) = K n x - K n y := Lean.Grind.Ring.intCast_sub x y
theorem K_neg (x : Int) : K n (-x) = -K n x := Lean.Grind.Ring.intCast_neg x
theorem K_mod (x : Int) : K n (x % n) = K n x := Lean.Grind.IsCharP.intCast_emod n x
theorem K_zero : K n 0 = 0 := Lean.Grind.Ring.intCast_zero
theorem K_one : K n 1 = 1 := Lean.Grind.Ring.intCast_one
theorem K_two : K n 2 = 2 := by rw [show (2 : Int) = 1 + 1 from rfl, K_add, K_one]; grind
theorem K_three : K n 3 = 3 := by rw [show (3 : Int) = 2 + 1 from rfl, K_add, K_two, K_one]; grind
theorem K_four : K n 4 = 4 := by rw [show (4 : Int) = 2 + 2 from rfl, K_add, K_two]; grind
theorem K_eq_zero {x : Int} : K n x = 0 ↔ x % n = 0 := by
  rw [← K_zero, K_ext, Int.zero_emod]
theorem K_self : K n n = 0 := by rw [K_eq_zero]; exact Int.emod_self
theorem K_inj {x y : Int} (hx : 0 ≤ x ∧ x < n) (hy : 0 ≤ y ∧ y < n) (h : K n x = K n y) : x = y := by
  have := K_ext.1 h
  rwa [Int.emod_eq_of_lt hx.1 hx.2, Int.emod_eq_of_lt hy.1 hy.2] at this
theorem K_small {x : Int} (hx : 0 ≤ x ∧ x < n) (h : x ≠ 0) : K n x ≠ 0 := fun e => h (by
  have := K_eq_zero.1 e
  rwa [Int.emod_eq_of_lt hx.1 hx.2] at this)
theorem K_inv (hp : isP (n : Int) = true) {y : Int} (hy : K n y ≠ 0) : K n y * K n (inv n y) = 1 := by
  have hr := isP_ne hp
  have h3 : 0 ≤ y % (n : Int) := Int.emod_nonneg _ (by omega)
  have h4 : y % (n : Int) < n := Int.emod_lt_of_pos _ (by omega)
  obtain ⟨m, hm⟩ := Int.eq_ofNat_of_zero_le h3
  have hm0 : 0 < m := by
    rcases Nat.eq_zero_or_pos m with h | h
    · exact absurd (K_eq_zero.2 (by rw [hm, h]; rfl)) hy
    · exact h
  have h5 := (invN_lt_fin ⟨n, by omega⟩ hp ⟨m, by omega⟩ (by show m < n; omega)).2 hm0
  have e : inv (n : Int) y = (invN n m : Int) := by
    unfold inv; rw [hm, Int.toNat_natCast, Int.toNat_natCast]
  rw [← K_mod y, hm, e, ← K_mul, ← K_one, K_ext, ← Int.natCast_mul, ← Int.natCast_emod]
  simp only at h5
  rw [h5, Int.emod_eq_of_lt (by omega) (by omega)]; rfl
theorem K_noz (hp : isP (n : Int) = true) {x y : Int} (h : K n x * K n y = 0) : K n x = 0 ∨ K n y = 0 := by
  by_cases hx : K n x = 0
  · exact .inl hx
  · have := K_inv hp hx
    right; grind
end
theorem neZero_of {n : Nat} (hp : isP (n : Int) = true) : NeZero n := ⟨by have := isP_ne hp; omega⟩
end Go.Proofs.Ytibfbdgenamlkaa

namespace Go.Proofs.Ytibfbdgenamlkaa
open Go.RowKit

/-- All the numbers are modulo p. -/
def numsIn (p : Int) (xs : List Int) : Bool := xs.all fun x => inB x 0 (p - 1)
/-- The code of a prime and a test. -/
def codeOf (p : Int) (b : Bool) : Int := if isP p then (if b then 0 else 2) else 1
theorem codeOf_no {p : Int} {b : Bool} (h : isP p = false) : codeOf p b = 1 := by simp [codeOf, h]
theorem codeOf_out {p : Int} {b : Bool} (h : isP p = true) (hb : b = false) : codeOf p b = 2 := by simp [codeOf, h, hb]
theorem codeOf_in {p : Int} {b : Bool} (h : isP p = true) (hb : b = true) : codeOf p b = 0 := by simp [codeOf, h, hb]

/-- The numbers before k are all in the range. -/
def UpIn (p : Int) (xs : List Int) (k : Nat) : Prop := ∀ i, i < k → inB (xs.getD i 0) 0 (p - 1) = true
theorem UpIn.start (p : Int) (xs : List Int) : UpIn p xs 0 := fun _ h => absurd h (by omega)
theorem UpIn.next {p : Int} {xs : List Int} {k : Nat} {x : Int} (h : UpIn p xs k) (hx : x = xs.getD k 0) (hin : inB x 0 (p - 1) = true) : UpIn p xs (k + 1) := fun i hi => by
  by_cases e : i = k
  · rw [e, ← hx]; exact hin
  · exact h i (by omega)
theorem UpIn.all {p : Int} {xs : List Int} {k : Nat} (h : UpIn p xs k) (hk : xs.length ≤ k) : numsIn p xs = true := by
  unfold numsIn
  rw [List.all_eq_true]
  intro x hx
  obtain ⟨i, hi, e⟩ := List.getElem_of_mem hx
  have h1 := h i (by omega)
  rw [List.getD_eq_getElem?_getD, List.getElem?_eq_getElem hi, Option.getD_some, e] at h1
  exact h1
theorem numsIn_no {p : Int} {xs : List Int} {k : Nat} {x : Int} (hk : k < xs.length) (hx : x = xs.getD k 0) (hin : inB x 0 (p - 1) = false) : numsIn p xs = false := by
  unfold numsIn
  rw [List.all_eq_false]
  refine ⟨xs[k], List.getElem_mem hk, ?_⟩
  rw [List.getD_eq_getElem?_getD, List.getElem?_eq_getElem hk, Option.getD_some] at hx
  rw [← hx, hin]; simp

/-- The cells from o on of block b hold the numbers. -/
def Cells (w : World) (b o : Nat) (xs : List Int) : Prop := ∀ i, i < xs.length → w.cell? ⟨b, o + i, none⟩ = some (.int .i64 (xs.getD i 0))

theorem cells_new (w : World) (xs : List Int) (t : TypeId) : Cells (w.alloc (.cells (xs.map (Value.int .i64)).toArray t)) w.heap.size 0 xs := by
  intro i hi
  have h : (w.alloc (.cells (xs.map (Value.int .i64)).toArray t)).heap[w.heap.size]? = some (.cells (xs.map (Value.int .i64)).toArray t) := by
    show (w.heap.push _)[w.heap.size]? = _
    simp
  simp only [World.cell?, h, Nat.zero_add]
  simp [List.getElem?_eq_getElem hi]

theorem code_cases (p : Int) (b : Bool) : (codeOf p b = 0 ∧ isP p = true ∧ b = true) ∨ codeOf p b = 1 ∨ codeOf p b = 2 := by
  unfold codeOf; cases isP p <;> cases b <;> simp
/-- A code that is no zero stays with another test behind it. -/
theorem code_and_1 {p : Int} {a b : Bool} (h : codeOf p a = 1) : codeOf p (a && b) = 1 := by
  cases hp : isP p
  · exact codeOf_no hp
  · revert h; cases a <;> simp [codeOf, hp]
theorem code_and_2 {p : Int} {a b : Bool} (h : codeOf p a = 2) : codeOf p (a && b) = 2 := by
  cases hp : isP p
  · rw [codeOf_no hp] at h; omega
  · revert h; cases a <;> simp [codeOf, hp]
/-- Which of two tests has failed. -/
theorem code_split_1 {p : Int} {a b : Bool} (h : codeOf p (a && b) = 1) : codeOf p a = 1 := by
  cases hp : isP p
  · exact codeOf_no hp
  · revert h; cases a <;> cases b <;> simp [codeOf, hp]
theorem code_split_2 {p : Int} {a b : Bool} (h : codeOf p (a && b) = 2) : (isP p = true ∧ codeOf p a = 0 ∧ a = true ∧ b = false ∧ codeOf p b = 2) ∨ codeOf p a = 2 := by
  cases hp : isP p
  · rw [codeOf_no hp] at h; omega
  · cases a
    · exact .inr (codeOf_out hp rfl)
    · cases b
      · exact .inl ⟨rfl, codeOf_in hp rfl, rfl, rfl, codeOf_out hp rfl⟩
      · simp [codeOf, hp] at h
theorem numsIn_one {p a : Int} (h : numsIn p [a] = true) : 0 ≤ a ∧ a < p := by
  simp [numsIn, inB] at h; omega

theorem numsIn2 (p a b : Int) : numsIn p [a, b] = (inB a 0 (p - 1) && inB b 0 (p - 1)) := by simp [numsIn]
theorem numsIn3 (p a b c : Int) : numsIn p [a, b, c] = (inB a 0 (p - 1) && (inB b 0 (p - 1) && inB c 0 (p - 1))) := by simp [numsIn]
theorem numsApp2 (p a b c d : Int) : numsIn p [a, b, c, d] = (numsIn p [a, b] && numsIn p [c, d]) := by simp [numsIn, Bool.and_assoc]
theorem numsApp3 (p a b c d e f : Int) : numsIn p [a, b, c, d, e, f] = (numsIn p [a, b] && (numsIn p [c, d] && numsIn p [e, f])) := by simp [numsIn, Bool.and_assoc]
theorem numsApp4 (p a b c d e f g h : Int) : numsIn p [a, b, c, d, e, f, g, h] = (numsIn p [a, b] && (numsIn p [c, d] && (numsIn p [e, f] && numsIn p [g, h]))) := by simp [numsIn, Bool.and_assoc]
/-- Three numbers are a line. -/
def leadB (a b : Int) : Bool := a == 1 || (a == 0 && b == 1)
def lineB (p a b c : Int) : Bool := leadB a b && numsIn p [a, b, c]
theorem cells_at {w : World} {b : Nat} (hb : b = w.heap.size) (xs : List Int) (t : TypeId) : Cells (w.alloc (.cells (xs.map (Value.int .i64)).toArray t)) b 0 xs := by
  subst hb; exact cells_new w xs t

end Go.Proofs.Ytibfbdgenamlkaa

namespace Go.Proofs.Ytibfbdgenamlkaa
open Go.RowKit

theorem lineB_of {p a b c : Int} (hl : leadB a b = true) (hn : numsIn p [a, b, c] = true) : lineB p a b c = true := by rw [lineB, hl, hn]; rfl
theorem lineB_no1 {p a b c : Int} (hl : leadB a b = false) : lineB p a b c = false := by rw [lineB, hl]; rfl
theorem lineB_no2 {p a b c : Int} (hn : numsIn p [a, b, c] = false) : lineB p a b c = false := by rw [lineB, hn, Bool.and_false]
theorem lineB_in {p a b c : Int} (h : lineB p a b c = true) : leadB a b = true ∧ numsIn p [a, b, c] = true := by simpa [lineB] using h

/-- The four ways of the two leading numbers. -/
theorem leadB_ways (a b : Int) : (a = 1 ∧ leadB a b = true) ∨ (a = 0 ∧ b = 1 ∧ leadB a b = true) ∨ (a = 0 ∧ (b == 1) = false ∧ leadB a b = false) ∨ ((a == 1) = false ∧ (a == 0) = false ∧ leadB a b = false) := by
  by_cases h1 : a = 1
  · exact .inl ⟨h1, by simp [leadB, h1]⟩
  · by_cases h0 : a = 0
    · by_cases hb : b = 1
      · exact .inr (.inl ⟨h0, hb, by simp [leadB, h0, hb]⟩)
      · exact .inr (.inr (.inl ⟨h0, by simpa using hb, by simp [leadB, h0, hb]⟩))
    · exact .inr (.inr (.inr ⟨by simpa using h1, by simpa using h0, by simp [leadB, h0, h1]⟩))

end Go.Proofs.Ytibfbdgenamlkaa

namespace Go.Proofs.Ytibfbdgenamlkaa
open Go.RowKit

theorem mulP {a b : Int} (ha : 0 ≤ a ∧ a ≤ 31) (hb : 0 ≤ b ∧ b ≤ 31) : 0 ≤ a * b ∧ a * b ≤ 961 :=
  ⟨Int.mul_nonneg ha.1 hb.1, by have := Int.mul_le_mul ha.2 hb.2 hb.1 (by omega); omega⟩
theorem mulB {a b : Int} (ha : -8192 ≤ a ∧ a ≤ 8192) (hb : -8192 ≤ b ∧ b ≤ 8192) : -67108864 ≤ a * b ∧ a * b ≤ 67108864 := by
  have h : (a * b).natAbs ≤ 8192 * 8192 := by rw [Int.natAbs_mul]; exact Nat.mul_le_mul (by omega) (by omega)
  omega
theorem wrapI (x : Int) (h : -1099511627776 ≤ x ∧ x ≤ 1099511627776) : IntKind.i64.wrap x = x := IntWalk.i64_in _ (by omega)
theorem modR (x : Int) {p : Int} (h : isP p = true) : 0 ≤ x % p ∧ x % p < p := by
  have := isP_range h
  exact ⟨Int.emod_nonneg _ (by omega), Int.emod_lt_of_pos _ (by omega)⟩
theorem modR31 (x : Int) {p : Int} (h : isP p = true) : 0 ≤ x % p ∧ x % p ≤ 31 := by
  have := isP_range h; have := modR x h; omega
theorem invR31 (x : Int) {p : Int} (h : isP p = true) : 0 ≤ inv p x ∧ inv p x ≤ 31 := by
  have := isP_range h; have := inv_range x h; omega
theorem nums2 {p a b : Int} (h : numsIn p [a, b] = true) : (0 ≤ a ∧ a < p) ∧ (0 ≤ b ∧ b < p) := by
  simp [numsIn, inB] at h; omega
theorem nums3 {p a b c : Int} (h : numsIn p [a, b, c] = true) : (0 ≤ a ∧ a < p) ∧ (0 ≤ b ∧ b < p) ∧ (0 ≤ c ∧ c < p) := by
  simp [numsIn, inB] at h; omega
theorem nums4 {p a b c d : Int} (h : numsIn p [a, b, c, d] = true) : (0 ≤ a ∧ a < p) ∧ (0 ≤ b ∧ b < p) ∧ (0 ≤ c ∧ c < p) ∧ (0 ≤ d ∧ d < p) := by
  simp [numsIn, inB] at h; omega
theorem nums6 {p a b c d e f : Int} (h : numsIn p [a, b, c, d, e, f] = true) : (0 ≤ a ∧ a < p) ∧ (0 ≤ b ∧ b < p) ∧ (0 ≤ c ∧ c < p) ∧ (0 ≤ d ∧ d < p) ∧ (0 ≤ e ∧ e < p) ∧ (0 ≤ f ∧ f < p) := by
  simp [numsIn, inB] at h; omega
theorem lead_ways {a b : Int} (h : leadB a b = true) : a = 1 ∨ a = 0 ∧ b = 1 := by
  simpa [leadB] using h

/-- What the first number that is not 0 is divided by. -/
def nrm (p a b : Int) : Int := if a % p = 0 then inv p b else inv p a
theorem inv_mod (p a : Int) : inv p (a % p) = inv p a := by unfold inv; rw [Int.emod_emod]
theorem nrm_mod (p a b : Int) : nrm p (a % p) (b % p) = nrm p a b := by unfold nrm; rw [Int.emod_emod, inv_mod, inv_mod]
theorem nrm_range {p : Int} (a b : Int) (h : isP p = true) : 0 ≤ nrm p a b ∧ nrm p a b ≤ 31 := by
  unfold nrm; split <;> exact invR31 _ h
/-- The numbers of the line that a, b, c make. -/
def mk1 (p a b _c : Int) : Int := a * nrm p a b % p
def mk2 (p a b _c : Int) : Int := b * nrm p a b % p
def mk3 (p a b c : Int) : Int := c * nrm p a b % p

section
variable {n : Nat} [NeZero n]
theorem K_nrm (hp : isP (n : Int) = true) {a b : Int} (h : ¬ (K n a = 0 ∧ K n b = 0)) : (K n a ≠ 0 ∧ K n a * K n (nrm n a b) = 1) ∨ (K n a = 0 ∧ K n b ≠ 0 ∧ K n b * K n (nrm n a b) = 1) := by
  unfold nrm
  by_cases ha : K n a = 0
  · have hb : K n b ≠ 0 := fun e => h ⟨ha, e⟩
    rw [if_pos (K_eq_zero.1 ha)]
    exact .inr ⟨ha, hb, K_inv hp hb⟩
  · rw [if_neg (fun e => ha (K_eq_zero.2 e))]
    exact .inl ⟨ha, K_inv hp ha⟩
/-- Numbers that are in one ratio make one line. -/
theorem mk_ratio (hp : isP (n : Int) = true) {a b c a' b' c' u : Int} (hu : K n u ≠ 0) (h : ¬ (K n a = 0 ∧ K n b = 0)) (ea : K n a' = K n u * K n a) (eb : K n b' = K n u * K n b) (ec : K n c' = K n u * K n c) :
    mk1 n a' b' c' = mk1 n a b c ∧ mk2 n a' b' c' = mk2 n a b c ∧ mk3 n a' b' c' = mk3 n a b c := by
  have hU := K_inv hp hu
  have h' : ¬ (K n a' = 0 ∧ K n b' = 0) := by
    rintro ⟨h1, h2⟩
    exact h ⟨by rw [ea] at h1; grind, by rw [eb] at h2; grind⟩
  unfold mk1 mk2 mk3
  simp only [← K_ext (n := n), K_mul]
  rw [ea, eb, ec]
  rcases K_nrm hp h with ⟨h1, h2⟩ | ⟨h1, h2, h3⟩ <;> rcases K_nrm hp h' with ⟨g1, g2⟩ | ⟨g1, g2, g3⟩
  · rw [ea] at g2
    refine ⟨?_, ?_, ?_⟩ <;> grind
  · rw [ea] at g1; exfalso; exact h1 (by grind)
  · rw [ea, h1] at g1; exfalso; exact g1 (by grind)
  · rw [eb] at g3
    refine ⟨?_, ?_, ?_⟩ <;> grind
end
/-- The numbers of the line through two points. -/
def th1 (p a1 a2 b1 b2 : Int) : Int := mk1 p (a2 - b2) (b1 - a1) (a1 * b2 - b1 * a2)
def th2 (p a1 a2 b1 b2 : Int) : Int := mk2 p (a2 - b2) (b1 - a1) (a1 * b2 - b1 * a2)
def th3 (p a1 a2 b1 b2 : Int) : Int := mk3 p (a2 - b2) (b1 - a1) (a1 * b2 - b1 * a2)
theorem thEq {p a1 a2 b1 b2 : Int} (hp : isP p = true) (ha1 : 0 ≤ a1 ∧ a1 < p) (ha2 : 0 ≤ a2 ∧ a2 < p) (hb1 : 0 ≤ b1 ∧ b1 < p) (hb2 : 0 ≤ b2 ∧ b2 < p) (hne : ¬ (a1 = b1 ∧ a2 = b2)) :
    th1 p a1 a2 b1 b2 = mk1 p ((b2 - a2) % p) (-((b1 - a1) % p) % p) (((b1 - a1) % p * a2 - (b2 - a2) % p * a1) % p) ∧
    th2 p a1 a2 b1 b2 = mk2 p ((b2 - a2) % p) (-((b1 - a1) % p) % p) (((b1 - a1) % p * a2 - (b2 - a2) % p * a1) % p) ∧
    th3 p a1 a2 b1 b2 = mk3 p ((b2 - a2) % p) (-((b1 - a1) % p) % p) (((b1 - a1) % p * a2 - (b2 - a2) % p * a1) % p) := by
  obtain ⟨n, rfl⟩ := Int.eq_ofNat_of_zero_le (by have := isP_range hp; omega : 0 ≤ p)
  haveI := neZero_of hp
  have hu : K n (-1) ≠ 0 := by
    intro e
    have h1 := K_eq_zero.1 e
    have := isP_ne hp
    rw [show ((-1 : Int) % (n : Int)) = n - 1 from by
      rw [Int.emod_eq_add_self_emod, Int.emod_eq_of_lt (by omega) (by omega)]; omega] at h1
    omega
  unfold th1 th2 th3
  refine mk_ratio hp hu ?_ ?_ ?_ ?_
  · rintro ⟨h1, h2⟩
    rw [K_mod, K_sub] at h1
    rw [K_mod, K_neg, K_mod, K_sub] at h2
    exact hne ⟨K_inj ha1 hb1 (by grind), K_inj ha2 hb2 (by grind)⟩
  all_goals
    simp only [K_mod, K_sub, K_neg, K_mul, K_one]
    grind
end Go.Proofs.Ytibfbdgenamlkaa

namespace Go.Proofs.Ytibfbdgenamlkaa
open Go.RowKit

/-- One of the three colours. -/
def colB (c : Int) : Bool := inB c 0 2
theorem colB_ways {c : Int} (h : colB c = true) : c = 0 ∨ c = 1 ∨ c = 2 := by
  unfold colB inB at h; have := of_decide_eq_true h; omega
theorem colB_range {c : Int} (h : colB c = true) : 0 ≤ c ∧ c ≤ 2 := by
  have := colB_ways h; omega
theorem code_col_T {p c : Int} {b : Bool} (h : colB c = true) : codeOf p (colB c && b) = codeOf p b := by rw [h, Bool.true_and]
theorem code_col_F {p c : Int} {b : Bool} (h : colB c = false) : codeOf p (colB c && b) = codeOf p false := by rw [h, Bool.false_and]
/-- A code of a test that is no zero: with another test beside it, it stays. -/
theorem code_col_1 {p : Int} {a b : Bool} (h : codeOf p b = 1) : codeOf p (a && b) = 1 := by
  cases hp : isP p
  · exact codeOf_no hp
  · revert h; cases b <;> simp [codeOf, hp]
theorem code_col_2 {p : Int} {a b : Bool} (h : codeOf p b = 2) : codeOf p (a && b) = 2 := by
  cases hp : isP p
  · rw [codeOf_no hp] at h; omega
  · revert h; cases b <;> simp [codeOf, hp]

end Go.Proofs.Ytibfbdgenamlkaa

namespace Go.Proofs.Ytibfbdgenamlkaa
open Go.RowKit

/-- The product of two points by a colour. -/
def prd (p c a1 a2 b1 b2 : Int) : Int := (if c = 0 then a1 * b1 + a2 * b2 else if c = 1 then a1 * b1 - a2 * b2 else a1 * b2 + a2 * b1) % p
theorem prd_0 (p a1 a2 b1 b2 : Int) : prd p 0 a1 a2 b1 b2 = (a1 * b1 + a2 * b2) % p := rfl
theorem prd_1 (p a1 a2 b1 b2 : Int) : prd p 1 a1 a2 b1 b2 = (a1 * b1 - a2 * b2) % p := rfl
theorem prd_2 (p a1 a2 b1 b2 : Int) : prd p 2 a1 a2 b1 b2 = (a1 * b2 + a2 * b1) % p := rfl
theorem prd_r (c a1 a2 b1 b2 : Int) {p : Int} (h : isP p = true) : 0 ≤ prd p c a1 a2 b1 b2 ∧ prd p c a1 a2 b1 b2 ≤ 31 := modR31 _ h
theorem prd_lt (c a1 a2 b1 b2 : Int) {p : Int} (h : isP p = true) : 0 ≤ prd p c a1 a2 b1 b2 ∧ prd p c a1 a2 b1 b2 < p := modR _ h
/-- The quadrance of two points by a colour. -/
def qdr (p c a1 a2 b1 b2 : Int) : Int := prd p c ((b1 - a1) % p) ((b2 - a2) % p) ((b1 - a1) % p) ((b2 - a2) % p)
/-- Whether two directions are perpendicular. -/
def perpB (p c l1 l2 m1 m2 : Int) : Bool := prd p c (-l2 % p) l1 (-m2 % p) m1 == 0

end Go.Proofs.Ytibfbdgenamlkaa

namespace Go.Proofs.Ytibfbdgenamlkaa
open Go.RowKit

def area (p a1 a2 b1 b2 c1 c2 : Int) : Int := ((b1 - a1) * (c2 - a2) - (b2 - a2) * (c1 - a1)) % p
theorem area_impl {p : Int} (a1 a2 b1 b2 c1 c2 : Int) (hp : isP p = true) :
    ((b1 - a1) % p * ((c2 - a2) % p) - (b2 - a2) % p * ((c1 - a1) % p)) % p = area p a1 a2 b1 b2 c1 c2 := by
  obtain ⟨n, rfl⟩ := Int.eq_ofNat_of_zero_le (by have := isP_range hp; omega : 0 ≤ p)
  haveI := neZero_of hp
  rw [area, ← K_ext]
  simp only [K_sub, K_mul, K_mod]

end Go.Proofs.Ytibfbdgenamlkaa

namespace Go.Proofs.Ytibfbdgenamlkaa
open Go.RowKit

/-- A number of the combination of two points. -/
def cmb (p a b t : Int) : Int := (a + t * (b - a)) % p
theorem cmb_spec {p : Int} (a b t : Int) (hp : isP p = true) : (a + t * ((b - a) % p) % p) % p = cmb p a b t := by
  obtain ⟨n, rfl⟩ := Int.eq_ofNat_of_zero_le (by have := isP_range hp; omega : 0 ≤ p)
  haveI := neZero_of hp
  rw [cmb, ← K_ext]
  simp only [K_add, K_sub, K_mul, K_mod]
theorem cmb_impl {p : Int} (a b t : Int) (hp : isP p = true) : (a + t * ((b - a) % p)) % p = cmb p a b t := by
  obtain ⟨n, rfl⟩ := Int.eq_ofNat_of_zero_le (by have := isP_range hp; omega : 0 ≤ p)
  haveI := neZero_of hp
  rw [cmb, ← K_ext]
  simp only [K_add, K_sub, K_mul, K_mod]
/-- A number of the midpoint of two points. -/
def mid (p a b : Int) : Int := (p + 1) / 2 * ((a + b) % p) % p
theorem half_two {p : Int} (hp : isP p = true) : 2 * ((p + 1) / 2) = p + 1 := by
  rw [isP_iff] at hp; omega
theorem mid_ring {n : Nat} [NeZero n] (A B H I : Fin n) (e : 2 * H = 1) (k : 2 * I = 1) : A + I * (B - A) = H * (A + B) := by
  have h : H = I := by
    have h1 : H * (2 * I) = I * (2 * H) := by grind
    rw [k, e] at h1
    grind
  have h2 : A = I * (2 * A) := by
    have : I * (2 * A) = A * (2 * I) := by grind
    rw [this, k]; grind
  subst h
  grind
theorem mid_impl {p : Int} (a b : Int) (hp : isP p = true) : cmb p a b (inv p 2) = mid p a b := by
  have h2 := half_two hp
  have hr := isP_range hp
  obtain ⟨n, rfl⟩ := Int.eq_ofNat_of_zero_le (by omega : 0 ≤ p)
  haveI := neZero_of hp
  obtain ⟨h, hh⟩ : ∃ h, h = ((n : Int) + 1) / 2 := ⟨_, rfl⟩
  rw [mid, cmb, ← K_ext, ← hh]
  rw [← hh] at h2
  have e := congrArg (K n) h2
  have k2 : K n 2 ≠ 0 := K_small (by omega) (by omega)
  have ki := K_inv hp k2
  rw [K_add, K_self, K_one, K_mul] at e
  simp only [K_add, K_sub, K_mul, K_mod]
  rw [K_two] at e ki
  exact mid_ring _ _ _ _ (by rw [e]; grind) ki

end Go.Proofs.Ytibfbdgenamlkaa

namespace Go.Proofs.Ytibfbdgenamlkaa
open Go.RowKit

def detM (l1 l2 m1 m2 : Int) : Int := l1 * m2 - l2 * m1
def meX (p l1 l2 l3 m1 m2 m3 : Int) : Int := (l2 * m3 - m2 * l3) * inv p (detM l1 l2 m1 m2) % p
def meY (p l1 l2 l3 m1 m2 m3 : Int) : Int := (m1 * l3 - l1 * m3) * inv p (detM l1 l2 m1 m2) % p

/-- Lines are parallel just where the determinant is 0. -/
theorem det_zero {p l1 l2 m1 m2 : Int} (hp : isP p = true) (hl : leadB l1 l2 = true) (hm : leadB m1 m2 = true) (hr : (0 ≤ l1 ∧ l1 < p) ∧ (0 ≤ l2 ∧ l2 < p)) (gr : (0 ≤ m1 ∧ m1 < p) ∧ (0 ≤ m2 ∧ m2 < p)) :
    detM l1 l2 m1 m2 % p = 0 ↔ (l1 = m1 ∧ l2 = m2) := by
  have h31 := isP_range hp
  unfold detM
  rcases lead_ways hl with rfl | ⟨rfl, rfl⟩ <;> rcases lead_ways hm with rfl | ⟨rfl, rfl⟩
  · rw [Int.one_mul, Int.mul_one]
    constructor
    · intro h
      have h1 := Int.emod_emod_of_dvd m2 (Int.dvd_refl p)
      have h2 : m2 % p = l2 % p := Int.emod_eq_emod_iff_emod_sub_eq_zero.2 h
      rw [Int.emod_eq_of_lt gr.2.1 gr.2.2, Int.emod_eq_of_lt hr.2.1 hr.2.2] at h2
      exact ⟨rfl, h2.symm⟩
    · rintro ⟨_, rfl⟩
      simp
  · rw [show (1 : Int) * 1 - l2 * 0 = 1 by simp, Int.emod_eq_of_lt (by omega) (by omega)]
    omega
  · rw [show (0 : Int) * m2 - 1 * 1 = -1 by simp]
    constructor
    · intro h
      rw [Int.emod_eq_add_self_emod, Int.emod_eq_of_lt (by omega) (by omega)] at h
      omega
    · omega
  · simp
theorem meX_impl (p l1 l2 l3 m1 m2 m3 : Int) : (l2 * m3 - m2 * l3) % p * inv p ((l1 * m2 - m1 * l2) % p) % p = meX p l1 l2 l3 m1 m2 m3 := by
  rw [meX, detM, inv_mod, Int.mul_comm m1 l2, Int.mul_emod ((l2 * m3 - m2 * l3) % p), Int.emod_emod, ← Int.mul_emod]
theorem meY_impl (p l1 l2 l3 m1 m2 m3 : Int) : (l3 * m1 - m3 * l1) % p * inv p ((l1 * m2 - m1 * l2) % p) % p = meY p l1 l2 l3 m1 m2 m3 := by
  rw [meY, detM, inv_mod, Int.mul_comm m1 l2, Int.mul_comm l3 m1, Int.mul_comm m3 l1, Int.mul_emod ((m1 * l3 - l1 * m3) % p), Int.emod_emod, ← Int.mul_emod]
theorem tmod_emod (x p : Int) : x.tmod p % p = x % p := by
  rw [Int.tmod_def, Int.sub_mul_emod_self_left]
theorem meX_spec (p l1 l2 l3 m1 m2 m3 : Int) : (l2 * m3 - m2 * l3).tmod p * inv p (detM l1 l2 m1 m2 % p) % p = meX p l1 l2 l3 m1 m2 m3 := by
  rw [meX, inv_mod, Int.mul_emod ((l2 * m3 - m2 * l3).tmod p), tmod_emod, ← Int.mul_emod]
theorem meY_spec (p l1 l2 l3 m1 m2 m3 : Int) : (m1 * l3 - l1 * m3).tmod p * inv p (detM l1 l2 m1 m2 % p) % p = meY p l1 l2 l3 m1 m2 m3 := by
  rw [meY, inv_mod, Int.mul_emod ((m1 * l3 - l1 * m3).tmod p), tmod_emod, ← Int.mul_emod]

end Go.Proofs.Ytibfbdgenamlkaa

namespace Go.Proofs.Ytibfbdgenamlkaa
open Go.RowKit

def moC0 (p l1 l2 l3 m1 m2 m3 : Int) : Int := codeOf p (lineB p l1 l2 l3 && lineB p m1 m2 m3)
def moC (p l1 l2 l3 m1 m2 m3 : Int) : Int := if moC0 p l1 l2 l3 m1 m2 m3 = 0 ∧ l1 = m1 ∧ l2 = m2 then 5 else moC0 p l1 l2 l3 m1 m2 m3
def moV (p l1 l2 l3 m1 m2 m3 x : Int) : Int := if moC0 p l1 l2 l3 m1 m2 m3 = 0 ∧ ¬ (l1 = m1 ∧ l2 = m2) then x else 0
def moV1 (p l1 l2 l3 m1 m2 m3 : Int) : Int := moV p l1 l2 l3 m1 m2 m3 (meX p l1 l2 l3 m1 m2 m3)
def moV2 (p l1 l2 l3 m1 m2 m3 : Int) : Int := moV p l1 l2 l3 m1 m2 m3 (meY p l1 l2 l3 m1 m2 m3)
abbrev moR (p l1 l2 l3 m1 m2 m3 : Int) : Value := .tuple #[.agg #[.int .i64 (moV1 p l1 l2 l3 m1 m2 m3), .int .i64 (moV2 p l1 l2 l3 m1 m2 m3)], .int .i64 (moC p l1 l2 l3 m1 m2 m3)]
theorem mo_err {p l1 l2 l3 m1 m2 m3 k : Int} (h : codeOf p (lineB p l1 l2 l3 && lineB p m1 m2 m3) = k) (hk : k ≠ 0) : moV1 p l1 l2 l3 m1 m2 m3 = 0 ∧ moV2 p l1 l2 l3 m1 m2 m3 = 0 ∧ moC p l1 l2 l3 m1 m2 m3 = k := by
  have h' : moC0 p l1 l2 l3 m1 m2 m3 = k := h
  simp [moV1, moV2, moV, moC, h', hk]
theorem mo_par {p l1 l2 l3 m1 m2 m3 : Int} (h : codeOf p (lineB p l1 l2 l3 && lineB p m1 m2 m3) = 0) (e : l1 = m1 ∧ l2 = m2) : moV1 p l1 l2 l3 m1 m2 m3 = 0 ∧ moV2 p l1 l2 l3 m1 m2 m3 = 0 ∧ moC p l1 l2 l3 m1 m2 m3 = 5 := by
  obtain ⟨rfl, rfl⟩ := e
  have h' : moC0 p l1 l2 l3 l1 l2 m3 = 0 := h
  simp [moV1, moV2, moV, moC, h']
theorem mo_good {p l1 l2 l3 m1 m2 m3 : Int} (h : codeOf p (lineB p l1 l2 l3 && lineB p m1 m2 m3) = 0) (e : ¬ (l1 = m1 ∧ l2 = m2)) : moV1 p l1 l2 l3 m1 m2 m3 = meX p l1 l2 l3 m1 m2 m3 ∧ moV2 p l1 l2 l3 m1 m2 m3 = meY p l1 l2 l3 m1 m2 m3 ∧ moC p l1 l2 l3 m1 m2 m3 = 0 := by
  have h' : moC0 p l1 l2 l3 m1 m2 m3 = 0 := h
  have g : moC0 p l1 l2 l3 m1 m2 m3 = 0 ∧ ¬ (l1 = m1 ∧ l2 = m2) := ⟨h', e⟩
  have f : ¬ (moC0 p l1 l2 l3 m1 m2 m3 = 0 ∧ l1 = m1 ∧ l2 = m2) := fun hh => e hh.2
  rw [moV1, moV2, moV, moV, moC, if_pos g, if_pos g, if_neg f, h']
  exact ⟨rfl, rfl, rfl⟩

end Go.Proofs.Ytibfbdgenamlkaa

namespace Go.Proofs.Ytibfbdgenamlkaa
open Go.RowKit

/-- The two numbers with which the product with a direction is made. -/
def uOf (c d1 d2 : Int) : Int := if c = 2 then d2 else d1
def vOf (p c d1 d2 : Int) : Int := if c = 1 then -d2 % p else if c = 2 then d1 else d2
/-- The line through a point whose points have one product with a direction. -/
def tw (p c d1 d2 a1 a2 : Int) : Int := -(uOf c d1 d2 * a1 + vOf p c d1 d2 * a2) % p
def tl1 (p c d1 d2 a1 a2 : Int) : Int := mk1 p (uOf c d1 d2) (vOf p c d1 d2) (tw p c d1 d2 a1 a2)
def tl2 (p c d1 d2 a1 a2 : Int) : Int := mk2 p (uOf c d1 d2) (vOf p c d1 d2) (tw p c d1 d2 a1 a2)
def tl3 (p c d1 d2 a1 a2 : Int) : Int := mk3 p (uOf c d1 d2) (vOf p c d1 d2) (tw p c d1 d2 a1 a2)
theorem uv_r {p c d1 d2 : Int} (hp : isP p = true) (h1 : 0 ≤ d1 ∧ d1 < p) (h2 : 0 ≤ d2 ∧ d2 < p) : (0 ≤ uOf c d1 d2 ∧ uOf c d1 d2 < p) ∧ (0 ≤ vOf p c d1 d2 ∧ vOf p c d1 d2 < p) := by
  have := modR (-d2) hp
  unfold uOf vOf
  constructor
  · split <;> assumption
  · split
    · assumption
    · split <;> assumption
/-- What the program takes for the same. -/
theorem tl_impl {p c d1 d2 a1 a2 : Int} (hp : isP p = true) (hc : colB c = true) (h1 : 0 ≤ d1 ∧ d1 < p) (h2 : 0 ≤ d2 ∧ d2 < p) :
    prd p c d1 d2 1 0 = uOf c d1 d2 ∧ prd p c d1 d2 0 1 = vOf p c d1 d2 ∧ -(prd p c d1 d2 a1 a2) % p = tw p c d1 d2 a1 a2 := by
  have e1 : d1 % p = d1 := Int.emod_eq_of_lt h1.1 h1.2
  have e2 : d2 % p = d2 := Int.emod_eq_of_lt h2.1 h2.2
  obtain ⟨n, rfl⟩ := Int.eq_ofNat_of_zero_le (by have := isP_range hp; omega : 0 ≤ p)
  haveI := neZero_of hp
  rcases colB_ways hc with rfl | rfl | rfl
  · refine ⟨by simp [prd, uOf, e1], by simp [prd, vOf, e2], ?_⟩
    rw [tw, prd_0, ← K_ext]
    simp only [uOf, vOf, K_neg, K_mod, K_add, K_mul]
    simp
  · refine ⟨by simp [prd, uOf, e1], by simp [prd, vOf], ?_⟩
    rw [tw, prd_1, ← K_ext]
    simp only [uOf, vOf, if_true]
    rw [if_neg (by decide)]
    simp only [K_neg, K_mod, K_sub, K_add, K_mul]
    grind
  · refine ⟨by simp [prd, uOf, e2], by simp [prd, vOf, e1], ?_⟩
    rw [tw, prd_2, ← K_ext]
    simp only [uOf, vOf, K_neg, K_mod, K_add, K_mul]
    simp
    grind
/-- The perpendicular line through a point. -/
def pt1 (p c l1 l2 a1 a2 : Int) : Int := tl1 p c (-l2 % p) l1 a1 a2
def pt2 (p c l1 l2 a1 a2 : Int) : Int := tl2 p c (-l2 % p) l1 a1 a2
def pt3 (p c l1 l2 a1 a2 : Int) : Int := tl3 p c (-l2 % p) l1 a1 a2

end Go.Proofs.Ytibfbdgenamlkaa

namespace Go.Proofs.Ytibfbdgenamlkaa
open Go.RowKit

section
variable {n : Nat} [NeZero n]
theorem K_one_ne (hp : isP (n : Int) = true) : K n 1 ≠ 0 := K_small (by have := isP_range hp; omega) (by omega)
theorem mk_line (hp : isP (n : Int) = true) {a b : Int} (c : Int) (h : ¬ (K n a = 0 ∧ K n b = 0)) : lineB n (mk1 n a b c) (mk2 n a b c) (mk3 n a b c) = true := by
  have hr := isP_range hp
  have r1 := modR (a * nrm n a b) hp
  have r2 := modR (b * nrm n a b) hp
  have r3 := modR (c * nrm n a b) hp
  refine lineB_of ?_ ?_
  · rcases K_nrm hp h with ⟨_, h2⟩ | ⟨h1, _, h3⟩
    · have e : mk1 n a b c = 1 := K_inj (n := n) r1 (by omega) (by rw [mk1, K_mod, K_mul, h2, K_one])
      simp [leadB, e]
    · have e1 : mk1 n a b c = 0 := K_inj (n := n) r1 (by omega) (by rw [mk1, K_mod, K_mul, h1, K_zero]; grind)
      have e2 : mk2 n a b c = 1 := K_inj (n := n) r2 (by omega) (by rw [mk2, K_mod, K_mul, h3, K_one])
      simp [leadB, e1, e2]
  · rw [numsIn3, inB_true (by rw [mk1]; omega), inB_true (by rw [mk2]; omega), inB_true (by rw [mk3]; omega)]
    rfl
theorem uv_key {c l1 l2 : Int} (hc : colB c = true) (h : K n (uOf c (-l2 % n) l1) = 0 ∧ K n (vOf n c (-l2 % n) l1) = 0) : K n l1 = 0 ∧ K n l2 = 0 := by
  obtain ⟨h1, h2⟩ := h
  rcases colB_ways hc with rfl | rfl | rfl
  · rw [show uOf 0 (-l2 % (n : Int)) l1 = -l2 % n from rfl, K_mod, K_neg] at h1
    rw [show vOf n 0 (-l2 % (n : Int)) l1 = l1 from rfl] at h2
    exact ⟨h2, by grind⟩
  · rw [show uOf 1 (-l2 % (n : Int)) l1 = -l2 % n from rfl, K_mod, K_neg] at h1
    rw [show vOf n 1 (-l2 % (n : Int)) l1 = -l1 % n from rfl, K_mod, K_neg] at h2
    exact ⟨by grind, by grind⟩
  · rw [show uOf 2 (-l2 % (n : Int)) l1 = l1 from rfl] at h1
    rw [show vOf n 2 (-l2 % (n : Int)) l1 = -l2 % n from rfl, K_mod, K_neg] at h2
    exact ⟨h1, by grind⟩
theorem uv_nz (hp : isP (n : Int) = true) {c l1 l2 : Int} (hc : colB c = true) (hl : leadB l1 l2 = true) : ¬ (K n (uOf c (-l2 % n) l1) = 0 ∧ K n (vOf n c (-l2 % n) l1) = 0) := fun h => by
  have hk := uv_key hc h
  rcases lead_ways hl with rfl | ⟨_, rfl⟩
  · exact K_one_ne hp hk.1
  · exact K_one_ne hp hk.2
theorem uv_prd {c l1 l2 : Int} (hc : colB c = true) : K n l1 * K n (vOf n c (-l2 % n) l1) - K n l2 * K n (uOf c (-l2 % n) l1) = K n (prd n c (-l2 % n) l1 (-l2 % n) l1) := by
  rcases colB_ways hc with rfl | rfl | rfl
  · rw [show uOf 0 (-l2 % (n : Int)) l1 = -l2 % n from rfl, show vOf n 0 (-l2 % (n : Int)) l1 = l1 from rfl, prd_0]
    simp only [K_mod, K_neg, K_add, K_mul]; grind
  · rw [show uOf 1 (-l2 % (n : Int)) l1 = -l2 % n from rfl, show vOf n 1 (-l2 % (n : Int)) l1 = -l1 % n from rfl, prd_1]
    simp only [K_mod, K_neg, K_sub, K_mul]; grind
  · rw [show uOf 2 (-l2 % (n : Int)) l1 = l1 from rfl, show vOf n 2 (-l2 % (n : Int)) l1 = -l2 % n from rfl, prd_2]
    simp only [K_mod, K_neg, K_add, K_mul]; grind
theorem det_pt (hp : isP (n : Int) = true) {c l1 l2 a1 a2 : Int} (hc : colB c = true) (hl : leadB l1 l2 = true) : detM l1 l2 (pt1 n c l1 l2 a1 a2) (pt2 n c l1 l2 a1 a2) % n = 0 ↔ perpB n c l1 l2 l1 l2 = true := by
  have hnz := uv_nz hp hc hl
  have hN : K n (nrm n (uOf c (-l2 % n) l1) (vOf n c (-l2 % n) l1)) ≠ 0 := fun e => by
    rcases K_nrm hp hnz with ⟨_, h2⟩ | ⟨_, _, h2⟩ <;>
      exact K_one_ne hp (by rw [K_one, ← h2, e]; grind)
  have e : K n (detM l1 l2 (pt1 n c l1 l2 a1 a2) (pt2 n c l1 l2 a1 a2)) = K n (nrm n (uOf c (-l2 % n) l1) (vOf n c (-l2 % n) l1)) * K n (prd n c (-l2 % n) l1 (-l2 % n) l1) := by
    rw [← uv_prd hc, detM, pt1, pt2, tl1, tl2, mk1, mk2]
    simp only [K_sub, K_mul, K_mod]
    grind
  rw [← K_eq_zero, e, perpB, beq_iff_eq]
  have hb := prd_lt c (-l2 % n) l1 (-l2 % n) l1 hp
  constructor
  · intro h
    rw [← K_mul] at h
    rcases K_noz hp (x := nrm n (uOf c (-l2 % n) l1) (vOf n c (-l2 % n) l1)) (y := prd n c (-l2 % n) l1 (-l2 % n) l1) (by rw [← K_mul]; exact h) with h1 | h1
    · exact absurd h1 hN
    · rcases Int.lt_or_eq_of_le hb.1 with h2 | h2
      · exact absurd h1 (K_small hb (by omega))
      · exact h2.symm
  · intro h; rw [h, K_zero]; grind
end
theorem pt_line {p c l1 l2 : Int} (a1 a2 : Int) (hp : isP p = true) (hc : colB c = true) (hl : leadB l1 l2 = true) : lineB p (pt1 p c l1 l2 a1 a2) (pt2 p c l1 l2 a1 a2) (pt3 p c l1 l2 a1 a2) = true := by
  obtain ⟨n, rfl⟩ := Int.eq_ofNat_of_zero_le (by have := isP_range hp; omega : 0 ≤ p)
  haveI := neZero_of hp
  exact mk_line hp _ (uv_nz hp hc hl)
theorem pt_det {p c l1 l2 : Int} (a1 a2 : Int) (hp : isP p = true) (hc : colB c = true) (hl : leadB l1 l2 = true) : detM l1 l2 (pt1 p c l1 l2 a1 a2) (pt2 p c l1 l2 a1 a2) % p = 0 ↔ perpB p c l1 l2 l1 l2 = true := by
  obtain ⟨n, rfl⟩ := Int.eq_ofNat_of_zero_le (by have := isP_range hp; omega : 0 ≤ p)
  haveI := neZero_of hp
  exact det_pt hp hc hl
theorem pt_same {p c l1 l2 l3 : Int} (a1 a2 : Int) (hp : isP p = true) (hc : colB c = true) (hb : lineB p l1 l2 l3 = true) : (l1 = pt1 p c l1 l2 a1 a2 ∧ l2 = pt2 p c l1 l2 a1 a2) ↔ perpB p c l1 l2 l1 l2 = true := by
  have hl := lineB_in hb
  have hm := lineB_in (pt_line (l1 := l1) (l2 := l2) a1 a2 hp hc hl.1)
  have n1 := nums3 hl.2
  have n2 := nums3 hm.2
  rw [← pt_det a1 a2 hp hc hl.1]
  exact (det_zero hp hl.1 hm.1 ⟨n1.1, n1.2.1⟩ ⟨n2.1, n2.2.1⟩).symm

end Go.Proofs.Ytibfbdgenamlkaa

namespace Go.Proofs.Ytibfbdgenamlkaa
open Go.RowKit

section
variable {p : Int}
theorem tl1_r (c d1 d2 a1 a2 : Int) (h : isP p = true) : 0 ≤ tl1 p c d1 d2 a1 a2 ∧ tl1 p c d1 d2 a1 a2 < p := modR _ h
theorem pt1_r (c l1 l2 a1 a2 : Int) (h : isP p = true) : 0 ≤ pt1 p c l1 l2 a1 a2 ∧ pt1 p c l1 l2 a1 a2 < p := modR _ h
theorem tl2_r (c d1 d2 a1 a2 : Int) (h : isP p = true) : 0 ≤ tl2 p c d1 d2 a1 a2 ∧ tl2 p c d1 d2 a1 a2 < p := modR _ h
theorem pt2_r (c l1 l2 a1 a2 : Int) (h : isP p = true) : 0 ≤ pt2 p c l1 l2 a1 a2 ∧ pt2 p c l1 l2 a1 a2 < p := modR _ h
theorem tl3_r (c d1 d2 a1 a2 : Int) (h : isP p = true) : 0 ≤ tl3 p c d1 d2 a1 a2 ∧ tl3 p c d1 d2 a1 a2 < p := modR _ h
theorem pt3_r (c l1 l2 a1 a2 : Int) (h : isP p = true) : 0 ≤ pt3 p c l1 l2 a1 a2 ∧ pt3 p c l1 l2 a1 a2 < p := modR _ h
end

end Go.Proofs.Ytibfbdgenamlkaa

namespace Go.Proofs.Ytibfbdgenamlkaa
open Go.RowKit

theorem bool_ways (b : Bool) : b = false ∨ b = true := by cases b <;> simp

theorem mulNN (A B C : Int) (hC : C = A * B) {a b : Int} (ha : 0 ≤ a ∧ a ≤ A) (hb : 0 ≤ b ∧ b ≤ B) : 0 ≤ a * b ∧ a * b ≤ C :=
  ⟨Int.mul_nonneg ha.1 hb.1, by have h := Int.mul_le_mul ha.2 hb.2 hb.1 (by omega : 0 ≤ A); omega⟩
theorem mulSS (A B C : Int) (hC : C = A * B) (hA : 0 ≤ A) {a b : Int} (ha : -A ≤ a ∧ a ≤ A) (hb : -B ≤ b ∧ b ≤ B) : -C ≤ a * b ∧ a * b ≤ C := by
  have h : (a * b).natAbs ≤ A.natAbs * B.natAbs := by rw [Int.natAbs_mul]; exact Nat.mul_le_mul (by omega) (by omega)
  have e : C.natAbs = A.natAbs * B.natAbs := by rw [hC, Int.natAbs_mul]
  have hB : 0 ≤ B := by omega
  have hc : 0 ≤ C := by rw [hC]; exact Int.mul_nonneg hA hB
  omega

theorem mulSq (A C : Int) (hC : C = A * A) {a : Int} (ha : -A ≤ a ∧ a ≤ A) : 0 ≤ a * a ∧ a * a ≤ C := by
  rcases Int.le_total 0 a with h | h
  · have h2 := Int.mul_le_mul ha.2 ha.2 h (by omega : 0 ≤ A)
    exact ⟨Int.mul_nonneg h h, by omega⟩
  · have h2 := Int.mul_le_mul (by omega : -a ≤ A) (by omega : -a ≤ A) (by omega : 0 ≤ -a) (by omega : 0 ≤ A)
    have h3 := Int.mul_nonneg (by omega : 0 ≤ -a) (by omega : 0 ≤ -a)
    rw [Int.neg_mul_neg] at h2 h3
    exact ⟨h3, by omega⟩

theorem fset {W : World} {a b : Addr} {v : Value} (h : W.frozen? b = false) : (W.setCell a v).frozen? b = false := by rw [World.frozen?_setCell]; exact h

theorem area_r (a1 a2 b1 b2 c1 c2 : Int) {p : Int} (h : isP p = true) : 0 ≤ area p a1 a2 b1 b2 c1 c2 ∧ area p a1 a2 b1 b2 c1 c2 < p := modR _ h

end Go.Proofs.Ytibfbdgenamlkaa

namespace Go.Proofs.Ytibfbdgenamlkaa
open Go.RowKit

/-- The product of two points by a colour, its rest not yet taken. -/
def rawp (c a1 a2 b1 b2 : Int) : Int := if c = 0 then a1 * b1 + a2 * b2 else if c = 1 then a1 * b1 - a2 * b2 else a1 * b2 + a2 * b1
theorem prd_raw (p c a1 a2 b1 b2 : Int) : prd p c a1 a2 b1 b2 = rawp c a1 a2 b1 b2 % p := rfl
theorem rawp_r {c a1 a2 b1 b2 : Int} (ha1 : 0 ≤ a1 ∧ a1 ≤ 31) (ha2 : 0 ≤ a2 ∧ a2 ≤ 31) (hb1 : 0 ≤ b1 ∧ b1 ≤ 31) (hb2 : 0 ≤ b2 ∧ b2 ≤ 31) : -961 ≤ rawp c a1 a2 b1 b2 ∧ rawp c a1 a2 b1 b2 ≤ 1922 := by
  have m1 := mulP ha1 hb1
  have m2 := mulP ha2 hb2
  have m3 := mulP ha1 hb2
  have m4 := mulP ha2 hb1
  unfold rawp
  split
  · omega
  · split <;> omega
/-- A line is null by a colour. -/
def nullB (p c l1 l2 : Int) : Bool := prd p c (-l2 % p) l1 (-l2 % p) l1 == 0
/-- The product of two lines' directions, the cross, the spread. -/
def crD (p c l1 l2 m1 m2 : Int) : Int := prd p c (-l2 % p) l1 (-m2 % p) m1
def crO (p c l1 l2 m1 m2 : Int) : Int := crD p c l1 l2 m1 m2 * crD p c l1 l2 m1 m2 % p * inv p (prd p c (-l2 % p) l1 (-l2 % p) l1 * prd p c (-m2 % p) m1 (-m2 % p) m1) % p
def crT (p c l1 l2 m1 m2 : Int) : Int := if (nullB p c l1 l2 || nullB p c m1 m2) = true then 5 else 0
def crV (p c l1 l2 m1 m2 : Int) : Int := if (nullB p c l1 l2 || nullB p c m1 m2) = true then 0 else crO p c l1 l2 m1 m2
def spO (p c l1 l2 m1 m2 : Int) : Int := (1 - crO p c l1 l2 m1 m2) % p
def spV (p c l1 l2 m1 m2 : Int) : Int := if (nullB p c l1 l2 || nullB p c m1 m2) = true then 0 else spO p c l1 l2 m1 m2
def twO (p c l1 l2 m1 m2 : Int) : Int := (1 - crO p c l1 l2 m1 m2) % p * inv p (crO p c l1 l2 m1 m2) % p
theorem crO_r {p : Int} (c l1 l2 m1 m2 : Int) (h : isP p = true) : 0 ≤ crO p c l1 l2 m1 m2 ∧ crO p c l1 l2 m1 m2 < p := modR _ h
theorem spO_r {p : Int} (c l1 l2 m1 m2 : Int) (h : isP p = true) : 0 ≤ spO p c l1 l2 m1 m2 ∧ spO p c l1 l2 m1 m2 < p := modR _ h
/-- What the program takes for a cross: its test, its number. -/
theorem mul_zero_iff {p x y : Int} (hp : isP p = true) : (x * y % p == 0) = (x % p == 0 || y % p == 0) := by
  have hr := isP_range hp
  obtain ⟨n, rfl⟩ := Int.eq_ofNat_of_zero_le (by omega : 0 ≤ p)
  haveI := neZero_of hp
  rw [Bool.eq_iff_iff]
  simp only [Bool.or_eq_true, beq_iff_eq]
  constructor
  · intro h
    have h1 : K n x * K n y = 0 := by rw [← K_mul]; exact K_eq_zero.2 h
    rcases K_noz hp h1 with h2 | h2
    · exact .inl (K_eq_zero.1 h2)
    · exact .inr (K_eq_zero.1 h2)
  · rintro (h | h)
    · rw [Int.mul_emod, h, Int.zero_mul, Int.zero_emod]
    · rw [Int.mul_emod, h, Int.mul_zero, Int.zero_emod]
theorem quad_null {p : Int} (c l1 l2 m1 m2 : Int) (hp : isP p = true) : ((rawp c (-l2 % p) l1 (-l2 % p) l1 * rawp c (-m2 % p) m1 (-m2 % p) m1) % p == 0) = (nullB p c l1 l2 || nullB p c m1 m2) := by
  rw [mul_zero_iff hp]; rfl
theorem cross_bad {p c l1 l2 m1 m2 : Int} (hp : isP p = true) (h : ((rawp c (-l2 % p) l1 (-l2 % p) l1 * rawp c (-m2 % p) m1 (-m2 % p) m1) % p == 0) = true) :
    crV p c l1 l2 m1 m2 = 0 ∧ crT p c l1 l2 m1 m2 = 5 := by
  rw [quad_null _ _ _ _ _ hp] at h
  simp [crV, crT, h]
theorem cross_good {p c l1 l2 m1 m2 : Int} (hp : isP p = true) (h : ((rawp c (-l2 % p) l1 (-l2 % p) l1 * rawp c (-m2 % p) m1 (-m2 % p) m1) % p == 0) = false) :
    crV p c l1 l2 m1 m2 = rawp c (-l2 % p) l1 (-m2 % p) m1 * rawp c (-l2 % p) l1 (-m2 % p) m1 * inv p ((rawp c (-l2 % p) l1 (-l2 % p) l1 * rawp c (-m2 % p) m1 (-m2 % p) m1) % p) % p ∧ crT p c l1 l2 m1 m2 = 0 := by
  rw [quad_null _ _ _ _ _ hp] at h
  refine ⟨?_, by simp [crT, h]⟩
  have e : crV p c l1 l2 m1 m2 = crO p c l1 l2 m1 m2 := by simp [crV, h]
  have hi : inv p (prd p c (-l2 % p) l1 (-l2 % p) l1 * prd p c (-m2 % p) m1 (-m2 % p) m1) = inv p ((rawp c (-l2 % p) l1 (-l2 % p) l1 * rawp c (-m2 % p) m1 (-m2 % p) m1) % p) := by
    rw [← inv_mod]; congr 1; rw [prd_raw, prd_raw, ← Int.mul_emod]
  rw [e, crO, hi, crD, prd_raw]
  rw [← Int.mul_emod, Int.mul_emod (rawp c (-l2 % p) l1 (-m2 % p) m1 * rawp c (-l2 % p) l1 (-m2 % p) m1 % p), Int.emod_emod, ← Int.mul_emod]
/-- Triple spreads. -/
def tripB (p r s t : Int) : Bool := ((r + s + t) * (r + s + t) - 2 * (r * r + s * s + t * t) - 4 * r * s * t) % p == 0

end Go.Proofs.Ytibfbdgenamlkaa

namespace Go.Proofs.Ytibfbdgenamlkaa
open Go.RowKit

/-- The spread at a of b and c. -/
def atD (p col a1 a2 b1 b2 c1 c2 : Int) : Int := prd p col ((b1 - a1) % p) ((b2 - a2) % p) ((c1 - a1) % p) ((c2 - a2) % p)
def atO (p col a1 a2 b1 b2 c1 c2 : Int) : Int := (1 - atD p col a1 a2 b1 b2 c1 c2 * atD p col a1 a2 b1 b2 c1 c2 % p * inv p (qdr p col a1 a2 b1 b2 * qdr p col a1 a2 c1 c2)) % p
def atT (p col a1 a2 b1 b2 c1 c2 : Int) : Int := if (qdr p col a1 a2 b1 b2 == 0 || qdr p col a1 a2 c1 c2 == 0) = true then 5 else 0
theorem atO_r {p : Int} (col a1 a2 b1 b2 c1 c2 : Int) (h : isP p = true) : 0 ≤ atO p col a1 a2 b1 b2 c1 c2 ∧ atO p col a1 a2 b1 b2 c1 c2 < p := modR _ h
theorem qdr_r {p : Int} (c a1 a2 b1 b2 : Int) (h : isP p = true) : 0 ≤ qdr p c a1 a2 b1 b2 ∧ qdr p c a1 a2 b1 b2 < p := modR _ h
theorem ne_of {a b c d : Int} (h : (a == c && b == d) = false) : ¬ (a = c ∧ b = d) := by
  rintro ⟨rfl, rfl⟩; simp at h

section
variable {n : Nat} [NeZero n]
/-- Products go with factors. -/
theorem K_raw {c : Int} (hc : colB c = true) {x1 x2 y1 y2 u1 u2 v1 v2 l m : Int} (e1 : K n x1 = K n l * K n u1) (e2 : K n x2 = K n l * K n u2) (f1 : K n y1 = K n m * K n v1) (f2 : K n y2 = K n m * K n v2) :
    K n (rawp c x1 x2 y1 y2) = K n l * K n m * K n (rawp c u1 u2 v1 v2) := by
  rcases colB_ways hc with rfl | rfl | rfl
  · show K n (x1 * y1 + x2 * y2) = K n l * K n m * K n (u1 * v1 + u2 * v2)
    simp only [K_add, K_mul, e1, e2, f1, f2]; grind
  · show K n (x1 * y1 - x2 * y2) = K n l * K n m * K n (u1 * v1 - u2 * v2)
    simp only [K_sub, K_mul, e1, e2, f1, f2]; grind
  · show K n (x1 * y2 + x2 * y1) = K n l * K n m * K n (u1 * v2 + u2 * v1)
    simp only [K_add, K_mul, e1, e2, f1, f2]; grind
/-- The direction of the line through two points. -/
theorem K_dir (hp : isP (n : Int) = true) {a1 a2 b1 b2 : Int} (ha1 : 0 ≤ a1 ∧ a1 < n) (ha2 : 0 ≤ a2 ∧ a2 < n) (hb1 : 0 ≤ b1 ∧ b1 < n) (hb2 : 0 ≤ b2 ∧ b2 < n) (hne : ¬ (a1 = b1 ∧ a2 = b2)) :
    ∃ l : Int, K n l ≠ 0 ∧ K n (-th2 n a1 a2 b1 b2 % n) = K n l * K n ((b1 - a1) % n) ∧ K n (th1 n a1 a2 b1 b2) = K n l * K n ((b2 - a2) % n) := by
  have h : ¬ (K n (a2 - b2) = 0 ∧ K n (b1 - a1) = 0) := by
    rintro ⟨h1, h2⟩
    rw [K_sub] at h1 h2
    exact hne ⟨K_inj ha1 hb1 (by grind), K_inj ha2 hb2 (by grind)⟩
  refine ⟨-nrm n (a2 - b2) (b1 - a1), ?_, ?_, ?_⟩
  · rw [K_neg]
    rcases K_nrm hp h with ⟨_, h2⟩ | ⟨_, _, h2⟩ <;> intro e <;> have e' : K n (nrm n (a2 - b2) (b1 - a1)) = 0 := by grind
    · rw [e'] at h2; exact absurd h2 (by have := K_small (n := n) (x := 1) ⟨by omega, by have := isP_ne hp; omega⟩ (by omega); rw [K_one] at this; grind)
    · rw [e'] at h2; exact absurd h2 (by have := K_small (n := n) (x := 1) ⟨by omega, by have := isP_ne hp; omega⟩ (by omega); rw [K_one] at this; grind)
  · unfold th2 mk2
    simp only [K_mod, K_neg, K_mul, K_sub]; grind
  · unfold th1 mk1
    simp only [K_mod, K_neg, K_mul, K_sub]; grind
end

theorem null_th {p c a1 a2 b1 b2 : Int} (hp : isP p = true) (hc : colB c = true) (ha1 : 0 ≤ a1 ∧ a1 < p) (ha2 : 0 ≤ a2 ∧ a2 < p) (hb1 : 0 ≤ b1 ∧ b1 < p) (hb2 : 0 ≤ b2 ∧ b2 < p) (hne : ¬ (a1 = b1 ∧ a2 = b2)) :
    nullB p c (th1 p a1 a2 b1 b2) (th2 p a1 a2 b1 b2) = (qdr p c a1 a2 b1 b2 == 0) := by
  obtain ⟨n, rfl⟩ := Int.eq_ofNat_of_zero_le (by have := isP_range hp; omega : 0 ≤ p)
  haveI := neZero_of hp
  obtain ⟨l, hl, e1, e2⟩ := K_dir hp ha1 ha2 hb1 hb2 hne
  have h := K_raw hc e1 e2 e1 e2
  unfold nullB qdr
  rw [prd_raw, prd_raw, Bool.eq_iff_iff]
  simp only [beq_iff_eq, ← K_eq_zero]
  rw [h]
  constructor
  · intro h0
    have : K n (l * l * rawp c ((b1 - a1) % n) ((b2 - a2) % n) ((b1 - a1) % n) ((b2 - a2) % n)) = 0 := by rw [K_mul, K_mul]; exact h0
    rw [K_mul] at this
    rcases K_noz hp this with h1 | h1
    · rw [K_mul] at h1
      have h2 : K n l * K n l = 0 := h1
      rcases K_noz hp h2 with h3 | h3 <;> exact absurd h3 hl
    · exact h1
  · intro h0; rw [h0]; grind
/-- A line with equal points is none, and the quadrance is 0. -/
theorem qdr_same (p c a1 a2 : Int) : qdr p c a1 a2 a1 a2 = 0 := by
  unfold qdr prd
  rw [Int.sub_self, Int.sub_self, Int.zero_emod]
  split
  · simp
  · split <;> simp
theorem spread_th {p col a1 a2 b1 b2 c1 c2 : Int} (hp : isP p = true) (hc : colB col = true) (ha1 : 0 ≤ a1 ∧ a1 < p) (ha2 : 0 ≤ a2 ∧ a2 < p) (hb1 : 0 ≤ b1 ∧ b1 < p) (hb2 : 0 ≤ b2 ∧ b2 < p) (hc1 : 0 ≤ c1 ∧ c1 < p) (hc2 : 0 ≤ c2 ∧ c2 < p)
    (hb : ¬ (a1 = b1 ∧ a2 = b2)) (hcc : ¬ (a1 = c1 ∧ a2 = c2)) (q1 : (qdr p col a1 a2 b1 b2 == 0) = false) (q2 : (qdr p col a1 a2 c1 c2 == 0) = false) :
    spO p col (th1 p a1 a2 b1 b2) (th2 p a1 a2 b1 b2) (th1 p a1 a2 c1 c2) (th2 p a1 a2 c1 c2) = atO p col a1 a2 b1 b2 c1 c2 := by
  obtain ⟨n, rfl⟩ := Int.eq_ofNat_of_zero_le (by have := isP_range hp; omega : 0 ≤ p)
  haveI := neZero_of hp
  obtain ⟨l, hl, e1, e2⟩ := K_dir hp ha1 ha2 hb1 hb2 hb
  obtain ⟨m, hm, f1, f2⟩ := K_dir hp ha1 ha2 hc1 hc2 hcc
  have n1 := null_th hp hc ha1 ha2 hb1 hb2 hb
  have n2 := null_th hp hc ha1 ha2 hc1 hc2 hcc
  rw [q1] at n1; rw [q2] at n2
  have k1 : K n (qdr n col a1 a2 b1 b2) ≠ 0 := K_small (qdr_r _ _ _ _ _ hp) (by simpa using q1)
  have k2 : K n (qdr n col a1 a2 c1 c2) ≠ 0 := K_small (qdr_r _ _ _ _ _ hp) (by simpa using q2)
  unfold nullB at n1 n2
  have k3 : K n (prd n col (-th2 n a1 a2 b1 b2 % n) (th1 n a1 a2 b1 b2) (-th2 n a1 a2 b1 b2 % n) (th1 n a1 a2 b1 b2)) ≠ 0 := K_small (prd_lt _ _ _ _ _ hp) (by simpa using n1)
  have k4 : K n (prd n col (-th2 n a1 a2 c1 c2 % n) (th1 n a1 a2 c1 c2) (-th2 n a1 a2 c1 c2 % n) (th1 n a1 a2 c1 c2)) ≠ 0 := K_small (prd_lt _ _ _ _ _ hp) (by simpa using n2)
  have i1 := K_inv hp (y := qdr n col a1 a2 b1 b2 * qdr n col a1 a2 c1 c2) (by rw [K_mul]; intro h; rcases K_noz hp h with h | h; exact k1 h; exact k2 h)
  have i2 := K_inv hp (y := prd n col (-th2 n a1 a2 b1 b2 % n) (th1 n a1 a2 b1 b2) (-th2 n a1 a2 b1 b2 % n) (th1 n a1 a2 b1 b2) * prd n col (-th2 n a1 a2 c1 c2 % n) (th1 n a1 a2 c1 c2) (-th2 n a1 a2 c1 c2 % n) (th1 n a1 a2 c1 c2)) (by rw [K_mul]; intro h; rcases K_noz hp h with h | h; exact k3 h; exact k4 h)
  have r1 := K_raw hc e1 e2 e1 e2
  have r2 := K_raw hc f1 f2 f1 f2
  have r3 := K_raw hc e1 e2 f1 f2
  unfold spO crO crD atO atD
  simp only [← K_ext (n := n), K_sub, K_mul, K_mod, K_one] at i1 i2 ⊢
  obtain ⟨I1, hI1⟩ : ∃ x, x = inv n (qdr n col a1 a2 b1 b2 * qdr n col a1 a2 c1 c2) := ⟨_, rfl⟩
  obtain ⟨I2, hI2⟩ : ∃ x, x = inv n (prd n col (-th2 n a1 a2 b1 b2 % n) (th1 n a1 a2 b1 b2) (-th2 n a1 a2 b1 b2 % n) (th1 n a1 a2 b1 b2) * prd n col (-th2 n a1 a2 c1 c2 % n) (th1 n a1 a2 c1 c2) (-th2 n a1 a2 c1 c2 % n) (th1 n a1 a2 c1 c2)) := ⟨_, rfl⟩
  rw [← hI1] at i1 ⊢
  rw [← hI2] at i2 ⊢
  unfold qdr at i1
  simp only [prd_raw, K_mod, r1, r2, r3] at i1 i2 ⊢
  grind

theorem qdr_comm {p : Int} (hp : isP p = true) {c : Int} (hc : colB c = true) (a1 a2 b1 b2 : Int) : qdr p c b1 b2 a1 a2 = qdr p c a1 a2 b1 b2 := by
  obtain ⟨n, rfl⟩ := Int.eq_ofNat_of_zero_le (by have := isP_range hp; omega : 0 ≤ p)
  haveI := neZero_of hp
  unfold qdr
  rw [prd_raw, prd_raw, ← K_ext (n := n)]
  have h := K_raw (n := n) hc (x1 := (a1 - b1) % n) (x2 := (a2 - b2) % n) (y1 := (a1 - b1) % n) (y2 := (a2 - b2) % n) (u1 := (b1 - a1) % n) (u2 := (b2 - a2) % n) (v1 := (b1 - a1) % n) (v2 := (b2 - a2) % n) (l := -1) (m := -1)
    (by simp only [K_mod, K_sub, K_neg, K_one]; grind) (by simp only [K_mod, K_sub, K_neg, K_one]; grind) (by simp only [K_mod, K_sub, K_neg, K_one]; grind) (by simp only [K_mod, K_sub, K_neg, K_one]; grind)
  rw [h]; simp only [K_neg, K_one]; grind
theorem th1_r {p : Int} (a1 a2 b1 b2 : Int) (h : isP p = true) : 0 ≤ th1 p a1 a2 b1 b2 ∧ th1 p a1 a2 b1 b2 < p := modR _ h
theorem th2_r {p : Int} (a1 a2 b1 b2 : Int) (h : isP p = true) : 0 ≤ th2 p a1 a2 b1 b2 ∧ th2 p a1 a2 b1 b2 < p := modR _ h
theorem th3_r {p : Int} (a1 a2 b1 b2 : Int) (h : isP p = true) : 0 ≤ th3 p a1 a2 b1 b2 ∧ th3 p a1 a2 b1 b2 < p := modR _ h
section
variable {p col a1 a2 b1 b2 c1 c2 : Int}
theorem atT_ab (h : (a1 == b1 && a2 == b2) = true) : atT p col a1 a2 b1 b2 c1 c2 = 5 := by
  simp only [Bool.and_eq_true, beq_iff_eq] at h
  obtain ⟨rfl, rfl⟩ := h
  simp [atT, qdr_same]
theorem atT_ac (h : (a1 == c1 && a2 == c2) = true) : atT p col a1 a2 b1 b2 c1 c2 = 5 := by
  simp only [Bool.and_eq_true, beq_iff_eq] at h
  obtain ⟨rfl, rfl⟩ := h
  simp [atT, qdr_same]
theorem atT_n1 (hp : isP p = true) (hc : colB col = true) (hb : (a1 == b1 && a2 == b2) = false) (h : nullB p col (th1 p a1 a2 b1 b2) (th2 p a1 a2 b1 b2) = true) (ha1 : 0 ≤ a1 ∧ a1 < p) (ha2 : 0 ≤ a2 ∧ a2 < p) (hb1 : 0 ≤ b1 ∧ b1 < p) (hb2 : 0 ≤ b2 ∧ b2 < p) : atT p col a1 a2 b1 b2 c1 c2 = 5 := by
  rw [null_th hp hc ha1 ha2 hb1 hb2 (ne_of hb)] at h
  simp only [atT, h, Bool.true_or, if_true]
theorem atT_n2 (hp : isP p = true) (hc : colB col = true) (hb : (a1 == c1 && a2 == c2) = false) (h : nullB p col (th1 p a1 a2 c1 c2) (th2 p a1 a2 c1 c2) = true) (ha1 : 0 ≤ a1 ∧ a1 < p) (ha2 : 0 ≤ a2 ∧ a2 < p) (hb1 : 0 ≤ c1 ∧ c1 < p) (hb2 : 0 ≤ c2 ∧ c2 < p) : atT p col a1 a2 b1 b2 c1 c2 = 5 := by
  rw [null_th hp hc ha1 ha2 hb1 hb2 (ne_of hb)] at h
  simp only [atT, h, Bool.or_true, if_true]
theorem atT_0 (hp : isP p = true) (hc : colB col = true) (hb : (a1 == b1 && a2 == b2) = false) (hcc : (a1 == c1 && a2 == c2) = false) (h1 : nullB p col (th1 p a1 a2 b1 b2) (th2 p a1 a2 b1 b2) = false) (h2 : nullB p col (th1 p a1 a2 c1 c2) (th2 p a1 a2 c1 c2) = false) (ha1 : 0 ≤ a1 ∧ a1 < p) (ha2 : 0 ≤ a2 ∧ a2 < p) (hb1 : 0 ≤ b1 ∧ b1 < p) (hb2 : 0 ≤ b2 ∧ b2 < p) (hc1 : 0 ≤ c1 ∧ c1 < p) (hc2 : 0 ≤ c2 ∧ c2 < p) : atT p col a1 a2 b1 b2 c1 c2 = 0 := by
  rw [null_th hp hc ha1 ha2 hb1 hb2 (ne_of hb)] at h1
  rw [null_th hp hc ha1 ha2 hc1 hc2 (ne_of hcc)] at h2
  simp [atT, h1, h2]
theorem atV_is (hp : isP p = true) (hc : colB col = true) (hb : (a1 == b1 && a2 == b2) = false) (hcc : (a1 == c1 && a2 == c2) = false) (h1 : nullB p col (th1 p a1 a2 b1 b2) (th2 p a1 a2 b1 b2) = false) (h2 : nullB p col (th1 p a1 a2 c1 c2) (th2 p a1 a2 c1 c2) = false) (ha1 : 0 ≤ a1 ∧ a1 < p) (ha2 : 0 ≤ a2 ∧ a2 < p) (hb1 : 0 ≤ b1 ∧ b1 < p) (hb2 : 0 ≤ b2 ∧ b2 < p) (hc1 : 0 ≤ c1 ∧ c1 < p) (hc2 : 0 ≤ c2 ∧ c2 < p) :
    atO p col a1 a2 b1 b2 c1 c2 = spO p col (th1 p a1 a2 b1 b2) (th2 p a1 a2 b1 b2) (th1 p a1 a2 c1 c2) (th2 p a1 a2 c1 c2) := by
  rw [null_th hp hc ha1 ha2 hb1 hb2 (ne_of hb)] at h1
  rw [null_th hp hc ha1 ha2 hc1 hc2 (ne_of hcc)] at h2
  exact (spread_th hp hc ha1 ha2 hb1 hb2 hc1 hc2 (ne_of hb) (ne_of hcc) h1 h2).symm
end

end Go.Proofs.Ytibfbdgenamlkaa

namespace Go.Proofs.Ytibfbdgenamlkaa
open Go.RowKit

theorem bundrew {B : Nat} {a W : World} (h : Below B a W.drew) : Below B a W := ⟨h.os, h.tape, h.output, h.size, h.block⟩
theorem bback {a W : World} {o : Obj} (hB : a.heap.size ≤ W.heap.size) (h : Below a.heap.size a (W.alloc o)) : Below a.heap.size a W :=
  ⟨h.os, h.tape, h.output, hB, fun k hk => by rw [← h.block k hk, Below.heap_alloc _ _ _ (by omega)]⟩
theorem brealloc {a W : World} {o o' : Obj} (hB : a.heap.size ≤ W.heap.size) (h : Below a.heap.size a (W.alloc o)) : Below a.heap.size a (W.alloc o') := (bback hB h).alloc hB o'
/-- What a cell below holds. -/
theorem bholds {a W : World} {b j : Nat} {v : Value} (h : a.cell? ⟨b, j, none⟩ = some v) (hB : Below a.heap.size a W) : W.cell? ⟨b, j, none⟩ = some v := kcall hB h

end Go.Proofs.Ytibfbdgenamlkaa

namespace Go.Proofs.Ytibfbdgenamlkaa
open Go.RowKit

theorem nums6_in (p a b c d e f : Int) : numsIn p [a, b, c, d, e, f] = (inB a 0 (p - 1) && (inB b 0 (p - 1) && (inB c 0 (p - 1) && (inB d 0 (p - 1) && numsIn p [e, f])))) := by simp [numsIn]
theorem nums6_42 (p a b c d e f : Int) : numsIn p [a, b, c, d, e, f] = (numsIn p [a, b, c, d] && numsIn p [e, f]) := by simp [numsIn, Bool.and_assoc]
theorem cells4 {w : World} {b : Nat} {a0 a1 a2 a3 : Int} (h0 : w.cell? ⟨b, 0, none⟩ = some (.int .i64 a0)) (h1 : w.cell? ⟨b, 1, none⟩ = some (.int .i64 a1)) (h2 : w.cell? ⟨b, 2, none⟩ = some (.int .i64 a2)) (h3 : w.cell? ⟨b, 3, none⟩ = some (.int .i64 a3)) : Cells w b 0 [a0, a1, a2, a3] := by
  intro i hi
  have : i = 0 ∨ i = 1 ∨ i = 2 ∨ i = 3 := by simp at hi; omega
  rcases this with rfl | rfl | rfl | rfl <;> simpa
theorem twoP {a b c d : Int} (ha : 0 ≤ a ∧ a ≤ 31) (hb : 0 ≤ b ∧ b ≤ 31) (hc : 0 ≤ c ∧ c ≤ 31) (hd : 0 ≤ d ∧ d ≤ 31) : 0 ≤ a * b + c * d ∧ a * b + c * d ≤ 1922 := by
  have h1 := mulP ha hb
  have h2 := mulP hc hd
  omega
/-- A row of a matrix at a point. -/
def ld (p a b x y : Int) : Int := (a * x + b * y) % p
/-- A row of a map at a point. -/
def mv (p a b u x y : Int) : Int := (a * x + b * y + u) % p
theorem ld_r (a b x y : Int) {p : Int} (h : isP p = true) : 0 ≤ ld p a b x y ∧ ld p a b x y < p := modR _ h
theorem mv_r (a b u x y : Int) {p : Int} (h : isP p = true) : 0 ≤ mv p a b u x y ∧ mv p a b u x y < p := modR _ h
theorem mv_ld (p a b u x y : Int) : (ld p a b x y + u) % p = mv p a b u x y := by unfold ld mv; rw [Int.emod_add_emod]
/-- Whether a map is a move. -/
def mvB (p c m1 m2 m3 m4 : Int) : Bool :=
  (prd p c (ld p m1 m2 1 0) (ld p m3 m4 1 0) (ld p m1 m2 1 0) (ld p m3 m4 1 0) == prd p c 1 0 1 0) &&
  ((prd p c (ld p m1 m2 0 1) (ld p m3 m4 0 1) (ld p m1 m2 0 1) (ld p m3 m4 0 1) == prd p c 0 1 0 1) &&
  (prd p c (ld p m1 m2 1 0) (ld p m3 m4 1 0) (ld p m1 m2 0 1) (ld p m3 m4 0 1) == prd p c 1 0 0 1))
def mvQ1 (p c m1 m2 m3 m4 m5 m6 : Int) : Bool := qdr p c (mv p m1 m2 m5 1 0) (mv p m3 m4 m6 1 0) (mv p m1 m2 m5 0 0) (mv p m3 m4 m6 0 0) == qdr p c 1 0 0 0
def mvQ2 (p c m1 m2 m3 m4 m5 m6 : Int) : Bool := qdr p c (mv p m1 m2 m5 0 1) (mv p m3 m4 m6 0 1) (mv p m1 m2 m5 0 0) (mv p m3 m4 m6 0 0) == qdr p c 0 1 0 0
def mvQ3 (p c m1 m2 m3 m4 m5 m6 : Int) : Bool := qdr p c (mv p m1 m2 m5 0 1) (mv p m3 m4 m6 0 1) (mv p m1 m2 m5 1 0) (mv p m3 m4 m6 1 0) == qdr p c 0 1 1 0
theorem prd_K (n : Nat) [NeZero n] (c a1 a2 b1 b2 : Int) : K n (prd n c a1 a2 b1 b2) = if c = 0 then K n a1 * K n b1 + K n a2 * K n b2 else if c = 1 then K n a1 * K n b1 - K n a2 * K n b2 else K n a1 * K n b2 + K n a2 * K n b1 := by
  unfold prd; split
  · simp only [K_mod, K_add, K_mul]
  · split <;> simp only [K_mod, K_add, K_sub, K_mul]
theorem prd_beq {n : Nat} [NeZero n] (hp : isP (n : Int) = true) (c a1 a2 b1 b2 c' a1' a2' b1' b2' : Int) : (prd n c a1 a2 b1 b2 == prd n c' a1' a2' b1' b2') = true ↔ K n (prd n c a1 a2 b1 b2) = K n (prd n c' a1' a2' b1' b2') := by
  rw [beq_iff_eq]
  exact ⟨fun h => by rw [h], fun h => K_inj (prd_lt _ _ _ _ _ hp) (prd_lt _ _ _ _ _ hp) h⟩
theorem K_halves {n : Nat} [NeZero n] (hp : isP (n : Int) = true) : ∃ h : Fin n, h * 2 = 1 := by
  have h2 : K n 2 ≠ 0 := K_small ⟨by decide, by have := isP_range hp; omega⟩ (by decide)
  have := K_inv hp h2
  exact ⟨K n (inv n 2), by rw [← K_two]; grind⟩
theorem half {R : Type} [Lean.Grind.CommRing R] {i x y : R} (hi : i * 2 = 1) (h : 2 * x = 2 * y) : x = y := by
  have e : i * (2 * x) = i * (2 * y) := by rw [h]
  have e1 : i * (2 * x) = i * 2 * x := by grind
  have e2 : i * (2 * y) = i * 2 * y := by grind
  rw [e1, e2, hi] at e
  grind
set_option linter.unusedSimpArgs false in
/-- A map keeps the products of the axes just where it keeps three quadrances. -/
theorem mvB_impl {p c m1 m2 m3 m4 m5 m6 : Int} (hp : isP p = true) (hc : colB c = true) : (mvQ1 p c m1 m2 m3 m4 m5 m6 && (mvQ2 p c m1 m2 m3 m4 m5 m6 && mvQ3 p c m1 m2 m3 m4 m5 m6)) = mvB p c m1 m2 m3 m4 := by
  obtain ⟨n, rfl⟩ := Int.eq_ofNat_of_zero_le (by have := isP_range hp; omega : 0 ≤ p)
  haveI := neZero_of hp
  obtain ⟨i2, hi⟩ := K_halves hp
  rw [Bool.eq_iff_iff]
  simp only [Bool.and_eq_true, mvQ1, mvQ2, mvQ3, mvB, qdr]
  rw [prd_beq hp, prd_beq hp, prd_beq hp, prd_beq hp, prd_beq hp, prd_beq hp]
  simp only [prd_K, K_mod, K_sub, ld, mv, K_add, K_mul, K_zero, K_one]
  generalize K n m1 = a at *
  generalize K n m2 = b at *
  generalize K n m3 = d at *
  generalize K n m4 = e at *
  rcases colB_ways hc with rfl | rfl | rfl <;> simp <;> clear hc <;> constructor <;> rintro ⟨h1, h2, h3⟩ <;> refine ⟨?_, ?_, ?_⟩ <;> first | grind | (refine half hi ?_; grind)
/-- The sign of a map. -/
def sgn (p m1 m2 m3 m4 : Int) : Int := (m1 * m4 - m2 * m3) % p
theorem sgn_r (m1 m2 m3 m4 : Int) {p : Int} (h : isP p = true) : 0 ≤ sgn p m1 m2 m3 m4 ∧ sgn p m1 m2 m3 m4 < p := modR _ h

end Go.Proofs.Ytibfbdgenamlkaa

namespace Go.Proofs.Ytibfbdgenamlkaa
open Go.RowKit

abbrev T6 := Int × Int × Int × Int × Int × Int
/-- Whether a move comes ahead of another one. -/
def lt6 (x y : T6) : Prop := x.1 < y.1 ∨ x.1 = y.1 ∧ (x.2.1 < y.2.1 ∨ x.2.1 = y.2.1 ∧ (x.2.2.1 < y.2.2.1 ∨ x.2.2.1 = y.2.2.1 ∧ (x.2.2.2.1 < y.2.2.2.1 ∨ x.2.2.2.1 = y.2.2.2.1 ∧ (x.2.2.2.2.1 < y.2.2.2.2.1 ∨ x.2.2.2.2.1 = y.2.2.2.2.1 ∧ x.2.2.2.2.2 < y.2.2.2.2.2))))
instance (x y : T6) : Decidable (lt6 x y) := by unfold lt6; infer_instance
theorem lt6_trans {x y z : T6} (h : lt6 x y) (k : lt6 y z) : lt6 x z := by unfold lt6 at *; omega
theorem lt6_irr (x : T6) : ¬ lt6 x x := by unfold lt6; omega
theorem lt6_tri (x y : T6) : lt6 x y ∨ x = y ∨ lt6 y x := by
  obtain ⟨a, b, c, d, e, f⟩ := x
  obtain ⟨a', b', c', d', e', f'⟩ := y
  simp only [lt6, Prod.mk.injEq]; omega
theorem lt6_not {x y : T6} (h : ¬ lt6 x y) (hn : x ≠ y) : lt6 y x := by rcases lt6_tri x y with q | q | q; exact absurd q h; exact absurd q hn; exact q
/-- Strictly ordered lists with the same members are one. -/
theorem lt6_unique : ∀ {xs ys : List T6}, xs.Pairwise lt6 → ys.Pairwise lt6 → (∀ z, z ∈ xs ↔ z ∈ ys) → xs = ys
  | [], ys, _, _, h => by
    cases ys with
    | nil => rfl
    | cons y ys => exact absurd ((h y).2 (by simp)) (by simp)
  | x :: xs, [], _, _, h => absurd ((h x).1 (by simp)) (by simp)
  | x :: xs, y :: ys, hx, hy, h => by
    have hx' := List.pairwise_cons.1 hx
    have hy' := List.pairwise_cons.1 hy
    have e : x = y := by
      rcases List.mem_cons.1 ((h x).1 (by simp)) with e | e
      · exact e
      · rcases List.mem_cons.1 ((h y).2 (by simp)) with e' | e'
        · exact e'.symm
        · exact absurd (lt6_trans (hx'.1 _ e') (hy'.1 _ e)) (lt6_irr x)
    subst e
    refine congrArg _ (lt6_unique hx'.2 hy'.2 fun z => ?_)
    constructor
    · intro hz
      rcases List.mem_cons.1 ((h z).1 (by simp [hz])) with e | e
      · subst e; exact absurd (hx'.1 _ hz) (lt6_irr z)
      · exact e
    · intro hz
      rcases List.mem_cons.1 ((h z).2 (by simp [hz])) with e | e
      · subst e; exact absurd (hy'.1 _ hz) (lt6_irr z)
      · exact e
/-- A move put into a list. -/
def insM (ys : List T6) (l : T6) : List T6 := (ys.filter fun z => decide (lt6 z l)) ++ l :: ys.filter fun z => decide (lt6 l z)
theorem ins6_mem {ys : List T6} {l z : T6} : z ∈ insM ys l ↔ z = l ∨ z ∈ ys := by
  simp only [insM, List.mem_append, List.mem_cons, List.mem_filter, decide_eq_true_eq]
  constructor
  · rintro (⟨h, _⟩ | rfl | ⟨h, _⟩)
    · exact .inr h
    · exact .inl rfl
    · exact .inr h
  · rintro (rfl | h)
    · exact .inr (.inl rfl)
    · rcases lt6_tri z l with q | q | q
      · exact .inl ⟨h, q⟩
      · exact .inr (.inl q)
      · exact .inr (.inr ⟨h, q⟩)
theorem ins6_sorted {ys : List T6} {l : T6} (h : ys.Pairwise lt6) : (insM ys l).Pairwise lt6 := by
  rw [insM, List.pairwise_append]
  refine ⟨h.filter _, List.pairwise_cons.2 ⟨fun z hz => of_decide_eq_true (List.mem_filter.1 hz).2, h.filter _⟩, fun x hx y hy => ?_⟩
  have h1 := of_decide_eq_true (List.mem_filter.1 hx).2
  rcases List.mem_cons.1 hy with rfl | hy
  · exact h1
  · exact lt6_trans h1 (of_decide_eq_true (List.mem_filter.1 hy).2)
theorem ins6_le (ys : List T6) (l : T6) : (insM ys l).length ≤ ys.length + 1 := by
  have h1 : (ys.filter fun z => decide (lt6 z l)).length + (ys.filter fun z => decide (lt6 l z)).length ≤ ys.length := by
    induction ys with
    | nil => simp
    | cons y ys ih =>
      simp only [List.filter_cons, List.length_cons]
      by_cases q : lt6 y l
      · have : ¬ lt6 l y := fun q' => lt6_irr _ (lt6_trans q q')
        simp [q, this]; omega
      · by_cases q' : lt6 l y <;> simp [q, q'] <;> omega
  simp only [insM, List.length_append, List.length_cons]; omega
/-- The moves of a list, each once, in order. -/
def srtM (ls : List T6) : List T6 := ls.foldl insM []
theorem srtM_snoc (ls : List T6) (l : T6) : srtM (ls ++ [l]) = insM (srtM ls) l := by simp [srtM]
theorem srtM_sorted (ls : List T6) : (srtM ls).Pairwise lt6 := by
  have : ∀ (ls acc : List T6), acc.Pairwise lt6 → (ls.foldl insM acc).Pairwise lt6 := by
    intro ls
    induction ls with
    | nil => exact fun acc h => h
    | cons l ls ih => exact fun acc h => ih _ (ins6_sorted h)
  exact this ls [] List.Pairwise.nil
theorem srtM_mem {ls : List T6} {z : T6} : z ∈ srtM ls ↔ z ∈ ls := by
  have : ∀ (ls acc : List T6), z ∈ ls.foldl insM acc ↔ z ∈ acc ∨ z ∈ ls := by
    intro ls
    induction ls with
    | nil => intro acc; simp
    | cons l ls ih =>
      intro acc
      rw [List.foldl_cons, ih, ins6_mem, List.mem_cons]
      constructor
      · rintro ((h | h) | h)
        · exact .inr (.inl h)
        · exact .inl h
        · exact .inr (.inr h)
      · rintro (h | h | h)
        · exact .inl (.inr h)
        · exact .inl (.inl h)
        · exact .inr h
  have := this ls []
  simpa [srtM] using this
theorem srtM_le (ls : List T6) : (srtM ls).length ≤ ls.length := by
  have : ∀ (ls acc : List T6), acc.Pairwise lt6 → (ls.foldl insM acc).length ≤ acc.length + ls.length := by
    intro ls
    induction ls with
    | nil => intro acc _; simp
    | cons l ls ih =>
      intro acc h
      have h1 := ih _ (ins6_sorted (l := l) h)
      have h2 := ins6_le acc l
      simp only [List.foldl_cons, List.length_cons]; omega
  have := this ls [] List.Pairwise.nil
  simpa [srtM] using this
/-- What the search finds: the line is there. -/
theorem put6_there {xs : List T6} {l : T6} (hs : xs.Pairwise lt6) (h : l ∈ xs) : insM xs l = xs :=
  lt6_unique (ins6_sorted hs) hs fun z => by rw [ins6_mem]; exact ⟨fun q => q.elim (fun e => e ▸ h) id, .inr⟩
/-- .. or it goes to a place. -/
theorem put6_at {xs : List T6} {l : T6} {k : Nat} (hs : xs.Pairwise lt6) (h1 : ∀ z ∈ xs.drop k, lt6 l z) (h2 : ∀ z ∈ xs.take k, lt6 z l) : insM xs l = xs.take k ++ l :: xs.drop k := by
  refine lt6_unique (ins6_sorted hs) ?_ fun z => ?_
  · rw [List.pairwise_append]
    refine ⟨hs.sublist (List.take_sublist _ _), List.pairwise_cons.2 ⟨h1, hs.sublist (List.drop_sublist _ _)⟩, fun x hx y hy => ?_⟩
    rcases List.mem_cons.1 hy with rfl | hy
    · exact h2 x hx
    · exact lt6_trans (h2 x hx) (h1 y hy)
  · rw [ins6_mem, List.mem_append, List.mem_cons]
    have := List.take_append_drop k xs
    constructor
    · rintro (h | h)
      · exact .inr (.inl h)
      · rw [← this, List.mem_append] at h
        exact h.elim .inl fun h => .inr (.inr h)
    · rintro (h | h | h)
      · exact .inr (List.mem_of_mem_take h)
      · exact .inl h
      · exact .inr (List.mem_of_mem_drop h)

end Go.Proofs.Ytibfbdgenamlkaa

namespace Go.Proofs.Ytibfbdgenamlkaa
open Go.RowKit

def ints (xs : List Int) : List Value := xs.map (Value.int .i64)
theorem ints_length (xs : List Int) : (ints xs).length = xs.length := List.length_map _
theorem ints_append (xs ys : List Int) : ints (xs ++ ys) = ints xs ++ ints ys := List.map_append

/-- What a slice owns stays while nothing below a bound turns, if its row lies below the bound. -/
theorem own_below {w w' : World} {base B : Nat} {e : TypeId} {k n : Nat} {v : Value} {xs : List Value} (h : w.ownsRow base e k v n xs) (hb : Below B w w') (hv : ∀ g, v.ownBlock = some g → g < B) : w'.ownsRow base e k v n xs := by
  obtain ⟨h1, h2⟩ := h
  refine ⟨h1, ?_⟩
  rcases h2 with h2 | ⟨g, cap, cur, rfl, hg, hh, r⟩
  · exact .inl h2
  · exact .inr ⟨g, cap, cur, rfl, hg, by rw [hb.block g (hv g rfl)]; exact hh, r⟩
/-- .. the bound: the heap's size. -/
theorem own_call {w w' : World} {base : Nat} {e : TypeId} {k n : Nat} {v : Value} {xs : List Value} (h : w.ownsRow base e k v n xs) (hb : Below w.heap.size w w') : w'.ownsRow base e k v n xs :=
  own_below h hb fun g hg => (h.lt g hg).2
theorem own_base {w : World} {base base' : Nat} {e : TypeId} {k n : Nat} {v : Value} {xs : List Value} (h : w.ownsRow base e k v n xs) (hb : base' ≤ base) : w.ownsRow base' e k v n xs := by
  obtain ⟨h1, h2⟩ := h
  refine ⟨h1, ?_⟩
  rcases h2 with h2 | ⟨g, cap, cur, rfl, hg, r⟩
  · exact .inl h2
  · exact .inr ⟨g, cap, cur, rfl, by omega, r⟩
/-- A slice's two shapes. -/
theorem own_ways {w : World} {base : Nat} {e : TypeId} {k n : Nat} {v : Value} {xs : List Value} (h : w.ownsRow base e k v n xs) :
    (n = 0 ∧ ∃ ao cap, v = .slice ao 0 cap) ∨ (0 < n ∧ ∃ g cap, v = .slice (some ⟨g, 0, none⟩) n cap ∧ base ≤ g ∧ g < w.heap.size ∧ n ≤ 9223372036854775807) := by
  rcases h.2 with ⟨rfl, rfl⟩ | ⟨g, cap, cur, rfl, hg, hh, hn, hm, r⟩
  · exact .inl ⟨rfl, _, _, rfl⟩
  · rcases Nat.eq_zero_or_pos n with rfl | h0
    · exact .inl ⟨rfl, _, _, rfl⟩
    · exact .inr ⟨h0, g, cap, rfl, hg, lt_of_block hh, by unfold maxLen at hm; omega⟩
/-- The number at a place. -/
theorem own_cell {w : World} {base : Nat} {e : TypeId} {k n g cap : Nat} {xs : List Int} (h : w.ownsRow base e k (.slice (some ⟨g, 0, none⟩) n cap) n (ints xs)) {j : Nat} (hj : j < n * k) : w.cell? ⟨g, j, none⟩ = some (.int .i64 (xs.getD j 0)) := by
  rw [h.cellAt j hj]
  have hl : xs.length = n * k := by have := h.1; rwa [ints_length] at this
  simp [ints, List.getElem?_eq_getElem (show j < xs.length by omega)]

/-- What a call leaves that returns a slice of its own and a code. -/
def SlicePost (T : TypeId) (k : Nat) (L : List Int) (C : Int) (w : World) (e : Ending) (w' : World) : Prop :=
  ∃ v n, e = .returned (.tuple #[v, .int .i64 C]) ∧ w'.ownsRow w.heap.size T k v n (ints L) ∧ Below w.heap.size w w'
theorem slicePost_mk {T : TypeId} {k n : Nat} {L : List Int} {C : Int} {v : Value} {w w' : World} (h : w'.ownsRow w.heap.size T k v n (ints L)) (hb : Below w.heap.size w w') :
    SlicePost T k L C w (.returned (.tuple #[v, .int .i64 C])) w' := ⟨v, n, rfl, h, hb⟩
theorem slicePost_nil {T : TypeId} {k : Nat} {L : List Int} {C : Int} {w w' : World} (h : L = []) (hb : Below w.heap.size w w') :
    SlicePost T k L C w (.returned (.tuple #[.slice none 0 0, .int .i64 C])) w' := ⟨_, 0, rfl, by rw [h]; exact World.ownsRow_nil _ _ _ _, hb⟩

theorem own_same {w w' : World} {b b' : Nat} {e : TypeId} {k n m : Nat} {v v' : Value} {xs : List Value} (h : w.ownsRow b e (k + 1) v n xs) (h' : w'.ownsRow b' e (k + 1) v' m xs) : n = m :=
  Nat.eq_of_mul_eq_mul_right (Nat.succ_pos k) (h.1.symm.trans h'.1)
theorem own_few {w : World} {b : Nat} {e : TypeId} {k n N : Nat} {v : Value} {xs : List Int} (h : w.ownsRow b e k v n (ints xs)) (hx : xs.length ≤ N) (hk : 0 < k) : n ≤ N := by
  have h1 := h.1
  rw [ints_length] at h1
  have := Nat.le_mul_of_pos_right n hk
  omega
theorem cell_old {B : Nat} {W w' : World} (h : Below B W w') {b : Nat} (hb : b < B) (j : Nat) : w'.cell? ⟨b, j, none⟩ = W.cell? ⟨b, j, none⟩ := World.cell?_of_block (a := ⟨b, j, none⟩) (h.block b hb)

theorem bcellB {B : Nat} {W w1 : World} (hb : Below B W w1) : (∀ b o, b < B → w1.cell? ⟨b, o, none⟩ = W.cell? ⟨b, o, none⟩) ∧ (∀ b o, b < B → w1.frozen? ⟨b, o, none⟩ = W.frozen? ⟨b, o, none⟩) :=
  ⟨fun b o h => World.cell?_of_block (a := ⟨b, o, none⟩) (hb.block b h), fun b o h => World.frozen?_of_block (a := ⟨b, o, none⟩) (hb.block b h)⟩
theorem own_lit {w : World} {base b : Nat} {e : TypeId} {k n : Nat} {cs : List Int} (hb : base ≤ w.heap.size) (hq : b = w.heap.size) (hn : n ≤ 1000000) (hl : cs.length = n * k) :
    (w.alloc (.cells (cs.map (Value.int .i64)).toArray e)).ownsRow base e k (.slice (some ⟨b, 0, none⟩) n n) n (ints cs) := by
  subst hq; exact World.ownsRow_lit w _ n hb (by unfold maxLen; omega) (by simpa using hl)

theorem own_list {w : World} {base n m : Nat} {e : TypeId} {v : Value} {xs : List Int} (h : w.ownsRow base e 1 v n (ints xs)) (hm : xs.length = m + 1) :
    n = m + 1 ∧ ∃ g cap, v = .slice (some ⟨g, 0, none⟩) (m + 1) cap ∧ base ≤ g ∧ g < w.heap.size ∧ ∀ j, j < m + 1 → w.cell? ⟨g, j, none⟩ = some (.int .i64 (xs.getD j 0)) := by
  have hn : n = m + 1 := by have := h.1; rw [ints_length] at this; omega
  subst hn
  rcases own_ways h with ⟨h0, _⟩ | ⟨_, g, cap, rfl, h1, h2, _⟩
  · omega
  · exact ⟨rfl, g, cap, rfl, h1, h2, fun j hj => own_cell h (by omega)⟩

/-- The marks m, m + 1, .. -/
def marks (m n : Nat) : List Int := (List.range n).map fun i => ((m + i : Nat) : Int)
theorem marks_length (m n : Nat) : (marks m n).length = n := by simp [marks]
theorem marks_getD {m n j : Nat} (h : j < n) : (marks m n).getD j 0 = ((m + j : Nat) : Int) := by
  simp [marks, List.getElem?_map, List.getElem?_range h]
theorem marks_succ (m n : Nat) : marks m (n + 1) = marks m n ++ [((m + n : Nat) : Int)] := by simp [marks, List.range_succ]
/-- One mark more. -/
theorem marks_set {m j : Nat} {xs : List Int} (h : j < xs.length) : (ints (marks m j ++ xs.drop j)).set j (.int .i64 ((m + j : Nat) : Int)) = ints (marks m (j + 1) ++ xs.drop (j + 1)) := by
  rw [ints_append, ints_append, marks_succ, ints_append, List.append_assoc]
  rw [List.set_append_right _ _ (by simp [ints_length, marks_length])]
  congr 1
  rw [ints_length, marks_length, Nat.sub_self]
  rw [List.drop_eq_getElem_cons h]
  simp only [ints, List.map_cons, List.set_cons_zero]
  rfl

end Go.Proofs.Ytibfbdgenamlkaa

namespace Go.Proofs.Ytibfbdgenamlkaa

/-- Whether the point is on the line. -/
def onB (p a1 a2 l1 l2 l3 : Int) : Bool := (l1 * a1 + l2 * a2 + l3) % p == 0

end Go.Proofs.Ytibfbdgenamlkaa

namespace Go.Proofs.Ytibfbdgenamlkaa
open Go.RowKit

/-- The first two points of a line, in order. -/
def sqS1 (p _l1 l2 l3 : Int) : Int := if (l2 == 0) = true then (-l3) % p else 0
def sqS2 (p _l1 l2 l3 : Int) : Int := if (l2 == 0) = true then 0 else (-l3 * inv p l2) % p
def sqN1 (p _l1 l2 l3 : Int) : Int := if (l2 == 0) = true then (-l3) % p else 1
def sqN2 (p l1 l2 l3 : Int) : Int := if (l2 == 0) = true then 1 else (-(l1 + l3) * inv p l2) % p
/-- What the maker of an iterator leaves: a function that has captured three boxes: the prime, two points. -/
def SeqMade (g : Nat) (p s1 s2 n1 n2 : Int) (w : World) (e : Ending) (w' : World) : Prop :=
  ∃ b0 b1 b2 : Nat, e = .returned (.func (.func g) #[] #[.pointer (some ⟨b0, 0, none⟩), .pointer (some ⟨b1, 0, none⟩), .pointer (some ⟨b2, 0, none⟩)]) ∧
    w'.cell? ⟨b1, 0, none⟩ = some (.int .i64 s1) ∧ w'.cell? ⟨b1, 1, none⟩ = some (.int .i64 s2) ∧ w'.cell? ⟨b2, 0, none⟩ = some (.int .i64 n1) ∧ w'.cell? ⟨b2, 1, none⟩ = some (.int .i64 n2) ∧
    w'.cell? ⟨b0, 0, none⟩ = some (.int .i64 p) ∧ w.heap.size ≤ b0 ∧ w.heap.size ≤ b1 ∧ w.heap.size ≤ b2 ∧ Below w.heap.size w w'
theorem seqMade_mk {g b0 b1 b2 : Nat} {p s1 s2 n1 n2 : Int} {w w' : World} (h1 : w'.cell? ⟨b1, 0, none⟩ = some (.int .i64 s1)) (h2 : w'.cell? ⟨b1, 1, none⟩ = some (.int .i64 s2)) (h3 : w'.cell? ⟨b2, 0, none⟩ = some (.int .i64 n1))
    (h4 : w'.cell? ⟨b2, 1, none⟩ = some (.int .i64 n2)) (h0 : w'.cell? ⟨b0, 0, none⟩ = some (.int .i64 p)) (g0 : w.heap.size ≤ b0) (g1 : w.heap.size ≤ b1) (g2 : w.heap.size ≤ b2) (hb : Below w.heap.size w w') :
    SeqMade g p s1 s2 n1 n2 w (.returned (.func (.func g) #[] #[.pointer (some ⟨b0, 0, none⟩), .pointer (some ⟨b1, 0, none⟩), .pointer (some ⟨b2, 0, none⟩)])) w' := ⟨b0, b1, b2, rfl, h1, h2, h3, h4, h0, g0, g1, g2, hb⟩
end Go.Proofs.Ytibfbdgenamlkaa

namespace Go.Proofs.Ytibfbdgenamlkaa
open Go.RowKit

/-- The numbers of points, one behind the other. -/
def flat (xs : List (Int × Int)) : List Int := xs.flatMap fun x => [x.1, x.2]
theorem flat_append (xs : List (Int × Int)) (x : Int × Int) : flat (xs ++ [x]) = flat xs ++ [x.1, x.2] := by simp [flat]
theorem flat_length (xs : List (Int × Int)) : (flat xs).length = xs.length * 2 := by
  induction xs with
  | nil => rfl
  | cons x xs ih => simp [flat] at ih ⊢; omega
/-- The combinations of two points with the numbers below k. -/
def cbs (p s1 s2 n1 n2 : Int) (k : Nat) : List (Int × Int) := (List.range k).map fun t : Nat => (cmb p s1 n1 (t : Int), cmb p s2 n2 (t : Int))
/-- A row of the grid, up to y; the rows below x. -/
def rowL (f : Int → Int → Bool) (x y : Nat) : List (Int × Int) := ((List.range y).filter fun b : Nat => f (x : Int) (b : Int)).map fun b : Nat => ((x : Int), (b : Int))
def gridL (f : Int → Int → Bool) (m x : Nat) : List (Int × Int) := (List.range x).flatMap fun a : Nat => rowL f a m
theorem rowL_yes {f : Int → Int → Bool} {x y : Nat} (h : f x y = true) : rowL f x (y + 1) = rowL f x y ++ [((x : Int), (y : Int))] := by simp [rowL, List.range_succ, List.filter_append, h]
theorem rowL_no {f : Int → Int → Bool} {x y : Nat} (h : f x y = false) : rowL f x (y + 1) = rowL f x y := by simp [rowL, List.range_succ, List.filter_append, h]
theorem rowL_le (f : Int → Int → Bool) (x y : Nat) : (rowL f x y).length ≤ y := by
  have := List.length_filter_le (fun b : Nat => f (x : Int) (b : Int)) (List.range y)
  simpa [rowL] using this
theorem gridL_succ (f : Int → Int → Bool) (m x : Nat) : gridL f m (x + 1) = gridL f m x ++ rowL f x m := by simp [gridL, List.range_succ]
theorem gridL_le (f : Int → Int → Bool) (m x : Nat) : (gridL f m x).length ≤ x * m := by
  induction x with
  | zero => simp [gridL]
  | succ x ih =>
    have := rowL_le f x m
    rw [gridL_succ, List.length_append, Nat.add_mul]; omega

/-- A test with one answer. -/
theorem filter_one {m y0 : Nat} {f : Nat → Bool} (h : ∀ b, b < m → f b = decide (b = y0)) : (List.range m).filter f = if y0 < m then [y0] else [] := by
  induction m with
  | zero => simp
  | succ m ih =>
    rw [List.range_succ, List.filter_append, ih fun b hb => h b (by omega)]
    have hm := h m (by omega)
    by_cases e : m = y0
    · subst e; simp [hm]
    · have hq : (y0 < m + 1) = (y0 < m) := propext ⟨fun _ => by omega, fun _ => by omega⟩
      simp only [hq]; simp [hm, e]
theorem filter_all {m : Nat} {f : Nat → Bool} (h : ∀ b, b < m → f b = true) : (List.range m).filter f = List.range m := by
  rw [List.filter_eq_self]; intro b hb; exact h b (List.mem_range.1 hb)
theorem filter_none {m : Nat} {f : Nat → Bool} (h : ∀ b, b < m → f b = false) : (List.range m).filter f = [] := by
  rw [List.filter_eq_nil_iff]; intro b hb; rw [h b (List.mem_range.1 hb)]; simp
/-- One point a row. -/
theorem grid_each {f : Int → Int → Bool} {m : Nat} {g : Nat → Nat} : ∀ x : Nat, (∀ a, a < x → g a < m ∧ ∀ b, b < m → f (a : Int) (b : Int) = decide (b = g a)) → gridL f m x = (List.range x).map fun a : Nat => ((a : Int), (g a : Int))
  | 0, _ => rfl
  | x + 1, h => by
    rw [gridL_succ, grid_each x fun a ha => h a (by omega), List.range_succ, List.map_append]
    congr 1
    rw [rowL, filter_one (h x (by omega)).2, if_pos (h x (by omega)).1]; rfl
/-- One row alone. -/
theorem grid_alone {f : Int → Int → Bool} {m x0 : Nat} : ∀ x : Nat, (∀ a, a < x → ∀ b, b < m → f (a : Int) (b : Int) = decide (a = x0)) → gridL f m x = if x0 < x then (List.range m).map fun b : Nat => ((x0 : Int), (b : Int)) else []
  | 0, _ => by simp [gridL]
  | x + 1, h => by
    rw [gridL_succ, grid_alone x fun a ha => h a (by omega)]
    by_cases e : x = x0
    · subst e
      rw [if_neg (by omega), if_pos (by omega), List.nil_append, rowL, filter_all fun b hb => by rw [h x (by omega) b hb]; simp]
    · rw [rowL, filter_none fun b hb => by rw [h x (by omega) b hb]; simp [e]]
      have hq : (x0 < x + 1) = (x0 < x) := propext ⟨fun _ => by omega, fun _ => by omega⟩
      simp only [hq]; simp

section
variable {n : Nat} [NeZero n]
theorem onB_iff {l1 l2 l3 x y : Int} : onB n x y l1 l2 l3 = true ↔ K n l1 * K n x + K n l2 * K n y + K n l3 = 0 := by
  rw [onB, beq_iff_eq, ← K_eq_zero, K_add, K_add, K_mul, K_mul]
end
/-- The points of a line by rows are the combinations of its first two. -/
theorem points_line {p l1 l2 l3 : Int} (hp : isP p = true) (hl : leadB l1 l2 = true) (h1 : 0 ≤ l1 ∧ l1 < p) (h2 : 0 ≤ l2 ∧ l2 < p) (h3 : 0 ≤ l3 ∧ l3 < p) :
    cbs p (sqS1 p l1 l2 l3) (sqS2 p l1 l2 l3) (sqN1 p l1 l2 l3) (sqN2 p l1 l2 l3) p.toNat = gridL (fun x y => onB p x y l1 l2 l3) p.toNat p.toNat := by
  have hr := isP_range hp
  obtain ⟨n, rfl⟩ := Int.eq_ofNat_of_zero_le (by omega : 0 ≤ p)
  haveI := neZero_of hp
  rw [Int.toNat_natCast]
  have cast0 : ∀ x : Int, 0 ≤ x % n ∧ x % n < n := fun x => ⟨Int.emod_nonneg _ (by omega), Int.emod_lt_of_pos _ (by omega)⟩
  by_cases hb : l2 = 0
  · subst hb
    have hl1 : l1 = 1 := by rcases lead_ways hl with h | ⟨_, h⟩ <;> omega
    subst hl1
    obtain ⟨x0, hx0⟩ := Int.eq_ofNat_of_zero_le (cast0 (-l3)).1
    have hx1 := (cast0 (-l3)).2
    rw [grid_alone (x0 := x0) n ?_, if_pos (by omega)]
    · unfold cbs
      refine List.map_congr_left fun t ht => ?_
      have ht' := List.mem_range.1 ht
      simp only [sqS1, sqS2, sqN1, sqN2, beq_self_eq_true, if_true, hx0, cmb, Prod.mk.injEq]
      constructor
      · rw [Int.sub_self, Int.mul_zero, Int.add_zero, Int.emod_eq_of_lt (by omega) (by omega)]
      · rw [Int.sub_zero, Int.mul_one, Int.zero_add, Int.emod_eq_of_lt (by omega) (by omega)]
    · intro a ha b hb
      rw [Bool.eq_iff_iff, onB_iff, decide_eq_true_iff]
      have hk : K n (x0 : Int) = - K n l3 := by rw [← hx0, K_mod, K_neg]
      rw [K_one, K_zero]
      constructor
      · intro h
        have : K n (a : Int) = K n (x0 : Int) := by rw [hk]; grind
        have := K_inj (n := n) ⟨by omega, by omega⟩ ⟨by omega, by omega⟩ this
        omega
      · rintro rfl
        rw [hk]; grind
  · have hk2 : K n l2 ≠ 0 := K_small h2 hb
    have hinv := K_inv hp hk2
    have hbe : (l2 == 0) = false := by simpa using hb
    have hy : ∀ a : Nat, ∃ y : Nat, y < n ∧ K n (y : Int) = -(K n l1 * K n (a : Int) + K n l3) * K n (inv n l2) := fun a => by
      obtain ⟨y, e⟩ := Int.eq_ofNat_of_zero_le (cast0 (-(l1 * a + l3) * inv n l2)).1
      have := (cast0 (-(l1 * a + l3) * inv n l2)).2
      exact ⟨y, by omega, by rw [← e, K_mod, K_mul, K_neg, K_add, K_mul]⟩
    rw [grid_each (g := fun a => Classical.choose (hy a)) n ?_]
    · unfold cbs
      refine List.map_congr_left fun t ht => ?_
      have ht' := List.mem_range.1 ht
      obtain ⟨c1, c2⟩ := Classical.choose_spec (hy t)
      simp only [sqS1, sqS2, sqN1, sqN2, hbe, Bool.false_eq_true, if_false, cmb, Prod.mk.injEq]
      constructor
      · rw [Int.sub_zero, Int.mul_one, Int.zero_add, Int.emod_eq_of_lt (by omega) (by omega)]
      · refine K_inj (n := n) (cast0 _) ⟨by omega, by omega⟩ ?_
        rw [c2]
        simp only [K_mod, K_add, K_mul, K_sub, K_neg]
        grind
    · intro a ha
      obtain ⟨c1, c2⟩ := Classical.choose_spec (hy a)
      refine ⟨c1, fun b hb' => ?_⟩
      rw [Bool.eq_iff_iff, onB_iff, decide_eq_true_iff]
      constructor
      · intro h
        have : K n (b : Int) = K n ((Classical.choose (hy a) : Nat) : Int) := by rw [c2]; grind
        have := K_inj (n := n) ⟨by omega, by omega⟩ ⟨by omega, by omega⟩ this
        omega
      · intro h
        rw [h, c2]; grind

end Go.Proofs.Ytibfbdgenamlkaa

namespace Go.Proofs.Ytibfbdgenamlkaa
open Go.RowKit Go.Shelf

attribute [local go_sem] Oper.semAt_some

/-- A point as a value. -/
def ptV (x : Int × Int) : Value := .agg #[.int .i64 x.1, .int .i64 x.2]
theorem below_grown {W w1 : World} (h : Below W.heap.size W w1) : W.grownBy w1 none := ⟨h.os, h.tape, h.output, h.size, fun k hk _ => h.block k hk⟩

/-- The blocks from lo to hi lie as they lay; none has gone. -/
def Btw (lo hi : Nat) (W W' : World) : Prop := W.heap.size ≤ W'.heap.size ∧ ∀ k, lo ≤ k → k < hi → W'.heap[k]? = W.heap[k]?
theorem btw_refl (lo hi : Nat) (W : World) : Btw lo hi W W := ⟨Nat.le_refl _, fun _ _ _ => rfl⟩
theorem btw_trans {lo hi : Nat} {A B C : World} (h : Btw lo hi A B) (k : Btw lo hi B C) : Btw lo hi A C := ⟨Nat.le_trans h.1 k.1, fun i h1 h2 => (k.2 i h1 h2).trans (h.2 i h1 h2)⟩
theorem btw_below {lo hi B : Nat} {W W' : World} (h : Below B W W') (hB : hi ≤ B) : Btw lo hi W W' := ⟨h.size, fun k _ hk => h.block k (by omega)⟩
theorem btw_alloc {lo hi : Nat} (W : World) (o : Obj) (h : hi ≤ W.heap.size) : Btw lo hi W (W.alloc o) := btw_below ((Below.refl hi W).alloc h o) (Nat.le_refl _)
theorem btw_grown {lo hi : Nat} {W W' : World} {row : Option Nat} (h : W.grownBy W' row) (hi' : hi ≤ W.heap.size) (hr : ∀ g, row = some g → g < lo ∨ hi ≤ g) : Btw lo hi W W' :=
  ⟨h.size, fun k h1 h2 => h.block k (by omega) (fun e => by have := hr k e.symm; omega)⟩
theorem btw_setCell {lo hi : Nat} (W : World) (a : Addr) (v : Value) (h : a.block < lo ∨ hi ≤ a.block) : Btw lo hi W (W.setCell a v) :=
  ⟨by simp [World.setCell], fun k h1 h2 => Below.heap_setCell W a v k (by omega)⟩
theorem btw_putObj {lo hi : Nat} {w : World} (h : hi ≤ w.heap.size) (W : World) (l : Nat) (o o' : Obj) (hl : w.heap.size ≤ l) (_ : W.heap[l]? = some o) (_ : o.isCells = false) (_ : o.isWalk = false) : Btw lo hi W (W.putObj l o') := by
  have hg := grownBy_putObj' W l o'
  exact ⟨hg.size, fun k h1 h2 => hg.block k (by
    rcases Nat.lt_or_ge k W.heap.size with h3 | h3
    · exact h3
    · have := (Array.getElem?_eq_some_iff.1 (by assumption : W.heap[l]? = some o)).1; omega) (fun e => by cases e; omega)⟩
theorem btw_cell {lo hi : Nat} {W W' : World} (h : Btw lo hi W W') {b : Nat} (h1 : lo ≤ b) (h2 : b < hi) (j : Nat) : W'.cell? ⟨b, j, none⟩ = W.cell? ⟨b, j, none⟩ := World.cell?_of_block (a := ⟨b, j, none⟩) (h.2 b h1 h2)

/-- A box that holds a point. -/
def Box2 (W : World) (B : Nat) (t : TypeId) (x : Int × Int) : Prop := W.heap[B]? = some (.cells #[.int .i64 x.1, .int .i64 x.2] t (0, 0))
theorem box2_cell1 {W : World} {B : Nat} {t : TypeId} {x : Int × Int} (h : Box2 W B t x) : W.cell? ⟨B, 0, none⟩ = some (.int .i64 x.1) := by simp [World.cell?, show W.heap[B]? = _ from h]
theorem box2_cell2 {W : World} {B : Nat} {t : TypeId} {x : Int × Int} (h : Box2 W B t x) : W.cell? ⟨B, 1, none⟩ = some (.int .i64 x.2) := by simp [World.cell?, show W.heap[B]? = _ from h]
theorem box2_own (B C : Nat) (t : TypeId) (x : Int × Int) : OwnFrom C (fun (_ : Unit) W => Box2 W B t x) := fun _ X Y row hs hg hrow =>
  (hg.block B (Array.getElem?_eq_some_iff.1 hs).1 (fun e' => by
    obtain ⟨_, o, ho, hc⟩ := hrow B e'.symm
    rw [show X.heap[B]? = _ from hs] at ho; cases ho; cases hc)).trans hs
theorem box2_new (W : World) (t : TypeId) (x : Int × Int) : Box2 (W.alloc (.cells #[.int .i64 x.1, .int .i64 x.2] t)) W.heap.size t x := World.alloc_heap_new W _
theorem row_own {β : Type} (n₀ : Nat) (e : TypeId) (size : Nat) (v : β → Value) (k : β → Nat) (f : β → List Value) : Own (fun s W => W.ownsRow n₀ e size (v s) (k s) (f s)) := by
  rintro s X Y row hr hg hrow
  refine hr.kept hg ?_
  rcases hr.2 with ⟨hv, _⟩ | ⟨g, cap, cur, hv, _, hgb, _⟩
  · rw [hv]; exact .inl rfl
  · rw [hv]; refine .inr fun e' => ?_
    obtain ⟨o, ho, hc⟩ := hrow g (by simpa [Value.ownBlock] using e'.symm)
    rw [hgb] at ho; cases ho; cases hc
theorem size_own {β : Type} (B n : Nat) : OwnFrom B (fun (_ : β) W => n ≤ W.heap.size) := fun _ _ _ _ hs hg _ => Nat.le_trans hs hg.size

theorem btw_own {β : Type} {lo hi : Nat} {W0 : World} (h : hi ≤ W0.heap.size) : OwnFrom W0.heap.size (fun (_ : β) W => Btw lo hi W0 W) := fun _ _ _ _ hs hg hr =>
  btw_trans hs (btw_grown hg (Nat.le_trans h hs.1) (fun g e => .inr (Nat.le_trans h (hr g e).1)))
theorem below_drew {W w' : World} (h : Below W.drew.heap.size W.drew w') : Below W.heap.size W w' := ⟨h.os, h.tape, h.output, h.size, h.block⟩

end Go.Proofs.Ytibfbdgenamlkaa

namespace Go.Proofs.Ytibfbdgenamlkaa
open Go.RowKit Go.Shelf

attribute [local go_sem] Oper.semAt_some

/-- All points: the rows below x, and of row x those below y. -/
def tt2 (_ _ : Int) : Bool := true
def allL (m x y : Nat) : List (Int × Int) := gridL tt2 m x ++ rowL tt2 x y
theorem rowT_len (x y : Nat) : (rowL tt2 x y).length = y := by rw [rowL, filter_all (f := fun b : Nat => tt2 (x : Int) (b : Int)) fun _ _ => rfl]; simp
theorem gridT_len (m x : Nat) : (gridL tt2 m x).length = x * m := by
  induction x with
  | zero => simp [gridL]
  | succ x ih => rw [gridL_succ, List.length_append, ih, rowT_len, Nat.add_mul, Nat.one_mul]
theorem allL_len (m x y : Nat) : (allL m x y).length = x * m + y := by rw [allL, List.length_append, gridT_len, rowT_len]
theorem allL_zero (m x : Nat) : allL m x 0 = gridL tt2 m x := by simp [allL, rowL]
theorem allL_next (m x y : Nat) : allL m x (y + 1) = allL m x y ++ [((x : Int), (y : Int))] := by
  rw [allL, rowL_yes (f := tt2) rfl, ← List.append_assoc]; rfl
theorem allL_row (m x : Nat) : allL m x m = allL m (x + 1) 0 := by rw [allL_zero, gridL_succ, allL]
theorem gridT_pre (m : Nat) {x n : Nat} (h : x ≤ n) : gridL tt2 m x <+: gridL tt2 m n := by
  induction n with
  | zero => rw [Nat.le_zero.1 h]; exact List.prefix_refl _
  | succ n ih =>
    by_cases e : x = n + 1
    · rw [e]; exact List.prefix_refl _
    · exact (ih (by omega)).trans ⟨_, (gridL_succ _ _ _).symm⟩
theorem rowT_pre (x : Nat) {y m : Nat} (h : y ≤ m) : rowL tt2 x y <+: rowL tt2 x m := by
  induction m with
  | zero => rw [Nat.le_zero.1 h]; exact List.prefix_refl _
  | succ m ih =>
    by_cases e : y = m + 1
    · rw [e]; exact List.prefix_refl _
    · exact (ih (by omega)).trans ⟨_, (rowL_yes (f := tt2) rfl).symm⟩
theorem allL_pre {m x y : Nat} (hx : x < m) (hy : y ≤ m) : allL m x y <+: gridL tt2 m m := by
  have h1 : allL m x y <+: gridL tt2 m (x + 1) := by
    rw [gridL_succ, allL]; exact (List.prefix_append_right_inj _).2 (rowT_pre x hy)
  exact h1.trans (gridT_pre m (by omega))

/-- A point whose numbers are small: what a loop over all points is handed. -/
abbrev Pt32 := Fin 32 × Fin 32
def toF (z : Int × Int) : Pt32 := (Fin.ofNat 32 z.1.toNat, Fin.ofNat 32 z.2.toNat)
def toP (x : Pt32) : Int × Int := ((x.1.val : Int), (x.2.val : Int))
def allF (m x y : Nat) : List Pt32 := (allL m x y).map toF
theorem allF_len (m x y : Nat) : (allF m x y).length = x * m + y := by rw [allF, List.length_map, allL_len]
theorem allF_next (m x y : Nat) : allF m x (y + 1) = allF m x y ++ [toF ((x : Int), (y : Int))] := by simp [allF, allL_next]
theorem allF_row (m x : Nat) : allF m x m = allF m (x + 1) 0 := by rw [allF, allL_row]; rfl
theorem toP_toF {x y : Nat} (hx : x < 32) (hy : y < 32) : toP (toF ((x : Int), (y : Int))) = ((x : Int), (y : Int)) := by
  simp [toP, toF, Fin.ofNat, Nat.mod_eq_of_lt hx, Nat.mod_eq_of_lt hy]
theorem allF_back {m x : Nat} (hm : m ≤ 32) (hx : x ≤ 32) : (allF m x 0).map toP = gridL tt2 m x := by
  rw [allF, allL_zero, List.map_map]
  have : ∀ z ∈ gridL tt2 m x, (toP ∘ toF) z = id z := by
    intro z hz
    rw [gridL, List.mem_flatMap] at hz
    obtain ⟨a, ha, hz⟩ := hz
    rw [rowL, List.mem_map] at hz
    obtain ⟨b, hb, rfl⟩ := hz
    have h1 := List.mem_range.1 ha
    have h2 := List.mem_range.1 (List.mem_filter.1 hb).1
    exact toP_toF (by omega) (by omega)
  rw [List.map_congr_left this, List.map_id]
theorem allF_pre {m x y : Nat} (hx : x < m) (hy : y ≤ m) : allF m x y <+: allF m m 0 := by
  have h := allL_pre hx hy
  obtain ⟨t, ht⟩ := h
  exact ⟨t.map toF, by rw [allF, allF, allL_zero, ← ht, List.map_append]⟩

set_option maxRecDepth 20000 in
set_option maxHeartbeats 400000 in
theorem allPoints_any (p : Int) (w : World) :
    Calls Try.prog 78 #[.int .i64 p] w fun e w' => e = .returned (.func (.func 95) #[] #[.pointer (some ⟨w.heap.size, 0, none⟩)]) ∧ w' = w.alloc (.cells #[.int .i64 p] 2) := by
  go_enter Try.func78, Try.ntmps78
  go_wp2
  go_ret
  exact ⟨rfl, rfl⟩

set_option maxRecDepth 100000 in
set_option maxRecDepth 20000 in
set_option maxHeartbeats 1000000 in
theorem seqAll_in (n l b0 lo hi : Nat) (p : Int) (hn : 1 ≤ n) (hp : isP p = true) (J Jx : List Pt32 → World → Prop)
    (W : World) (hY : ∀ pre x W1, J pre W1 → pre.length < p.toNat * p.toNat → YieldAt Fence.wide (n - 1) Try.prog l #[ptV (toP x)] W1 fun e W' =>
      (e = .returned (.bool true) ∧ J (pre ++ [x]) W' ∧ Btw lo hi W1 W') ∨ (e = .returned (.bool false) ∧ Jx (pre ++ [x]) W'))
    (h0 : W.cell? ⟨b0, 0, none⟩ = some (.int .i64 p)) (g0 : lo ≤ b0 ∧ b0 < hi) (hst : J [] W) :
    CallsIn Fence.wide n Try.prog 95 #[.func (.yield l) #[] #[], .pointer (some ⟨b0, 0, none⟩)] W fun e W' => (∃ v, e = .returned v) ∧
      ((∃ ys, ys = allF p.toNat p.toNat 0 ∧ J ys W') ∨ (∃ pre, pre <+: allF p.toNat p.toNat 0 ∧ Jx pre W')) := by
  have hr := isP_range hp
  have hc0 : (p.toNat : Int) = p := Int.toNat_of_nonneg (by omega)
  have HC0 := Lib.hid hc0
  clear hc0
  refine callsIn_of_wp Try.func95 rfl trivial ?_ rfl
  simp only [Try.ntmps95, List.size_toArray, List.length_cons, List.length_nil, Nat.reduceAdd, Nat.reduceSub, Array.replicate_succ, Array.replicate_zero, List.push_toArray, List.append_toArray, List.nil_append, List.cons_append]
  gi_wp2
  gi_loopw [3, 4, 6] (fun _ _ i wr => ∃ x : Nat, (x : Int) ≤ p ∧ i = .int .i64 x ∧ J (allF p.toNat x 0) wr ∧ Btw lo hi W wr) (fun _ _ i _ => p.toNat - (intOf i).toNat)
  case atStart => exact ⟨0, by omega, rfl, hst, btw_refl _ _ _⟩
  case round =>
    obtain ⟨x, hx, rfl, hJx', hbel⟩ := hrel
    obtain ⟨wo, rfl⟩ : ∃ wo : World, wo = wr := ⟨_, rfl⟩
    by_cases hlt : (x : Int) < p
    · have c0 : wo.cell? ⟨b0, 0, none⟩ = some (.int .i64 p) := (btw_cell hbel g0.1 g0.2 0).trans h0
      have HR := Lib.hid (allF_row p.toNat x)
      gi_wp2
      gi_loopw [4, 10] (fun _ j wr => ∃ y : Nat, (y : Int) ≤ p ∧ j = .int .i64 y ∧ J (allF p.toNat x y) wr ∧ Btw lo hi W wr) (fun _ j _ => p.toNat - (intOf j).toNat)
      case atStart => exact ⟨0, by omega, rfl, hJx', hbel⟩
      case round =>
        obtain ⟨y, hy, rfl, hJy, hbel⟩ := hrel
        by_cases hlty : (y : Int) < p
        · have HS := Lib.hid (allF_next p.toNat x y)
          have hxm : x < p.toNat ∧ y < p.toNat := by have := HC0.out; omega
          have hlen : (allF p.toNat x y).length < p.toNat * p.toNat := by
            rw [allF_len]
            have := Nat.mul_le_mul_right p.toNat (show x + 1 ≤ p.toNat by omega)
            rw [Nat.add_mul] at this; omega
          obtain ⟨fn, tmps, assign, body, hyy, hR⟩ := hY (allF p.toNat x y) (toF ((x : Int), (y : Int))) wr hJy hlen
          rw [toP_toF (by omega) (by omega)] at hyy
          dsimp only [ptV] at hyy
          clear hlen
          gi_wp2
          refine hR.mono ?_
          rintro e W3 (⟨rfl, hJ3, hk3⟩ | ⟨rfl, hJx3⟩)
          · gi_wp2
            go_roundw
            case rel => exact ⟨y + 1, by omega, by go_num, by rw [HS.out]; exact hJ3, btw_trans hbel hk3⟩
            case measure => have := HC0.out; simp [intOf]; omega
          · gi_wp2
            refine bodyPost_ret (results_none rfl _ _ _) rfl ?_
            exact ⟨⟨_, rfl⟩, .inr ⟨_, by rw [← HS.out]; exact allF_pre hxm.1 (by omega), hJx3⟩⟩
        · have e : y = p.toNat := by have := HC0.out; omega
          have HE := Lib.hid e
          clear e
          gi_wp2
          go_roundw
          case rel => exact ⟨x + 1, by omega, by go_num, by rw [← HR.out]; have h := hJy; rw [HE.out] at h; exact h, hbel⟩
          case measure => have := HC0.out; simp [intOf]; omega
    · have e : x = p.toNat := by have := HC0.out; omega
      have HE := Lib.hid e
      clear e
      gi_wp2
      go_end0
      exact ⟨⟨_, rfl⟩, .inl (by have := hJx'; rw [HE.out] at this; exact this)⟩

theorem seqAll_stops (n b0 lo hi : Nat) (p : Int) (hn : 1 ≤ n) (hp : isP p = true) (w : World)
    (h0 : w.cell? ⟨b0, 0, none⟩ = some (.int .i64 p)) (g0 : lo ≤ b0 ∧ b0 < hi) (hhi : hi ≤ w.heap.size) :
    SeqStopsK Fence.wide n Try.prog 95 #[.pointer (some ⟨b0, 0, none⟩)] (fun x => #[ptV (toP x)]) (Btw lo hi)
      (fun ys => ys = allF p.toNat p.toNat 0) (fun pre => pre <+: allF p.toNat p.toNat 0) (p.toNat * p.toNat) w := fun l J Jx W hW _ _ hY hst =>
  seqAll_in n l b0 lo hi p hn hp J Jx W hY ((cell_old hW (by omega) 0).trans h0) g0 hst

end Go.Proofs.Ytibfbdgenamlkaa

namespace Go.Proofs.Ytibfbdgenamlkaa
open Go.RowKit

set_option maxRecDepth 100000 in
theorem laidOut : laidOutB Try.prog = true := by kernel_rfl
set_option maxRecDepth 100000 in
theorem ptRow : (26 : TypeId) < Try.prog.types.size := of_decide_eq_true (by kernel_rfl)
theorem ptWide : (match Try.prog.underlying 26 with | some (.array _ _) | some (.struct _) => true | _ => false) = true := by rw [Try.underlying26]
set_option maxRecDepth 100000 in
theorem ptLaw : Go.Maps.Keyed Try.prog 26 := Go.Maps.Keyed.of_law (deep_law_laid laidOut (m := 2) (by omega) ptRow (by kernel_rfl) ptWide)
set_option maxRecDepth 100000 in
theorem ptArr : Go.WideMaps.ArrKey Try.prog 26 2 2 := ⟨Try.underlying26, by kernel_rfl, by kernel_rfl, by kernel_rfl⟩
theorem pred_of {n k : Nat} (h : k < n) : ∃ m, n = m + 1 := ⟨n - 1, by omega⟩
theorem typesSome : ∃ m, Try.prog.types.size = m + 1 := pred_of ptRow
/-- A point as a key. -/
def klP (x y : Int) : Lit := .string (Go.keyBytes [.int .i64 x, .int .i64 y])
theorem wf31 {x : Int} (h : 0 ≤ x ∧ x ≤ 31) : (Lit.int .i64 x).wf = true := WalkArith.wf_i64 (by omega)
theorem keyOf_pt {x y : Int} (hx : 0 ≤ x ∧ x ≤ 31) (hy : 0 ≤ y ∧ y ≤ 31) : keyOf Try.prog 26 (.agg #[.int .i64 x, .int .i64 y]) = some (klP x y) :=
  Go.WideMaps.keyOf_pair ptArr Try.underlying2 typesSome (wf31 hx) (wf31 hy)
theorem klP_inj {x y x' y' : Int} (hx : 0 ≤ x ∧ x ≤ 31) (hy : 0 ≤ y ∧ y ≤ 31) (hx' : 0 ≤ x' ∧ x' ≤ 31) (hy' : 0 ≤ y' ∧ y' ≤ 31) (h : klP x y = klP x' y') : x = x' ∧ y = y' := by
  have := ptLaw.inj (keyOf_pt hx hy) (by rw [h]; exact keyOf_pt hx' hy')
  simpa using this
theorem klP_key {x y : Int} (hx : 0 ≤ x ∧ x ≤ 31) (hy : 0 ≤ y ∧ y ≤ 31) : WideAt.IsKeyLit (klP x y) := ptLaw.key (keyOf_pt hx hy)

end Go.Proofs.Ytibfbdgenamlkaa

namespace Go.Proofs.Ytibfbdgenamlkaa
open Go.RowKit

/-- A set of points, put in one after the other. -/
def setD (xs : List (Int × Int)) : DataW Unit := xs.foldl (fun D x => D.put (klP x.1 x.2) (.lit (.bool true))) (.map [])
theorem setD_snoc (xs : List (Int × Int)) (x : Int × Int) : setD (xs ++ [x]) = (setD xs).put (klP x.1 x.2) (.lit (.bool true)) := by simp [setD]

/-- The points of the grid that a test takes. -/
theorem row_filter (f : Int → Int → Bool) (x y : Nat) : rowL f x y = (rowL tt2 x y).filter fun z => f z.1 z.2 := by
  induction y with
  | zero => rfl
  | succ y ih =>
    rw [rowL_yes (f := tt2) rfl, List.filter_append, ← ih]
    cases h : f x y
    · rw [rowL_no h]; simp [h]
    · rw [rowL_yes h]; simp [h]
theorem grid_filter (f : Int → Int → Bool) (m x : Nat) : gridL f m x = (gridL tt2 m x).filter fun z => f z.1 z.2 := by
  induction x with
  | zero => rfl
  | succ x ih => rw [gridL_succ, gridL_succ, List.filter_append, ← ih, ← row_filter]
theorem row_mem {f : Int → Int → Bool} {x y : Nat} {z : Int × Int} (h : z ∈ rowL f x y) : z.1 = x ∧ 0 ≤ z.2 ∧ z.2 < y := by
  rw [rowL, List.mem_map] at h
  obtain ⟨b, hb, rfl⟩ := h
  have := List.mem_range.1 (List.mem_filter.1 hb).1
  exact ⟨rfl, by simp, by simpa using this⟩
theorem grid_mem {f : Int → Int → Bool} {m x : Nat} {z : Int × Int} (h : z ∈ gridL f m x) : (0 ≤ z.1 ∧ z.1 < x) ∧ 0 ≤ z.2 ∧ z.2 < m := by
  rw [gridL, List.mem_flatMap] at h
  obtain ⟨a, ha, hz⟩ := h
  have h1 := List.mem_range.1 ha
  have h2 := row_mem hz
  omega
theorem row_nodup (f : Int → Int → Bool) (x y : Nat) : (rowL f x y).Nodup := by
  induction y with
  | zero => exact List.nodup_nil
  | succ y ih =>
    cases h : f x y
    · rw [rowL_no h]; exact ih
    · rw [rowL_yes h, List.nodup_append]
      refine ⟨ih, by simp, fun a ha b hb e => ?_⟩
      have h1 := row_mem ha
      simp only [List.mem_singleton] at hb
      rw [e, hb] at h1
      simp at h1
theorem grid_nodup (f : Int → Int → Bool) (m x : Nat) : (gridL f m x).Nodup := by
  induction x with
  | zero => exact List.nodup_nil
  | succ x ih =>
    rw [gridL_succ, List.nodup_append]
    refine ⟨ih, row_nodup f x m, fun a ha b hb e => ?_⟩
    have h1 := grid_mem ha
    have h2 := row_mem hb
    rw [e] at h1; omega
theorem size_nodup (u : DataW Unit) : ∀ (xs : List Lit) (m : DataW Unit), Maps.Tidy m → (∀ x ∈ xs, WideAt.IsKeyLit x) → xs.Nodup → (∀ x ∈ xs, Maps.has m x = false) →
    Maps.size (xs.foldl (fun m x => m.put x u) m) = Maps.size m + xs.length
  | [], _, _, _, _, _ => by simp
  | x :: r, m, hm, hk, hn, hh => by
    have hn' := List.nodup_cons.1 hn
    rw [List.foldl_cons, size_nodup u r (m.put x u) (hm.put (hk x (by simp)) u) (fun y hy => hk y (by simp [hy])) hn'.2 (fun y hy => by
      rw [Maps.has_put_other (fun e => by subst e; exact hn'.1 hy)]; exact hh y (by simp [hy])), Maps.size_put hm, hh x (by simp)]
    simp; omega
theorem setD_size {xs : List (Int × Int)} (hr : ∀ z ∈ xs, (0 ≤ z.1 ∧ z.1 ≤ 31) ∧ 0 ≤ z.2 ∧ z.2 ≤ 31) (hn : xs.Nodup) : Maps.size (setD xs) = xs.length := by
  have e : setD xs = (xs.map fun z => klP z.1 z.2).foldl (fun m x => m.put x (.lit (.bool true))) (.map []) := by rw [setD, List.foldl_map]
  rw [e, size_nodup _ _ _ Maps.tidy_empty]
  · simp [Maps.size_eq]
  · intro k hk
    obtain ⟨z, hz, rfl⟩ := List.mem_map.1 hk
    exact klP_key (hr z hz).1 (hr z hz).2
  · refine List.pairwise_map.2 (List.Pairwise.imp_of_mem ?_ hn)
    intro a b ha hb hne e
    have := klP_inj (hr a ha).1 (hr a ha).2 (hr b hb).1 (hr b hb).2 e
    exact hne (Prod.ext this.1 this.2)
  · intro k _; rfl

end Go.Proofs.Ytibfbdgenamlkaa

namespace Go.Proofs.Ytibfbdgenamlkaa
open Go.RowKit

def alQ (p c z y : Int) : Int := if c = 0 then -z * y else if c = 2 then (if y = 0 then y else inv p y) else z * y
def alR (p c z x : Int) : Int := if c = 2 then (if x = 0 then x else inv p x) else z * x
def alM (p c z : Int) (v : Int × Int) : T6 := (v.1, alQ p c z v.2 % p, v.2, alR p c z v.1 % p, 0, 0)
def alF (p c z x y : Int) : Bool := mvB p c x (alQ p c z y % p) y (alR p c z x % p) && (sgn p x (alQ p c z y % p) y (alR p c z x % p) == z % p)
def alL (p c z : Int) (L : List (Int × Int)) : List T6 := L.map (alM p c z)
theorem alL_len (p c z : Int) (L : List (Int × Int)) : (alL p c z L).length = L.length := by simp [alL]
theorem alL_snoc (p c z : Int) (L : List (Int × Int)) (v : Int × Int) : alL p c z (L ++ [v]) = alL p c z L ++ [alM p c z v] := by simp [alL]
theorem al_new {p c z : Int} (f : Int → Int → Bool) (m x y : Nat) : alM p c z ((x : Int), (y : Int)) ∉ srtM (alL p c z (gridL f m x ++ rowL f x y)) := by
  intro h
  obtain ⟨v, hv, e⟩ := List.mem_map.1 (srtM_mem.1 h)
  simp only [alM, Prod.mk.injEq] at e
  rcases List.mem_append.1 hv with hv | hv
  · have := grid_mem hv; omega
  · have := row_mem hv; omega
def allM (p c z : Int) : List T6 := srtM (alL p c z (gridL (alF p c z) p.toNat p.toNat))
theorem allM_le {p : Int} (c z : Int) (hp : isP p = true) : (allM p c z).length ≤ 961 := by
  have hr := isP_range hp
  refine Nat.le_trans (srtM_le _) ?_
  rw [alL_len]
  exact Nat.le_trans (gridL_le _ _ _) (Nat.le_trans (Nat.mul_le_mul (by omega : p.toNat ≤ 31) (by omega : p.toNat ≤ 31)) (by decide))

end Go.Proofs.Ytibfbdgenamlkaa

namespace Go.Proofs.Ytibfbdgenamlkaa
open Go.RowKit

/-- One number of the point to which it leads x1, x2. y: the way, f: from, dv: the inverse of the way's product, sg: the sign; t, g, z: of to, along, across. -/
def mb (p c y1 y2 f1 f2 f3 f4 dv sg t g z x1 x2 : Int) : Int := (t + prd p c y1 y2 ((x1 - f1) % p) ((x2 - f2) % p) * dv * g + area p f1 f2 f3 f4 x1 x2 * dv * sg * z) % p
set_option linter.unusedSimpArgs false in
theorem mb_r (c y1 y2 f1 f2 f3 f4 dv sg t g z x1 x2 : Int) {p : Int} (h : isP p = true) : 0 ≤ mb p c y1 y2 f1 f2 f3 f4 dv sg t g z x1 x2 ∧ mb p c y1 y2 f1 f2 f3 f4 dv sg t g z x1 x2 < p := modR _ h
/-- A number of the matrix. -/
def md (p c y1 y2 f1 f2 f3 f4 dv sg t g z x1 x2 : Int) : Int := (mb p c y1 y2 f1 f2 f3 f4 dv sg t g z x1 x2 - mb p c y1 y2 f1 f2 f3 f4 dv sg t g z 0 0) % p
set_option linter.unusedSimpArgs false in
theorem md_r (c y1 y2 f1 f2 f3 f4 dv sg t g z x1 x2 : Int) {p : Int} (h : isP p = true) : 0 ≤ md p c y1 y2 f1 f2 f3 f4 dv sg t g z x1 x2 ∧ md p c y1 y2 f1 f2 f3 f4 dv sg t g z x1 x2 < p := modR _ h
/-- Across from a point. -/
def ac1 (p c a1 a2 : Int) : Int := (-prd p c a1 a2 0 1) % p
def ac2 (p c a1 a2 : Int) : Int := prd p c a1 a2 1 0
set_option linter.unusedSimpArgs false in
theorem ac1_r (c a1 a2 : Int) {p : Int} (h : isP p = true) : 0 ≤ ac1 p c a1 a2 ∧ ac1 p c a1 a2 < p := modR _ h
set_option linter.unusedSimpArgs false in
theorem ac2_r (c a1 a2 : Int) {p : Int} (h : isP p = true) : 0 ≤ ac2 p c a1 a2 ∧ ac2 p c a1 a2 < p := prd_lt _ _ _ _ _ h

end Go.Proofs.Ytibfbdgenamlkaa

namespace Go.Proofs.Ytibfbdgenamlkaa
open Go.RowKit

/-- A move that keeps (0, 0), put at a point. -/
def aboutM (p a1 a2 : Int) (m : T6) : T6 := (m.1, m.2.1, m.2.2.1, m.2.2.2.1, (a1 - ld p m.1 m.2.1 a1 a2) % p, (a2 - ld p m.2.2.1 m.2.2.2.1 a1 a2) % p)
/-- The turns about a point, in order. -/
def tuM (p c a1 a2 : Int) : List T6 := srtM ((allM p c 1).map (aboutM p a1 a2))
/-- The first j of them. -/
def tkM (p a1 a2 : Int) (N : List T6) (j : Nat) : List T6 := srtM ((N.take j).map (aboutM p a1 a2))
theorem tkM_le (p a1 a2 : Int) (N : List T6) (j : Nat) : (tkM p a1 a2 N j).length ≤ N.length := by
  have h := srtM_le ((N.take j).map (aboutM p a1 a2))
  rw [List.length_map, List.length_take] at h
  unfold tkM; omega
theorem tkM_sorted (p a1 a2 : Int) (N : List T6) (j : Nat) : (tkM p a1 a2 N j).Pairwise lt6 := srtM_sorted _
theorem tuM_le {p : Int} (c a1 a2 : Int) (hp : isP p = true) : (tuM p c a1 a2).length ≤ 961 := by
  refine Nat.le_trans (srtM_le _) ?_
  rw [List.length_map]; exact allM_le c 1 hp
/-- The way's inverse product. -/
def btI (p c a1 a2 b1 b2 : Int) : Int := inv p (prd p c ((b1 - a1) % p) ((b2 - a2) % p) ((b1 - a1) % p) ((b2 - a2) % p))
/-- The program's move of sign 1 from a, b to a, x. -/
def btM (p c a1 a2 b1 b2 : Int) (x : Int × Int) : T6 :=
  (md p c ((b1 - a1) % p) ((b2 - a2) % p) a1 a2 b1 b2 (btI p c a1 a2 b1 b2) 1 a1 ((x.1 - a1) % p) (ac1 p c ((x.1 - a1) % p) ((x.2 - a2) % p)) 1 0,
   md p c ((b1 - a1) % p) ((b2 - a2) % p) a1 a2 b1 b2 (btI p c a1 a2 b1 b2) 1 a1 ((x.1 - a1) % p) (ac1 p c ((x.1 - a1) % p) ((x.2 - a2) % p)) 0 1,
   md p c ((b1 - a1) % p) ((b2 - a2) % p) a1 a2 b1 b2 (btI p c a1 a2 b1 b2) 1 a2 ((x.2 - a2) % p) (ac2 p c ((x.1 - a1) % p) ((x.2 - a2) % p)) 1 0,
   md p c ((b1 - a1) % p) ((b2 - a2) % p) a1 a2 b1 b2 (btI p c a1 a2 b1 b2) 1 a2 ((x.2 - a2) % p) (ac2 p c ((x.1 - a1) % p) ((x.2 - a2) % p)) 0 1,
   mb p c ((b1 - a1) % p) ((b2 - a2) % p) a1 a2 b1 b2 (btI p c a1 a2 b1 b2) 1 a1 ((x.1 - a1) % p) (ac1 p c ((x.1 - a1) % p) ((x.2 - a2) % p)) 0 0,
   mb p c ((b1 - a1) % p) ((b2 - a2) % p) a1 a2 b1 b2 (btI p c a1 a2 b1 b2) 1 a2 ((x.2 - a2) % p) (ac2 p c ((x.1 - a1) % p) ((x.2 - a2) % p)) 0 0)
theorem btM_r {p c a1 a2 b1 b2 : Int} (x : Int × Int) (hp : isP p = true) : (0 ≤ (btM p c a1 a2 b1 b2 x).1 ∧ (btM p c a1 a2 b1 b2 x).1 < p) ∧ (0 ≤ (btM p c a1 a2 b1 b2 x).2.1 ∧ (btM p c a1 a2 b1 b2 x).2.1 < p) ∧ (0 ≤ (btM p c a1 a2 b1 b2 x).2.2.1 ∧ (btM p c a1 a2 b1 b2 x).2.2.1 < p) ∧ (0 ≤ (btM p c a1 a2 b1 b2 x).2.2.2.1 ∧ (btM p c a1 a2 b1 b2 x).2.2.2.1 < p) ∧ (0 ≤ (btM p c a1 a2 b1 b2 x).2.2.2.2.1 ∧ (btM p c a1 a2 b1 b2 x).2.2.2.2.1 < p) ∧ (0 ≤ (btM p c a1 a2 b1 b2 x).2.2.2.2.2 ∧ (btM p c a1 a2 b1 b2 x).2.2.2.2.2 < p) :=
  ⟨modR _ hp, modR _ hp, modR _ hp, modR _ hp, modR _ hp, modR _ hp⟩

section
variable {n : Nat} [NeZero n]
/-- The matrix of the program's move, colour by colour; W: the way, F: along, I: the inverse. -/
def Mx (c : Int) (W1 W2 F1 F2 I A B C D : Fin n) : Prop :=
  (c = 0 ∧ A = (W1 * F1 + W2 * F2) * I ∧ B = (W2 * F1 - W1 * F2) * I ∧ C = (W1 * F2 - W2 * F1) * I ∧ D = (W1 * F1 + W2 * F2) * I) ∨
  (c = 1 ∧ A = (W1 * F1 - W2 * F2) * I ∧ B = (W1 * F2 - W2 * F1) * I ∧ C = (W1 * F2 - W2 * F1) * I ∧ D = (W1 * F1 - W2 * F2) * I) ∨
  (c = 2 ∧ A = 2 * W2 * F1 * I ∧ B = 0 ∧ C = 0 ∧ D = 2 * W1 * F2 * I)
theorem bt_K {c a1 a2 b1 b2 x1 x2 : Int} (hc : colB c = true) :
    Mx c (K n b1 - K n a1) (K n b2 - K n a2) (K n x1 - K n a1) (K n x2 - K n a2) (K n (btI n c a1 a2 b1 b2)) (K n (btM n c a1 a2 b1 b2 (x1, x2)).1) (K n (btM n c a1 a2 b1 b2 (x1, x2)).2.1) (K n (btM n c a1 a2 b1 b2 (x1, x2)).2.2.1) (K n (btM n c a1 a2 b1 b2 (x1, x2)).2.2.2.1) ∧
    K n (btM n c a1 a2 b1 b2 (x1, x2)).2.2.2.2.1 = K n a1 - (K n (btM n c a1 a2 b1 b2 (x1, x2)).1 * K n a1 + K n (btM n c a1 a2 b1 b2 (x1, x2)).2.1 * K n a2) ∧
    K n (btM n c a1 a2 b1 b2 (x1, x2)).2.2.2.2.2 = K n a2 - (K n (btM n c a1 a2 b1 b2 (x1, x2)).2.2.1 * K n a1 + K n (btM n c a1 a2 b1 b2 (x1, x2)).2.2.2.1 * K n a2) := by
  unfold btM
  simp only [md, mb, ac1, ac2, area, K_mod, K_sub, K_add, K_mul, K_neg, prd_K, K_zero, K_one]
  generalize K n (btI n c a1 a2 b1 b2) = I
  generalize K n a1 = A1
  generalize K n a2 = A2
  generalize K n b1 = B1
  generalize K n b2 = B2
  generalize K n x1 = X1
  generalize K n x2 = X2
  unfold Mx
  rcases colB_ways hc with rfl | rfl | rfl <;> simp [show ¬ ((1 : Int) = 0) by decide, show ¬ ((2 : Int) = 0) by decide, show ¬ ((2 : Int) = 1) by decide] <;> clear hc <;> refine ⟨⟨?_, ?_, ?_, ?_⟩, ?_, ?_⟩ <;> grind -lia
/-- What a matrix of sign 1 that keeps the products looks like, colour by colour. -/
def Fm (c : Int) (A B C D : Fin n) : Prop :=
  (c = 0 ∧ B = -C ∧ D = A ∧ A * A + C * C = 1) ∨ (c = 1 ∧ B = C ∧ D = A ∧ A * A - C * C = 1) ∨ (c = 2 ∧ B = 0 ∧ C = 0 ∧ A * D = 1)
theorem fm_iff (hp : isP (n : Int) = true) {c m1 m2 m3 m4 : Int} (hc : colB c = true) :
    (mvB n c m1 m2 m3 m4 && (sgn n m1 m2 m3 m4 == 1 % n)) = true ↔ Fm c (K n m1) (K n m2) (K n m3) (K n m4) := by
  obtain ⟨i2, hi⟩ := K_halves hp
  rw [Bool.and_eq_true, beq_iff_eq, sgn, ← K_ext]
  simp only [mvB, Bool.and_eq_true]
  rw [prd_beq hp, prd_beq hp, prd_beq hp]
  simp only [prd_K, K_mod, K_sub, ld, K_add, K_mul, K_zero, K_one]
  generalize K n m1 = A at *
  generalize K n m2 = B at *
  generalize K n m3 = C at *
  generalize K n m4 = D at *
  unfold Fm
  rcases colB_ways hc with rfl | rfl | rfl <;> simp [show ¬ ((1 : Int) = 0) by decide, show ¬ ((2 : Int) = 0) by decide, show ¬ ((2 : Int) = 1) by decide] <;> clear hc hp
  · constructor
    · rintro ⟨⟨h1, h2, h3⟩, h4⟩
      refine ⟨?_, ?_, ?_⟩ <;> grind -lia
    · rintro ⟨rfl, rfl, h⟩
      refine ⟨⟨?_, ?_, ?_⟩, ?_⟩ <;> grind -lia
  · constructor
    · rintro ⟨⟨h1, h2, h3⟩, h4⟩
      refine ⟨?_, ?_, ?_⟩ <;> grind -lia
    · rintro ⟨rfl, rfl, h⟩
      refine ⟨⟨?_, ?_, ?_⟩, ?_⟩ <;> grind -lia
  · constructor
    · rintro ⟨⟨h1, h2, h3⟩, h4⟩
      have e1 : A * D = 1 := half hi (by grind -lia)
      have e2 : A * C = 0 := half hi (by grind -lia)
      have e3 : B * D = 0 := half hi (by grind -lia)
      clear h1 h2 h3 h4 hi
      refine ⟨?_, ?_, e1⟩ <;> grind -lia
    · rintro ⟨rfl, rfl, h⟩
      refine ⟨⟨?_, ?_, ?_⟩, ?_⟩ <;> grind -lia
/-- The model's second column. -/
theorem fm_al (hp : isP (n : Int) = true) {c m1 m2 m3 m4 : Int} (hc : colB c = true) (h1 : 0 ≤ m1 ∧ m1 < n) (h2 : 0 ≤ m2 ∧ m2 < n) (h3 : 0 ≤ m3 ∧ m3 < n) (h4 : 0 ≤ m4 ∧ m4 < n)
    (h : Fm c (K n m1) (K n m2) (K n m3) (K n m4)) : alQ n c 1 m3 % n = m2 ∧ alR n c 1 m1 % n = m4 := by
  have z0 : ∀ {x : Int}, (0 ≤ x ∧ x < n) → K n x = 0 → x = 0 := fun hx e => by
    refine Classical.byContradiction fun q => K_small hx q e
  rcases h with ⟨rfl, e1, e2, _⟩ | ⟨rfl, e1, e2, _⟩ | ⟨rfl, e1, e2, e3⟩
  · refine ⟨K_inj (modR _ hp) h2 ?_, K_inj (modR _ hp) h4 ?_⟩
    · rw [K_mod, e1]; simp [alQ, K_neg]
    · rw [K_mod, e2]; simp [alR]
  · refine ⟨K_inj (modR _ hp) h2 ?_, K_inj (modR _ hp) h4 ?_⟩
    · rw [K_mod, e1]; simp [alQ]
    · rw [K_mod, e2]; simp [alR]
  · have hm1 : m1 ≠ 0 := fun e => by rw [e, K_zero] at e3; have := K_one_ne (n := n) hp; rw [K_one] at this; exact this (by rw [← e3]; grind)
    refine ⟨K_inj (modR _ hp) h2 ?_, K_inj (modR _ hp) h4 ?_⟩
    · rw [K_mod, e1, z0 h3 e2]; simp [alQ, K_zero]
    · rw [K_mod]
      simp only [alR, if_true, if_neg hm1]
      have hi := K_inv hp (K_small h1 hm1)
      grind -lia
theorem fm_of_mx {c : Int} {W1 W2 F1 F2 I A B C D : Fin n} (h : Mx c W1 W2 F1 F2 I A B C D)
    (hW : (c = 0 ∧ (W1 * W1 + W2 * W2) * I = 1 ∧ (F1 * F1 + F2 * F2) * I = 1) ∨ (c = 1 ∧ (W1 * W1 - W2 * W2) * I = 1 ∧ (F1 * F1 - F2 * F2) * I = 1) ∨ (c = 2 ∧ (2 * W1 * W2) * I = 1 ∧ (2 * F1 * F2) * I = 1)) : Fm c A B C D := by
  rcases h with ⟨rfl, rfl, rfl, rfl, rfl⟩ | ⟨rfl, rfl, rfl, rfl, rfl⟩ | ⟨rfl, rfl, rfl, rfl, rfl⟩ <;> simp [show ¬ ((0 : Int) = 1) by decide, show ¬ ((0 : Int) = 2) by decide, show ¬ ((1 : Int) = 2) by decide, show ¬ ((1 : Int) = 0) by decide, show ¬ ((2 : Int) = 0) by decide, show ¬ ((2 : Int) = 1) by decide] at hW <;> obtain ⟨q1, q2⟩ := hW
  · exact .inl ⟨rfl, by grind -lia, rfl, by grind -lia⟩
  · exact .inr (.inl ⟨rfl, rfl, rfl, by grind -lia⟩)
  · exact .inr (.inr ⟨rfl, rfl, rfl, by grind -lia⟩)
theorem mx_of_fm {c : Int} {W1 W2 F1 F2 I A B C D A' B' C' D' : Fin n} (hf : Fm c A B C D) (h1 : F1 = A * W1 + B * W2) (h2 : F2 = C * W1 + D * W2) (h : Mx c W1 W2 F1 F2 I A' B' C' D')
    (hW : (c = 0 ∧ (W1 * W1 + W2 * W2) * I = 1) ∨ (c = 1 ∧ (W1 * W1 - W2 * W2) * I = 1) ∨ (c = 2 ∧ (2 * W1 * W2) * I = 1)) : A' = A ∧ B' = B ∧ C' = C ∧ D' = D := by
  subst h1 h2
  rcases h with ⟨rfl, rfl, rfl, rfl, rfl⟩ | ⟨rfl, rfl, rfl, rfl, rfl⟩ | ⟨rfl, rfl, rfl, rfl, rfl⟩ <;> simp [Fm, show ¬ ((0 : Int) = 1) by decide, show ¬ ((0 : Int) = 2) by decide, show ¬ ((1 : Int) = 2) by decide, show ¬ ((1 : Int) = 0) by decide, show ¬ ((2 : Int) = 0) by decide, show ¬ ((2 : Int) = 1) by decide] at hf hW
  · obtain ⟨rfl, rfl, e⟩ := hf
    refine ⟨?_, ?_, ?_, ?_⟩ <;> grind -lia
  · obtain ⟨rfl, rfl, e⟩ := hf
    refine ⟨?_, ?_, ?_, ?_⟩ <;> grind -lia
  · obtain ⟨rfl, rfl, e⟩ := hf
    refine ⟨?_, ?_, ?_, ?_⟩ <;> grind -lia
/-- The move leads the way to along. -/
theorem mx_lead {c : Int} {W1 W2 F1 F2 I A B C D : Fin n} (h : Mx c W1 W2 F1 F2 I A B C D)
    (hW : (c = 0 ∧ (W1 * W1 + W2 * W2) * I = 1) ∨ (c = 1 ∧ (W1 * W1 - W2 * W2) * I = 1) ∨ (c = 2 ∧ (2 * W1 * W2) * I = 1)) : A * W1 + B * W2 = F1 ∧ C * W1 + D * W2 = F2 := by
  rcases h with ⟨rfl, rfl, rfl, rfl, rfl⟩ | ⟨rfl, rfl, rfl, rfl, rfl⟩ | ⟨rfl, rfl, rfl, rfl, rfl⟩ <;> simp [show ¬ ((0 : Int) = 1) by decide, show ¬ ((0 : Int) = 2) by decide, show ¬ ((1 : Int) = 2) by decide, show ¬ ((1 : Int) = 0) by decide, show ¬ ((2 : Int) = 0) by decide, show ¬ ((2 : Int) = 1) by decide] at hW <;> constructor <;> grind -lia
theorem qdr_K (c a1 a2 b1 b2 : Int) : K n (qdr n c a1 a2 b1 b2) = if c = 0 then (K n b1 - K n a1) * (K n b1 - K n a1) + (K n b2 - K n a2) * (K n b2 - K n a2) else if c = 1 then (K n b1 - K n a1) * (K n b1 - K n a1) - (K n b2 - K n a2) * (K n b2 - K n a2) else (K n b1 - K n a1) * (K n b2 - K n a2) + (K n b2 - K n a2) * (K n b1 - K n a1) := by
  unfold qdr; rw [prd_K]; simp only [K_mod, K_sub]
theorem q_form {c : Int} (hc : colB c = true) {a1 a2 b1 b2 : Int} {I : Fin n} (h : K n (qdr n c a1 a2 b1 b2) * I = 1) :
    (c = 0 ∧ ((K n b1 - K n a1) * (K n b1 - K n a1) + (K n b2 - K n a2) * (K n b2 - K n a2)) * I = 1) ∨ (c = 1 ∧ ((K n b1 - K n a1) * (K n b1 - K n a1) - (K n b2 - K n a2) * (K n b2 - K n a2)) * I = 1) ∨ (c = 2 ∧ (2 * (K n b1 - K n a1) * (K n b2 - K n a2)) * I = 1) := by
  rw [qdr_K] at h
  rcases colB_ways hc with rfl | rfl | rfl <;> simp [show ¬ ((1 : Int) = 0) by decide, show ¬ ((2 : Int) = 0) by decide, show ¬ ((2 : Int) = 1) by decide] at h ⊢
  · exact h
  · exact h
  · grind -lia
end

theorem bt_turn {p c a1 a2 b1 b2 x1 x2 : Int} (hp : isP p = true) (hc : colB c = true) (hq : (qdr p c a1 a2 b1 b2 == 0) = false) (hx : qdr p c a1 a2 x1 x2 = qdr p c a1 a2 b1 b2) :
    alF p c 1 (btM p c a1 a2 b1 b2 (x1, x2)).1 (btM p c a1 a2 b1 b2 (x1, x2)).2.2.1 = true ∧
      aboutM p a1 a2 (alM p c 1 ((btM p c a1 a2 b1 b2 (x1, x2)).1, (btM p c a1 a2 b1 b2 (x1, x2)).2.2.1)) = btM p c a1 a2 b1 b2 (x1, x2) := by
  obtain ⟨n, rfl⟩ := Int.eq_ofNat_of_zero_le (by have := isP_range hp; omega : 0 ≤ p)
  haveI := neZero_of hp
  obtain ⟨r1, r2, r3, r4, r5, r6⟩ := btM_r (c := c) (a1 := a1) (a2 := a2) (b1 := b1) (b2 := b2) (x1, x2) hp
  obtain ⟨hM, h5, h6⟩ := bt_K (n := n) (a1 := a1) (a2 := a2) (b1 := b1) (b2 := b2) (x1 := x1) (x2 := x2) hc
  have hI : K n (qdr n c a1 a2 b1 b2) * K n (btI n c a1 a2 b1 b2) = 1 := K_inv hp (K_small (qdr_r _ _ _ _ _ hp) (beq_eq_false_iff_ne.1 hq))
  have hI2 : K n (qdr n c a1 a2 x1 x2) * K n (btI n c a1 a2 b1 b2) = 1 := by rw [hx]; exact hI
  have q1 := q_form hc hI
  have q2 := q_form hc hI2
  obtain ⟨z, hz⟩ : ∃ z, z = btM n c a1 a2 b1 b2 (x1, x2) := ⟨_, rfl⟩
  rw [← hz] at r1 r2 r3 r4 r5 r6 hM h5 h6 ⊢
  have hf : Fm c (K n z.1) (K n z.2.1) (K n z.2.2.1) (K n z.2.2.2.1) := by
    refine fm_of_mx hM ?_
    rcases q1 with ⟨rfl, h⟩ | ⟨rfl, h⟩ | ⟨rfl, h⟩ <;> simp [show ¬ ((0 : Int) = 1) by decide, show ¬ ((0 : Int) = 2) by decide, show ¬ ((1 : Int) = 2) by decide, show ¬ ((1 : Int) = 0) by decide, show ¬ ((2 : Int) = 0) by decide, show ¬ ((2 : Int) = 1) by decide] at q2 ⊢ <;> exact ⟨h, q2⟩
  obtain ⟨e1, e2⟩ := fm_al hp hc r1 r2 r3 r4 hf
  refine ⟨?_, ?_⟩
  · rw [alF, e1, e2]; exact (fm_iff hp hc).2 hf
  · obtain ⟨z1, z2, z3, z4, z5, z6⟩ := z
    simp only at e1 e2 h5 h6 r5 r6
    simp only [alM, e1, e2, aboutM, Prod.mk.injEq, true_and]
    refine ⟨K_inj (modR _ hp) r5 ?_, K_inj (modR _ hp) r6 ?_⟩
    · rw [K_mod, K_sub, ld, K_mod, K_add, K_mul, K_mul, h5]
    · rw [K_mod, K_sub, ld, K_mod, K_add, K_mul, K_mul, h6]
/-- Where a model's move leads b. -/
def leadB2 (p a1 a2 b1 b2 : Int) (z : T6) : Int × Int := ((z.1 * (b1 - a1) + z.2.1 * (b2 - a2) + a1) % p, (z.2.2.1 * (b1 - a1) + z.2.2.2.1 * (b2 - a2) + a2) % p)
theorem turn_bt {p c a1 a2 b1 b2 m1 m3 : Int} (hp : isP p = true) (hc : colB c = true) (hq : (qdr p c a1 a2 b1 b2 == 0) = false) (h1 : 0 ≤ m1 ∧ m1 < p) (h3 : 0 ≤ m3 ∧ m3 < p) (hal : alF p c 1 m1 m3 = true) :
    qdr p c a1 a2 (leadB2 p a1 a2 b1 b2 (alM p c 1 (m1, m3))).1 (leadB2 p a1 a2 b1 b2 (alM p c 1 (m1, m3))).2 = qdr p c a1 a2 b1 b2 ∧
      btM p c a1 a2 b1 b2 (leadB2 p a1 a2 b1 b2 (alM p c 1 (m1, m3))) = aboutM p a1 a2 (alM p c 1 (m1, m3)) := by
  obtain ⟨n, rfl⟩ := Int.eq_ofNat_of_zero_le (by have := isP_range hp; omega : 0 ≤ p)
  haveI := neZero_of hp
  have hf := (fm_iff hp hc).1 hal
  obtain ⟨m2, hm2⟩ : ∃ v, v = alQ n c 1 m3 % (n : Int) := ⟨_, rfl⟩
  obtain ⟨m4, hm4⟩ : ∃ v, v = alR n c 1 m1 % (n : Int) := ⟨_, rfl⟩
  have r2 := modR (alQ n c 1 m3) hp
  have r4 := modR (alR n c 1 m1) hp
  rw [← hm2] at hf r2; rw [← hm4] at hf r4
  simp only [alM, ← hm2, ← hm4, leadB2, aboutM]
  clear hm2 hm4 hal
  obtain ⟨x1, hx1⟩ : ∃ v, v = (m1 * (b1 - a1) + m2 * (b2 - a2) + a1) % (n : Int) := ⟨_, rfl⟩
  obtain ⟨x2, hx2⟩ : ∃ v, v = (m3 * (b1 - a1) + m4 * (b2 - a2) + a2) % (n : Int) := ⟨_, rfl⟩
  have k1 : K n x1 - K n a1 = K n m1 * (K n b1 - K n a1) + K n m2 * (K n b2 - K n a2) := by rw [hx1, K_mod]; simp only [K_add, K_mul, K_sub]; grind -lia
  have k2 : K n x2 - K n a2 = K n m3 * (K n b1 - K n a1) + K n m4 * (K n b2 - K n a2) := by rw [hx2, K_mod]; simp only [K_add, K_mul, K_sub]; grind -lia
  rw [← hx1, ← hx2]
  clear hx1 hx2
  obtain ⟨s1, s2, s3, s4, s5, s6⟩ := btM_r (c := c) (a1 := a1) (a2 := a2) (b1 := b1) (b2 := b2) (x1, x2) hp
  obtain ⟨hM, h5, h6⟩ := bt_K (n := n) (a1 := a1) (a2 := a2) (b1 := b1) (b2 := b2) (x1 := x1) (x2 := x2) hc
  have hI : K n (qdr n c a1 a2 b1 b2) * K n (btI n c a1 a2 b1 b2) = 1 := K_inv hp (K_small (qdr_r _ _ _ _ _ hp) (beq_eq_false_iff_ne.1 hq))
  obtain ⟨e1, e2, e3, e4⟩ := mx_of_fm hf k1 k2 hM (q_form hc hI)
  refine ⟨K_inj (qdr_r _ _ _ _ _ hp) (qdr_r _ _ _ _ _ hp) ?_, ?_⟩
  · rw [qdr_K, qdr_K, k1, k2]
    clear e1 e2 e3 e4 hM h5 h6 hI hq s1 s2 s3 s4 s5 s6 k1 k2 h1 h3 r2 r4
    generalize K n m1 = A at *
    generalize K n m2 = B at *
    generalize K n m3 = C at *
    generalize K n m4 = D at *
    generalize K n b1 - K n a1 = W1
    generalize K n b2 - K n a2 = W2
    rcases hf with ⟨rfl, rfl, rfl, e⟩ | ⟨rfl, rfl, rfl, e⟩ | ⟨rfl, rfl, rfl, e⟩ <;> simp [show ¬ ((1 : Int) = 0) by decide, show ¬ ((2 : Int) = 0) by decide, show ¬ ((2 : Int) = 1) by decide] <;> clear hc hp <;> grind -lia
  · obtain ⟨z, hz⟩ : ∃ z, z = btM n c a1 a2 b1 b2 (x1, x2) := ⟨_, rfl⟩
    rw [← hz] at s1 s2 s3 s4 s5 s6 e1 e2 e3 e4 h5 h6 ⊢
    obtain ⟨z1, z2, z3, z4, z5, z6⟩ := z
    simp only at e1 e2 e3 e4 h5 h6 s1 s2 s3 s4 s5 s6
    rw [e1, e2] at h5
    rw [e3, e4] at h6
    simp only [Prod.mk.injEq]
    refine ⟨K_inj s1 h1 e1, K_inj s2 r2 e2, K_inj s3 h3 e3, K_inj s4 r4 e4, K_inj s5 (modR _ hp) ?_, K_inj s6 (modR _ hp) ?_⟩
    · rw [K_mod, K_sub, ld, K_mod, K_add, K_mul, K_mul, h5]
    · rw [K_mod, K_sub, ld, K_mod, K_add, K_mul, K_mul, h6]
theorem bt_inj {p c a1 a2 b1 b2 : Int} {x y : Int × Int} (hp : isP p = true) (hc : colB c = true) (hq : (qdr p c a1 a2 b1 b2 == 0) = false) (hx : (0 ≤ x.1 ∧ x.1 < p) ∧ 0 ≤ x.2 ∧ x.2 < p) (hy : (0 ≤ y.1 ∧ y.1 < p) ∧ 0 ≤ y.2 ∧ y.2 < p) (h : btM p c a1 a2 b1 b2 x = btM p c a1 a2 b1 b2 y) : x = y := by
  obtain ⟨n, rfl⟩ := Int.eq_ofNat_of_zero_le (by have := isP_range hp; omega : 0 ≤ p)
  haveI := neZero_of hp
  have hI : K n (qdr n c a1 a2 b1 b2) * K n (btI n c a1 a2 b1 b2) = 1 := K_inv hp (K_small (qdr_r _ _ _ _ _ hp) (beq_eq_false_iff_ne.1 hq))
  have q1 := q_form hc hI
  obtain ⟨u1, u2⟩ := mx_lead (bt_K (n := n) (a1 := a1) (a2 := a2) (b1 := b1) (b2 := b2) (x1 := x.1) (x2 := x.2) hc).1 q1
  obtain ⟨v1, v2⟩ := mx_lead (bt_K (n := n) (a1 := a1) (a2 := a2) (b1 := b1) (b2 := b2) (x1 := y.1) (x2 := y.2) hc).1 q1
  rw [show ((x.1, x.2) : Int × Int) = x from rfl, h] at u1 u2
  rw [show ((y.1, y.2) : Int × Int) = y from rfl] at v1 v2
  refine Prod.ext (K_inj hx.1 hy.1 ?_) (K_inj hx.2 hy.2 ?_)
  · have := u1.symm.trans v1; grind -lia
  · have := u2.symm.trans v2; grind -lia

theorem gridT_all {m : Nat} (b : Int × Int) : b ∈ gridL tt2 m m ↔ (0 ≤ b.1 ∧ b.1 < (m : Int)) ∧ 0 ≤ b.2 ∧ b.2 < (m : Int) := by
  constructor
  · intro h
    have := grid_mem h
    omega
  · intro h
    rw [gridL, List.mem_flatMap]
    refine ⟨b.1.toNat, List.mem_range.2 (by omega), ?_⟩
    rw [rowL, List.mem_map]
    refine ⟨b.2.toNat, List.mem_filter.2 ⟨List.mem_range.2 (by omega), rfl⟩, ?_⟩
    exact Prod.ext (by show ((b.1.toNat : Nat) : Int) = b.1; omega) (by show ((b.2.toNat : Nat) : Int) = b.2; omega)
theorem allM_mem {p c z : Int} {m : T6} : m ∈ allM p c z ↔ ∃ x y : Int, ((0 ≤ x ∧ x < p) ∧ 0 ≤ y ∧ y < p) ∧ alF p c z x y = true ∧ m = alM p c z (x, y) := by
  rw [allM, srtM_mem, alL, List.mem_map]
  constructor
  · rintro ⟨v, hv, rfl⟩
    rw [grid_filter] at hv
    obtain ⟨h1, h2⟩ := List.mem_filter.1 hv
    have h3 := grid_mem h1
    exact ⟨v.1, v.2, by omega, h2, rfl⟩
  · rintro ⟨x, y, hr, h, rfl⟩
    refine ⟨(x, y), ?_, rfl⟩
    rw [grid_filter]
    have hpn : (p.toNat : Int) = p := Int.toNat_of_nonneg (by omega)
    exact List.mem_filter.2 ⟨(gridT_all _).2 (by rw [hpn]; exact hr), h⟩
theorem allM_r {p c : Int} (hp : isP p = true) {z : T6} (h : z ∈ allM p c 1) : (0 ≤ z.1 ∧ z.1 ≤ 31) ∧ (0 ≤ z.2.1 ∧ z.2.1 ≤ 31) ∧ (0 ≤ z.2.2.1 ∧ z.2.2.1 ≤ 31) ∧ (0 ≤ z.2.2.2.1 ∧ z.2.2.2.1 ≤ 31) ∧ z.2.2.2.2.1 = 0 ∧ z.2.2.2.2.2 = 0 := by
  obtain ⟨x, y, hr, _, rfl⟩ := allM_mem.1 h
  have hpr := isP_range hp
  have h1 := modR31 (alQ p c 1 y) hp
  have h2 := modR31 (alR p c 1 x) hp
  exact ⟨by simp only [alM]; omega, h1, by simp only [alM]; omega, h2, rfl, rfl⟩
theorem about_nodup {p c a1 a2 : Int} (hp : isP p = true) : ((allM p c 1).map (aboutM p a1 a2)).Nodup := by
  have hs : (allM p c 1).Pairwise lt6 := srtM_sorted _
  rw [List.Nodup, List.pairwise_map]
  refine hs.imp_of_mem ?_
  intro x y hx hy hlt e
  obtain ⟨_, _, _, _, e5, e6⟩ := allM_r hp hx
  obtain ⟨_, _, _, _, f5, f6⟩ := allM_r hp hy
  obtain ⟨x1, x2, x3, x4, x5, x6⟩ := x
  obtain ⟨y1, y2, y3, y4, y5, y6⟩ := y
  simp only [aboutM, Prod.mk.injEq] at e e5 e6 f5 f6
  obtain ⟨rfl, rfl, rfl, rfl, _, _⟩ := e
  subst e5 e6 f5 f6
  exact lt6_irr _ hlt
theorem about_new {α : Type} {N : List α} {f : α → T6} (h : (N.map f).Nodup) {j : Nat} (hj : j < N.length) : f N[j] ∉ srtM ((N.take j).map f) := by
  intro hm
  rw [srtM_mem] at hm
  have h1 : ((N.take (j + 1)).map f).Nodup := by rw [List.map_take]; exact h.sublist (List.take_sublist _ _)
  rw [List.take_succ_eq_append_getElem hj, List.map_append, List.nodup_append] at h1
  exact h1.2.2 _ hm _ (by simp) rfl
/-- The program's set of turns is the model's. -/
theorem turn_mem {p c a1 a2 b1 b2 : Int} (hp : isP p = true) (hc : colB c = true) (hq : (qdr p c a1 a2 b1 b2 == 0) = false) {ss : List (Int × Int)} (hss : ∀ x, x ∈ ss ↔ x ∈ (gridL tt2 p.toNat p.toNat).filter fun x => qdr p c a1 a2 x.1 x.2 == qdr p c a1 a2 b1 b2) (z : T6) :
    z ∈ ss.map (btM p c a1 a2 b1 b2) ↔ z ∈ tuM p c a1 a2 := by
  have hr := isP_range hp
  have hpn : (p.toNat : Int) = p := Int.toNat_of_nonneg (by omega)
  rw [tuM, srtM_mem, List.mem_map, List.mem_map]
  constructor
  · rintro ⟨x, hx, rfl⟩
    have h1 := (List.mem_filter.1 ((hss x).1 hx)).2
    rw [beq_iff_eq] at h1
    obtain ⟨h2, h3⟩ := bt_turn (b1 := b1) (b2 := b2) hp hc hq h1
    obtain ⟨r1, r2, r3, r4, r5, r6⟩ := btM_r (c := c) (a1 := a1) (a2 := a2) (b1 := b1) (b2 := b2) x hp
    exact ⟨_, allM_mem.2 ⟨_, _, ⟨r1, r3⟩, h2, rfl⟩, h3⟩
  · rintro ⟨m, hm, rfl⟩
    obtain ⟨x, y, hxy, hal, rfl⟩ := allM_mem.1 hm
    obtain ⟨h1, h2⟩ := turn_bt (b1 := b1) (b2 := b2) hp hc hq hxy.1 hxy.2 hal
    refine ⟨_, (hss _).2 (List.mem_filter.2 ⟨(gridT_all _).2 ?_, by rw [beq_iff_eq]; exact h1⟩), h2⟩
    rw [hpn]
    exact ⟨modR _ hp, modR _ hp⟩
theorem turn_nodup {p c a1 a2 b1 b2 : Int} (hp : isP p = true) (hc : colB c = true) (hq : (qdr p c a1 a2 b1 b2 == 0) = false) {ss : List (Int × Int)} (hn : ss.Nodup) (hss : ∀ x, x ∈ ss → (0 ≤ x.1 ∧ x.1 < p) ∧ 0 ≤ x.2 ∧ x.2 < p) : (ss.map (btM p c a1 a2 b1 b2)).Nodup := by
  rw [List.Nodup, List.pairwise_map]
  exact List.Pairwise.imp_of_mem (fun hx hy hne e => hne (bt_inj hp hc hq (hss _ hx) (hss _ hy) e)) hn

end Go.Proofs.Ytibfbdgenamlkaa
