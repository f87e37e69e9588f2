/-
  Small texts in one: Math, BaseMath, ConMath, PlMath, Rref, Free, JoinMath, Field, Mod, Inv, SpecPlMade, Last, SpecJoin, InLine, Labels, Slice, Apart, LayMat, ImplInv, ImplRest, MakeLead, IndexRow, CoefMath, Grow, KeepDrew, Solve, StepMake, OnlySol, ParMath, RowsOf3.
-/
import Derived.WalkKit
import Derived.Deep.QuietTactic
import Derived.BigQuiet
import Derived.StillTailTactics
import Derived.LoopN
import Derived.Test.YtkkaicneabkkdaaRows
import Derived.Lib.Hide
import Derived.Deep.RegionHeld3
import Derived.Deep.DeepCutAuto
import Derived.ScopeJumps
import Derived.WalkMore
import Derived.Tactics
import Derived.Deep.RegionLaw
import Derived.OwnWalk

namespace Go.Proofs.Ytkkaicneabkkdaa
open Go.RowKit

theorem balloc {w w1 : World} (h : Below w.heap.size w w1) (o : Obj) : Below w.heap.size w (w1.alloc o) := h.alloc h.size o
theorem bdrewN {B : Nat} {w w1 : World} (h : Below B w w1) (n : Nat) : Below B w (w1.drewN n) := ⟨h.os, h.tape, h.output, h.size, h.block⟩
/-- Two calls, one behind the other. -/
theorem bthen {w w1 w2 : World} (h : Below w.heap.size w w1) (k : Below w1.heap.size w1 w2) : Below w.heap.size w w2 := h.trans (k.mono h.size)

theorem cell_back {W w' : World} (h : Below W.heap.size W w') {b : Nat} (hb : b < W.heap.size) (j : Nat) : w'.cell? ⟨b, j, none⟩ = W.cell? ⟨b, j, none⟩ := h.cell (p := ⟨b, j, none⟩) hb

theorem bcell {W w1 : World} (hb : Below W.heap.size W w1) : (∀ b o, b < W.heap.size → w1.cell? ⟨b, o, none⟩ = W.cell? ⟨b, o, none⟩) ∧ (∀ b o, b < W.heap.size → w1.frozen? ⟨b, o, none⟩ = W.frozen? ⟨b, o, none⟩) :=
  ⟨fun b o h => hb.cell (p := ⟨b, o, none⟩) h, fun b o h => hb.frozen (p := ⟨b, o, none⟩) h⟩

theorem stillOf {P : Program} {f : FuncId} {args : Array Value} {w : World} {v : Value} (h : Calls P f args w fun e w' => e = .returned v ∧ w = w') : Calls P f args w fun e w'' => e = .returned v ∧ w'' = w :=
  Calls.mono h fun _ _ hh => ⟨hh.1, hh.2.symm⟩
theorem quietOf {P : Program} {f : FuncId} {args : Array Value} {w : World} {n : Nat} {v : Value} (h : Calls P f args (w.drewN n) fun e w' => e = .returned v ∧ w.drewN n = w') : Calls P f args (w.drewN n) fun e w'' => e = .returned v ∧ ∃ m, w'' = w.drewN m :=
  Calls.mono h fun _ _ hh => ⟨hh.1, n, hh.2.symm⟩

/-- A region that draws its order: what only reads and calls quietly, then a tail in one order. -/
theorem region_tail {P : Program} {id : Nat} {Q : Exit → Act → World → Prop} {a : Act} {w : World} {l : List Oper} (n : Nat) (hm : P.follows .mixedOrders = true) (hB : Region.lexTailB .any l.toArray n = true)
    (h : wpStill P l.toArray w.drew (fun a' => wpList P l.toArray Q (l.drop n) a' w.drew) (l.take n) a) : (Code.region id l.toArray true).wp P Q a w := wp_region_still_tail n hm hB h

theorem kalloc {W : World} {a : Addr} {v : Value} (o : Obj) (h : W.cell? a = some v) : (W.alloc o).cell? a = some v := by
  have hl : a.block < W.heap.size := World.block_lt_of_cell? W a h
  rw [← h]
  exact World.cell?_of_block (w := W) (Below.heap_alloc W o a.block hl)
theorem kcall {W W' : World} {b j : Nat} {v : Value} (hb : Below W.heap.size W W') (h : W.cell? ⟨b, j, none⟩ = some v) : W'.cell? ⟨b, j, none⟩ = some v :=
  (cell_back hb (World.block_lt_of_cell? W ⟨b, j, none⟩ h) j).trans h
theorem krealloc {W : World} {b j : Nat} {v : Value} {o o' : Obj} (hn : b ≠ W.heap.size) (h : (W.alloc o).cell? ⟨b, j, none⟩ = some v) : (W.alloc o').cell? ⟨b, j, none⟩ = some v := by
  have hl : b < (W.alloc o).heap.size := World.block_lt_of_cell? (W.alloc o) ⟨b, j, none⟩ h
  have hb : b < W.heap.size := by simp at hl; omega
  have h0 : W.cell? ⟨b, j, none⟩ = some v := (World.cell?_of_block (w := W) (a := ⟨b, j, none⟩) (Below.heap_alloc W o b hb)).symm.trans h
  exact kalloc o' h0
theorem ksame {W : World} {a : Addr} {u v : Value} (h : W.cell? a = some u) : (W.setCell a v).cell? a = some v := World.cell?_setCell_same' _ _ _ (by rw [h]; rfl)
theorem kother {W : World} {b j k : Nat} {u v : Value} (hn : j ≠ k) (h : W.cell? ⟨b, j, none⟩ = some v) : (W.setCell ⟨b, k, none⟩ u).cell? ⟨b, j, none⟩ = some v := by
  simp only [World.cell?, World.setCell, Array.getElem?_modify] at h ⊢
  simp only [if_true]
  cases hb : W.heap[b]? with
  | none => rw [hb] at h; simp at h
  | some o =>
    rw [hb] at h
    cases o <;> simp_all
    rw [Array.getElem?_setIfInBounds_ne (by omega)]; exact h
theorem kis_of {W : World} {a : Addr} {v : Value} (h : W.cell? a = some v) : (W.cell? a).isSome = true := by rw [h]; rfl
theorem kis_set {W : World} {a b : Addr} {u : Value} (h : (W.cell? a).isSome = true) : ((W.setCell b u).cell? a).isSome = true := by
  obtain ⟨v, hv⟩ := Option.isSome_iff_exists.1 h
  obtain ⟨v', h'⟩ := Go.RowKit.cell?_setCell_some (p := b) (x := u) hv
  rw [h']; rfl
theorem kis_alloc {W : World} {a : Addr} (o : Obj) (h : (W.cell? a).isSome = true) : ((W.alloc o).cell? a).isSome = true := by
  obtain ⟨v, hv⟩ := Option.isSome_iff_exists.1 h
  rw [kalloc o hv]; rfl
theorem kis_drew {W : World} {a : Addr} (h : (W.cell? a).isSome = true) : (W.drew.cell? a).isSome = true := h
theorem kis_call {W W' : World} {b j : Nat} (hb : Below W.heap.size W W') (h : (W.cell? ⟨b, j, none⟩).isSome = true) : (W'.cell? ⟨b, j, none⟩).isSome = true := by
  obtain ⟨v, hv⟩ := Option.isSome_iff_exists.1 h
  rw [kcall hb hv]; rfl
theorem ksameS {W : World} {a : Addr} {v : Value} (h : (W.cell? a).isSome = true) : (W.setCell a v).cell? a = some v := World.cell?_setCell_same' _ _ _ h
theorem kset3 {W : World} {q : Nat} {x y z u0 u1 u2 : Value} (h0 : W.cell? ⟨q, 0, none⟩ = some u0) (h1 : W.cell? ⟨q, 1, none⟩ = some u1) (h2 : W.cell? ⟨q, 2, none⟩ = some u2) :
    (((W.setCell ⟨q, 0, none⟩ x).setCell ⟨q, 1, none⟩ y).setCell ⟨q, 2, none⟩ z).cell? ⟨q, 0, none⟩ = some x ∧ (((W.setCell ⟨q, 0, none⟩ x).setCell ⟨q, 1, none⟩ y).setCell ⟨q, 2, none⟩ z).cell? ⟨q, 1, none⟩ = some y ∧
    (((W.setCell ⟨q, 0, none⟩ x).setCell ⟨q, 1, none⟩ y).setCell ⟨q, 2, none⟩ z).cell? ⟨q, 2, none⟩ = some z :=
  ⟨kother (by decide) (kother (by decide) (ksame h0)), kother (by decide) (ksame (kother (by decide) h1)), ksame (kother (by decide) (kother (by decide) h2))⟩
theorem kset2 {W : World} {q : Nat} {x y u0 u1 : Value} (h0 : W.cell? ⟨q, 0, none⟩ = some u0) (h1 : W.cell? ⟨q, 1, none⟩ = some u1) :
    ((W.setCell ⟨q, 0, none⟩ x).setCell ⟨q, 1, none⟩ y).cell? ⟨q, 0, none⟩ = some x ∧ ((W.setCell ⟨q, 0, none⟩ x).setCell ⟨q, 1, none⟩ y).cell? ⟨q, 1, none⟩ = some y :=
  ⟨kother (by decide) (ksame h0), ksame (kother (by decide) h1)⟩
theorem kfresh {W : World} {c : Array Value} {t : TypeId} {q j : Nat} {v : Value} (hq : q = W.heap.size) (hc : c[j]? = some v) : (W.alloc (.cells c t)).cell? ⟨q, j, none⟩ = some v := by
  subst hq
  have h : (W.alloc (.cells c t)).heap[W.heap.size]? = some (.cells c t) := by
    show (W.heap.push _)[W.heap.size]? = _
    simp
  simp only [World.cell?, h]
  exact hc
theorem kis_new {W : World} {c : Array Value} {t : TypeId} {q j : Nat} (hq : q = W.heap.size) (hc : (c[j]?).isSome = true) : ((W.alloc (.cells c t)).cell? ⟨q, j, none⟩).isSome = true := by
  obtain ⟨v, hv⟩ := Option.isSome_iff_exists.1 hc
  rw [kfresh hq hv]; rfl
theorem kfro {W W' : World} {b j : Nat} (hb : Below W.heap.size W W') (hl : b < W.heap.size) (h : W.frozen? ⟨b, j, none⟩ = false) : W'.frozen? ⟨b, j, none⟩ = false :=
  (hb.frozen (p := ⟨b, j, none⟩) hl).trans h
theorem fallocNew {W : World} {c : Array Value} {t : TypeId} {q j : Nat} (hq : q = W.heap.size) : (W.alloc (.cells c t)).frozen? ⟨q, j, none⟩ = false := by
  subst hq
  have h : (W.alloc (.cells c t)).heap[W.heap.size]? = some (.cells c t) := by
    show (W.heap.push _)[W.heap.size]? = _
    simp
  simp only [World.frozen?, h]
  simp
theorem falloc {W : World} {b j : Nat} {o : Obj} (hl : b < W.heap.size) (h : W.frozen? ⟨b, j, none⟩ = false) : (W.alloc o).frozen? ⟨b, j, none⟩ = false :=
  (World.frozen?_of_block (w := W) (a := ⟨b, j, none⟩) (Below.heap_alloc W o b hl)).trans h
theorem kback {W : World} {b j : Nat} {v : Value} {o : Obj} (hn : b ≠ W.heap.size) (h : (W.alloc o).cell? ⟨b, j, none⟩ = some v) : W.cell? ⟨b, j, none⟩ = some v := by
  have hl : b < (W.alloc o).heap.size := World.block_lt_of_cell? (W.alloc o) ⟨b, j, none⟩ h
  have hb : b < W.heap.size := by simp at hl; omega
  exact (World.cell?_of_block (w := W) (a := ⟨b, j, none⟩) (Below.heap_alloc W o b hb)).symm.trans h
theorem kundrew {W : World} {a : Addr} {v : Value} (h : W.drew.cell? a = some v) : W.cell? a = some v := h
theorem kdrew {W : World} {a : Addr} {v : Value} (h : W.cell? a = some v) : W.drew.cell? a = some v := h
theorem kdrewN {W : World} {a : Addr} {v : Value} {n : Nat} (h : W.cell? a = some v) : (W.drewN n).cell? a = some v := h
theorem fdrewN {W : World} {a : Addr} {n : Nat} (h : W.frozen? a = false) : (W.drewN n).frozen? a = false := h
theorem fdrew {W : World} {a : Addr} (h : W.frozen? a = false) : W.drew.frozen? a = false := h
theorem kset {W : World} {b j q k : Nat} {u v : Value} (hn : b ≠ q) (h : W.cell? ⟨b, j, none⟩ = some v) : (W.setCell ⟨q, k, none⟩ u).cell? ⟨b, j, none⟩ = some v := by
  rw [← h]
  exact World.cell?_of_block (w := W) (Below.heap_setCell W ⟨q, k, none⟩ u b hn)

/-- The ten primes. -/
def isP (p : Int) : Bool := decide (p = 3 ∨ p = 5 ∨ p = 7 ∨ p = 11 ∨ p = 13 ∨ p = 17 ∨ p = 19 ∨ p = 23 ∨ p = 29 ∨ p = 31)
/-- A number from lo to hi. -/
def inB (n lo hi : Int) : Bool := decide (lo ≤ n ∧ n ≤ hi)
theorem inB_true {n lo hi : Int} (h : lo ≤ n ∧ n ≤ hi) : inB n lo hi = true := by unfold inB; exact decide_eq_true h
theorem inB_false {n lo hi : Int} (h : ¬ (lo ≤ n ∧ n ≤ hi)) : inB n lo hi = false := by unfold inB; exact decide_eq_false h
theorem isP_iff {p : Int} : isP p = true ↔ (p = 3 ∨ p = 5 ∨ p = 7 ∨ p = 11 ∨ p = 13 ∨ p = 17 ∨ p = 19 ∨ p = 23 ∨ p = 29 ∨ p = 31) := by unfold isP; exact decide_eq_true_iff
theorem isP_range {p : Int} (h : isP p = true) : 3 ≤ p ∧ p ≤ 31 := by rw [isP_iff] at h; omega
theorem isP_none {p : Int} (h : ¬ (3 ≤ p ∧ p ≤ 31)) : isP p = false := by
  cases hh : isP p with
  | false => rfl
  | true => exact absurd (isP_range hh) h
/-- A number below 32 without a divisor from 2 on up to its root is a prime, and one with such a divisor is none. -/
theorem isP_divs_fin : ∀ p : Fin 32, ∀ d : Fin 7, 3 ≤ p.val → 2 ≤ d.val → p.val % d.val = 0 → d.val * d.val ≤ p.val → isP (p.val : Int) = false := by decide +kernel
theorem isP_nodivs_fin : ∀ p : Fin 32, ∀ k : Fin 7, 3 ≤ p.val → p.val < k.val * k.val → (∀ d : Fin 7, d.val < k.val → 2 ≤ d.val → p.val % d.val ≠ 0) → isP (p.val : Int) = true := by decide +kernel
theorem isP_divs (p d : Nat) (h : p < 32) (h3 : 3 ≤ p) (hd : d < 7) (h2 : 2 ≤ d) (hm : p % d = 0) (hq : d * d ≤ p) : isP (p : Int) = false :=
  isP_divs_fin ⟨p, h⟩ ⟨d, hd⟩ h3 h2 hm hq
theorem isP_nodivs (p k : Nat) (h : p < 32) (h3 : 3 ≤ p) (hk : k < 7) (hq : p < k * k) (hm : ∀ d, d < k → 2 ≤ d → p % d ≠ 0) : isP (p : Int) = true :=
  isP_nodivs_fin ⟨p, h⟩ ⟨k, hk⟩ h3 hq fun d hdk hd2 => hm d.val hdk hd2

end Go.Proofs.Ytkkaicneabkkdaa

namespace Go.Proofs.Ytkkaicneabkkdaa
open Go.RowKit

/-- No number before k answers yes. -/
def NoYes (f : Nat → Bool) (k : Nat) : Prop := ∀ c, c < k → f c = false
theorem NoYes.start (f : Nat → Bool) : NoYes f 0 := fun _ h => absurd h (by omega)
theorem NoYes.next {f : Nat → Bool} {k : Nat} (h : NoYes f k) (hk : f k = false) : NoYes f (k + 1) := fun c hc => by
  by_cases e : c = k
  · rw [e]; exact hk
  · exact h c (by omega)
theorem find_some {f : Nat → Bool} {n k : Nat} (h : NoYes f k) (hk : k < n) (hy : f k = true) : (List.range n).find? f = some k := by
  rw [List.find?_eq_some_iff_append]
  refine ⟨hy, List.range k, (List.range' (k + 1) (n - k - 1)), ?_, ?_⟩
  · rw [List.range_eq_range', List.range_eq_range', show (k :: List.range' (k + 1) (n - k - 1)) = List.range' k (n - k) by
      rw [show n - k = (n - k - 1) + 1 by omega, List.range'_succ]; rfl]
    have := @List.range'_append_1 0 k (n - k)
    rw [Nat.zero_add, show k + (n - k) = n by omega] at this
    exact this.symm
  · intro a ha
    have := h a (by simpa using ha)
    simp [this]
theorem find_none {f : Nat → Bool} {n k : Nat} (h : NoYes f k) (hk : n ≤ k) : (List.range n).find? f = none := by
  rw [List.find?_eq_none]
  intro x hx
  have := h x (by have := List.mem_range.1 hx; omega)
  simp [this]

/-- The inverse of m modulo n, or 0. -/
def invN (n m : Nat) : Nat := ((List.range n).find? fun b => m * b % n == 1).getD 0
/-- The inverse of a modulo p, or 0. -/
def inv (p a : Int) : Int := (invN p.toNat (a % p).toNat : Int)
theorem isP_ne {n : Nat} (h : isP (n : Int) = true) : 3 ≤ n ∧ n ≤ 31 := by have := isP_range h; omega
theorem pow_inv_fin : ∀ n : Fin 32, isP (n.val : Int) = true → ∀ m : Fin 32, m.val < n.val → m.val ^ (n.val - 2) % n.val = invN n.val m.val := by decide +kernel
theorem pow_inv {n m : Nat} (h : isP (n : Int) = true) (hm : m < n) : m ^ (n - 2) % n = invN n m :=
  have := isP_ne h
  pow_inv_fin ⟨n, by omega⟩ h ⟨m, by omega⟩ hm
theorem invN_mod (n m : Nat) : invN n (m % n) = invN n m := by
  unfold invN
  congr 2
  funext b
  rw [Nat.mod_mul_mod]
theorem inv_cast (n m : Nat) : inv (n : Int) (m : Int) = (invN n m : Int) := by
  unfold inv
  rw [show ((m : Int) % (n : Int)).toNat = m % n by omega, Int.toNat_natCast, invN_mod]
theorem invN_lt_fin : ∀ n : Fin 32, isP (n.val : Int) = true → ∀ m : Fin 32, m.val < n.val → invN n.val m.val < n.val ∧ (0 < m.val → m.val * invN n.val m.val % n.val = 1) := by decide +kernel
theorem inv_range {p : Int} (a : Int) (h : isP p = true) : 0 ≤ inv p a ∧ inv p a < p := by
  obtain ⟨n, rfl⟩ := Int.eq_ofNat_of_zero_le (by have := isP_range h; omega : 0 ≤ p)
  have h2 := isP_ne h
  have h3 : 0 ≤ a % (n : Int) := Int.emod_nonneg _ (by omega)
  have h4 : a % (n : Int) < n := Int.emod_lt_of_pos _ (by omega)
  have := (invN_lt_fin ⟨n, by omega⟩ h ⟨(a % (n : Int)).toNat, by omega⟩ (by show (a % (n : Int)).toNat < n; omega)).1
  unfold inv
  rw [Int.toNat_natCast]
  simp only at this
  omega

/-- One step of the power by squares: the exponent halves. -/
theorem pow_step_odd {n out base k r : Nat} (hk : k % 2 = 1) (h : out * base ^ k % n = r) : (out * base % n) * (base * base % n) ^ (k / 2) % n = r := by
  have e : k = k / 2 * 2 + 1 := by omega
  rw [← h, Nat.mul_mod, Nat.mod_mod, Nat.pow_mod, Nat.mod_mod, ← Nat.pow_mod, ← Nat.mul_mod]
  conv => rhs; rw [e, Nat.pow_succ, Nat.mul_comm (k / 2) 2, Nat.pow_mul, Nat.pow_two, Nat.mul_comm _ base, ← Nat.mul_assoc]
theorem pow_step_even {n out base k r : Nat} (hk : k % 2 = 0) (h : out * base ^ k % n = r) : out * (base * base % n) ^ (k / 2) % n = r := by
  have e : k = k / 2 * 2 := by omega
  rw [← h, Nat.mul_mod, Nat.pow_mod, Nat.mod_mod, ← Nat.pow_mod, ← Nat.mul_mod]
  conv => rhs; rw [e, Nat.mul_comm (k / 2) 2, Nat.pow_mul, Nat.pow_two]

/-- Whether r is a root of a. -/
def isRoot (n : Nat) (a : Int) (r : Nat) : Bool := ((r : Int) * r % n == a)
/-- The least root of a, if there is one. -/
def rootO (p a : Int) : Option Nat := (List.range p.toNat).find? (isRoot p.toNat a)
def rootV (p a : Int) : Int := ((rootO p a).getD 0 : Nat)
def rootB (p a : Int) : Bool := (rootO p a).isSome
theorem root_some {n k : Nat} {a : Int} (h : NoYes (isRoot n a) k) (hk : k < n) (hy : isRoot n a k = true) : rootV (n : Int) a = k ∧ rootB (n : Int) a = true := by
  have := find_some h hk hy
  simp [rootV, rootB, rootO, this]
theorem root_none {n k : Nat} {a : Int} (h : NoYes (isRoot n a) k) (hk : n ≤ k) : rootV (n : Int) a = 0 ∧ rootB (n : Int) a = false := by
  have := find_none h hk
  simp only [rootV, rootB, rootO, Int.toNat_natCast, this]
  exact ⟨rfl, rfl⟩

/-- Go's remainder twice is the rest. -/
theorem mod_twice (x p : Int) : (x.tmod p + p) % p = x % p := by
  rw [Int.add_emod_right]
  rw [Int.tmod_def, Int.sub_mul_emod_self_left]
theorem tmod_bounds (x p : Int) (h : 1 ≤ p) : -p < x.tmod p ∧ x.tmod p < p := by
  have h1 := Int.tmod_lt_of_pos x (by omega : 0 < p)
  have h2 := Int.lt_tmod_of_pos x (by omega : 0 < p)
  omega

end Go.Proofs.Ytkkaicneabkkdaa

namespace Go.Proofs.Ytkkaicneabkkdaa
open Go.RowKit

section
variable {n : Nat} [NeZero n]
/-- The class of a number modulo n. -/
def K (n : Nat) [NeZero n] (x : Int) : Fin n := (Lean.Grind.Ring.intCast.intCast x : Fin n)
theorem K_ext {x y : Int} : K n x = K n y ↔ x % n = y % n := Lean.Grind.IsCharP.intCast_ext_iff (α := Fin n) n
theorem K_add (x y : Int) : K n (x + y) = K n x + K n y := Lean.Grind.Ring.intCast_add x y
theorem K_mul (x y : Int) : K n (x * y) = K n x * K n y := Lean.Grind.Ring.intCast_mul x y
theorem K_sub (x y : Int) : K n (x - y) = K n x - K n y := Lean.Grind.Ring.intCast_sub x y
theorem K_neg (x : Int) : K n (-x) = -K n x := Lean.Grind.Ring.intCast_neg x
theorem K_mod (x : Int) : K n (x % n) = K n x := Lean.Grind.IsCharP.intCast_emod n x
theorem K_zero : K n 0 = 0 := Lean.Grind.Ring.intCast_zero
theorem K_one : K n 1 = 1 := Lean.Grind.Ring.intCast_one
theorem K_two : K n 2 = 2 := by rw [show (2 : Int) = 1 + 1 from rfl, K_add, K_one]; grind
theorem K_three : K n 3 = 3 := by rw [show (3 : Int) = 2 + 1 from rfl, K_add, K_two, K_one]; grind
theorem K_four : K n 4 = 4 := by rw [show (4 : Int) = 2 + 2 from rfl, K_add, K_two]; grind
theorem K_eq_zero {x : Int} : K n x = 0 ↔ x % n = 0 := by
  rw [← K_zero, K_ext, Int.zero_emod]
theorem K_self : K n n = 0 := by rw [K_eq_zero]; exact Int.emod_self
theorem K_inj {x y : Int} (hx : 0 ≤ x ∧ x < n) (hy : 0 ≤ y ∧ y < n) (h : K n x = K n y) : x = y := by
  have := K_ext.1 h
  rwa [Int.emod_eq_of_lt hx.1 hx.2, Int.emod_eq_of_lt hy.1 hy.2] at this
theorem K_small {x : Int} (hx : 0 ≤ x ∧ x < n) (h : x ≠ 0) : K n x ≠ 0 := fun e => h (by
  have := K_eq_zero.1 e
  rwa [Int.emod_eq_of_lt hx.1 hx.2] at this)
theorem K_inv (hp : isP (n : Int) = true) {y : Int} (hy : K n y ≠ 0) : K n y * K n (inv n y) = 1 := by
  have hr := isP_ne hp
  have h3 : 0 ≤ y % (n : Int) := Int.emod_nonneg _ (by omega)
  have h4 : y % (n : Int) < n := Int.emod_lt_of_pos _ (by omega)
  obtain ⟨m, hm⟩ := Int.eq_ofNat_of_zero_le h3
  have hm0 : 0 < m := by
    rcases Nat.eq_zero_or_pos m with h | h
    · exact absurd (K_eq_zero.2 (by rw [hm, h]; rfl)) hy
    · exact h
  have h5 := (invN_lt_fin ⟨n, by omega⟩ hp ⟨m, by omega⟩ (by show m < n; omega)).2 hm0
  have e : inv (n : Int) y = (invN n m : Int) := by
    unfold inv; rw [hm, Int.toNat_natCast, Int.toNat_natCast]
  rw [← K_mod y, hm, e, ← K_mul, ← K_one, K_ext, ← Int.natCast_mul, ← Int.natCast_emod]
  simp only at h5
  rw [h5, Int.emod_eq_of_lt (by omega) (by omega)]; rfl
theorem K_noz (hp : isP (n : Int) = true) {x y : Int} (h : K n x * K n y = 0) : K n x = 0 ∨ K n y = 0 := by
  by_cases hx : K n x = 0
  · exact .inl hx
  · have := K_inv hp hx
    right; grind
end
theorem neZero_of {n : Nat} (hp : isP (n : Int) = true) : NeZero n := ⟨by have := isP_ne hp; omega⟩
end Go.Proofs.Ytkkaicneabkkdaa

namespace Go.Proofs.Ytkkaicneabkkdaa
open Go.RowKit

/-- All the numbers are modulo p. -/
def numsIn (p : Int) (xs : List Int) : Bool := xs.all fun x => inB x 0 (p - 1)
/-- The code of a prime and a test. -/
def codeOf (p : Int) (b : Bool) : Int := if isP p then (if b then 0 else 2) else 1
theorem codeOf_no {p : Int} {b : Bool} (h : isP p = false) : codeOf p b = 1 := by simp [codeOf, h]
theorem codeOf_out {p : Int} {b : Bool} (h : isP p = true) (hb : b = false) : codeOf p b = 2 := by simp [codeOf, h, hb]
theorem codeOf_in {p : Int} {b : Bool} (h : isP p = true) (hb : b = true) : codeOf p b = 0 := by simp [codeOf, h, hb]

/-- The numbers before k are all in the range. -/
def UpIn (p : Int) (xs : List Int) (k : Nat) : Prop := ∀ i, i < k → inB (xs.getD i 0) 0 (p - 1) = true
theorem UpIn.start (p : Int) (xs : List Int) : UpIn p xs 0 := fun _ h => absurd h (by omega)
theorem UpIn.next {p : Int} {xs : List Int} {k : Nat} {x : Int} (h : UpIn p xs k) (hx : x = xs.getD k 0) (hin : inB x 0 (p - 1) = true) : UpIn p xs (k + 1) := fun i hi => by
  by_cases e : i = k
  · rw [e, ← hx]; exact hin
  · exact h i (by omega)
theorem UpIn.all {p : Int} {xs : List Int} {k : Nat} (h : UpIn p xs k) (hk : xs.length ≤ k) : numsIn p xs = true := by
  unfold numsIn
  rw [List.all_eq_true]
  intro x hx
  obtain ⟨i, hi, e⟩ := List.getElem_of_mem hx
  have h1 := h i (by omega)
  rw [List.getD_eq_getElem?_getD, List.getElem?_eq_getElem hi, Option.getD_some, e] at h1
  exact h1
theorem numsIn_no {p : Int} {xs : List Int} {k : Nat} {x : Int} (hk : k < xs.length) (hx : x = xs.getD k 0) (hin : inB x 0 (p - 1) = false) : numsIn p xs = false := by
  unfold numsIn
  rw [List.all_eq_false]
  refine ⟨xs[k], List.getElem_mem hk, ?_⟩
  rw [List.getD_eq_getElem?_getD, List.getElem?_eq_getElem hk, Option.getD_some] at hx
  rw [← hx, hin]; simp

/-- The cells from o on of block b hold the numbers. -/
def Cells (w : World) (b o : Nat) (xs : List Int) : Prop := ∀ i, i < xs.length → w.cell? ⟨b, o + i, none⟩ = some (.int .i64 (xs.getD i 0))

theorem cells_new (w : World) (xs : List Int) (t : TypeId) : Cells (w.alloc (.cells (xs.map (Value.int .i64)).toArray t)) w.heap.size 0 xs := by
  intro i hi
  have h : (w.alloc (.cells (xs.map (Value.int .i64)).toArray t)).heap[w.heap.size]? = some (.cells (xs.map (Value.int .i64)).toArray t) := by
    show (w.heap.push _)[w.heap.size]? = _
    simp
  simp only [World.cell?, h, Nat.zero_add]
  simp [List.getElem?_eq_getElem hi]

theorem code_cases (p : Int) (b : Bool) : (codeOf p b = 0 ∧ isP p = true ∧ b = true) ∨ codeOf p b = 1 ∨ codeOf p b = 2 := by
  unfold codeOf; cases isP p <;> cases b <;> simp
/-- A code that is no zero stays with another test behind it. -/
theorem code_and_1 {p : Int} {a b : Bool} (h : codeOf p a = 1) : codeOf p (a && b) = 1 := by
  cases hp : isP p
  · exact codeOf_no hp
  · revert h; cases a <;> simp [codeOf, hp]
theorem code_and_2 {p : Int} {a b : Bool} (h : codeOf p a = 2) : codeOf p (a && b) = 2 := by
  cases hp : isP p
  · rw [codeOf_no hp] at h; omega
  · revert h; cases a <;> simp [codeOf, hp]
/-- Which of two tests has failed. -/
theorem code_split_1 {p : Int} {a b : Bool} (h : codeOf p (a && b) = 1) : codeOf p a = 1 := by
  cases hp : isP p
  · exact codeOf_no hp
  · revert h; cases a <;> cases b <;> simp [codeOf, hp]
theorem code_split_2 {p : Int} {a b : Bool} (h : codeOf p (a && b) = 2) : (isP p = true ∧ codeOf p a = 0 ∧ a = true ∧ b = false ∧ codeOf p b = 2) ∨ codeOf p a = 2 := by
  cases hp : isP p
  · rw [codeOf_no hp] at h; omega
  · cases a
    · exact .inr (codeOf_out hp rfl)
    · cases b
      · exact .inl ⟨rfl, codeOf_in hp rfl, rfl, rfl, codeOf_out hp rfl⟩
      · simp [codeOf, hp] at h
theorem numsIn_one {p a : Int} (h : numsIn p [a] = true) : 0 ≤ a ∧ a < p := by
  simp [numsIn, inB] at h; omega

theorem numsIn2 (p a b : Int) : numsIn p [a, b] = (inB a 0 (p - 1) && inB b 0 (p - 1)) := by simp [numsIn]
theorem numsIn3 (p a b c : Int) : numsIn p [a, b, c] = (inB a 0 (p - 1) && (inB b 0 (p - 1) && inB c 0 (p - 1))) := by simp [numsIn]
theorem numsApp2 (p a b c d : Int) : numsIn p [a, b, c, d] = (numsIn p [a, b] && numsIn p [c, d]) := by simp [numsIn, Bool.and_assoc]
theorem numsApp3 (p a b c d e f : Int) : numsIn p [a, b, c, d, e, f] = (numsIn p [a, b] && (numsIn p [c, d] && numsIn p [e, f])) := by simp [numsIn, Bool.and_assoc]
theorem numsApp4 (p a b c d e f g h : Int) : numsIn p [a, b, c, d, e, f, g, h] = (numsIn p [a, b] && (numsIn p [c, d] && (numsIn p [e, f] && numsIn p [g, h]))) := by simp [numsIn, Bool.and_assoc]
/-- Three numbers are a line. -/
def leadB (a b : Int) : Bool := a == 1 || (a == 0 && b == 1)
def lineB (p a b c : Int) : Bool := leadB a b && numsIn p [a, b, c]
theorem cells_at {w : World} {b : Nat} (hb : b = w.heap.size) (xs : List Int) (t : TypeId) : Cells (w.alloc (.cells (xs.map (Value.int .i64)).toArray t)) b 0 xs := by
  subst hb; exact cells_new w xs t

end Go.Proofs.Ytkkaicneabkkdaa

namespace Go.Proofs.Ytkkaicneabkkdaa
open Go.RowKit

theorem lineB_of {p a b c : Int} (hl : leadB a b = true) (hn : numsIn p [a, b, c] = true) : lineB p a b c = true := by rw [lineB, hl, hn]; rfl
theorem lineB_no1 {p a b c : Int} (hl : leadB a b = false) : lineB p a b c = false := by rw [lineB, hl]; rfl
theorem lineB_no2 {p a b c : Int} (hn : numsIn p [a, b, c] = false) : lineB p a b c = false := by rw [lineB, hn, Bool.and_false]
theorem lineB_in {p a b c : Int} (h : lineB p a b c = true) : leadB a b = true ∧ numsIn p [a, b, c] = true := by simpa [lineB] using h

/-- The four ways of the two leading numbers. -/
theorem leadB_ways (a b : Int) : (a = 1 ∧ leadB a b = true) ∨ (a = 0 ∧ b = 1 ∧ leadB a b = true) ∨ (a = 0 ∧ (b == 1) = false ∧ leadB a b = false) ∨ ((a == 1) = false ∧ (a == 0) = false ∧ leadB a b = false) := by
  by_cases h1 : a = 1
  · exact .inl ⟨h1, by simp [leadB, h1]⟩
  · by_cases h0 : a = 0
    · by_cases hb : b = 1
      · exact .inr (.inl ⟨h0, hb, by simp [leadB, h0, hb]⟩)
      · exact .inr (.inr (.inl ⟨h0, by simpa using hb, by simp [leadB, h0, hb]⟩))
    · exact .inr (.inr (.inr ⟨by simpa using h1, by simpa using h0, by simp [leadB, h0, h1]⟩))

end Go.Proofs.Ytkkaicneabkkdaa

namespace Go.Proofs.Ytkkaicneabkkdaa
open Go.RowKit

theorem mulP {a b : Int} (ha : 0 ≤ a ∧ a ≤ 31) (hb : 0 ≤ b ∧ b ≤ 31) : 0 ≤ a * b ∧ a * b ≤ 961 :=
  ⟨Int.mul_nonneg ha.1 hb.1, by have := Int.mul_le_mul ha.2 hb.2 hb.1 (by omega); omega⟩
theorem mulB {a b : Int} (ha : -8192 ≤ a ∧ a ≤ 8192) (hb : -8192 ≤ b ∧ b ≤ 8192) : -67108864 ≤ a * b ∧ a * b ≤ 67108864 := by
  have h : (a * b).natAbs ≤ 8192 * 8192 := by rw [Int.natAbs_mul]; exact Nat.mul_le_mul (by omega) (by omega)
  omega
theorem wrapI (x : Int) (h : -1099511627776 ≤ x ∧ x ≤ 1099511627776) : IntKind.i64.wrap x = x := IntWalk.i64_in _ (by omega)
theorem modR (x : Int) {p : Int} (h : isP p = true) : 0 ≤ x % p ∧ x % p < p := by
  have := isP_range h
  exact ⟨Int.emod_nonneg _ (by omega), Int.emod_lt_of_pos _ (by omega)⟩
theorem modR31 (x : Int) {p : Int} (h : isP p = true) : 0 ≤ x % p ∧ x % p ≤ 31 := by
  have := isP_range h; have := modR x h; omega
theorem invR31 (x : Int) {p : Int} (h : isP p = true) : 0 ≤ inv p x ∧ inv p x ≤ 31 := by
  have := isP_range h; have := inv_range x h; omega
theorem nums2 {p a b : Int} (h : numsIn p [a, b] = true) : (0 ≤ a ∧ a < p) ∧ (0 ≤ b ∧ b < p) := by
  simp [numsIn, inB] at h; omega
theorem nums3 {p a b c : Int} (h : numsIn p [a, b, c] = true) : (0 ≤ a ∧ a < p) ∧ (0 ≤ b ∧ b < p) ∧ (0 ≤ c ∧ c < p) := by
  simp [numsIn, inB] at h; omega
theorem nums4 {p a b c d : Int} (h : numsIn p [a, b, c, d] = true) : (0 ≤ a ∧ a < p) ∧ (0 ≤ b ∧ b < p) ∧ (0 ≤ c ∧ c < p) ∧ (0 ≤ d ∧ d < p) := by
  simp [numsIn, inB] at h; omega
theorem nums6 {p a b c d e f : Int} (h : numsIn p [a, b, c, d, e, f] = true) : (0 ≤ a ∧ a < p) ∧ (0 ≤ b ∧ b < p) ∧ (0 ≤ c ∧ c < p) ∧ (0 ≤ d ∧ d < p) ∧ (0 ≤ e ∧ e < p) ∧ (0 ≤ f ∧ f < p) := by
  simp [numsIn, inB] at h; omega
theorem lead_ways {a b : Int} (h : leadB a b = true) : a = 1 ∨ a = 0 ∧ b = 1 := by
  simpa [leadB] using h

/-- What the first number that is not 0 is divided by. -/
def nrm (p a b : Int) : Int := if a % p = 0 then inv p b else inv p a
theorem inv_mod (p a : Int) : inv p (a % p) = inv p a := by unfold inv; rw [Int.emod_emod]
theorem nrm_mod (p a b : Int) : nrm p (a % p) (b % p) = nrm p a b := by unfold nrm; rw [Int.emod_emod, inv_mod, inv_mod]
theorem nrm_range {p : Int} (a b : Int) (h : isP p = true) : 0 ≤ nrm p a b ∧ nrm p a b ≤ 31 := by
  unfold nrm; split <;> exact invR31 _ h
/-- The numbers of the line that a, b, c make. -/
def mk1 (p a b _c : Int) : Int := a * nrm p a b % p
def mk2 (p a b _c : Int) : Int := b * nrm p a b % p
def mk3 (p a b c : Int) : Int := c * nrm p a b % p

section
variable {n : Nat} [NeZero n]
theorem K_nrm (hp : isP (n : Int) = true) {a b : Int} (h : ¬ (K n a = 0 ∧ K n b = 0)) : (K n a ≠ 0 ∧ K n a * K n (nrm n a b) = 1) ∨ (K n a = 0 ∧ K n b ≠ 0 ∧ K n b * K n (nrm n a b) = 1) := by
  unfold nrm
  by_cases ha : K n a = 0
  · have hb : K n b ≠ 0 := fun e => h ⟨ha, e⟩
    rw [if_pos (K_eq_zero.1 ha)]
    exact .inr ⟨ha, hb, K_inv hp hb⟩
  · rw [if_neg (fun e => ha (K_eq_zero.2 e))]
    exact .inl ⟨ha, K_inv hp ha⟩
/-- Numbers that are in one ratio make one line. -/
theorem mk_ratio (hp : isP (n : Int) = true) {a b c a' b' c' u : Int} (hu : K n u ≠ 0) (h : ¬ (K n a = 0 ∧ K n b = 0)) (ea : K n a' = K n u * K n a) (eb : K n b' = K n u * K n b) (ec : K n c' = K n u * K n c) :
    mk1 n a' b' c' = mk1 n a b c ∧ mk2 n a' b' c' = mk2 n a b c ∧ mk3 n a' b' c' = mk3 n a b c := by
  have hU := K_inv hp hu
  have h' : ¬ (K n a' = 0 ∧ K n b' = 0) := by
    rintro ⟨h1, h2⟩
    exact h ⟨by rw [ea] at h1; grind, by rw [eb] at h2; grind⟩
  unfold mk1 mk2 mk3
  simp only [← K_ext (n := n), K_mul]
  rw [ea, eb, ec]
  rcases K_nrm hp h with ⟨h1, h2⟩ | ⟨h1, h2, h3⟩ <;> rcases K_nrm hp h' with ⟨g1, g2⟩ | ⟨g1, g2, g3⟩
  · rw [ea] at g2
    refine ⟨?_, ?_, ?_⟩ <;> grind
  · rw [ea] at g1; exfalso; exact h1 (by grind)
  · rw [ea, h1] at g1; exfalso; exact g1 (by grind)
  · rw [eb] at g3
    refine ⟨?_, ?_, ?_⟩ <;> grind
end
/-- The numbers of the line through two points. -/
def th1 (p a1 a2 b1 b2 : Int) : Int := mk1 p (a2 - b2) (b1 - a1) (a1 * b2 - b1 * a2)
def th2 (p a1 a2 b1 b2 : Int) : Int := mk2 p (a2 - b2) (b1 - a1) (a1 * b2 - b1 * a2)
def th3 (p a1 a2 b1 b2 : Int) : Int := mk3 p (a2 - b2) (b1 - a1) (a1 * b2 - b1 * a2)
theorem thEq {p a1 a2 b1 b2 : Int} (hp : isP p = true) (ha1 : 0 ≤ a1 ∧ a1 < p) (ha2 : 0 ≤ a2 ∧ a2 < p) (hb1 : 0 ≤ b1 ∧ b1 < p) (hb2 : 0 ≤ b2 ∧ b2 < p) (hne : ¬ (a1 = b1 ∧ a2 = b2)) :
    th1 p a1 a2 b1 b2 = mk1 p ((b2 - a2) % p) (-((b1 - a1) % p) % p) (((b1 - a1) % p * a2 - (b2 - a2) % p * a1) % p) ∧
    th2 p a1 a2 b1 b2 = mk2 p ((b2 - a2) % p) (-((b1 - a1) % p) % p) (((b1 - a1) % p * a2 - (b2 - a2) % p * a1) % p) ∧
    th3 p a1 a2 b1 b2 = mk3 p ((b2 - a2) % p) (-((b1 - a1) % p) % p) (((b1 - a1) % p * a2 - (b2 - a2) % p * a1) % p) := by
  obtain ⟨n, rfl⟩ := Int.eq_ofNat_of_zero_le (by have := isP_range hp; omega : 0 ≤ p)
  haveI := neZero_of hp
  have hu : K n (-1) ≠ 0 := by
    intro e
    have h1 := K_eq_zero.1 e
    have := isP_ne hp
    rw [show ((-1 : Int) % (n : Int)) = n - 1 from by
      rw [Int.emod_eq_add_self_emod, Int.emod_eq_of_lt (by omega) (by omega)]; omega] at h1
    omega
  unfold th1 th2 th3
  refine mk_ratio hp hu ?_ ?_ ?_ ?_
  · rintro ⟨h1, h2⟩
    rw [K_mod, K_sub] at h1
    rw [K_mod, K_neg, K_mod, K_sub] at h2
    exact hne ⟨K_inj ha1 hb1 (by grind), K_inj ha2 hb2 (by grind)⟩
  all_goals
    simp only [K_mod, K_sub, K_neg, K_mul, K_one]
    grind
end Go.Proofs.Ytkkaicneabkkdaa

namespace Go.Proofs.Ytkkaicneabkkdaa
open Go.RowKit

/-- One of the three colours. -/
def colB (c : Int) : Bool := inB c 0 2
theorem colB_ways {c : Int} (h : colB c = true) : c = 0 ∨ c = 1 ∨ c = 2 := by
  unfold colB inB at h; have := of_decide_eq_true h; omega
theorem colB_range {c : Int} (h : colB c = true) : 0 ≤ c ∧ c ≤ 2 := by
  have := colB_ways h; omega
theorem code_col_T {p c : Int} {b : Bool} (h : colB c = true) : codeOf p (colB c && b) = codeOf p b := by rw [h, Bool.true_and]
theorem code_col_F {p c : Int} {b : Bool} (h : colB c = false) : codeOf p (colB c && b) = codeOf p false := by rw [h, Bool.false_and]
/-- A code of a test that is no zero: with another test beside it, it stays. -/
theorem code_col_1 {p : Int} {a b : Bool} (h : codeOf p b = 1) : codeOf p (a && b) = 1 := by
  cases hp : isP p
  · exact codeOf_no hp
  · revert h; cases b <;> simp [codeOf, hp]
theorem code_col_2 {p : Int} {a b : Bool} (h : codeOf p b = 2) : codeOf p (a && b) = 2 := by
  cases hp : isP p
  · rw [codeOf_no hp] at h; omega
  · revert h; cases b <;> simp [codeOf, hp]

end Go.Proofs.Ytkkaicneabkkdaa

namespace Go.Proofs.Ytkkaicneabkkdaa
open Go.RowKit

/-- The product of two points by a colour. -/
def prd (p c a1 a2 b1 b2 : Int) : Int := (if c = 0 then a1 * b1 + a2 * b2 else if c = 1 then a1 * b1 - a2 * b2 else a1 * b2 + a2 * b1) % p
theorem prd_0 (p a1 a2 b1 b2 : Int) : prd p 0 a1 a2 b1 b2 = (a1 * b1 + a2 * b2) % p := rfl
theorem prd_1 (p a1 a2 b1 b2 : Int) : prd p 1 a1 a2 b1 b2 = (a1 * b1 - a2 * b2) % p := rfl
theorem prd_2 (p a1 a2 b1 b2 : Int) : prd p 2 a1 a2 b1 b2 = (a1 * b2 + a2 * b1) % p := rfl
theorem prd_r (c a1 a2 b1 b2 : Int) {p : Int} (h : isP p = true) : 0 ≤ prd p c a1 a2 b1 b2 ∧ prd p c a1 a2 b1 b2 ≤ 31 := modR31 _ h
theorem prd_lt (c a1 a2 b1 b2 : Int) {p : Int} (h : isP p = true) : 0 ≤ prd p c a1 a2 b1 b2 ∧ prd p c a1 a2 b1 b2 < p := modR _ h
/-- The quadrance of two points by a colour. -/
def qdr (p c a1 a2 b1 b2 : Int) : Int := prd p c ((b1 - a1) % p) ((b2 - a2) % p) ((b1 - a1) % p) ((b2 - a2) % p)
/-- Whether two directions are perpendicular. -/
def perpB (p c l1 l2 m1 m2 : Int) : Bool := prd p c (-l2 % p) l1 (-m2 % p) m1 == 0

end Go.Proofs.Ytkkaicneabkkdaa

namespace Go.Proofs.Ytkkaicneabkkdaa
open Go.RowKit

def area (p a1 a2 b1 b2 c1 c2 : Int) : Int := ((b1 - a1) * (c2 - a2) - (b2 - a2) * (c1 - a1)) % p
theorem area_impl {p : Int} (a1 a2 b1 b2 c1 c2 : Int) (hp : isP p = true) :
    ((b1 - a1) % p * ((c2 - a2) % p) - (b2 - a2) % p * ((c1 - a1) % p)) % p = area p a1 a2 b1 b2 c1 c2 := by
  obtain ⟨n, rfl⟩ := Int.eq_ofNat_of_zero_le (by have := isP_range hp; omega : 0 ≤ p)
  haveI := neZero_of hp
  rw [area, ← K_ext]
  simp only [K_sub, K_mul, K_mod]

end Go.Proofs.Ytkkaicneabkkdaa

namespace Go.Proofs.Ytkkaicneabkkdaa
open Go.RowKit

/-- A number of the combination of two points. -/
def cmb (p a b t : Int) : Int := (a + t * (b - a)) % p
theorem cmb_spec {p : Int} (a b t : Int) (hp : isP p = true) : (a + t * ((b - a) % p) % p) % p = cmb p a b t := by
  obtain ⟨n, rfl⟩ := Int.eq_ofNat_of_zero_le (by have := isP_range hp; omega : 0 ≤ p)
  haveI := neZero_of hp
  rw [cmb, ← K_ext]
  simp only [K_add, K_sub, K_mul, K_mod]
theorem cmb_impl {p : Int} (a b t : Int) (hp : isP p = true) : (a + t * ((b - a) % p)) % p = cmb p a b t := by
  obtain ⟨n, rfl⟩ := Int.eq_ofNat_of_zero_le (by have := isP_range hp; omega : 0 ≤ p)
  haveI := neZero_of hp
  rw [cmb, ← K_ext]
  simp only [K_add, K_sub, K_mul, K_mod]
/-- A number of the midpoint of two points. -/
def mid (p a b : Int) : Int := (p + 1) / 2 * ((a + b) % p) % p
theorem half_two {p : Int} (hp : isP p = true) : 2 * ((p + 1) / 2) = p + 1 := by
  rw [isP_iff] at hp; omega
theorem mid_ring {n : Nat} [NeZero n] (A B H I : Fin n) (e : 2 * H = 1) (k : 2 * I = 1) : A + I * (B - A) = H * (A + B) := by
  have h : H = I := by
    have h1 : H * (2 * I) = I * (2 * H) := by grind
    rw [k, e] at h1
    grind
  have h2 : A = I * (2 * A) := by
    have : I * (2 * A) = A * (2 * I) := by grind
    rw [this, k]; grind
  subst h
  grind
theorem mid_impl {p : Int} (a b : Int) (hp : isP p = true) : cmb p a b (inv p 2) = mid p a b := by
  have h2 := half_two hp
  have hr := isP_range hp
  obtain ⟨n, rfl⟩ := Int.eq_ofNat_of_zero_le (by omega : 0 ≤ p)
  haveI := neZero_of hp
  obtain ⟨h, hh⟩ : ∃ h, h = ((n : Int) + 1) / 2 := ⟨_, rfl⟩
  rw [mid, cmb, ← K_ext, ← hh]
  rw [← hh] at h2
  have e := congrArg (K n) h2
  have k2 : K n 2 ≠ 0 := K_small (by omega) (by omega)
  have ki := K_inv hp k2
  rw [K_add, K_self, K_one, K_mul] at e
  simp only [K_add, K_sub, K_mul, K_mod]
  rw [K_two] at e ki
  exact mid_ring _ _ _ _ (by rw [e]; grind) ki

end Go.Proofs.Ytkkaicneabkkdaa

namespace Go.Proofs.Ytkkaicneabkkdaa
open Go.RowKit

def detM (l1 l2 m1 m2 : Int) : Int := l1 * m2 - l2 * m1
def meX (p l1 l2 l3 m1 m2 m3 : Int) : Int := (l2 * m3 - m2 * l3) * inv p (detM l1 l2 m1 m2) % p
def meY (p l1 l2 l3 m1 m2 m3 : Int) : Int := (m1 * l3 - l1 * m3) * inv p (detM l1 l2 m1 m2) % p

/-- Lines are parallel just where the determinant is 0. -/
theorem det_zero {p l1 l2 m1 m2 : Int} (hp : isP p = true) (hl : leadB l1 l2 = true) (hm : leadB m1 m2 = true) (hr : (0 ≤ l1 ∧ l1 < p) ∧ (0 ≤ l2 ∧ l2 < p)) (gr : (0 ≤ m1 ∧ m1 < p) ∧ (0 ≤ m2 ∧ m2 < p)) :
    detM l1 l2 m1 m2 % p = 0 ↔ (l1 = m1 ∧ l2 = m2) := by
  have h31 := isP_range hp
  unfold detM
  rcases lead_ways hl with rfl | ⟨rfl, rfl⟩ <;> rcases lead_ways hm with rfl | ⟨rfl, rfl⟩
  · rw [Int.one_mul, Int.mul_one]
    constructor
    · intro h
      have h1 := Int.emod_emod_of_dvd m2 (Int.dvd_refl p)
      have h2 : m2 % p = l2 % p := Int.emod_eq_emod_iff_emod_sub_eq_zero.2 h
      rw [Int.emod_eq_of_lt gr.2.1 gr.2.2, Int.emod_eq_of_lt hr.2.1 hr.2.2] at h2
      exact ⟨rfl, h2.symm⟩
    · rintro ⟨_, rfl⟩
      simp
  · rw [show (1 : Int) * 1 - l2 * 0 = 1 by simp, Int.emod_eq_of_lt (by omega) (by omega)]
    omega
  · rw [show (0 : Int) * m2 - 1 * 1 = -1 by simp]
    constructor
    · intro h
      rw [Int.emod_eq_add_self_emod, Int.emod_eq_of_lt (by omega) (by omega)] at h
      omega
    · omega
  · simp
theorem meX_impl (p l1 l2 l3 m1 m2 m3 : Int) : (l2 * m3 - m2 * l3) % p * inv p ((l1 * m2 - m1 * l2) % p) % p = meX p l1 l2 l3 m1 m2 m3 := by
  rw [meX, detM, inv_mod, Int.mul_comm m1 l2, Int.mul_emod ((l2 * m3 - m2 * l3) % p), Int.emod_emod, ← Int.mul_emod]
theorem meY_impl (p l1 l2 l3 m1 m2 m3 : Int) : (l3 * m1 - m3 * l1) % p * inv p ((l1 * m2 - m1 * l2) % p) % p = meY p l1 l2 l3 m1 m2 m3 := by
  rw [meY, detM, inv_mod, Int.mul_comm m1 l2, Int.mul_comm l3 m1, Int.mul_comm m3 l1, Int.mul_emod ((m1 * l3 - l1 * m3) % p), Int.emod_emod, ← Int.mul_emod]
theorem tmod_emod (x p : Int) : x.tmod p % p = x % p := by
  rw [Int.tmod_def, Int.sub_mul_emod_self_left]
theorem meX_spec (p l1 l2 l3 m1 m2 m3 : Int) : (l2 * m3 - m2 * l3).tmod p * inv p (detM l1 l2 m1 m2 % p) % p = meX p l1 l2 l3 m1 m2 m3 := by
  rw [meX, inv_mod, Int.mul_emod ((l2 * m3 - m2 * l3).tmod p), tmod_emod, ← Int.mul_emod]
theorem meY_spec (p l1 l2 l3 m1 m2 m3 : Int) : (m1 * l3 - l1 * m3).tmod p * inv p (detM l1 l2 m1 m2 % p) % p = meY p l1 l2 l3 m1 m2 m3 := by
  rw [meY, inv_mod, Int.mul_emod ((m1 * l3 - l1 * m3).tmod p), tmod_emod, ← Int.mul_emod]

end Go.Proofs.Ytkkaicneabkkdaa

namespace Go.Proofs.Ytkkaicneabkkdaa
open Go.RowKit

def moC0 (p l1 l2 l3 m1 m2 m3 : Int) : Int := codeOf p (lineB p l1 l2 l3 && lineB p m1 m2 m3)
def moC (p l1 l2 l3 m1 m2 m3 : Int) : Int := if moC0 p l1 l2 l3 m1 m2 m3 = 0 ∧ l1 = m1 ∧ l2 = m2 then 5 else moC0 p l1 l2 l3 m1 m2 m3
def moV (p l1 l2 l3 m1 m2 m3 x : Int) : Int := if moC0 p l1 l2 l3 m1 m2 m3 = 0 ∧ ¬ (l1 = m1 ∧ l2 = m2) then x else 0
def moV1 (p l1 l2 l3 m1 m2 m3 : Int) : Int := moV p l1 l2 l3 m1 m2 m3 (meX p l1 l2 l3 m1 m2 m3)
def moV2 (p l1 l2 l3 m1 m2 m3 : Int) : Int := moV p l1 l2 l3 m1 m2 m3 (meY p l1 l2 l3 m1 m2 m3)
abbrev moR (p l1 l2 l3 m1 m2 m3 : Int) : Value := .tuple #[.agg #[.int .i64 (moV1 p l1 l2 l3 m1 m2 m3), .int .i64 (moV2 p l1 l2 l3 m1 m2 m3)], .int .i64 (moC p l1 l2 l3 m1 m2 m3)]
theorem mo_err {p l1 l2 l3 m1 m2 m3 k : Int} (h : codeOf p (lineB p l1 l2 l3 && lineB p m1 m2 m3) = k) (hk : k ≠ 0) : moV1 p l1 l2 l3 m1 m2 m3 = 0 ∧ moV2 p l1 l2 l3 m1 m2 m3 = 0 ∧ moC p l1 l2 l3 m1 m2 m3 = k := by
  have h' : moC0 p l1 l2 l3 m1 m2 m3 = k := h
  simp [moV1, moV2, moV, moC, h', hk]
theorem mo_par {p l1 l2 l3 m1 m2 m3 : Int} (h : codeOf p (lineB p l1 l2 l3 && lineB p m1 m2 m3) = 0) (e : l1 = m1 ∧ l2 = m2) : moV1 p l1 l2 l3 m1 m2 m3 = 0 ∧ moV2 p l1 l2 l3 m1 m2 m3 = 0 ∧ moC p l1 l2 l3 m1 m2 m3 = 5 := by
  obtain ⟨rfl, rfl⟩ := e
  have h' : moC0 p l1 l2 l3 l1 l2 m3 = 0 := h
  simp [moV1, moV2, moV, moC, h']
theorem mo_good {p l1 l2 l3 m1 m2 m3 : Int} (h : codeOf p (lineB p l1 l2 l3 && lineB p m1 m2 m3) = 0) (e : ¬ (l1 = m1 ∧ l2 = m2)) : moV1 p l1 l2 l3 m1 m2 m3 = meX p l1 l2 l3 m1 m2 m3 ∧ moV2 p l1 l2 l3 m1 m2 m3 = meY p l1 l2 l3 m1 m2 m3 ∧ moC p l1 l2 l3 m1 m2 m3 = 0 := by
  have h' : moC0 p l1 l2 l3 m1 m2 m3 = 0 := h
  have g : moC0 p l1 l2 l3 m1 m2 m3 = 0 ∧ ¬ (l1 = m1 ∧ l2 = m2) := ⟨h', e⟩
  have f : ¬ (moC0 p l1 l2 l3 m1 m2 m3 = 0 ∧ l1 = m1 ∧ l2 = m2) := fun hh => e hh.2
  rw [moV1, moV2, moV, moV, moC, if_pos g, if_pos g, if_neg f, h']
  exact ⟨rfl, rfl, rfl⟩

end Go.Proofs.Ytkkaicneabkkdaa

namespace Go.Proofs.Ytkkaicneabkkdaa
open Go.RowKit

/-- The two numbers with which the product with a direction is made. -/
def uOf (c d1 d2 : Int) : Int := if c = 2 then d2 else d1
def vOf (p c d1 d2 : Int) : Int := if c = 1 then -d2 % p else if c = 2 then d1 else d2
/-- The line through a point whose points have one product with a direction. -/
def tw (p c d1 d2 a1 a2 : Int) : Int := -(uOf c d1 d2 * a1 + vOf p c d1 d2 * a2) % p
def tl1 (p c d1 d2 a1 a2 : Int) : Int := mk1 p (uOf c d1 d2) (vOf p c d1 d2) (tw p c d1 d2 a1 a2)
def tl2 (p c d1 d2 a1 a2 : Int) : Int := mk2 p (uOf c d1 d2) (vOf p c d1 d2) (tw p c d1 d2 a1 a2)
def tl3 (p c d1 d2 a1 a2 : Int) : Int := mk3 p (uOf c d1 d2) (vOf p c d1 d2) (tw p c d1 d2 a1 a2)
theorem uv_r {p c d1 d2 : Int} (hp : isP p = true) (h1 : 0 ≤ d1 ∧ d1 < p) (h2 : 0 ≤ d2 ∧ d2 < p) : (0 ≤ uOf c d1 d2 ∧ uOf c d1 d2 < p) ∧ (0 ≤ vOf p c d1 d2 ∧ vOf p c d1 d2 < p) := by
  have := modR (-d2) hp
  unfold uOf vOf
  constructor
  · split <;> assumption
  · split
    · assumption
    · split <;> assumption
/-- What the program takes for the same. -/
theorem tl_impl {p c d1 d2 a1 a2 : Int} (hp : isP p = true) (hc : colB c = true) (h1 : 0 ≤ d1 ∧ d1 < p) (h2 : 0 ≤ d2 ∧ d2 < p) :
    prd p c d1 d2 1 0 = uOf c d1 d2 ∧ prd p c d1 d2 0 1 = vOf p c d1 d2 ∧ -(prd p c d1 d2 a1 a2) % p = tw p c d1 d2 a1 a2 := by
  have e1 : d1 % p = d1 := Int.emod_eq_of_lt h1.1 h1.2
  have e2 : d2 % p = d2 := Int.emod_eq_of_lt h2.1 h2.2
  obtain ⟨n, rfl⟩ := Int.eq_ofNat_of_zero_le (by have := isP_range hp; omega : 0 ≤ p)
  haveI := neZero_of hp
  rcases colB_ways hc with rfl | rfl | rfl
  · refine ⟨by simp [prd, uOf, e1], by simp [prd, vOf, e2], ?_⟩
    rw [tw, prd_0, ← K_ext]
    simp only [uOf, vOf, K_neg, K_mod, K_add, K_mul]
    simp
  · refine ⟨by simp [prd, uOf, e1], by simp [prd, vOf], ?_⟩
    rw [tw, prd_1, ← K_ext]
    simp only [uOf, vOf, if_true]
    rw [if_neg (by decide)]
    simp only [K_neg, K_mod, K_sub, K_add, K_mul]
    grind
  · refine ⟨by simp [prd, uOf, e2], by simp [prd, vOf, e1], ?_⟩
    rw [tw, prd_2, ← K_ext]
    simp only [uOf, vOf, K_neg, K_mod, K_add, K_mul]
    simp
    grind
/-- The perpendicular line through a point. -/
def pt1 (p c l1 l2 a1 a2 : Int) : Int := tl1 p c (-l2 % p) l1 a1 a2
def pt2 (p c l1 l2 a1 a2 : Int) : Int := tl2 p c (-l2 % p) l1 a1 a2
def pt3 (p c l1 l2 a1 a2 : Int) : Int := tl3 p c (-l2 % p) l1 a1 a2

end Go.Proofs.Ytkkaicneabkkdaa

namespace Go.Proofs.Ytkkaicneabkkdaa
open Go.RowKit

section
variable {n : Nat} [NeZero n]
theorem K_one_ne (hp : isP (n : Int) = true) : K n 1 ≠ 0 := K_small (by have := isP_range hp; omega) (by omega)
theorem mk_line (hp : isP (n : Int) = true) {a b : Int} (c : Int) (h : ¬ (K n a = 0 ∧ K n b = 0)) : lineB n (mk1 n a b c) (mk2 n a b c) (mk3 n a b c) = true := by
  have hr := isP_range hp
  have r1 := modR (a * nrm n a b) hp
  have r2 := modR (b * nrm n a b) hp
  have r3 := modR (c * nrm n a b) hp
  refine lineB_of ?_ ?_
  · rcases K_nrm hp h with ⟨_, h2⟩ | ⟨h1, _, h3⟩
    · have e : mk1 n a b c = 1 := K_inj (n := n) r1 (by omega) (by rw [mk1, K_mod, K_mul, h2, K_one])
      simp [leadB, e]
    · have e1 : mk1 n a b c = 0 := K_inj (n := n) r1 (by omega) (by rw [mk1, K_mod, K_mul, h1, K_zero]; grind)
      have e2 : mk2 n a b c = 1 := K_inj (n := n) r2 (by omega) (by rw [mk2, K_mod, K_mul, h3, K_one])
      simp [leadB, e1, e2]
  · rw [numsIn3, inB_true (by rw [mk1]; omega), inB_true (by rw [mk2]; omega), inB_true (by rw [mk3]; omega)]
    rfl
theorem uv_key {c l1 l2 : Int} (hc : colB c = true) (h : K n (uOf c (-l2 % n) l1) = 0 ∧ K n (vOf n c (-l2 % n) l1) = 0) : K n l1 = 0 ∧ K n l2 = 0 := by
  obtain ⟨h1, h2⟩ := h
  rcases colB_ways hc with rfl | rfl | rfl
  · rw [show uOf 0 (-l2 % (n : Int)) l1 = -l2 % n from rfl, K_mod, K_neg] at h1
    rw [show vOf n 0 (-l2 % (n : Int)) l1 = l1 from rfl] at h2
    exact ⟨h2, by grind⟩
  · rw [show uOf 1 (-l2 % (n : Int)) l1 = -l2 % n from rfl, K_mod, K_neg] at h1
    rw [show vOf n 1 (-l2 % (n : Int)) l1 = -l1 % n from rfl, K_mod, K_neg] at h2
    exact ⟨by grind, by grind⟩
  · rw [show uOf 2 (-l2 % (n : Int)) l1 = l1 from rfl] at h1
    rw [show vOf n 2 (-l2 % (n : Int)) l1 = -l2 % n from rfl, K_mod, K_neg] at h2
    exact ⟨h1, by grind⟩
theorem uv_nz (hp : isP (n : Int) = true) {c l1 l2 : Int} (hc : colB c = true) (hl : leadB l1 l2 = true) : ¬ (K n (uOf c (-l2 % n) l1) = 0 ∧ K n (vOf n c (-l2 % n) l1) = 0) := fun h => by
  have hk := uv_key hc h
  rcases lead_ways hl with rfl | ⟨_, rfl⟩
  · exact K_one_ne hp hk.1
  · exact K_one_ne hp hk.2
theorem uv_prd {c l1 l2 : Int} (hc : colB c = true) : K n l1 * K n (vOf n c (-l2 % n) l1) - K n l2 * K n (uOf c (-l2 % n) l1) = K n (prd n c (-l2 % n) l1 (-l2 % n) l1) := by
  rcases colB_ways hc with rfl | rfl | rfl
  · rw [show uOf 0 (-l2 % (n : Int)) l1 = -l2 % n from rfl, show vOf n 0 (-l2 % (n : Int)) l1 = l1 from rfl, prd_0]
    simp only [K_mod, K_neg, K_add, K_mul]; grind
  · rw [show uOf 1 (-l2 % (n : Int)) l1 = -l2 % n from rfl, show vOf n 1 (-l2 % (n : Int)) l1 = -l1 % n from rfl, prd_1]
    simp only [K_mod, K_neg, K_sub, K_mul]; grind
  · rw [show uOf 2 (-l2 % (n : Int)) l1 = l1 from rfl, show vOf n 2 (-l2 % (n : Int)) l1 = -l2 % n from rfl, prd_2]
    simp only [K_mod, K_neg, K_add, K_mul]; grind
theorem det_pt (hp : isP (n : Int) = true) {c l1 l2 a1 a2 : Int} (hc : colB c = true) (hl : leadB l1 l2 = true) : detM l1 l2 (pt1 n c l1 l2 a1 a2) (pt2 n c l1 l2 a1 a2) % n = 0 ↔ perpB n c l1 l2 l1 l2 = true := by
  have hnz := uv_nz hp hc hl
  have hN : K n (nrm n (uOf c (-l2 % n) l1) (vOf n c (-l2 % n) l1)) ≠ 0 := fun e => by
    rcases K_nrm hp hnz with ⟨_, h2⟩ | ⟨_, _, h2⟩ <;>
      exact K_one_ne hp (by rw [K_one, ← h2, e]; grind)
  have e : K n (detM l1 l2 (pt1 n c l1 l2 a1 a2) (pt2 n c l1 l2 a1 a2)) = K n (nrm n (uOf c (-l2 % n) l1) (vOf n c (-l2 % n) l1)) * K n (prd n c (-l2 % n) l1 (-l2 % n) l1) := by
    rw [← uv_prd hc, detM, pt1, pt2, tl1, tl2, mk1, mk2]
    simp only [K_sub, K_mul, K_mod]
    grind
  rw [← K_eq_zero, e, perpB, beq_iff_eq]
  have hb := prd_lt c (-l2 % n) l1 (-l2 % n) l1 hp
  constructor
  · intro h
    rw [← K_mul] at h
    rcases K_noz hp (x := nrm n (uOf c (-l2 % n) l1) (vOf n c (-l2 % n) l1)) (y := prd n c (-l2 % n) l1 (-l2 % n) l1) (by rw [← K_mul]; exact h) with h1 | h1
    · exact absurd h1 hN
    · rcases Int.lt_or_eq_of_le hb.1 with h2 | h2
      · exact absurd h1 (K_small hb (by omega))
      · exact h2.symm
  · intro h; rw [h, K_zero]; grind
end
theorem pt_line {p c l1 l2 : Int} (a1 a2 : Int) (hp : isP p = true) (hc : colB c = true) (hl : leadB l1 l2 = true) : lineB p (pt1 p c l1 l2 a1 a2) (pt2 p c l1 l2 a1 a2) (pt3 p c l1 l2 a1 a2) = true := by
  obtain ⟨n, rfl⟩ := Int.eq_ofNat_of_zero_le (by have := isP_range hp; omega : 0 ≤ p)
  haveI := neZero_of hp
  exact mk_line hp _ (uv_nz hp hc hl)
theorem pt_det {p c l1 l2 : Int} (a1 a2 : Int) (hp : isP p = true) (hc : colB c = true) (hl : leadB l1 l2 = true) : detM l1 l2 (pt1 p c l1 l2 a1 a2) (pt2 p c l1 l2 a1 a2) % p = 0 ↔ perpB p c l1 l2 l1 l2 = true := by
  obtain ⟨n, rfl⟩ := Int.eq_ofNat_of_zero_le (by have := isP_range hp; omega : 0 ≤ p)
  haveI := neZero_of hp
  exact det_pt hp hc hl
theorem pt_same {p c l1 l2 l3 : Int} (a1 a2 : Int) (hp : isP p = true) (hc : colB c = true) (hb : lineB p l1 l2 l3 = true) : (l1 = pt1 p c l1 l2 a1 a2 ∧ l2 = pt2 p c l1 l2 a1 a2) ↔ perpB p c l1 l2 l1 l2 = true := by
  have hl := lineB_in hb
  have hm := lineB_in (pt_line (l1 := l1) (l2 := l2) a1 a2 hp hc hl.1)
  have n1 := nums3 hl.2
  have n2 := nums3 hm.2
  rw [← pt_det a1 a2 hp hc hl.1]
  exact (det_zero hp hl.1 hm.1 ⟨n1.1, n1.2.1⟩ ⟨n2.1, n2.2.1⟩).symm

end Go.Proofs.Ytkkaicneabkkdaa

namespace Go.Proofs.Ytkkaicneabkkdaa
open Go.RowKit

section
variable {p : Int}
theorem tl1_r (c d1 d2 a1 a2 : Int) (h : isP p = true) : 0 ≤ tl1 p c d1 d2 a1 a2 ∧ tl1 p c d1 d2 a1 a2 < p := modR _ h
theorem pt1_r (c l1 l2 a1 a2 : Int) (h : isP p = true) : 0 ≤ pt1 p c l1 l2 a1 a2 ∧ pt1 p c l1 l2 a1 a2 < p := modR _ h
theorem tl2_r (c d1 d2 a1 a2 : Int) (h : isP p = true) : 0 ≤ tl2 p c d1 d2 a1 a2 ∧ tl2 p c d1 d2 a1 a2 < p := modR _ h
theorem pt2_r (c l1 l2 a1 a2 : Int) (h : isP p = true) : 0 ≤ pt2 p c l1 l2 a1 a2 ∧ pt2 p c l1 l2 a1 a2 < p := modR _ h
theorem tl3_r (c d1 d2 a1 a2 : Int) (h : isP p = true) : 0 ≤ tl3 p c d1 d2 a1 a2 ∧ tl3 p c d1 d2 a1 a2 < p := modR _ h
theorem pt3_r (c l1 l2 a1 a2 : Int) (h : isP p = true) : 0 ≤ pt3 p c l1 l2 a1 a2 ∧ pt3 p c l1 l2 a1 a2 < p := modR _ h
end

end Go.Proofs.Ytkkaicneabkkdaa

namespace Go.Proofs.Ytkkaicneabkkdaa
open Go.RowKit

theorem bool_ways (b : Bool) : b = false ∨ b = true := by cases b <;> simp

theorem mulNN (A B C : Int) (hC : C = A * B) {a b : Int} (ha : 0 ≤ a ∧ a ≤ A) (hb : 0 ≤ b ∧ b ≤ B) : 0 ≤ a * b ∧ a * b ≤ C :=
  ⟨Int.mul_nonneg ha.1 hb.1, by have h := Int.mul_le_mul ha.2 hb.2 hb.1 (by omega : 0 ≤ A); omega⟩
theorem mulSS (A B C : Int) (hC : C = A * B) (hA : 0 ≤ A) {a b : Int} (ha : -A ≤ a ∧ a ≤ A) (hb : -B ≤ b ∧ b ≤ B) : -C ≤ a * b ∧ a * b ≤ C := by
  have h : (a * b).natAbs ≤ A.natAbs * B.natAbs := by rw [Int.natAbs_mul]; exact Nat.mul_le_mul (by omega) (by omega)
  have e : C.natAbs = A.natAbs * B.natAbs := by rw [hC, Int.natAbs_mul]
  have hB : 0 ≤ B := by omega
  have hc : 0 ≤ C := by rw [hC]; exact Int.mul_nonneg hA hB
  omega

theorem mulSq (A C : Int) (hC : C = A * A) {a : Int} (ha : -A ≤ a ∧ a ≤ A) : 0 ≤ a * a ∧ a * a ≤ C := by
  rcases Int.le_total 0 a with h | h
  · have h2 := Int.mul_le_mul ha.2 ha.2 h (by omega : 0 ≤ A)
    exact ⟨Int.mul_nonneg h h, by omega⟩
  · have h2 := Int.mul_le_mul (by omega : -a ≤ A) (by omega : -a ≤ A) (by omega : 0 ≤ -a) (by omega : 0 ≤ A)
    have h3 := Int.mul_nonneg (by omega : 0 ≤ -a) (by omega : 0 ≤ -a)
    rw [Int.neg_mul_neg] at h2 h3
    exact ⟨h3, by omega⟩

theorem fset {W : World} {a b : Addr} {v : Value} (h : W.frozen? b = false) : (W.setCell a v).frozen? b = false := by rw [World.frozen?_setCell]; exact h

theorem area_r (a1 a2 b1 b2 c1 c2 : Int) {p : Int} (h : isP p = true) : 0 ≤ area p a1 a2 b1 b2 c1 c2 ∧ area p a1 a2 b1 b2 c1 c2 < p := modR _ h

end Go.Proofs.Ytkkaicneabkkdaa

namespace Go.Proofs.Ytkkaicneabkkdaa
open Go.RowKit

/-- The product of two points by a colour, its rest not yet taken. -/
def rawp (c a1 a2 b1 b2 : Int) : Int := if c = 0 then a1 * b1 + a2 * b2 else if c = 1 then a1 * b1 - a2 * b2 else a1 * b2 + a2 * b1
theorem prd_raw (p c a1 a2 b1 b2 : Int) : prd p c a1 a2 b1 b2 = rawp c a1 a2 b1 b2 % p := rfl
theorem rawp_r {c a1 a2 b1 b2 : Int} (ha1 : 0 ≤ a1 ∧ a1 ≤ 31) (ha2 : 0 ≤ a2 ∧ a2 ≤ 31) (hb1 : 0 ≤ b1 ∧ b1 ≤ 31) (hb2 : 0 ≤ b2 ∧ b2 ≤ 31) : -961 ≤ rawp c a1 a2 b1 b2 ∧ rawp c a1 a2 b1 b2 ≤ 1922 := by
  have m1 := mulP ha1 hb1
  have m2 := mulP ha2 hb2
  have m3 := mulP ha1 hb2
  have m4 := mulP ha2 hb1
  unfold rawp
  split
  · omega
  · split <;> omega
/-- A line is null by a colour. -/
def nullB (p c l1 l2 : Int) : Bool := prd p c (-l2 % p) l1 (-l2 % p) l1 == 0
/-- The product of two lines' directions, the cross, the spread. -/
def crD (p c l1 l2 m1 m2 : Int) : Int := prd p c (-l2 % p) l1 (-m2 % p) m1
def crO (p c l1 l2 m1 m2 : Int) : Int := crD p c l1 l2 m1 m2 * crD p c l1 l2 m1 m2 % p * inv p (prd p c (-l2 % p) l1 (-l2 % p) l1 * prd p c (-m2 % p) m1 (-m2 % p) m1) % p
def crT (p c l1 l2 m1 m2 : Int) : Int := if (nullB p c l1 l2 || nullB p c m1 m2) = true then 5 else 0
def crV (p c l1 l2 m1 m2 : Int) : Int := if (nullB p c l1 l2 || nullB p c m1 m2) = true then 0 else crO p c l1 l2 m1 m2
def spO (p c l1 l2 m1 m2 : Int) : Int := (1 - crO p c l1 l2 m1 m2) % p
def spV (p c l1 l2 m1 m2 : Int) : Int := if (nullB p c l1 l2 || nullB p c m1 m2) = true then 0 else spO p c l1 l2 m1 m2
def twO (p c l1 l2 m1 m2 : Int) : Int := (1 - crO p c l1 l2 m1 m2) % p * inv p (crO p c l1 l2 m1 m2) % p
theorem crO_r {p : Int} (c l1 l2 m1 m2 : Int) (h : isP p = true) : 0 ≤ crO p c l1 l2 m1 m2 ∧ crO p c l1 l2 m1 m2 < p := modR _ h
theorem spO_r {p : Int} (c l1 l2 m1 m2 : Int) (h : isP p = true) : 0 ≤ spO p c l1 l2 m1 m2 ∧ spO p c l1 l2 m1 m2 < p := modR _ h
/-- What the program takes for a cross: its test, its number. -/
theorem mul_zero_iff {p x y : Int} (hp : isP p = true) : (x * y % p == 0) = (x % p == 0 || y % p == 0) := by
  have hr := isP_range hp
  obtain ⟨n, rfl⟩ := Int.eq_ofNat_of_zero_le (by omega : 0 ≤ p)
  haveI := neZero_of hp
  rw [Bool.eq_iff_iff]
  simp only [Bool.or_eq_true, beq_iff_eq]
  constructor
  · intro h
    have h1 : K n x * K n y = 0 := by rw [← K_mul]; exact K_eq_zero.2 h
    rcases K_noz hp h1 with h2 | h2
    · exact .inl (K_eq_zero.1 h2)
    · exact .inr (K_eq_zero.1 h2)
  · rintro (h | h)
    · rw [Int.mul_emod, h, Int.zero_mul, Int.zero_emod]
    · rw [Int.mul_emod, h, Int.mul_zero, Int.zero_emod]
theorem quad_null {p : Int} (c l1 l2 m1 m2 : Int) (hp : isP p = true) : ((rawp c (-l2 % p) l1 (-l2 % p) l1 * rawp c (-m2 % p) m1 (-m2 % p) m1) % p == 0) = (nullB p c l1 l2 || nullB p c m1 m2) := by
  rw [mul_zero_iff hp]; rfl
theorem cross_bad {p c l1 l2 m1 m2 : Int} (hp : isP p = true) (h : ((rawp c (-l2 % p) l1 (-l2 % p) l1 * rawp c (-m2 % p) m1 (-m2 % p) m1) % p == 0) = true) :
    crV p c l1 l2 m1 m2 = 0 ∧ crT p c l1 l2 m1 m2 = 5 := by
  rw [quad_null _ _ _ _ _ hp] at h
  simp [crV, crT, h]
theorem cross_good {p c l1 l2 m1 m2 : Int} (hp : isP p = true) (h : ((rawp c (-l2 % p) l1 (-l2 % p) l1 * rawp c (-m2 % p) m1 (-m2 % p) m1) % p == 0) = false) :
    crV p c l1 l2 m1 m2 = rawp c (-l2 % p) l1 (-m2 % p) m1 * rawp c (-l2 % p) l1 (-m2 % p) m1 * inv p ((rawp c (-l2 % p) l1 (-l2 % p) l1 * rawp c (-m2 % p) m1 (-m2 % p) m1) % p) % p ∧ crT p c l1 l2 m1 m2 = 0 := by
  rw [quad_null _ _ _ _ _ hp] at h
  refine ⟨?_, by simp [crT, h]⟩
  have e : crV p c l1 l2 m1 m2 = crO p c l1 l2 m1 m2 := by simp [crV, h]
  have hi : inv p (prd p c (-l2 % p) l1 (-l2 % p) l1 * prd p c (-m2 % p) m1 (-m2 % p) m1) = inv p ((rawp c (-l2 % p) l1 (-l2 % p) l1 * rawp c (-m2 % p) m1 (-m2 % p) m1) % p) := by
    rw [← inv_mod]; congr 1; rw [prd_raw, prd_raw, ← Int.mul_emod]
  rw [e, crO, hi, crD, prd_raw]
  rw [← Int.mul_emod, Int.mul_emod (rawp c (-l2 % p) l1 (-m2 % p) m1 * rawp c (-l2 % p) l1 (-m2 % p) m1 % p), Int.emod_emod, ← Int.mul_emod]
/-- Triple spreads. -/
def tripB (p r s t : Int) : Bool := ((r + s + t) * (r + s + t) - 2 * (r * r + s * s + t * t) - 4 * r * s * t) % p == 0

end Go.Proofs.Ytkkaicneabkkdaa

namespace Go.Proofs.Ytkkaicneabkkdaa
open Go.RowKit

/-- The spread at a of b and c. -/
def atD (p col a1 a2 b1 b2 c1 c2 : Int) : Int := prd p col ((b1 - a1) % p) ((b2 - a2) % p) ((c1 - a1) % p) ((c2 - a2) % p)
def atO (p col a1 a2 b1 b2 c1 c2 : Int) : Int := (1 - atD p col a1 a2 b1 b2 c1 c2 * atD p col a1 a2 b1 b2 c1 c2 % p * inv p (qdr p col a1 a2 b1 b2 * qdr p col a1 a2 c1 c2)) % p
def atT (p col a1 a2 b1 b2 c1 c2 : Int) : Int := if (qdr p col a1 a2 b1 b2 == 0 || qdr p col a1 a2 c1 c2 == 0) = true then 5 else 0
theorem atO_r {p : Int} (col a1 a2 b1 b2 c1 c2 : Int) (h : isP p = true) : 0 ≤ atO p col a1 a2 b1 b2 c1 c2 ∧ atO p col a1 a2 b1 b2 c1 c2 < p := modR _ h
theorem qdr_r {p : Int} (c a1 a2 b1 b2 : Int) (h : isP p = true) : 0 ≤ qdr p c a1 a2 b1 b2 ∧ qdr p c a1 a2 b1 b2 < p := modR _ h
theorem ne_of {a b c d : Int} (h : (a == c && b == d) = false) : ¬ (a = c ∧ b = d) := by
  rintro ⟨rfl, rfl⟩; simp at h

section
variable {n : Nat} [NeZero n]
/-- Products go with factors. -/
theorem K_raw {c : Int} (hc : colB c = true) {x1 x2 y1 y2 u1 u2 v1 v2 l m : Int} (e1 : K n x1 = K n l * K n u1) (e2 : K n x2 = K n l * K n u2) (f1 : K n y1 = K n m * K n v1) (f2 : K n y2 = K n m * K n v2) :
    K n (rawp c x1 x2 y1 y2) = K n l * K n m * K n (rawp c u1 u2 v1 v2) := by
  rcases colB_ways hc with rfl | rfl | rfl
  · show K n (x1 * y1 + x2 * y2) = K n l * K n m * K n (u1 * v1 + u2 * v2)
    simp only [K_add, K_mul, e1, e2, f1, f2]; grind
  · show K n (x1 * y1 - x2 * y2) = K n l * K n m * K n (u1 * v1 - u2 * v2)
    simp only [K_sub, K_mul, e1, e2, f1, f2]; grind
  · show K n (x1 * y2 + x2 * y1) = K n l * K n m * K n (u1 * v2 + u2 * v1)
    simp only [K_add, K_mul, e1, e2, f1, f2]; grind
/-- The direction of the line through two points. -/
theorem K_dir (hp : isP (n : Int) = true) {a1 a2 b1 b2 : Int} (ha1 : 0 ≤ a1 ∧ a1 < n) (ha2 : 0 ≤ a2 ∧ a2 < n) (hb1 : 0 ≤ b1 ∧ b1 < n) (hb2 : 0 ≤ b2 ∧ b2 < n) (hne : ¬ (a1 = b1 ∧ a2 = b2)) :
    ∃ l : Int, K n l ≠ 0 ∧ K n (-th2 n a1 a2 b1 b2 % n) = K n l * K n ((b1 - a1) % n) ∧ K n (th1 n a1 a2 b1 b2) = K n l * K n ((b2 - a2) % n) := by
  have h : ¬ (K n (a2 - b2) = 0 ∧ K n (b1 - a1) = 0) := by
    rintro ⟨h1, h2⟩
    rw [K_sub] at h1 h2
    exact hne ⟨K_inj ha1 hb1 (by grind), K_inj ha2 hb2 (by grind)⟩
  refine ⟨-nrm n (a2 - b2) (b1 - a1), ?_, ?_, ?_⟩
  · rw [K_neg]
    rcases K_nrm hp h with ⟨_, h2⟩ | ⟨_, _, h2⟩ <;> intro e <;> have e' : K n (nrm n (a2 - b2) (b1 - a1)) = 0 := by grind
    · rw [e'] at h2; exact absurd h2 (by have := K_small (n := n) (x := 1) ⟨by omega, by have := isP_ne hp; omega⟩ (by omega); rw [K_one] at this; grind)
    · rw [e'] at h2; exact absurd h2 (by have := K_small (n := n) (x := 1) ⟨by omega, by have := isP_ne hp; omega⟩ (by omega); rw [K_one] at this; grind)
  · unfold th2 mk2
    simp only [K_mod, K_neg, K_mul, K_sub]; grind
  · unfold th1 mk1
    simp only [K_mod, K_neg, K_mul, K_sub]; grind
end

theorem null_th {p c a1 a2 b1 b2 : Int} (hp : isP p = true) (hc : colB c = true) (ha1 : 0 ≤ a1 ∧ a1 < p) (ha2 : 0 ≤ a2 ∧ a2 < p) (hb1 : 0 ≤ b1 ∧ b1 < p) (hb2 : 0 ≤ b2 ∧ b2 < p) (hne : ¬ (a1 = b1 ∧ a2 = b2)) :
    nullB p c (th1 p a1 a2 b1 b2) (th2 p a1 a2 b1 b2) = (qdr p c a1 a2 b1 b2 == 0) := by
  obtain ⟨n, rfl⟩ := Int.eq_ofNat_of_zero_le (by have := isP_range hp; omega : 0 ≤ p)
  haveI := neZero_of hp
  obtain ⟨l, hl, e1, e2⟩ := K_dir hp ha1 ha2 hb1 hb2 hne
  have h := K_raw hc e1 e2 e1 e2
  unfold nullB qdr
  rw [prd_raw, prd_raw, Bool.eq_iff_iff]
  simp only [beq_iff_eq, ← K_eq_zero]
  rw [h]
  constructor
  · intro h0
    have : K n (l * l * rawp c ((b1 - a1) % n) ((b2 - a2) % n) ((b1 - a1) % n) ((b2 - a2) % n)) = 0 := by rw [K_mul, K_mul]; exact h0
    rw [K_mul] at this
    rcases K_noz hp this with h1 | h1
    · rw [K_mul] at h1
      have h2 : K n l * K n l = 0 := h1
      rcases K_noz hp h2 with h3 | h3 <;> exact absurd h3 hl
    · exact h1
  · intro h0; rw [h0]; grind
/-- A line with equal points is none, and the quadrance is 0. -/
theorem qdr_same (p c a1 a2 : Int) : qdr p c a1 a2 a1 a2 = 0 := by
  unfold qdr prd
  rw [Int.sub_self, Int.sub_self, Int.zero_emod]
  split
  · simp
  · split <;> simp
theorem spread_th {p col a1 a2 b1 b2 c1 c2 : Int} (hp : isP p = true) (hc : colB col = true) (ha1 : 0 ≤ a1 ∧ a1 < p) (ha2 : 0 ≤ a2 ∧ a2 < p) (hb1 : 0 ≤ b1 ∧ b1 < p) (hb2 : 0 ≤ b2 ∧ b2 < p) (hc1 : 0 ≤ c1 ∧ c1 < p) (hc2 : 0 ≤ c2 ∧ c2 < p)
    (hb : ¬ (a1 = b1 ∧ a2 = b2)) (hcc : ¬ (a1 = c1 ∧ a2 = c2)) (q1 : (qdr p col a1 a2 b1 b2 == 0) = false) (q2 : (qdr p col a1 a2 c1 c2 == 0) = false) :
    spO p col (th1 p a1 a2 b1 b2) (th2 p a1 a2 b1 b2) (th1 p a1 a2 c1 c2) (th2 p a1 a2 c1 c2) = atO p col a1 a2 b1 b2 c1 c2 := by
  obtain ⟨n, rfl⟩ := Int.eq_ofNat_of_zero_le (by have := isP_range hp; omega : 0 ≤ p)
  haveI := neZero_of hp
  obtain ⟨l, hl, e1, e2⟩ := K_dir hp ha1 ha2 hb1 hb2 hb
  obtain ⟨m, hm, f1, f2⟩ := K_dir hp ha1 ha2 hc1 hc2 hcc
  have n1 := null_th hp hc ha1 ha2 hb1 hb2 hb
  have n2 := null_th hp hc ha1 ha2 hc1 hc2 hcc
  rw [q1] at n1; rw [q2] at n2
  have k1 : K n (qdr n col a1 a2 b1 b2) ≠ 0 := K_small (qdr_r _ _ _ _ _ hp) (by simpa using q1)
  have k2 : K n (qdr n col a1 a2 c1 c2) ≠ 0 := K_small (qdr_r _ _ _ _ _ hp) (by simpa using q2)
  unfold nullB at n1 n2
  have k3 : K n (prd n col (-th2 n a1 a2 b1 b2 % n) (th1 n a1 a2 b1 b2) (-th2 n a1 a2 b1 b2 % n) (th1 n a1 a2 b1 b2)) ≠ 0 := K_small (prd_lt _ _ _ _ _ hp) (by simpa using n1)
  have k4 : K n (prd n col (-th2 n a1 a2 c1 c2 % n) (th1 n a1 a2 c1 c2) (-th2 n a1 a2 c1 c2 % n) (th1 n a1 a2 c1 c2)) ≠ 0 := K_small (prd_lt _ _ _ _ _ hp) (by simpa using n2)
  have i1 := K_inv hp (y := qdr n col a1 a2 b1 b2 * qdr n col a1 a2 c1 c2) (by rw [K_mul]; intro h; rcases K_noz hp h with h | h; exact k1 h; exact k2 h)
  have i2 := K_inv hp (y := prd n col (-th2 n a1 a2 b1 b2 % n) (th1 n a1 a2 b1 b2) (-th2 n a1 a2 b1 b2 % n) (th1 n a1 a2 b1 b2) * prd n col (-th2 n a1 a2 c1 c2 % n) (th1 n a1 a2 c1 c2) (-th2 n a1 a2 c1 c2 % n) (th1 n a1 a2 c1 c2)) (by rw [K_mul]; intro h; rcases K_noz hp h with h | h; exact k3 h; exact k4 h)
  have r1 := K_raw hc e1 e2 e1 e2
  have r2 := K_raw hc f1 f2 f1 f2
  have r3 := K_raw hc e1 e2 f1 f2
  unfold spO crO crD atO atD
  simp only [← K_ext (n := n), K_sub, K_mul, K_mod, K_one] at i1 i2 ⊢
  obtain ⟨I1, hI1⟩ : ∃ x, x = inv n (qdr n col a1 a2 b1 b2 * qdr n col a1 a2 c1 c2) := ⟨_, rfl⟩
  obtain ⟨I2, hI2⟩ : ∃ x, x = inv n (prd n col (-th2 n a1 a2 b1 b2 % n) (th1 n a1 a2 b1 b2) (-th2 n a1 a2 b1 b2 % n) (th1 n a1 a2 b1 b2) * prd n col (-th2 n a1 a2 c1 c2 % n) (th1 n a1 a2 c1 c2) (-th2 n a1 a2 c1 c2 % n) (th1 n a1 a2 c1 c2)) := ⟨_, rfl⟩
  rw [← hI1] at i1 ⊢
  rw [← hI2] at i2 ⊢
  unfold qdr at i1
  simp only [prd_raw, K_mod, r1, r2, r3] at i1 i2 ⊢
  grind

theorem qdr_comm {p : Int} (hp : isP p = true) {c : Int} (hc : colB c = true) (a1 a2 b1 b2 : Int) : qdr p c b1 b2 a1 a2 = qdr p c a1 a2 b1 b2 := by
  obtain ⟨n, rfl⟩ := Int.eq_ofNat_of_zero_le (by have := isP_range hp; omega : 0 ≤ p)
  haveI := neZero_of hp
  unfold qdr
  rw [prd_raw, prd_raw, ← K_ext (n := n)]
  have h := K_raw (n := n) hc (x1 := (a1 - b1) % n) (x2 := (a2 - b2) % n) (y1 := (a1 - b1) % n) (y2 := (a2 - b2) % n) (u1 := (b1 - a1) % n) (u2 := (b2 - a2) % n) (v1 := (b1 - a1) % n) (v2 := (b2 - a2) % n) (l := -1) (m := -1)
    (by simp only [K_mod, K_sub, K_neg, K_one]; grind) (by simp only [K_mod, K_sub, K_neg, K_one]; grind) (by simp only [K_mod, K_sub, K_neg, K_one]; grind) (by simp only [K_mod, K_sub, K_neg, K_one]; grind)
  rw [h]; simp only [K_neg, K_one]; grind
theorem th1_r {p : Int} (a1 a2 b1 b2 : Int) (h : isP p = true) : 0 ≤ th1 p a1 a2 b1 b2 ∧ th1 p a1 a2 b1 b2 < p := modR _ h
theorem th2_r {p : Int} (a1 a2 b1 b2 : Int) (h : isP p = true) : 0 ≤ th2 p a1 a2 b1 b2 ∧ th2 p a1 a2 b1 b2 < p := modR _ h
theorem th3_r {p : Int} (a1 a2 b1 b2 : Int) (h : isP p = true) : 0 ≤ th3 p a1 a2 b1 b2 ∧ th3 p a1 a2 b1 b2 < p := modR _ h
section
variable {p col a1 a2 b1 b2 c1 c2 : Int}
theorem atT_ab (h : (a1 == b1 && a2 == b2) = true) : atT p col a1 a2 b1 b2 c1 c2 = 5 := by
  simp only [Bool.and_eq_true, beq_iff_eq] at h
  obtain ⟨rfl, rfl⟩ := h
  simp [atT, qdr_same]
theorem atT_ac (h : (a1 == c1 && a2 == c2) = true) : atT p col a1 a2 b1 b2 c1 c2 = 5 := by
  simp only [Bool.and_eq_true, beq_iff_eq] at h
  obtain ⟨rfl, rfl⟩ := h
  simp [atT, qdr_same]
theorem atT_n1 (hp : isP p = true) (hc : colB col = true) (hb : (a1 == b1 && a2 == b2) = false) (h : nullB p col (th1 p a1 a2 b1 b2) (th2 p a1 a2 b1 b2) = true) (ha1 : 0 ≤ a1 ∧ a1 < p) (ha2 : 0 ≤ a2 ∧ a2 < p) (hb1 : 0 ≤ b1 ∧ b1 < p) (hb2 : 0 ≤ b2 ∧ b2 < p) : atT p col a1 a2 b1 b2 c1 c2 = 5 := by
  rw [null_th hp hc ha1 ha2 hb1 hb2 (ne_of hb)] at h
  simp only [atT, h, Bool.true_or, if_true]
theorem atT_n2 (hp : isP p = true) (hc : colB col = true) (hb : (a1 == c1 && a2 == c2) = false) (h : nullB p col (th1 p a1 a2 c1 c2) (th2 p a1 a2 c1 c2) = true) (ha1 : 0 ≤ a1 ∧ a1 < p) (ha2 : 0 ≤ a2 ∧ a2 < p) (hb1 : 0 ≤ c1 ∧ c1 < p) (hb2 : 0 ≤ c2 ∧ c2 < p) : atT p col a1 a2 b1 b2 c1 c2 = 5 := by
  rw [null_th hp hc ha1 ha2 hb1 hb2 (ne_of hb)] at h
  simp only [atT, h, Bool.or_true, if_true]
theorem atT_0 (hp : isP p = true) (hc : colB col = true) (hb : (a1 == b1 && a2 == b2) = false) (hcc : (a1 == c1 && a2 == c2) = false) (h1 : nullB p col (th1 p a1 a2 b1 b2) (th2 p a1 a2 b1 b2) = false) (h2 : nullB p col (th1 p a1 a2 c1 c2) (th2 p a1 a2 c1 c2) = false) (ha1 : 0 ≤ a1 ∧ a1 < p) (ha2 : 0 ≤ a2 ∧ a2 < p) (hb1 : 0 ≤ b1 ∧ b1 < p) (hb2 : 0 ≤ b2 ∧ b2 < p) (hc1 : 0 ≤ c1 ∧ c1 < p) (hc2 : 0 ≤ c2 ∧ c2 < p) : atT p col a1 a2 b1 b2 c1 c2 = 0 := by
  rw [null_th hp hc ha1 ha2 hb1 hb2 (ne_of hb)] at h1
  rw [null_th hp hc ha1 ha2 hc1 hc2 (ne_of hcc)] at h2
  simp [atT, h1, h2]
theorem atV_is (hp : isP p = true) (hc : colB col = true) (hb : (a1 == b1 && a2 == b2) = false) (hcc : (a1 == c1 && a2 == c2) = false) (h1 : nullB p col (th1 p a1 a2 b1 b2) (th2 p a1 a2 b1 b2) = false) (h2 : nullB p col (th1 p a1 a2 c1 c2) (th2 p a1 a2 c1 c2) = false) (ha1 : 0 ≤ a1 ∧ a1 < p) (ha2 : 0 ≤ a2 ∧ a2 < p) (hb1 : 0 ≤ b1 ∧ b1 < p) (hb2 : 0 ≤ b2 ∧ b2 < p) (hc1 : 0 ≤ c1 ∧ c1 < p) (hc2 : 0 ≤ c2 ∧ c2 < p) :
    atO p col a1 a2 b1 b2 c1 c2 = spO p col (th1 p a1 a2 b1 b2) (th2 p a1 a2 b1 b2) (th1 p a1 a2 c1 c2) (th2 p a1 a2 c1 c2) := by
  rw [null_th hp hc ha1 ha2 hb1 hb2 (ne_of hb)] at h1
  rw [null_th hp hc ha1 ha2 hc1 hc2 (ne_of hcc)] at h2
  exact (spread_th hp hc ha1 ha2 hb1 hb2 hc1 hc2 (ne_of hb) (ne_of hcc) h1 h2).symm
end

end Go.Proofs.Ytkkaicneabkkdaa

namespace Go.Proofs.Ytkkaicneabkkdaa
open Go.RowKit

theorem bundrew {B : Nat} {a W : World} (h : Below B a W.drew) : Below B a W := ⟨h.os, h.tape, h.output, h.size, h.block⟩
theorem bback {a W : World} {o : Obj} (hB : a.heap.size ≤ W.heap.size) (h : Below a.heap.size a (W.alloc o)) : Below a.heap.size a W :=
  ⟨h.os, h.tape, h.output, hB, fun k hk => by rw [← h.block k hk, Below.heap_alloc _ _ _ (by omega)]⟩
theorem brealloc {a W : World} {o o' : Obj} (hB : a.heap.size ≤ W.heap.size) (h : Below a.heap.size a (W.alloc o)) : Below a.heap.size a (W.alloc o') := (bback hB h).alloc hB o'
/-- What a cell below holds. -/
theorem bholds {a W : World} {b j : Nat} {v : Value} (h : a.cell? ⟨b, j, none⟩ = some v) (hB : Below a.heap.size a W) : W.cell? ⟨b, j, none⟩ = some v := kcall hB h

end Go.Proofs.Ytkkaicneabkkdaa

namespace Go.Proofs.Ytkkaicneabkkdaa
open Go.RowKit

set_option linter.unusedSimpArgs false in
theorem nums6_of (p a b c d e f : Int) : numsIn p [a, b, c, d, e, f] = (inB a 0 (p - 1) && (inB b 0 (p - 1) && (inB c 0 (p - 1) && (inB d 0 (p - 1) && (inB e 0 (p - 1) && inB f 0 (p - 1)))))) := by simp [numsIn]
set_option linter.unusedSimpArgs false in
theorem cells6 {w : World} {b : Nat} {a0 a1 a2 a3 a4 a5 : Int} (h0 : w.cell? ⟨b, 0, none⟩ = some (.int .i64 a0)) (h1 : w.cell? ⟨b, 1, none⟩ = some (.int .i64 a1)) (h2 : w.cell? ⟨b, 2, none⟩ = some (.int .i64 a2)) (h3 : w.cell? ⟨b, 3, none⟩ = some (.int .i64 a3)) (h4 : w.cell? ⟨b, 4, none⟩ = some (.int .i64 a4)) (h5 : w.cell? ⟨b, 5, none⟩ = some (.int .i64 a5)) : Cells w b 0 [a0, a1, a2, a3, a4, a5] := by
  intro i hi
  have : i = 0 ∨ i = 1 ∨ i = 2 ∨ i = 3 ∨ i = 4 ∨ i = 5 := by simp at hi; omega
  rcases this with rfl | rfl | rfl | rfl | rfl | rfl <;> simpa
/-- The first one of three numbers that is not 0. -/
def ld3 (a b c : Int) : Int := if (a == 0) = true then (if (b == 0) = true then c else b) else a
set_option linter.unusedSimpArgs false in
theorem ld3_r {p a b c : Int} (ha : 0 ≤ a ∧ a < p) (hb : 0 ≤ b ∧ b < p) (hc : 0 ≤ c ∧ c < p) : 0 ≤ ld3 a b c ∧ ld3 a b c < p := by
  unfold ld3; split
  · split
    · exact hc
    · exact hb
  · exact ha
/-- Whether six numbers are a conic. -/
def cnB (p k1 k2 k3 k4 k5 k6 : Int) : Bool := ld3 k1 k2 k3 == 1 && numsIn p [k1, k2, k3, k4, k5, k6]
set_option linter.unusedSimpArgs false in
theorem cnB_nums {p k1 k2 k3 k4 k5 k6 : Int} (h : cnB p k1 k2 k3 k4 k5 k6 = true) : numsIn p [k1, k2, k3, k4, k5, k6] = true := (Bool.and_eq_true_iff.1 h).2
set_option linter.unusedSimpArgs false in
theorem cnB_lead {p k1 k2 k3 k4 k5 k6 : Int} (h : cnB p k1 k2 k3 k4 k5 k6 = true) : ld3 k1 k2 k3 = 1 := by simpa using (Bool.and_eq_true_iff.1 h).1
/-- A number of the conic that six numbers make. -/
def ck (p k1 k2 k3 x : Int) : Int := x * inv p (ld3 k1 k2 k3) % p
set_option linter.unusedSimpArgs false in
theorem ck_r (k1 k2 k3 x : Int) {p : Int} (h : isP p = true) : 0 ≤ ck p k1 k2 k3 x ∧ ck p k1 k2 k3 x < p := modR _ h
/-- Sums of products. -/
def sp3 (p x1 x2 x3 y1 y2 y3 : Int) : Int := (x1 * y1 + x2 * y2 + x3 * y3) % p
def sp6 (p x1 x2 x3 x4 x5 x6 y1 y2 y3 y4 y5 y6 : Int) : Int := (x1 * y1 + x2 * y2 + x3 * y3 + x4 * y4 + x5 * y5 + x6 * y6) % p
set_option linter.unusedSimpArgs false in
theorem sp3_r (x1 x2 x3 y1 y2 y3 : Int) {p : Int} (h : isP p = true) : 0 ≤ sp3 p x1 x2 x3 y1 y2 y3 ∧ sp3 p x1 x2 x3 y1 y2 y3 < p := modR _ h
set_option linter.unusedSimpArgs false in
theorem sp6_r (x1 x2 x3 x4 x5 x6 y1 y2 y3 y4 y5 y6 : Int) {p : Int} (h : isP p = true) : 0 ≤ sp6 p x1 x2 x3 x4 x5 x6 y1 y2 y3 y4 y5 y6 ∧ sp6 p x1 x2 x3 x4 x5 x6 y1 y2 y3 y4 y5 y6 < p := modR _ h
/-- A conic's value at a point. -/
def cvl (p k1 k2 k3 k4 k5 k6 x y : Int) : Int := (k1 * x * x + k2 * x * y + k3 * y * y + k4 * x + k5 * y + k6) % p
set_option linter.unusedSimpArgs false in
theorem cvl_r (k1 k2 k3 k4 k5 k6 x y : Int) {p : Int} (h : isP p = true) : 0 ≤ cvl p k1 k2 k3 k4 k5 k6 x y ∧ cvl p k1 k2 k3 k4 k5 k6 x y < p := modR _ h
def dsc (p k1 k2 k3 : Int) : Int := (k2 * k2 - 4 * k1 * k3) % p
set_option linter.unusedSimpArgs false in
theorem dsc_r (k1 k2 k3 : Int) {p : Int} (h : isP p = true) : 0 ≤ dsc p k1 k2 k3 ∧ dsc p k1 k2 k3 < p := modR _ h
def dtm (p k1 k2 k3 k4 k5 k6 : Int) : Int := (2 * k1 * (2 * k3 * (2 * k6) - k5 * k5) - k2 * (k2 * (2 * k6) - k5 * k4) + k4 * (k2 * k5 - 2 * k3 * k4)) % p
set_option linter.unusedSimpArgs false in
theorem dtm_r (k1 k2 k3 k4 k5 k6 : Int) {p : Int} (h : isP p = true) : 0 ≤ dtm p k1 k2 k3 k4 k5 k6 ∧ dtm p k1 k2 k3 k4 k5 k6 < p := modR _ h
/-- The numbers that make a polar. -/
def pu (p k1 k2 k4 x y : Int) : Int := (2 * k1 * x + k2 * y + k4) % p
def pv (p k2 k3 k5 x y : Int) : Int := (k2 * x + 2 * k3 * y + k5) % p
def pw (p k4 k5 k6 x y : Int) : Int := (k4 * x + k5 * y + 2 * k6) % p
set_option linter.unusedSimpArgs false in
theorem pu_r (k1 k2 k4 x y : Int) {p : Int} (h : isP p = true) : 0 ≤ pu p k1 k2 k4 x y ∧ pu p k1 k2 k4 x y < p := modR _ h
set_option linter.unusedSimpArgs false in
theorem pv_r (k2 k3 k5 x y : Int) {p : Int} (h : isP p = true) : 0 ≤ pv p k2 k3 k5 x y ∧ pv p k2 k3 k5 x y < p := modR _ h
set_option linter.unusedSimpArgs false in
theorem pw_r (k4 k5 k6 x y : Int) {p : Int} (h : isP p = true) : 0 ≤ pw p k4 k5 k6 x y ∧ pw p k4 k5 k6 x y < p := modR _ h
def plZ (p k1 k2 k3 k4 k5 x y : Int) : Bool := pu p k1 k2 k4 x y == 0 && pv p k2 k3 k5 x y == 0
def pl1 (p k1 k2 k3 k4 k5 k6 x y : Int) : Int := if plZ p k1 k2 k3 k4 k5 x y = true then 0 else mk1 p (pu p k1 k2 k4 x y) (pv p k2 k3 k5 x y) (pw p k4 k5 k6 x y)
def pl2 (p k1 k2 k3 k4 k5 k6 x y : Int) : Int := if plZ p k1 k2 k3 k4 k5 x y = true then 0 else mk2 p (pu p k1 k2 k4 x y) (pv p k2 k3 k5 x y) (pw p k4 k5 k6 x y)
def pl3 (p k1 k2 k3 k4 k5 k6 x y : Int) : Int := if plZ p k1 k2 k3 k4 k5 x y = true then 0 else mk3 p (pu p k1 k2 k4 x y) (pv p k2 k3 k5 x y) (pw p k4 k5 k6 x y)
set_option linter.unusedSimpArgs false in
theorem pl_r (k1 k2 k3 k4 k5 k6 x y : Int) {p : Int} (h : isP p = true) : (0 ≤ pl1 p k1 k2 k3 k4 k5 k6 x y ∧ pl1 p k1 k2 k3 k4 k5 k6 x y < p) ∧ (0 ≤ pl2 p k1 k2 k3 k4 k5 k6 x y ∧ pl2 p k1 k2 k3 k4 k5 k6 x y < p) ∧ (0 ≤ pl3 p k1 k2 k3 k4 k5 k6 x y ∧ pl3 p k1 k2 k3 k4 k5 k6 x y < p) := by
  have hr := isP_range h
  unfold pl1 pl2 pl3
  split
  · omega
  · exact ⟨modR _ h, modR _ h, modR _ h⟩
set_option linter.unusedSimpArgs false in
theorem mk_r (a b c : Int) {p : Int} (h : isP p = true) : (0 ≤ mk1 p a b c ∧ mk1 p a b c < p) ∧ (0 ≤ mk2 p a b c ∧ mk2 p a b c < p) ∧ (0 ≤ mk3 p a b c ∧ mk3 p a b c < p) := ⟨modR _ h, modR _ h, modR _ h⟩
set_option linter.unusedSimpArgs false in
theorem inv_zero {p : Int} (hp : isP p = true) : inv p 0 = 0 := by
  obtain ⟨n, rfl⟩ := Int.eq_ofNat_of_zero_le (by have := isP_range hp; omega : 0 ≤ p)
  have h := pow_inv hp (m := 0) (by have := isP_ne hp; omega)
  have e := inv_cast n 0
  rw [show ((0 : Nat) : Int) = 0 from rfl] at e
  rw [e, ← h, Nat.zero_pow (by have := isP_ne hp; omega), Nat.zero_mod]; rfl
set_option linter.unusedSimpArgs false in
theorem ck_zero {p k1 k2 k3 : Int} (hp : isP p = true) (h : (ld3 k1 k2 k3 == 0) = true) (x : Int) : ck p k1 k2 k3 x = 0 := by
  unfold ck; rw [beq_iff_eq.1 h, inv_zero hp]; simp
section
variable {p : Int} (hp : isP p = true) (k1 k2 k3 k4 k5 k6 x y : Int)
include hp
set_option linter.unusedSimpArgs false in
theorem sp_pu : sp3 p (2 * k1 % p) k2 k4 x y 1 = pu p k1 k2 k4 x y := by
  obtain ⟨n, rfl⟩ := Int.eq_ofNat_of_zero_le (by have := isP_range hp; omega : 0 ≤ p)
  haveI := neZero_of hp
  unfold sp3 pu
  rw [← K_ext]
  simp only [K_mod, K_sub, K_add, K_mul, K_one]
  grind
set_option linter.unusedSimpArgs false in
theorem sp_pv : sp3 p k2 (2 * k3 % p) k5 x y 1 = pv p k2 k3 k5 x y := by
  obtain ⟨n, rfl⟩ := Int.eq_ofNat_of_zero_le (by have := isP_range hp; omega : 0 ≤ p)
  haveI := neZero_of hp
  unfold sp3 pv
  rw [← K_ext]
  simp only [K_mod, K_sub, K_add, K_mul, K_one]
  grind
set_option linter.unusedSimpArgs false in
theorem sp_pw : sp3 p k4 k5 (2 * k6 % p) x y 1 = pw p k4 k5 k6 x y := by
  obtain ⟨n, rfl⟩ := Int.eq_ofNat_of_zero_le (by have := isP_range hp; omega : 0 ≤ p)
  haveI := neZero_of hp
  unfold sp3 pw
  rw [← K_ext]
  simp only [K_mod, K_sub, K_add, K_mul, K_one]
  grind
set_option linter.unusedSimpArgs false in
theorem sp_cv : sp6 p k1 k2 k3 k4 k5 k6 (x * x % p) (x * y % p) (y * y % p) x y 1 = cvl p k1 k2 k3 k4 k5 k6 x y := by
  obtain ⟨n, rfl⟩ := Int.eq_ofNat_of_zero_le (by have := isP_range hp; omega : 0 ≤ p)
  haveI := neZero_of hp
  unfold sp6 cvl
  rw [← K_ext]
  simp only [K_mod, K_sub, K_add, K_mul, K_one]
  grind
set_option linter.unusedSimpArgs false in
theorem dt_rows : (2 * k1 % p * (2 * k3 % p * (2 * k6 % p) - k5 * k5) + k2 * (k5 * k4 - k2 * (2 * k6 % p)) + k4 * (k2 * k5 - 2 * k3 % p * k4)) % p = dtm p k1 k2 k3 k4 k5 k6 := by
  obtain ⟨n, rfl⟩ := Int.eq_ofNat_of_zero_le (by have := isP_range hp; omega : 0 ≤ p)
  haveI := neZero_of hp
  unfold dtm
  rw [← K_ext]
  simp only [K_mod, K_sub, K_add, K_mul, K_two]
  grind
set_option linter.unusedSimpArgs false in
/-- A point on a proper conic has a polar. -/
theorem tan_polar (hd : (dtm p k1 k2 k3 k4 k5 k6 == 0) = false) (hv : (cvl p k1 k2 k3 k4 k5 k6 x y == 0) = true) : plZ p k1 k2 k3 k4 k5 x y = false := by
  cases hz : plZ p k1 k2 k3 k4 k5 x y
  · rfl
  · exfalso
    obtain ⟨n, rfl⟩ := Int.eq_ofNat_of_zero_le (by have := isP_range hp; omega : 0 ≤ p)
    haveI := neZero_of hp
    have h := Bool.and_eq_true_iff.1 hz
    have h1 := beq_iff_eq.1 h.1
    have h2 := beq_iff_eq.1 h.2
    have h3 := beq_iff_eq.1 hv
    apply (beq_eq_false_iff_ne.1 hd)
    unfold pu at h1
    unfold pv at h2
    unfold cvl at h3
    unfold dtm
    rw [← K_eq_zero] at h1 h2 h3 ⊢
    simp only [K_mod, K_sub, K_add, K_mul, K_two] at h1 h2 h3 ⊢
    grind
end
end Go.Proofs.Ytkkaicneabkkdaa

namespace Go.Proofs.Ytkkaicneabkkdaa
open Go.RowKit

set_option linter.unusedSimpArgs false in
theorem cells3 {w : World} {b : Nat} {a0 a1 a2 : Int} (h0 : w.cell? ⟨b, 0, none⟩ = some (.int .i64 a0)) (h1 : w.cell? ⟨b, 1, none⟩ = some (.int .i64 a1)) (h2 : w.cell? ⟨b, 2, none⟩ = some (.int .i64 a2)) : Cells w b 0 [a0, a1, a2] := by
  intro i hi
  have : i = 0 ∨ i = 1 ∨ i = 2 := by simp at hi; omega
  rcases this with rfl | rfl | rfl <;> simpa
/-- Whether three numbers are a place. -/
def plB (p x y z : Int) : Bool := ld3 x y z == 1 && numsIn p [x, y, z]
set_option linter.unusedSimpArgs false in
theorem plB_nums {p x y z : Int} (h : plB p x y z = true) : numsIn p [x, y, z] = true := (Bool.and_eq_true_iff.1 h).2
set_option linter.unusedSimpArgs false in
theorem plB_lead {p x y z : Int} (h : plB p x y z = true) : ld3 x y z = 1 := by simpa using (Bool.and_eq_true_iff.1 h).1
set_option linter.unusedSimpArgs false in
theorem plB_rng {p x y z : Int} (h : plB p x y z = true) : (0 ≤ x ∧ x < p) ∧ (0 ≤ y ∧ y < p) ∧ (0 ≤ z ∧ z < p) := nums3 (plB_nums h)
/-- The product of two places. -/
def ppd (p x1 x2 x3 y1 y2 y3 : Int) : Int := (x1 * y1 + x2 * y2 - x3 * y3) % p
set_option linter.unusedSimpArgs false in
theorem ppd_r (x1 x2 x3 y1 y2 y3 : Int) {p : Int} (h : isP p = true) : 0 ≤ ppd p x1 x2 x3 y1 y2 y3 ∧ ppd p x1 x2 x3 y1 y2 y3 < p := modR _ h
/-- The quadrance of two places. -/
def plq (p x1 x2 x3 y1 y2 y3 : Int) : Int := (1 - ppd p x1 x2 x3 y1 y2 y3 * ppd p x1 x2 x3 y1 y2 y3 % p * inv p (ppd p x1 x2 x3 x1 x2 x3 * ppd p y1 y2 y3 y1 y2 y3)) % p
set_option linter.unusedSimpArgs false in
theorem plq_r (x1 x2 x3 y1 y2 y3 : Int) {p : Int} (h : isP p = true) : 0 ≤ plq p x1 x2 x3 y1 y2 y3 ∧ plq p x1 x2 x3 y1 y2 y3 < p := modR _ h
/-- Whether one of two places is null; the code of their quadrance. -/
def quZ (p x1 x2 x3 y1 y2 y3 : Int) : Bool := ppd p x1 x2 x3 x1 x2 x3 == 0 || ppd p y1 y2 y3 y1 y2 y3 == 0
def quC (p x1 x2 x3 y1 y2 y3 : Int) : Int := if quZ p x1 x2 x3 y1 y2 y3 = true then 5 else 0
def quV (p x1 x2 x3 y1 y2 y3 : Int) : Int := if quZ p x1 x2 x3 y1 y2 y3 = true then 0 else plq p x1 x2 x3 y1 y2 y3
set_option linter.unusedSimpArgs false in
theorem quV_r (x1 x2 x3 y1 y2 y3 : Int) {p : Int} (h : isP p = true) : 0 ≤ quV p x1 x2 x3 y1 y2 y3 ∧ quV p x1 x2 x3 y1 y2 y3 < p := by
  unfold quV; split
  · have := isP_range h; omega
  · exact plq_r _ _ _ _ _ _ h
set_option linter.unusedSimpArgs false in
theorem ppd_comm (p x1 x2 x3 y1 y2 y3 : Int) : ppd p x1 x2 x3 y1 y2 y3 = ppd p y1 y2 y3 x1 x2 x3 := by
  unfold ppd; rw [Int.mul_comm x1, Int.mul_comm x2, Int.mul_comm x3]
section
variable {p : Int} (hp : isP p = true) (x1 x2 x3 y1 y2 y3 : Int)
include hp
set_option linter.unusedSimpArgs false in
theorem sp_ppd : sp3 p x1 x2 (-x3 % p) y1 y2 y3 = ppd p x1 x2 x3 y1 y2 y3 := by
  obtain ⟨n, rfl⟩ := Int.eq_ofNat_of_zero_le (by have := isP_range hp; omega : 0 ≤ p)
  haveI := neZero_of hp
  unfold sp3 ppd
  rw [← K_ext]
  simp only [K_mod, K_sub, K_add, K_mul, K_neg]
  grind
set_option linter.unusedSimpArgs false in
theorem plq_impl (d u : Int) : (1 - d * d * inv p (u % p) % p) % p = (1 - d * d % p * inv p u) % p := by
  rw [inv_mod]
  obtain ⟨n, rfl⟩ := Int.eq_ofNat_of_zero_le (by have := isP_range hp; omega : 0 ≤ p)
  haveI := neZero_of hp
  rw [← K_ext]
  simp only [K_mod, K_sub, K_add, K_mul, K_neg]
set_option linter.unusedSimpArgs false in
theorem plMul_zero {u v : Int} (hu : 0 ≤ u ∧ u < p) (hv : 0 ≤ v ∧ v < p) : (u * v % p == 0) = (u == 0 || v == 0) := by
  obtain ⟨n, rfl⟩ := Int.eq_ofNat_of_zero_le (by have := isP_range hp; omega : 0 ≤ p)
  haveI := neZero_of hp
  rw [Bool.eq_iff_iff, Bool.or_eq_true, beq_iff_eq, beq_iff_eq, beq_iff_eq, ← K_eq_zero, K_mul]
  constructor
  · intro h
    rcases K_noz hp h with h | h
    · exact .inl (K_inj hu (by omega) (by rw [h, K_zero]))
    · exact .inr (K_inj hv (by omega) (by rw [h, K_zero]))
  · rintro (rfl | rfl)
    · rw [K_zero]; grind
    · rw [K_zero]; grind
end

end Go.Proofs.Ytkkaicneabkkdaa

namespace Go.Proofs.Ytkkaicneabkkdaa
open Go.RowKit

section
variable {n : Nat} [NeZero n]
/-- The sum of products of a row's first m numbers with a vector. -/
def dot (n : Nat) [NeZero n] (r : Nat → Int) (v : Nat → Fin n) : Nat → Fin n
  | 0 => 0
  | m + 1 => dot n r v m + K n (r m) * v m
theorem dot_congr {r s : Nat → Int} (v : Nat → Fin n) : ∀ {m : Nat}, (∀ j, j < m → K n (r j) = K n (s j)) → dot n r v m = dot n s v m
  | 0, _ => rfl
  | m + 1, h => by rw [dot, dot, dot_congr v (m := m) (fun j hj => h j (by omega)), h m (by omega)]
theorem dot_scale {r s : Nat → Int} {d : Fin n} (v : Nat → Fin n) : ∀ {m : Nat}, (∀ j, j < m → K n (s j) = K n (r j) * d) → dot n s v m = d * dot n r v m
  | 0, _ => by rw [dot, dot]; grind
  | m + 1, h => by rw [dot, dot, dot_scale v (m := m) (fun j hj => h j (by omega)), h m (by omega)]; grind
theorem dot_less {r s q : Nat → Int} {d : Fin n} (v : Nat → Fin n) : ∀ {m : Nat}, (∀ j, j < m → K n (q j) = K n (r j) - d * K n (s j)) → dot n q v m = dot n r v m - d * dot n s v m
  | 0, _ => by rw [dot, dot, dot]; grind
  | m + 1, h => by rw [dot, dot, dot, dot_less v (m := m) (fun j hj => h j (by omega)), h m (by omega)]; grind
/-- Where just two places count. -/
theorem dot_none {r : Nat → Int} {v : Nat → Fin n} : ∀ {m : Nat}, (∀ j, j < m → K n (r j) * v j = 0) → dot n r v m = 0
  | 0, _ => rfl
  | m + 1, h => by rw [dot, dot_none (m := m) (fun j hj => h j (by omega)), h m (by omega)]; grind
theorem dot_one {r : Nat → Int} {v : Nat → Fin n} {a : Nat} : ∀ {m : Nat}, a < m → (∀ j, j < m → j ≠ a → K n (r j) * v j = 0) → dot n r v m = K n (r a) * v a
  | m + 1, ha, h => by
    rw [dot]
    by_cases e : a = m
    · subst e
      rw [dot_none (m := a) (fun j hj => h j (by omega) (by omega))]; grind
    · rw [dot_one (m := m) (by omega) (fun j hj => h j (by omega)), h m (by omega) (by omega)]; grind
theorem dot_two {r : Nat → Int} {v : Nat → Fin n} {a b : Nat} : ∀ {m : Nat}, a < m → b < m → a ≠ b → (∀ j, j < m → j ≠ a → j ≠ b → K n (r j) * v j = 0) → dot n r v m = K n (r a) * v a + K n (r b) * v b
  | m + 1, ha, hb, hab, h => by
    rw [dot]
    by_cases e : a = m
    · subst e
      rw [dot_one (m := a) (a := b) (by omega) (fun j hj hj' => h j (by omega) (by omega) hj')]; grind
    · by_cases e2 : b = m
      · subst e2
        rw [dot_one (m := b) (a := a) (by omega) (fun j hj hj' => h j (by omega) hj' (by omega))]
      · rw [dot_two (m := m) (by omega) (by omega) hab (fun j hj => h j (by omega)), h m (by omega) (by omega) (by omega)]; grind
/-- Vectors that all rows lead to 0. -/
def Sol (n : Nat) [NeZero n] (N m : Nat) (M : Nat → Nat → Int) (v : Nat → Fin n) : Prop := ∀ i, i < N → dot n (M i) v m = 0
end

/-- Two rows in each other's place. -/
def swp (a b i : Nat) : Nat := if i = a then b else if i = b then a else i
theorem swp_lt {a b i N : Nat} (ha : a < N) (hb : b < N) (hi : i < N) : swp a b i < N := by
  unfold swp
  split
  · exact hb
  · split
    · exact ha
    · exact hi
theorem swp_swp (a b i : Nat) : swp a b (swp a b i) = i := by unfold swp; split <;> (try split) <;> (try split) <;> omega
theorem swp_inj {a b i j : Nat} (h : swp a b i = swp a b j) : i = j := by rw [← swp_swp a b i, h, swp_swp]
theorem swp_low {a b i : Nat} (ha : i < a) (hb : i < b) : swp a b i = i := by unfold swp; rw [if_neg (by omega), if_neg (by omega)]
theorem swp_left (a b : Nat) : swp a b a = b := by simp [swp]
/-- A column made to lead a row: the row's numbers, and all. -/
def ldr (p : Int) (M : Nat → Nat → Int) (at_ c j : Nat) : Int := M at_ j * inv p (M at_ c) % p
def ml (p : Int) (M : Nat → Nat → Int) (at_ c : Nat) (i j : Nat) : Int := if i = at_ then ldr p M at_ c j else (M i j - M i c * ldr p M at_ c j) % p
section
variable {n N m : Nat} [NeZero n]
theorem sol_swap {M : Nat → Nat → Int} {a b : Nat} (ha : a < N) (hb : b < N) (v : Nat → Fin n) : Sol n N m (fun i => M (swp a b i)) v ↔ Sol n N m M v := by
  constructor
  · intro h i hi
    have := h (swp a b i) (swp_lt ha hb hi)
    simpa only [swp_swp] using this
  · intro h i hi
    exact h _ (swp_lt ha hb hi)
theorem K_ldr {M : Nat → Nat → Int} (at_ c j : Nat) : K n (ldr n M at_ c j) = K n (M at_ j) * K n (inv n (M at_ c)) := by rw [ldr, K_mod, K_mul]
theorem sol_ml (hp : isP (n : Int) = true) {M : Nat → Nat → Int} {at_ c : Nat} (hat : at_ < N) (hc : K n (M at_ c) ≠ 0) (v : Nat → Fin n) : Sol n N m (ml n M at_ c) v ↔ Sol n N m M v := by
  have hi := K_inv hp hc
  have h0 : dot n (ml n M at_ c at_) v m = K n (inv n (M at_ c)) * dot n (M at_) v m := dot_scale v fun j _ => by rw [ml, if_pos rfl, K_ldr]
  have hs : ∀ i, i ≠ at_ → dot n (ml n M at_ c i) v m = dot n (M i) v m - K n (M i c) * dot n (ml n M at_ c at_) v m := fun i hi => dot_less v fun j _ => by
    rw [ml, if_neg hi, ml, if_pos rfl, K_mod, K_sub, K_mul]
  constructor
  · intro h
    have e0 : dot n (M at_) v m = 0 := by
      have := h at_ hat
      rw [h0] at this
      have : K n (M at_ c) * (K n (inv n (M at_ c)) * dot n (M at_) v m) = 0 := by rw [this]; grind
      grind
    intro i hi'
    by_cases e : i = at_
    · subst e; exact e0
    · have h1 := h i hi'
      rw [hs i e, h0, e0] at h1; grind
  · intro h i hi'
    by_cases e : i = at_
    · subst e; rw [h0, h _ hi']; grind
    · rw [hs i e, h0, h at_ hat, h i hi']; grind
end
/-- How far the machine has come: r columns lead, those below c are done. -/
structure Rrf (p : Int) (N m : Nat) (M : Nat → Nat → Int) (L : Nat → Nat) (r c : Nat) : Prop where
  rng : ∀ i j, i < N → j < m → 0 ≤ M i j ∧ M i j < p
  rN : r ≤ N
  cm : c ≤ m
  up : ∀ k, k < r → L k < c
  inc : ∀ k k', k < k' → k' < r → L k < L k'
  one : ∀ k i, k < r → i < N → M i (L k) = if i = k then 1 else 0
  low : ∀ i j, r ≤ i → i < N → j < c → M i j = 0
theorem Rrf.start {p : Int} {N m : Nat} {M : Nat → Nat → Int} (L : Nat → Nat) (h : ∀ i j, i < N → j < m → 0 ≤ M i j ∧ M i j < p) : Rrf p N m M L 0 0 :=
  ⟨h, Nat.zero_le _, Nat.zero_le _, fun k hk => by omega, fun k k' _ hk => by omega, fun k i hk => by omega, fun i j _ _ hj => by omega⟩
/-- A column in which all rows that are left have 0. -/
theorem Rrf.skip {p : Int} {N m : Nat} {M : Nat → Nat → Int} {L : Nat → Nat} {r c : Nat} (h : Rrf p N m M L r c) (hc : c < m) (hz : ∀ i, r ≤ i → i < N → M i c = 0) : Rrf p N m M L r (c + 1) :=
  ⟨h.rng, h.rN, hc, fun k hk => by have := h.up k hk; omega, h.inc, h.one, fun i j hi hN hj => by
    by_cases e : j = c
    · subst e; exact hz i hi hN
    · exact h.low i j hi hN (by omega)⟩
/-- A column that leads the next row. -/
theorem Rrf.lead {p : Int} {N m : Nat} {M : Nat → Nat → Int} {L : Nat → Nat} {r c a : Nat} (hp : isP p = true) (h : Rrf p N m M L r c) (hc : c < m) (hr : r ≤ a) (ha : a < N) (hz : M a c ≠ 0) :
    Rrf p N m (ml p (fun i => M (swp r a i)) r c) (fun k => if k = r then c else L k) (r + 1) (c + 1) := by
  have hpr := isP_range hp
  obtain ⟨n, rfl⟩ := Int.eq_ofNat_of_zero_le (by omega : 0 ≤ p)
  haveI := neZero_of hp
  have hmod : ∀ x : Int, 0 ≤ x % n ∧ x % n < n := fun x => ⟨Int.emod_nonneg _ (by omega), Int.emod_lt_of_pos _ (by omega)⟩
  have hin : ∀ i j, i < N → j < m → 0 ≤ M (swp r a i) j ∧ M (swp r a i) j < n := fun i j hi hj => h.rng _ _ (swp_lt (by omega) ha hi) hj
  have hpiv : M (swp r a r) c = M a c := by rw [swp_left]
  have hlow : ∀ j, j < c → ldr n (fun i => M (swp r a i)) r c j = 0 := fun j hj => by
    rw [ldr]
    show M (swp r a r) j * _ % _ = 0
    rw [swp_left, h.low a j hr ha hj]; simp
  have hone : ldr n (fun i => M (swp r a i)) r c c = 1 := by
    refine K_inj (n := n) (hmod _) ⟨by omega, by omega⟩ ?_
    rw [K_ldr, K_one]
    show K n (M (swp r a r) c) * K n (inv n (M (swp r a r) c)) = 1
    rw [swp_left]
    exact K_inv hp (K_small (h.rng a c ha hc) hz)
  refine ⟨?_, by omega, by omega, ?_, ?_, ?_, ?_⟩
  · intro i j hi hj
    unfold ml
    split
    · exact hmod _
    · exact hmod _
  · intro k hk
    (try dsimp only)
    split
    · omega
    · have := h.up k (by omega); omega
  · intro k k' hkk hk'
    (try dsimp only)
    rw [if_neg (by omega)]
    split
    · exact h.up k (by omega)
    · exact h.inc k k' hkk (by omega)
  · intro k i hk hi
    (try dsimp only)
    split
    · rename_i e
      subst e
      unfold ml
      split
      · exact hone
      · rw [hone]
        simp
    · have hkr : k < r := by omega
      have hL := h.up k hkr
      unfold ml
      rw [hlow _ hL]
      split
      · rename_i e; subst e; rw [if_neg (by omega)]
      · rename_i e
        dsimp only
        have h1 := h.one k (swp r a i) hkr (swp_lt (by omega) ha hi)
        rw [Int.mul_zero, Int.sub_zero, h1]
        by_cases e2 : i = k
        · subst e2
          rw [swp_low hkr (by omega), if_pos rfl]
          exact Int.emod_eq_of_lt (by omega) (by omega)
        · have : swp r a i ≠ k := fun e3 => e2 (by rw [← swp_swp r a i, e3, swp_low hkr (by omega)])
          rw [if_neg this, if_neg e2]; simp
  · intro i j hi hN hj
    unfold ml
    rw [if_neg (by omega)]
    by_cases e : j = c
    · subst e
      rw [hone]; simp
    · rw [hlow j (by omega)]
      dsimp only
      rw [h.low (swp r a i) j (by unfold swp; split <;> (try split) <;> omega) (swp_lt (by omega) ha hN) (by omega)]
      simp

end Go.Proofs.Ytkkaicneabkkdaa

namespace Go.Proofs.Ytkkaicneabkkdaa
open Go.RowKit

/-- A column that does not lead. -/
def Free (m : Nat) (L : Nat → Nat) (r f : Nat) : Prop := f < m ∧ ∀ k, k < r → L k ≠ f
section
variable {p : Int} {N m : Nat} {M : Nat → Nat → Int} {L : Nat → Nat} {r : Nat}
theorem Rrf.gap (h : Rrf p N m M L r m) {a : Nat} : ∀ {b : Nat}, a ≤ b → b < r → L a + (b - a) ≤ L b
  | b, hab, hb => by
    induction b with
    | zero => obtain rfl : a = 0 := by omega
              omega
    | succ b ih =>
      by_cases e : a = b + 1
      · subst e; omega
      · have := ih (by omega) (by omega)
        have := h.inc b (b + 1) (by omega) hb
        omega
theorem Rrf.inj (h : Rrf p N m M L r m) {k k' : Nat} (hk : k < r) (hk' : k' < r) (e : L k = L k') : k = k' := by
  rcases Nat.lt_trichotomy k k' with q | q | q
  · have := h.inc k k' q hk'; omega
  · exact q
  · have := h.inc k' k q hk; omega
/-- The first column that does not lead: those before it lead the rows in their order. -/
theorem Rrf.first (h : Rrf p N m M L r m) (hr : r < m) : ∃ f, f ≤ r ∧ Free m L r f ∧ (∀ k, k < f → L k = k) ∧ ∀ k, f ≤ k → k < r → k + 1 ≤ L k := by
  have key : ∀ q, q ≤ r → (∀ k, k < q → L k = k) ∨ ∃ f, f < q ∧ (∀ k, k < f → L k = k) ∧ L f ≠ f := by
    intro q
    induction q with
    | zero => exact fun _ => .inl fun k hk => by omega
    | succ q ih =>
      intro hq
      rcases ih (by omega) with h1 | ⟨f, h1, h2, h3⟩
      · by_cases e : L q = q
        · exact .inl fun k hk => by
            by_cases e2 : k = q
            · subst e2; exact e
            · exact h1 k (by omega)
        · exact .inr ⟨q, by omega, h1, e⟩
      · exact .inr ⟨f, by omega, h2, h3⟩
  rcases key r (Nat.le_refl _) with h1 | ⟨f, h1, h2, h3⟩
  · exact ⟨r, Nat.le_refl _, ⟨hr, fun k hk e => by have := h1 k hk; omega⟩, h1, fun k h2 h3 => by omega⟩
  · have hge : f ≤ L f := by
      cases f with
      | zero => omega
      | succ g => have := h.inc g (g + 1) (by omega) h1; have := h2 g (by omega); omega
    have hgt : ∀ k, f ≤ k → k < r → k + 1 ≤ L k := fun k hk hkr => by have := h.gap hk hkr; omega
    exact ⟨f, by omega, ⟨by omega, fun k hk e => by
      by_cases q : k < f
      · have := h2 k q; omega
      · have := hgt k (by omega) hk; omega⟩, h2, hgt⟩
/-- Where one column alone does not lead, all others do. -/
theorem Rrf.others (h : Rrf p N m M L r m) (hr : r + 1 = m) {f : Nat} (hf : Free m L r f) {j : Nat} (hj : j < m) (hne : j ≠ f) : ∃ k, k < r ∧ L k = j := by
  obtain ⟨f1, h1, h2, h3, h4⟩ := h.first (by omega)
  have hk : ∀ i, i < m → i ≠ f1 → ∃ k, k < r ∧ L k = i := fun i hi hn => by
    by_cases q : i < f1
    · exact ⟨i, by omega, h3 i q⟩
    · refine ⟨i - 1, by omega, ?_⟩
      have g1 := h4 (i - 1) (by omega) (by omega)
      have g2 := h.gap (a := i - 1) (b := r - 1) (by omega) (by omega)
      have g3 := h.up (r - 1) (by omega)
      omega
  by_cases e : f = f1
  · subst e; exact hk j hj hne
  · obtain ⟨k, hk1, hk2⟩ := hk f hf.1 e
    exact absurd hk2 (hf.2 k hk1)
/-- Two columns that do not lead. -/
theorem Rrf.two (h : Rrf p N m M L r m) (hr : r + 1 < m) : ∃ f g, f ≠ g ∧ Free m L r f ∧ Free m L r g := by
  obtain ⟨f, h1, h2, h3, h4⟩ := h.first (by omega)
  have key : ∀ q, q ≤ r → (∀ k, f ≤ k → k < q → L k = k + 1) ∨ ∃ g, f ≤ g ∧ g < q ∧ (∀ k, f ≤ k → k < g → L k = k + 1) ∧ L g ≠ g + 1 := by
    intro q
    induction q with
    | zero => exact fun _ => .inl fun k _ hk => by omega
    | succ q ih =>
      intro hq
      rcases ih (by omega) with h1 | ⟨g, h0, h1, h2, h3⟩
      · by_cases e : f ≤ q ∧ L q ≠ q + 1
        · exact .inr ⟨q, e.1, by omega, h1, e.2⟩
        · exact .inl fun k hk hkq => by
            by_cases e2 : k = q
            · subst e2
              rcases Nat.eq_or_lt_of_le (Nat.le_refl (L k)) with _ | _
              · by_cases e3 : L k = k + 1
                · exact e3
                · exact absurd ⟨hk, e3⟩ e
              · omega
            · exact h1 k hk (by omega)
      · exact .inr ⟨g, h0, by omega, h2, h3⟩
  rcases key r (Nat.le_refl _) with h5 | ⟨g, g0, g1, g2, g3⟩
  · refine ⟨f, r + 1, by omega, h2, by omega, fun k hk e => ?_⟩
    by_cases q : k < f
    · have := h3 k q; omega
    · have := h5 k (by omega) hk; omega
  · have hgt : ∀ k, g ≤ k → k < r → k + 2 ≤ L k := fun k hk hkr => by have := h.gap hk hkr; have := h4 g g0 g1; omega
    refine ⟨f, g + 1, by omega, h2, ?_, fun k hk e => ?_⟩
    · have := hgt g (Nat.le_refl _) g1; have := h.up g g1; omega
    · by_cases q : k < f
      · have := h3 k q; omega
      · by_cases q2 : k < g
        · have := g2 k (by omega) q2; omega
        · have := hgt k (by omega) hk; omega
end
section
variable {n : Nat} [NeZero n] {N m : Nat} {M : Nat → Nat → Int} {L : Nat → Nat} {r : Nat}
/-- A column that does not lead tells a solution. -/
theorem Rrf.sol_free (h : Rrf (n : Int) N m M L r m) {f : Nat} (hf : Free m L r f) :
    ∃ v : Nat → Fin n, Sol n N m M v ∧ v f = 1 ∧ (∀ g, Free m L r g → g ≠ f → v g = 0) ∧ ∀ k, k < r → v (L k) = -K n (M k f) := by
  classical
  obtain ⟨v, hv⟩ : ∃ v : Nat → Fin n, v = fun j => if j = f then 1 else if hj : ∃ k, k < r ∧ L k = j then -K n (M hj.choose f) else 0 := ⟨_, rfl⟩
  have v1 : v f = 1 := by rw [hv]; simp
  have v2 : ∀ g, Free m L r g → g ≠ f → v g = 0 := fun g hg hne => by
    rw [hv]
    show (if g = f then 1 else if hj : ∃ k, k < r ∧ L k = g then -K n (M hj.choose f) else 0) = 0
    rw [if_neg hne, dif_neg]
    rintro ⟨k, hk, e⟩
    exact hg.2 k hk e
  have v3 : ∀ k, k < r → v (L k) = -K n (M k f) := fun k hk => by
    rw [hv]
    show (if L k = f then 1 else if hj : ∃ k', k' < r ∧ L k' = L k then -K n (M hj.choose f) else 0) = _
    have hex : ∃ k', k' < r ∧ L k' = L k := ⟨k, hk, rfl⟩
    rw [if_neg (hf.2 k hk), dif_pos hex]
    rw [h.inj hex.choose_spec.1 hk hex.choose_spec.2]
  refine ⟨v, fun i hi => ?_, v1, v2, v3⟩
  by_cases hir : i < r
  · rw [dot_two (a := L i) (b := f) (h.up i hir) hf.1 (hf.2 i hir) (fun j hj h1 h2 => ?_), v1, v3 i hir, h.one i i hir hi, if_pos rfl, K_one]
    · grind
    · by_cases e : ∃ k, k < r ∧ L k = j
      · obtain ⟨k, hk, rfl⟩ := e
        rw [h.one k i hk hi, if_neg (fun e => h1 (by rw [e])), K_zero]; grind
      · rw [v2 j ⟨hj, fun k hk e' => e ⟨k, hk, e'⟩⟩ h2]; grind
  · exact dot_none fun j hj => by rw [h.low i j (by omega) hi hj, K_zero]; grind
/-- Where one column alone does not lead, it tells all solutions. -/
theorem Rrf.sol_only (h : Rrf (n : Int) N m M L r m) (hr : r + 1 = m) {f : Nat} (hf : Free m L r f) {v : Nat → Fin n} (hv : Sol n N m M v) {k : Nat} (hk : k < r) : v (L k) = v f * -K n (M k f) := by
  have hN := h.rN
  have := hv k (by omega)
  rw [dot_two (a := L k) (b := f) (h.up k hk) hf.1 (hf.2 k hk) (fun j hj h1 h2 => ?_), h.one k k hk (by omega), if_pos rfl, K_one] at this
  · grind
  · obtain ⟨k', hk', rfl⟩ := h.others hr hf hj h2
    rw [h.one k' k hk' (by omega), if_neg (fun e => h1 (by rw [e])), K_zero]; grind
/-- Where all columns lead, all numbers are 0. -/
theorem Rrf.sol_none (h : Rrf (n : Int) N m M L m m) {v : Nat → Fin n} (hv : Sol n N m M v) {j : Nat} (hj : j < m) : v j = 0 := by
  have hN := h.rN
  have hL : ∀ k, k < m → L k = k := fun k hk => by
    have g1 := h.gap (a := 0) (b := k) (by omega) hk
    have g2 := h.gap (a := k) (b := m - 1) (by omega) (by omega)
    have g3 := h.up (m - 1) (by omega)
    omega
  have := hv j (by omega)
  rw [dot_one (a := j) hj (fun i hi hne => ?_)] at this
  · have h1 := h.one j j hj (by omega)
    rw [hL j hj, if_pos rfl] at h1
    rw [h1, K_one] at this
    grind
  · have h1 := h.one i j hi (by omega)
    rw [hL i hi, if_neg (Ne.symm hne)] at h1
    rw [h1, K_zero]; grind
end

end Go.Proofs.Ytkkaicneabkkdaa

namespace Go.Proofs.Ytkkaicneabkkdaa
open Go.RowKit

def cr1 (_a1 a2 a3 _b1 b2 b3 : Int) : Int := a2 * b3 - a3 * b2
def cr2 (a1 _a2 a3 b1 _b2 b3 : Int) : Int := a3 * b1 - a1 * b3
def cr3 (a1 a2 _a3 b1 b2 _b3 : Int) : Int := a2 * b1 - a1 * b2
/-- What three numbers make, modulo p. -/
def mkp (p x y z t : Int) : Int := ck p (x % p) (y % p) (z % p) (t % p)
def jn1 (p a1 a2 a3 b1 b2 b3 : Int) : Int := mkp p (cr1 a1 a2 a3 b1 b2 b3) (cr2 a1 a2 a3 b1 b2 b3) (cr3 a1 a2 a3 b1 b2 b3) (cr1 a1 a2 a3 b1 b2 b3)
def jn2 (p a1 a2 a3 b1 b2 b3 : Int) : Int := mkp p (cr1 a1 a2 a3 b1 b2 b3) (cr2 a1 a2 a3 b1 b2 b3) (cr3 a1 a2 a3 b1 b2 b3) (cr2 a1 a2 a3 b1 b2 b3)
def jn3 (p a1 a2 a3 b1 b2 b3 : Int) : Int := mkp p (cr1 a1 a2 a3 b1 b2 b3) (cr2 a1 a2 a3 b1 b2 b3) (cr3 a1 a2 a3 b1 b2 b3) (cr3 a1 a2 a3 b1 b2 b3)
theorem mkp_r (x y z t : Int) {p : Int} (h : isP p = true) : 0 ≤ mkp p x y z t ∧ mkp p x y z t < p := modR _ h
theorem jn1_r (a1 a2 a3 b1 b2 b3 : Int) {p : Int} (h : isP p = true) : 0 ≤ jn1 p a1 a2 a3 b1 b2 b3 ∧ jn1 p a1 a2 a3 b1 b2 b3 < p := modR _ h
theorem jn2_r (a1 a2 a3 b1 b2 b3 : Int) {p : Int} (h : isP p = true) : 0 ≤ jn2 p a1 a2 a3 b1 b2 b3 ∧ jn2 p a1 a2 a3 b1 b2 b3 < p := modR _ h
theorem jn3_r (a1 a2 a3 b1 b2 b3 : Int) {p : Int} (h : isP p = true) : 0 ≤ jn3 p a1 a2 a3 b1 b2 b3 ∧ jn3 p a1 a2 a3 b1 b2 b3 < p := modR _ h
/-- Whether three places are in line, by the model. -/
def eqPl (a1 a2 a3 b1 b2 b3 : Int) : Bool := a1 == b1 && a2 == b2 && a3 == b3
def ilB (p a1 a2 a3 b1 b2 b3 c1 c2 c3 : Int) : Bool := eqPl a1 a2 a3 b1 b2 b3 || ppd p (jn1 p a1 a2 a3 b1 b2 b3) (jn2 p a1 a2 a3 b1 b2 b3) (jn3 p a1 a2 a3 b1 b2 b3) c1 c2 c3 == 0
theorem eqPl_iff {a1 a2 a3 b1 b2 b3 : Int} : eqPl a1 a2 a3 b1 b2 b3 = true ↔ a1 = b1 ∧ a2 = b2 ∧ a3 = b3 := by simp [eqPl, and_assoc]
/-- The rows of places, as one list. -/
def rwL (p a1 a2 a3 : Int) : List Int := [a1, a2, -a3 % p]
theorem pl_ways {p a1 a2 a3 : Int} (h : plB p a1 a2 a3 = true) : a1 = 1 ∨ (a1 = 0 ∧ a2 = 1) ∨ (a1 = 0 ∧ a2 = 0 ∧ a3 = 1) := by
  have := plB_lead h
  unfold ld3 at this
  by_cases e1 : a1 = 0
  · subst e1
    by_cases e2 : a2 = 0
    · subst e2; simp at this; exact .inr (.inr ⟨rfl, rfl, this⟩)
    · simp [e2] at this; exact .inr (.inl ⟨rfl, this⟩)
  · simp [e1] at this; exact .inl this
section
variable {n : Nat} [NeZero n]
theorem K_cr (a1 a2 a3 b1 b2 b3 : Int) : K n (cr1 a1 a2 a3 b1 b2 b3) = K n a2 * K n b3 - K n a3 * K n b2 ∧ K n (cr2 a1 a2 a3 b1 b2 b3) = K n a3 * K n b1 - K n a1 * K n b3 ∧ K n (cr3 a1 a2 a3 b1 b2 b3) = K n a2 * K n b1 - K n a1 * K n b2 := by
  refine ⟨?_, ?_, ?_⟩ <;> simp only [cr1, cr2, cr3, K_sub, K_mul]
theorem cross_ne (hp : isP (n : Int) = true) {a1 a2 a3 b1 b2 b3 : Int} (ha : plB n a1 a2 a3 = true) (hb : plB n b1 b2 b3 = true) (hne : eqPl a1 a2 a3 b1 b2 b3 = false) :
    ¬ (K n (cr1 a1 a2 a3 b1 b2 b3) = 0 ∧ K n (cr2 a1 a2 a3 b1 b2 b3) = 0 ∧ K n (cr3 a1 a2 a3 b1 b2 b3) = 0) := by
  rintro ⟨h1, h2, h3⟩
  obtain ⟨k1, k2, k3⟩ := K_cr (n := n) a1 a2 a3 b1 b2 b3
  rw [k1] at h1; rw [k2] at h2; rw [k3] at h3
  clear k1 k2 k3
  have hr := isP_range hp
  obtain ⟨ra1, ra2, ra3⟩ := plB_rng ha
  obtain ⟨rb1, rb2, rb3⟩ := plB_rng hb
  have e10 : K n 1 ≠ 0 := K_small ⟨by omega, by omega⟩ (by decide)
  rw [K_one] at e10
  have key : a1 = b1 ∧ a2 = b2 ∧ a3 = b3 := by
    rcases pl_ways ha with rfl | ⟨rfl, rfl⟩ | ⟨rfl, rfl, rfl⟩ <;> rcases pl_ways hb with rfl | ⟨rfl, rfl⟩ | ⟨rfl, rfl, rfl⟩ <;> simp only [K_zero, K_one] at h1 h2 h3
    · exact ⟨rfl, K_inj ra2 rb2 (by grind), K_inj ra3 rb3 (by grind)⟩
    · exact absurd (by clear ra1 ra2 ra3 rb1 rb2 rb3 ha hb hne hp hr e10; grind -lia) e10
    · exact absurd (by clear ra1 ra2 ra3 rb1 rb2 rb3 ha hb hne hp hr e10; grind -lia) e10
    · exact absurd (by clear ra1 ra2 ra3 rb1 rb2 rb3 ha hb hne hp hr e10; grind -lia) e10
    · exact ⟨rfl, rfl, K_inj ra3 rb3 (by grind)⟩
    · exact absurd (by clear ra1 ra2 ra3 rb1 rb2 rb3 ha hb hne hp hr e10; grind -lia) e10
    · exact absurd (by clear ra1 ra2 ra3 rb1 rb2 rb3 ha hb hne hp hr e10; grind -lia) e10
    · exact absurd (by clear ra1 ra2 ra3 rb1 rb2 rb3 ha hb hne hp hr e10; grind -lia) e10
    · exact ⟨rfl, rfl, rfl⟩
  rw [eqPl_iff.2 key] at hne
  cases hne
theorem dot3 (r : Nat → Int) (v : Nat → Fin n) : dot n r v 3 = K n (r 0) * v 0 + K n (r 1) * v 1 + K n (r 2) * v 2 := by
  simp only [dot]; grind
/-- What a place's row says. -/
def OnRow (n : Nat) [NeZero n] (a1 a2 a3 : Int) (v : Nat → Fin n) : Prop := K n a1 * v 0 + K n a2 * v 1 - K n a3 * v 2 = 0
theorem row_iff {r : Nat → Int} {a1 a2 a3 : Int} (h0 : r 0 = a1) (h1 : r 1 = a2) (h2 : r 2 = -a3 % n) (v : Nat → Fin n) : dot n r v 3 = 0 ↔ OnRow n a1 a2 a3 v := by
  rw [dot3, h0, h1, h2, K_mod, K_neg, OnRow]
  constructor <;> intro h <;> grind
/-- The cross product of two places, as a vector. -/
def crv (n : Nat) [NeZero n] (a1 a2 a3 b1 b2 b3 : Int) (j : Nat) : Fin n := if j = 0 then K n (cr1 a1 a2 a3 b1 b2 b3) else if j = 1 then K n (cr2 a1 a2 a3 b1 b2 b3) else K n (cr3 a1 a2 a3 b1 b2 b3)
theorem crv_on (a1 a2 a3 b1 b2 b3 : Int) : OnRow n a1 a2 a3 (crv n a1 a2 a3 b1 b2 b3) ∧ OnRow n b1 b2 b3 (crv n a1 a2 a3 b1 b2 b3) := by
  obtain ⟨k1, k2, k3⟩ := K_cr (n := n) a1 a2 a3 b1 b2 b3
  unfold OnRow crv
  simp only [if_true, show ¬ ((1 : Nat) = 0) by decide, show ¬ ((2 : Nat) = 0) by decide, show ¬ ((2 : Nat) = 1) by decide, if_false, k1, k2, k3]
  constructor <;> grind
theorem crv_par {a1 a2 a3 b1 b2 b3 : Int} {v : Nat → Fin n} (ha : OnRow n a1 a2 a3 v) (hb : OnRow n b1 b2 b3 v) :
    K n (cr1 a1 a2 a3 b1 b2 b3) * v 1 = K n (cr2 a1 a2 a3 b1 b2 b3) * v 0 ∧ K n (cr1 a1 a2 a3 b1 b2 b3) * v 2 = K n (cr3 a1 a2 a3 b1 b2 b3) * v 0 ∧ K n (cr2 a1 a2 a3 b1 b2 b3) * v 2 = K n (cr3 a1 a2 a3 b1 b2 b3) * v 1 := by
  obtain ⟨k1, k2, k3⟩ := K_cr (n := n) a1 a2 a3 b1 b2 b3
  rw [k1, k2, k3]
  unfold OnRow at ha hb
  refine ⟨?_, ?_, ?_⟩ <;> grind
theorem K_mkp (x y z t : Int) : K n (mkp n x y z t) = K n t * K n (inv n (ld3 (x % n) (y % n) (z % n))) := by rw [mkp, ck, K_mod, K_mul, K_mod]
theorem mkp_unit (hp : isP (n : Int) = true) {x y z : Int} (h : ¬ (K n x = 0 ∧ K n y = 0 ∧ K n z = 0)) : K n (ld3 (x % n) (y % n) (z % n)) * K n (inv n (ld3 (x % n) (y % n) (z % n))) = 1 := by
  refine K_inv hp fun e => h ?_
  have hr := isP_range hp
  have z1 := Int.emod_nonneg x (show (n : Int) ≠ 0 by omega)
  have m1 := Int.emod_lt_of_pos x (show (0 : Int) < n by omega)
  have z2 := Int.emod_nonneg y (show (n : Int) ≠ 0 by omega)
  have m2 := Int.emod_lt_of_pos y (show (0 : Int) < n by omega)
  have z3 := Int.emod_nonneg z (show (n : Int) ≠ 0 by omega)
  have m3 := Int.emod_lt_of_pos z (show (0 : Int) < n by omega)
  have hz : ∀ q : Int, 0 ≤ q ∧ q < n → K n q = 0 → q = 0 := fun q hq e' => K_inj hq ⟨by omega, by omega⟩ (by rw [e', K_zero])
  unfold ld3 at e
  by_cases e1 : x % n = 0
  · rw [e1] at e
    simp only [beq_self_eq_true, if_true] at e
    by_cases e2 : y % n = 0
    · rw [e2] at e
      simp only [beq_self_eq_true, if_true] at e
      have e3 := hz _ ⟨z3, m3⟩ e
      exact ⟨K_eq_zero.2 e1, K_eq_zero.2 e2, K_eq_zero.2 e3⟩
    · rw [if_neg (by simpa using e2)] at e
      exact absurd (hz _ ⟨z2, m2⟩ e) e2
  · rw [if_neg (by simpa using e1)] at e
    exact absurd (hz _ ⟨z1, m1⟩ e) e1
/-- The product with a join is 0 just where the cross product's is. -/
theorem join_zero (hp : isP (n : Int) = true) {a1 a2 a3 b1 b2 b3 : Int} (h : ¬ (K n (cr1 a1 a2 a3 b1 b2 b3) = 0 ∧ K n (cr2 a1 a2 a3 b1 b2 b3) = 0 ∧ K n (cr3 a1 a2 a3 b1 b2 b3) = 0)) (c1 c2 c3 : Int) :
    (ppd n (jn1 n a1 a2 a3 b1 b2 b3) (jn2 n a1 a2 a3 b1 b2 b3) (jn3 n a1 a2 a3 b1 b2 b3) c1 c2 c3 == 0) = true ↔ K n (cr1 a1 a2 a3 b1 b2 b3) * K n c1 + K n (cr2 a1 a2 a3 b1 b2 b3) * K n c2 - K n (cr3 a1 a2 a3 b1 b2 b3) * K n c3 = 0 := by
  have hu := mkp_unit hp h
  rw [beq_iff_eq, ppd, ← K_eq_zero]
  simp only [jn1, jn2, jn3, K_sub, K_add, K_mul, K_mkp]
  generalize K n (inv n (ld3 (cr1 a1 a2 a3 b1 b2 b3 % n) (cr2 a1 a2 a3 b1 b2 b3 % n) (cr3 a1 a2 a3 b1 b2 b3 % n))) = u at *
  generalize K n (ld3 (cr1 a1 a2 a3 b1 b2 b3 % n) (cr2 a1 a2 a3 b1 b2 b3 % n) (cr3 a1 a2 a3 b1 b2 b3 % n)) = q at *
  generalize K n (cr1 a1 a2 a3 b1 b2 b3) = x
  generalize K n (cr2 a1 a2 a3 b1 b2 b3) = y
  generalize K n (cr3 a1 a2 a3 b1 b2 b3) = z
  clear h
  constructor
  · intro h
    have : q * u * (x * K n c1 + y * K n c2 - z * K n c3) = 0 := by grind
    rw [hu] at this; grind
  · intro h; grind
end
end Go.Proofs.Ytkkaicneabkkdaa

namespace Go.Proofs.Ytkkaicneabkkdaa
open Go.RowKit

set_option maxRecDepth 20000 in
set_option maxHeartbeats 400000 in
theorem in_any (n lo hi : Int) (w : World) :
    Calls Try.prog 98 #[.int .i64 n, .int .i64 lo, .int .i64 hi] w fun e w' => e = .returned (.bool (inB n lo hi)) ∧ w = w' := by
  by_cases h1 : lo ≤ n
  · by_cases h2 : n ≤ hi
    · rw [inB_true ⟨h1, h2⟩]
      go_enter Try.func98, Try.ntmps98
      go_wp2
      go_ret
      exact ⟨rfl, rfl⟩
    · rw [inB_false (by omega)]
      go_enter Try.func98, Try.ntmps98
      go_wp2
      go_ret
      exact ⟨rfl, rfl⟩
  · rw [inB_false (by omega)]
    go_enter Try.func98, Try.ntmps98
    go_wp2
    go_ret
    exact ⟨rfl, rfl⟩

set_option maxRecDepth 20000 in
set_option maxHeartbeats 400000 in
theorem field_out (p : Int) (w : World) (h : ¬ (3 ≤ p ∧ p ≤ 31)) :
    Calls Try.prog 70 #[.int .i64 p] w fun e w' => e = .returned (.bool false) ∧ w = w' := by
  have hb := inB_false h
  go_enter Try.func70, Try.ntmps70
  go_wp2_with (go_at_call 98; refine Calls.mono (in_any _ _ _ _) ?_; rintro e w' ⟨rfl, rfl⟩)
  go_ret
  exact ⟨rfl, rfl⟩

theorem ret_bool {a b : Bool} (h : a = b) : Ending.returned (.bool a) = .returned (.bool b) := by rw [h]
theorem ret_int {k : IntKind} {a b : Int} (h : a = b) : Ending.returned (.int k a) = .returned (.int k b) := by rw [h]

theorem ret_ib {a a' : Int} {b b' : Bool} (h : a = a') (g : b = b') : Ending.returned (.tuple #[.int .i64 a, .bool b]) = .returned (.tuple #[.int .i64 a', .bool b']) := by rw [h, g]
theorem ret_ii {a a' b b' : Int} (h : a = a') (g : b = b') : Ending.returned (.tuple #[.int .i64 a, .int .i64 b]) = .returned (.tuple #[.int .i64 a', .int .i64 b']) := by rw [h, g]
theorem ret_bi {a a' : Int} {b b' : Bool} (g : b = b') (h : a = a') : Ending.returned (.tuple #[.bool b, .int .i64 a]) = .returned (.tuple #[.bool b', .int .i64 a']) := by rw [h, g]

def NoDiv (n k : Nat) : Prop := ∀ d, d < k → 2 ≤ d → n % d ≠ 0
theorem NoDiv.start (n : Nat) : NoDiv n 2 := fun d h1 h2 => absurd h1 (by omega)
theorem NoDiv.next {n k : Nat} (h : NoDiv n k) (hk : n % k ≠ 0) : NoDiv n (k + 1) := fun d h1 h2 => by
  by_cases e : d = k
  · rw [e]; exact hk
  · exact h d (by omega) h2

theorem sq_small {k : Nat} (h2 : 2 ≤ k) (h : k * k ≤ 31) : k ≤ 5 := by
  rcases Nat.lt_or_ge k 6 with h6 | h6
  · omega
  · have := Nat.mul_le_mul h6 h6; omega

set_option maxRecDepth 20000 in
set_option maxHeartbeats 400000 in
theorem field_in (n : Nat) (w : World) (h3 : 3 ≤ n) (h31 : n ≤ 31) :
    Calls Try.prog 70 #[.int .i64 (n : Int)] w fun e w' => e = .returned (.bool (isP n)) ∧ w = w' := by
  have hb := inB_true (n := n) (lo := 3) (hi := 31) (by omega)
  go_enter Try.func70, Try.ntmps70
  go_wp2_with (go_at_call 98; refine Calls.mono (in_any _ _ _ _) ?_; rintro e w' ⟨rfl, rfl⟩)
  clear hb
  go_loop [3] (fun d => ∃ k : Nat, 2 ≤ k ∧ k ≤ 6 ∧ d = .int .i64 k ∧ NoDiv n k) (fun d => 32 - (intOf d).toNat)
  case atStart => exact ⟨2, by omega, by omega, rfl, NoDiv.start n⟩
  case round =>
    obtain ⟨k, hk2, hk6, rfl, hd⟩ := hrel
    have hkk : 0 ≤ (k : Int) * k ∧ (k : Int) * k ≤ 36 := by
      have : k * k ≤ 6 * 6 := Nat.mul_le_mul hk6 hk6
      have e : ((k * k : Nat) : Int) = (k : Int) * k := by simp
      omega
    by_cases hq : k * k ≤ n
    · have hq' : (k : Int) * k ≤ n := by rw [← Int.natCast_mul]; omega
      have hk5 := sq_small hk2 (by omega)
      by_cases hm : n % k = 0
      · have hm' : ((n : Int) % k == 0) = true := by rw [beq_iff_eq]; omega
        have H := Lib.hid (isP_divs n k (by omega) h3 (by omega) hk2 hm hq)
        go_wp2
        go_ret
        exact ⟨ret_bool H.out.symm, rfl⟩
      · have hm' : ((n : Int) % k == 0) = false := by rw [beq_eq_false_iff_ne]; omega
        have H := Lib.hid (hd.next hm)
        go_wp2
        go_round
        case rel => exact ⟨k + 1, by omega, by omega, by go_num, H.out⟩
        case measure => simp [intOf]; omega
    · have hq' : (n : Int) < (k : Int) * k := by rw [← Int.natCast_mul]; omega
      have H := Lib.hid (isP_nodivs n k (by omega) h3 (by omega) (by omega) hd)
      go_wp2
      go_ret
      exact ⟨ret_bool H.out.symm, rfl⟩

theorem field_any (p : Int) (w : World) :
    Calls Try.prog 70 #[.int .i64 p] w fun e w' => e = .returned (.bool (isP p)) ∧ w = w' := by
  by_cases h : 3 ≤ p ∧ p ≤ 31
  · obtain ⟨n, rfl⟩ := Int.eq_ofNat_of_zero_le (by omega : 0 ≤ p)
    exact field_in n w (by omega) (by omega)
  · rw [isP_none h]
    exact field_out p w h

end Go.Proofs.Ytkkaicneabkkdaa

namespace Go.Proofs.Ytkkaicneabkkdaa
open Go.RowKit

set_option maxRecDepth 20000 in
set_option maxHeartbeats 400000 in
theorem mod_any (x p : Int) (w : World) (h1 : 1 ≤ p) (h2 : p ≤ 2147483648) (h3 : -1099511627776 ≤ x) (h4 : x ≤ 1099511627776) :
    Calls Try.prog 62 #[.int .i64 x, .int .i64 p] w fun e w' => e = .returned (.int .i64 (x % p)) ∧ w = w' := by
  have hb := tmod_bounds x p h1
  have hb1 : -p < x.tmod p := hb.1
  have hb2 : x.tmod p < p := hb.2
  clear hb
  have H := Lib.hid (by rw [← mod_twice x p, Int.add_emod_right] : x.tmod p % p = x % p)
  by_cases hx : 0 ≤ x
  · have hx1 : 0 ≤ x % p := Int.emod_nonneg _ (by omega)
    have hx2 : x % p < p := Int.emod_lt_of_pos _ (by omega)
    clear H hb1 hb2
    go_enter Try.func62, Try.ntmps62
    go_wp2
    go_ret
    exact ⟨ret_int (by simp), rfl⟩
  · go_enter Try.func62, Try.ntmps62
    go_wp2
    go_ret
    exact ⟨ret_int H.out, rfl⟩

end Go.Proofs.Ytkkaicneabkkdaa

namespace Go.Proofs.Ytkkaicneabkkdaa
open Go.RowKit

def PowRel (n r out base k : Nat) : Prop := out < n ∧ base < n ∧ out * base ^ k % n = r
theorem PowRel.bounds {n a b : Nat} (h : n ≤ 31) (ha : a < n) (hb : b < n) : 0 ≤ (a : Int) * b ∧ (a : Int) * b ≤ 961 := by
  have : a * b ≤ 31 * 31 := Nat.mul_le_mul (by omega) (by omega)
  have e : ((a * b : Nat) : Int) = (a : Int) * b := by simp
  omega
theorem PowRel.odd {n r out base k : Nat} (h : PowRel n r out base k) (hk : k % 2 = 1) : PowRel n r (out * base % n) (base * base % n) (k / 2) :=
  ⟨Nat.mod_lt _ (by have := h.1; omega), Nat.mod_lt _ (by have := h.1; omega), pow_step_odd hk h.2.2⟩
theorem PowRel.even {n r out base k : Nat} (h : PowRel n r out base k) (hk : k % 2 = 0) : PowRel n r out (base * base % n) (k / 2) :=
  ⟨h.1, Nat.mod_lt _ (by have := h.1; omega), pow_step_even hk h.2.2⟩
theorem PowRel.ends {n r out base : Nat} (h : PowRel n r out base 0) : out = r := by
  have h3 := h.2.2
  rw [Nat.pow_zero, Nat.mul_one, Nat.mod_eq_of_lt h.1] at h3
  exact h3

set_option maxRecDepth 20000 in
set_option maxHeartbeats 800000 in
theorem inverse_any (a p : Int) (w : World) (hp : isP p = true) (h3 : -1099511627776 ≤ a) (h4 : a ≤ 1099511627776) :
    Calls Try.prog 81 #[.int .i64 a, .int .i64 p] w fun e w' => e = .returned (.int .i64 (inv p a)) ∧ w = w' := by
  have hr := isP_range hp
  obtain ⟨n, rfl⟩ := Int.eq_ofNat_of_zero_le (by omega : 0 ≤ p)
  have hn := isP_ne hp
  have hm0 : 0 ≤ a % (n : Int) := Int.emod_nonneg _ (by omega)
  have hm1 : a % (n : Int) < n := Int.emod_lt_of_pos _ (by omega)
  obtain ⟨m, hm⟩ := Int.eq_ofNat_of_zero_le hm0
  have hmn : m < n := by omega
  have hpw := pow_inv hp hmn
  have hend : inv (n : Int) a = (invN n m : Int) := by
    unfold inv; rw [hm, Int.toNat_natCast, Int.toNat_natCast]
  have HE := Lib.hid hend
  have HS := Lib.hid (show PowRel n (invN n m) 1 m (n - 2) from ⟨by omega, hmn, by rw [Nat.one_mul]; exact hpw⟩)
  have HM := Lib.hid hm
  clear hend hm hpw hm0 hm1 hp hr
  go_enter Try.func81, Try.ntmps81
  go_wp2_with (go_at_call 62; refine (mod_any _ _ _ (by omega) (by omega) h3 h4).mono ?_; rw [HM.out]; rintro e w' ⟨rfl, rfl⟩)
  go_loop [5, 6, 7] (fun o b d => ∃ out base k : Nat, k ≤ 29 ∧ o = .int .i64 out ∧ b = .int .i64 base ∧ d = .int .i64 k ∧ PowRel n (invN n m) out base k) (fun _ _ d => (intOf d).toNat)
  case atStart => exact ⟨1, m, n - 2, by omega, rfl, rfl, by congr 1; omega, HS.out⟩
  case round =>
    obtain ⟨out, base, k, hk, rfl, rfl, rfl, hd⟩ := hrel
    have hb1 := PowRel.bounds hn.2 hd.1 hd.2.1
    have hb2 := PowRel.bounds hn.2 hd.2.1 hd.2.1
    by_cases hk0 : k = 0
    · subst hk0
      have H := Lib.hid hd.ends
      go_wp2
      go_ret
      exact ⟨ret_int (by rw [HE.out, H.out]), rfl⟩
    · have hk1 : (0 : Int) < k := by omega
      by_cases hk2 : k % 2 = 1
      · have hk2' : ((k : Int) % 2 == 1) = true := by rw [beq_iff_eq]; omega
        have H := Lib.hid (hd.odd hk2)
        have HK := Lib.hid hk0
        clear hk0 hk2
        go_wp2
        go_round
        case rel => exact ⟨out * base % n, base * base % n, k / 2, by omega, by simp, by simp, by simp, H.out⟩
        case measure => have := HK.out; simp [intOf]; omega
      · have hk2' : ((k : Int) % 2 == 1) = false := by rw [beq_eq_false_iff_ne]; omega
        have H := Lib.hid (hd.even (by omega))
        have HK := Lib.hid hk0
        clear hk0 hk2
        go_wp2
        go_round
        case rel => exact ⟨out, base * base % n, k / 2, by omega, rfl, by simp, by simp, H.out⟩
        case measure => have := HK.out; simp [intOf]; omega

end Go.Proofs.Ytkkaicneabkkdaa

namespace Go.Proofs.Ytkkaicneabkkdaa
open Go.RowKit

set_option linter.unusedVariables false in
set_option linter.unusedSimpArgs false in
set_option maxRecDepth 20000 in
set_option maxHeartbeats 4000000 in
theorem specPlMade_any (p x y z : Int)  (w : World) (hp : isP p = true) (hx : -8192 ≤ x ∧ x ≤ 8192) (hy : -8192 ≤ y ∧ y ≤ 8192) (hz : -8192 ≤ z ∧ z ≤ 8192) :
    Calls Try.prog 72 #[.int .i64 p, .int .i64 x, .int .i64 y, .int .i64 z] w fun e w' =>
      e = .returned (.agg #[.int .i64 (ck p (x % p) (y % p) (z % p) (x % p)), .int .i64 (ck p (x % p) (y % p) (z % p) (y % p)), .int .i64 (ck p (x % p) (y % p) (z % p) (z % p))]) ∧ Below w.heap.size w w' := by
  have hr := isP_range hp
  obtain ⟨v1, hv1⟩ : ∃ v : Int, v = x % p := ⟨_, rfl⟩
  have rv1 := modR x hp
  rw [← hv1] at rv1
  have Hv1 := Lib.hid hv1
  clear hv1
  obtain ⟨v2, hv2⟩ : ∃ v : Int, v = y % p := ⟨_, rfl⟩
  have rv2 := modR y hp
  rw [← hv2] at rv2
  have Hv2 := Lib.hid hv2
  clear hv2
  obtain ⟨v3, hv3⟩ : ∃ v : Int, v = z % p := ⟨_, rfl⟩
  have rv3 := modR z hp
  rw [← hv3] at rv3
  have Hv3 := Lib.hid hv3
  clear hv3
  go_enter Try.func72, Try.ntmps72
  go_wp2_with fail
  refine Calls.mono (mod_any _ _ _ (by omega) (by omega) (by omega) (by omega)) ?_
  rw [← Hv1.out]
  rintro e w' ⟨rfl, rfl⟩
  go_wp2_with fail
  refine Calls.mono (mod_any _ _ _ (by omega) (by omega) (by omega) (by omega)) ?_
  rw [← Hv2.out]
  rintro e w' ⟨rfl, rfl⟩
  go_wp2_with fail
  refine Calls.mono (mod_any _ _ _ (by omega) (by omega) (by omega) (by omega)) ?_
  rw [← Hv3.out]
  rintro e w' ⟨rfl, rfl⟩
  rcases bool_ways (v1 == 0) with hd1 | hd1
  · have hd1n : (v1 != 0) = true := by rw [bne, hd1]; rfl
    have Hhd1p := Lib.hid (beq_eq_false_iff_ne.1 hd1)
    obtain ⟨v4, hv4⟩ : ∃ v : Int, v = inv p v1 := ⟨_, rfl⟩
    have rv4 := inv_range v1 hp
    rw [← hv4] at rv4
    have Hv4 := Lib.hid hv4
    clear hv4
    have mu_1 := mulNN 30 30 900 (by decide) (a := v1) (b := v4) (by omega) (by omega)
    have e_1 : IntKind.i64.wrap (v1 * v4) = v1 * v4 := wrapI _ (by omega)
    have d_2 := modR (v1 * v4) hp
    have t_2 : (v1 * v4).tmod p = (v1 * v4) % p := Int.tmod_eq_emod_of_nonneg (by omega)
    have hpos : p ≠ 0 := by omega
    have mu_2 := mulNN 30 30 900 (by decide) (a := v2) (b := v4) (by omega) (by omega)
    have e_3 : IntKind.i64.wrap (v2 * v4) = v2 * v4 := wrapI _ (by omega)
    have d_4 := modR (v2 * v4) hp
    have t_4 : (v2 * v4).tmod p = (v2 * v4) % p := Int.tmod_eq_emod_of_nonneg (by omega)
    have mu_3 := mulNN 30 30 900 (by decide) (a := v3) (b := v4) (by omega) (by omega)
    have e_5 : IntKind.i64.wrap (v3 * v4) = v3 * v4 := wrapI _ (by omega)
    have d_6 := modR (v3 * v4) hp
    have t_6 : (v3 * v4).tmod p = (v3 * v4) % p := Int.tmod_eq_emod_of_nonneg (by omega)
    go_wp2_with fail
    refine Calls.mono (inverse_any _ _ _ hp (by omega) (by omega)) ?_
    rw [← Hv4.out]
    rintro e w' ⟨rfl, rfl⟩
    go_wp2_with fail
    (refine region_tail 19 (by kernel_rfl) (by kernel_rfl) ?_; simp only [List.take_succ_cons, List.take_zero, List.drop_succ_cons, List.drop_zero]; repeat still_step)
    refine wpStill_nil ?_
    have g1 := hd1
    (try simp only [Hv4.out, Hv3.out, Hv2.out, Hv1.out] at g1)
    have HV := Lib.hid (show ck p (x % p) (y % p) (z % p) (x % p) = (v1 * v4) % p ∧ ck p (x % p) (y % p) (z % p) (y % p) = (v2 * v4) % p ∧ ck p (x % p) (y % p) (z % p) (z % p) = (v3 * v4) % p from by
      simp only [Hv4.out, Hv3.out, Hv2.out, Hv1.out, ck, ld3, g1, if_true, if_false, Bool.false_eq_true] <;> simp)
    go_wp2
    (refine bodyPost_ret (v := .agg #[.int .i64 (ck p (x % p) (y % p) (z % p) (x % p)), .int .i64 (ck p (x % p) (y % p) (z % p) (y % p)), .int .i64 (ck p (x % p) (y % p) (z % p) (z % p))]) (by simp [results, Try.results72, go_sem, HV.out.1, HV.out.2.1, HV.out.2.2, *]) rfl ⟨?_, ?_⟩)
    · rfl
    · (repeat (first | with_reducible exact Below.refl _ _ | with_reducible refine balloc ?_ _ | with_reducible refine bdrewN ?_ _ | with_reducible refine Below.drew ?_ | with_reducible refine bthen ?_ (by with_reducible assumption) | with_reducible refine Below.setCell ?_ (by first | (simp; done) | (simp; omega)) _))
  · have hd1n : (v1 != 0) = false := by rw [bne, hd1]; rfl
    have Hhd1p := Lib.hid (beq_iff_eq.1 hd1)
    rcases bool_ways (v2 == 0) with hd2 | hd2
    · have hd2n : (v2 != 0) = true := by rw [bne, hd2]; rfl
      have Hhd2p := Lib.hid (beq_eq_false_iff_ne.1 hd2)
      obtain ⟨v4, hv4⟩ : ∃ v : Int, v = inv p v2 := ⟨_, rfl⟩
      have rv4 := inv_range v2 hp
      rw [← hv4] at rv4
      have Hv4 := Lib.hid hv4
      clear hv4
      have mu_1 := mulNN 30 30 900 (by decide) (a := v1) (b := v4) (by omega) (by omega)
      have e_1 : IntKind.i64.wrap (v1 * v4) = v1 * v4 := wrapI _ (by omega)
      have d_2 := modR (v1 * v4) hp
      have t_2 : (v1 * v4).tmod p = (v1 * v4) % p := Int.tmod_eq_emod_of_nonneg (by omega)
      have hpos : p ≠ 0 := by omega
      have mu_2 := mulNN 30 30 900 (by decide) (a := v2) (b := v4) (by omega) (by omega)
      have e_3 : IntKind.i64.wrap (v2 * v4) = v2 * v4 := wrapI _ (by omega)
      have d_4 := modR (v2 * v4) hp
      have t_4 : (v2 * v4).tmod p = (v2 * v4) % p := Int.tmod_eq_emod_of_nonneg (by omega)
      have mu_3 := mulNN 30 30 900 (by decide) (a := v3) (b := v4) (by omega) (by omega)
      have e_5 : IntKind.i64.wrap (v3 * v4) = v3 * v4 := wrapI _ (by omega)
      have d_6 := modR (v3 * v4) hp
      have t_6 : (v3 * v4).tmod p = (v3 * v4) % p := Int.tmod_eq_emod_of_nonneg (by omega)
      go_wp2_with fail
      refine Calls.mono (inverse_any _ _ _ hp (by omega) (by omega)) ?_
      rw [← Hv4.out]
      rintro e w' ⟨rfl, rfl⟩
      go_wp2_with fail
      (refine region_tail 19 (by kernel_rfl) (by kernel_rfl) ?_; simp only [List.take_succ_cons, List.take_zero, List.drop_succ_cons, List.drop_zero]; repeat still_step)
      refine wpStill_nil ?_
      have g1 := hd1
      have g2 := hd2
      (try simp only [Hv4.out, Hv3.out, Hv2.out, Hv1.out] at g1 g2)
      have HV := Lib.hid (show ck p (x % p) (y % p) (z % p) (x % p) = (v1 * v4) % p ∧ ck p (x % p) (y % p) (z % p) (y % p) = (v2 * v4) % p ∧ ck p (x % p) (y % p) (z % p) (z % p) = (v3 * v4) % p from by
        simp only [Hv4.out, Hv3.out, Hv2.out, Hv1.out, ck, ld3, g1, g2, if_true, if_false, Bool.false_eq_true] <;> simp)
      go_wp2
      (refine bodyPost_ret (v := .agg #[.int .i64 (ck p (x % p) (y % p) (z % p) (x % p)), .int .i64 (ck p (x % p) (y % p) (z % p) (y % p)), .int .i64 (ck p (x % p) (y % p) (z % p) (z % p))]) (by simp [results, Try.results72, go_sem, HV.out.1, HV.out.2.1, HV.out.2.2, *]) rfl ⟨?_, ?_⟩)
      · rfl
      · (repeat (first | with_reducible exact Below.refl _ _ | with_reducible refine balloc ?_ _ | with_reducible refine bdrewN ?_ _ | with_reducible refine Below.drew ?_ | with_reducible refine bthen ?_ (by with_reducible assumption) | with_reducible refine Below.setCell ?_ (by first | (simp; done) | (simp; omega)) _))
    · have hd2n : (v2 != 0) = false := by rw [bne, hd2]; rfl
      have Hhd2p := Lib.hid (beq_iff_eq.1 hd2)
      obtain ⟨v4, hv4⟩ : ∃ v : Int, v = inv p v3 := ⟨_, rfl⟩
      have rv4 := inv_range v3 hp
      rw [← hv4] at rv4
      have Hv4 := Lib.hid hv4
      clear hv4
      have mu_1 := mulNN 30 30 900 (by decide) (a := v1) (b := v4) (by omega) (by omega)
      have e_1 : IntKind.i64.wrap (v1 * v4) = v1 * v4 := wrapI _ (by omega)
      have d_2 := modR (v1 * v4) hp
      have t_2 : (v1 * v4).tmod p = (v1 * v4) % p := Int.tmod_eq_emod_of_nonneg (by omega)
      have hpos : p ≠ 0 := by omega
      have mu_2 := mulNN 30 30 900 (by decide) (a := v2) (b := v4) (by omega) (by omega)
      have e_3 : IntKind.i64.wrap (v2 * v4) = v2 * v4 := wrapI _ (by omega)
      have d_4 := modR (v2 * v4) hp
      have t_4 : (v2 * v4).tmod p = (v2 * v4) % p := Int.tmod_eq_emod_of_nonneg (by omega)
      have mu_3 := mulNN 30 30 900 (by decide) (a := v3) (b := v4) (by omega) (by omega)
      have e_5 : IntKind.i64.wrap (v3 * v4) = v3 * v4 := wrapI _ (by omega)
      have d_6 := modR (v3 * v4) hp
      have t_6 : (v3 * v4).tmod p = (v3 * v4) % p := Int.tmod_eq_emod_of_nonneg (by omega)
      go_wp2_with fail
      refine Calls.mono (inverse_any _ _ _ hp (by omega) (by omega)) ?_
      rw [← Hv4.out]
      rintro e w' ⟨rfl, rfl⟩
      go_wp2_with fail
      (refine region_tail 19 (by kernel_rfl) (by kernel_rfl) ?_; simp only [List.take_succ_cons, List.take_zero, List.drop_succ_cons, List.drop_zero]; repeat still_step)
      refine wpStill_nil ?_
      have g1 := hd1
      have g2 := hd2
      (try simp only [Hv4.out, Hv3.out, Hv2.out, Hv1.out] at g1 g2)
      have HV := Lib.hid (show ck p (x % p) (y % p) (z % p) (x % p) = (v1 * v4) % p ∧ ck p (x % p) (y % p) (z % p) (y % p) = (v2 * v4) % p ∧ ck p (x % p) (y % p) (z % p) (z % p) = (v3 * v4) % p from by
        simp only [Hv4.out, Hv3.out, Hv2.out, Hv1.out, ck, ld3, g1, g2, if_true, if_false, Bool.false_eq_true] <;> simp)
      go_wp2
      (refine bodyPost_ret (v := .agg #[.int .i64 (ck p (x % p) (y % p) (z % p) (x % p)), .int .i64 (ck p (x % p) (y % p) (z % p) (y % p)), .int .i64 (ck p (x % p) (y % p) (z % p) (z % p))]) (by simp [results, Try.results72, go_sem, HV.out.1, HV.out.2.1, HV.out.2.2, *]) rfl ⟨?_, ?_⟩)
      · rfl
      · (repeat (first | with_reducible exact Below.refl _ _ | with_reducible refine balloc ?_ _ | with_reducible refine bdrewN ?_ _ | with_reducible refine Below.drew ?_ | with_reducible refine bthen ?_ (by with_reducible assumption) | with_reducible refine Below.setCell ?_ (by first | (simp; done) | (simp; omega)) _))

end Go.Proofs.Ytkkaicneabkkdaa

namespace Go.Proofs.Ytkkaicneabkkdaa
open Go.RowKit

theorem wp_last {P : Program} {c : Code} {Q : Exit → Act → World → Prop} {a : Act} {w : World}
    (h : ∀ K : Act → World → Prop, (∀ a w, Q .normal a w → K a w) → c.wp P (Exit.then K Q) a w) : c.wp P Q a w :=
  wp_mono (h (fun a w => Q .normal a w) (fun _ _ h => h)) (by intro e a w hq; cases e <;> exact hq)

theorem wp_name {P : Program} {c : Code} {Q : Exit → Act → World → Prop} {a : Act} {w : World} (h : ∀ W : World, W = w → c.wp P Q a W) : c.wp P Q a w := h w rfl

theorem brealloc2 {a W : World} {o1 o1' o2 o2' : Obj} (hB : a.heap.size ≤ W.heap.size) (h : Below a.heap.size a ((W.alloc o1).alloc o2)) : Below a.heap.size a ((W.alloc o1').alloc o2') :=
  balloc (brealloc hB (bback (Nat.le_trans hB (by simp)) h)) o2'

end Go.Proofs.Ytkkaicneabkkdaa

namespace Go.Proofs.Ytkkaicneabkkdaa
open Go.RowKit

set_option linter.unusedVariables false in
set_option linter.unusedSimpArgs false in
set_option maxRecDepth 20000 in
set_option maxHeartbeats 4000000 in
theorem specJoin_any (p a1 a2 a3 b1 b2 b3 : Int)  (w : World) (hp : isP p = true) (ha1 : 0 ≤ a1 ∧ a1 ≤ 31) (ha2 : 0 ≤ a2 ∧ a2 ≤ 31) (ha3 : 0 ≤ a3 ∧ a3 ≤ 31) (hb1 : 0 ≤ b1 ∧ b1 ≤ 31) (hb2 : 0 ≤ b2 ∧ b2 ≤ 31) (hb3 : 0 ≤ b3 ∧ b3 ≤ 31) :
    Calls Try.prog 34 #[.int .i64 p, .agg #[.int .i64 a1, .int .i64 a2, .int .i64 a3], .agg #[.int .i64 b1, .int .i64 b2, .int .i64 b3]] w fun e w' =>
      e = .returned (.agg #[.int .i64 (jn1 p a1 a2 a3 b1 b2 b3), .int .i64 (jn2 p a1 a2 a3 b1 b2 b3), .int .i64 (jn3 p a1 a2 a3 b1 b2 b3)]) ∧ Below w.heap.size w w' := by
  have hr := isP_range hp
  have mu_1 := mulNN 31 31 961 (by decide) (a := a2) (b := b3) (by omega) (by omega)
  have mu_2 := mulNN 31 31 961 (by decide) (a := a3) (b := b2) (by omega) (by omega)
  have mu_3 := mulNN 31 31 961 (by decide) (a := a3) (b := b1) (by omega) (by omega)
  have mu_4 := mulNN 31 31 961 (by decide) (a := a1) (b := b3) (by omega) (by omega)
  have mu_5 := mulNN 31 31 961 (by decide) (a := a2) (b := b1) (by omega) (by omega)
  have mu_6 := mulNN 31 31 961 (by decide) (a := a1) (b := b2) (by omega) (by omega)
  obtain ⟨v1, hv1⟩ : ∃ v : Int, v = ck p ((a2 * b3 - (a3 * b2)) % p) ((a3 * b1 - (a1 * b3)) % p) ((a2 * b1 - (a1 * b2)) % p) ((a2 * b3 - (a3 * b2)) % p) := ⟨_, rfl⟩
  have rv1 := ck_r ((a2 * b3 - (a3 * b2)) % p) ((a3 * b1 - (a1 * b3)) % p) ((a2 * b1 - (a1 * b2)) % p) ((a2 * b3 - (a3 * b2)) % p) hp
  rw [← hv1] at rv1
  have Hv1 := Lib.hid hv1
  clear hv1
  obtain ⟨v2, hv2⟩ : ∃ v : Int, v = ck p ((a2 * b3 - (a3 * b2)) % p) ((a3 * b1 - (a1 * b3)) % p) ((a2 * b1 - (a1 * b2)) % p) ((a3 * b1 - (a1 * b3)) % p) := ⟨_, rfl⟩
  have rv2 := ck_r ((a2 * b3 - (a3 * b2)) % p) ((a3 * b1 - (a1 * b3)) % p) ((a2 * b1 - (a1 * b2)) % p) ((a3 * b1 - (a1 * b3)) % p) hp
  rw [← hv2] at rv2
  have Hv2 := Lib.hid hv2
  clear hv2
  obtain ⟨v3, hv3⟩ : ∃ v : Int, v = ck p ((a2 * b3 - (a3 * b2)) % p) ((a3 * b1 - (a1 * b3)) % p) ((a2 * b1 - (a1 * b2)) % p) ((a2 * b1 - (a1 * b2)) % p) := ⟨_, rfl⟩
  have rv3 := ck_r ((a2 * b3 - (a3 * b2)) % p) ((a3 * b1 - (a1 * b3)) % p) ((a2 * b1 - (a1 * b2)) % p) ((a2 * b1 - (a1 * b2)) % p) hp
  rw [← hv3] at rv3
  have Hv3 := Lib.hid hv3
  clear hv3
  go_enter Try.func34, Try.ntmps34
  go_upto_region 0 with fail
  go_cut [4, 5, 6] (fun s4 s5 s6 wx => s4 = .pointer (some ⟨w.heap.size, 0, none⟩) ∧ s5 = .pointer (some ⟨w.heap.size + 1, 0, none⟩) ∧ s6 = .pointer (some ⟨w.heap.size + 1 + 1, 0, none⟩) ∧ wx.cell? ⟨w.heap.size, 0, none⟩ = some (.int .i64 a1) ∧ wx.cell? ⟨w.heap.size, 1, none⟩ = some (.int .i64 a2) ∧ wx.cell? ⟨w.heap.size, 2, none⟩ = some (.int .i64 a3) ∧ wx.cell? ⟨w.heap.size + 1, 0, none⟩ = some (.int .i64 b1) ∧ wx.cell? ⟨w.heap.size + 1, 1, none⟩ = some (.int .i64 b2) ∧ wx.cell? ⟨w.heap.size + 1, 2, none⟩ = some (.int .i64 b3) ∧ wx.cell? ⟨w.heap.size + 1 + 1, 0, none⟩ = some (.int .i64 0) ∧ wx.cell? ⟨w.heap.size + 1 + 1, 1, none⟩ = some (.int .i64 0) ∧ wx.cell? ⟨w.heap.size + 1 + 1, 2, none⟩ = some (.int .i64 0) ∧ wx.frozen? ⟨w.heap.size, 0, none⟩ = false ∧ wx.frozen? ⟨w.heap.size, 1, none⟩ = false ∧ wx.frozen? ⟨w.heap.size, 2, none⟩ = false ∧ wx.frozen? ⟨w.heap.size + 1, 0, none⟩ = false ∧ wx.frozen? ⟨w.heap.size + 1, 1, none⟩ = false ∧ wx.frozen? ⟨w.heap.size + 1, 2, none⟩ = false ∧ wx.frozen? ⟨w.heap.size + 1 + 1, 0, none⟩ = false ∧ wx.frozen? ⟨w.heap.size + 1 + 1, 1, none⟩ = false ∧ wx.frozen? ⟨w.heap.size + 1 + 1, 2, none⟩ = false ∧ Below w.heap.size w wx ∧ w.heap.size + 1 + 1 + 1 ≤ wx.heap.size)
  case first =>
    go_wp2
    go_meet
    refine ⟨rfl, rfl, rfl, ?_, ?_, ?_, ?_, ?_, ?_, ?_, ?_, ?_, ?_, ?_, ?_, ?_, ?_, ?_, ?_, ?_, ?_, ?_, ?_⟩
    · (repeat (first | with_reducible assumption | ((with_reducible refine kfresh ?_ ?_) <;> (first | with_reducible rfl | (simp; done))) | ((with_reducible refine ksameS ?_); focus ((repeat (first | with_reducible exact kis_of (by with_reducible assumption) | with_reducible refine kis_set ?_ | ((with_reducible refine kis_new ?_ ?_) <;> (first | with_reducible rfl | rfl | (simp; done))) | with_reducible refine kis_alloc _ ?_ | with_reducible refine kis_drew ?_ | with_reducible refine kis_call (by with_reducible assumption) ?_ | with_reducible exact kis_of (kcall (by with_reducible assumption) (by with_reducible assumption)))); done)) | with_reducible refine kother (by decide) ?_ | with_reducible refine kset (by first | omega | (simp; done) | (simp; omega)) ?_ | with_reducible refine kalloc _ ?_ | with_reducible refine kdrew ?_ | with_reducible refine kdrewN ?_ | with_reducible refine kcall (by with_reducible assumption) ?_))
    · (repeat (first | with_reducible assumption | ((with_reducible refine kfresh ?_ ?_) <;> (first | with_reducible rfl | (simp; done))) | ((with_reducible refine ksameS ?_); focus ((repeat (first | with_reducible exact kis_of (by with_reducible assumption) | with_reducible refine kis_set ?_ | ((with_reducible refine kis_new ?_ ?_) <;> (first | with_reducible rfl | rfl | (simp; done))) | with_reducible refine kis_alloc _ ?_ | with_reducible refine kis_drew ?_ | with_reducible refine kis_call (by with_reducible assumption) ?_ | with_reducible exact kis_of (kcall (by with_reducible assumption) (by with_reducible assumption)))); done)) | with_reducible refine kother (by decide) ?_ | with_reducible refine kset (by first | omega | (simp; done) | (simp; omega)) ?_ | with_reducible refine kalloc _ ?_ | with_reducible refine kdrew ?_ | with_reducible refine kdrewN ?_ | with_reducible refine kcall (by with_reducible assumption) ?_))
    · (repeat (first | with_reducible assumption | ((with_reducible refine kfresh ?_ ?_) <;> (first | with_reducible rfl | (simp; done))) | ((with_reducible refine ksameS ?_); focus ((repeat (first | with_reducible exact kis_of (by with_reducible assumption) | with_reducible refine kis_set ?_ | ((with_reducible refine kis_new ?_ ?_) <;> (first | with_reducible rfl | rfl | (simp; done))) | with_reducible refine kis_alloc _ ?_ | with_reducible refine kis_drew ?_ | with_reducible refine kis_call (by with_reducible assumption) ?_ | with_reducible exact kis_of (kcall (by with_reducible assumption) (by with_reducible assumption)))); done)) | with_reducible refine kother (by decide) ?_ | with_reducible refine kset (by first | omega | (simp; done) | (simp; omega)) ?_ | with_reducible refine kalloc _ ?_ | with_reducible refine kdrew ?_ | with_reducible refine kdrewN ?_ | with_reducible refine kcall (by with_reducible assumption) ?_))
    · (repeat (first | with_reducible assumption | ((with_reducible refine kfresh ?_ ?_) <;> (first | with_reducible rfl | (simp; done))) | ((with_reducible refine ksameS ?_); focus ((repeat (first | with_reducible exact kis_of (by with_reducible assumption) | with_reducible refine kis_set ?_ | ((with_reducible refine kis_new ?_ ?_) <;> (first | with_reducible rfl | rfl | (simp; done))) | with_reducible refine kis_alloc _ ?_ | with_reducible refine kis_drew ?_ | with_reducible refine kis_call (by with_reducible assumption) ?_ | with_reducible exact kis_of (kcall (by with_reducible assumption) (by with_reducible assumption)))); done)) | with_reducible refine kother (by decide) ?_ | with_reducible refine kset (by first | omega | (simp; done) | (simp; omega)) ?_ | with_reducible refine kalloc _ ?_ | with_reducible refine kdrew ?_ | with_reducible refine kdrewN ?_ | with_reducible refine kcall (by with_reducible assumption) ?_))
    · (repeat (first | with_reducible assumption | ((with_reducible refine kfresh ?_ ?_) <;> (first | with_reducible rfl | (simp; done))) | ((with_reducible refine ksameS ?_); focus ((repeat (first | with_reducible exact kis_of (by with_reducible assumption) | with_reducible refine kis_set ?_ | ((with_reducible refine kis_new ?_ ?_) <;> (first | with_reducible rfl | rfl | (simp; done))) | with_reducible refine kis_alloc _ ?_ | with_reducible refine kis_drew ?_ | with_reducible refine kis_call (by with_reducible assumption) ?_ | with_reducible exact kis_of (kcall (by with_reducible assumption) (by with_reducible assumption)))); done)) | with_reducible refine kother (by decide) ?_ | with_reducible refine kset (by first | omega | (simp; done) | (simp; omega)) ?_ | with_reducible refine kalloc _ ?_ | with_reducible refine kdrew ?_ | with_reducible refine kdrewN ?_ | with_reducible refine kcall (by with_reducible assumption) ?_))
    · (repeat (first | with_reducible assumption | ((with_reducible refine kfresh ?_ ?_) <;> (first | with_reducible rfl | (simp; done))) | ((with_reducible refine ksameS ?_); focus ((repeat (first | with_reducible exact kis_of (by with_reducible assumption) | with_reducible refine kis_set ?_ | ((with_reducible refine kis_new ?_ ?_) <;> (first | with_reducible rfl | rfl | (simp; done))) | with_reducible refine kis_alloc _ ?_ | with_reducible refine kis_drew ?_ | with_reducible refine kis_call (by with_reducible assumption) ?_ | with_reducible exact kis_of (kcall (by with_reducible assumption) (by with_reducible assumption)))); done)) | with_reducible refine kother (by decide) ?_ | with_reducible refine kset (by first | omega | (simp; done) | (simp; omega)) ?_ | with_reducible refine kalloc _ ?_ | with_reducible refine kdrew ?_ | with_reducible refine kdrewN ?_ | with_reducible refine kcall (by with_reducible assumption) ?_))
    · (repeat (first | with_reducible assumption | ((with_reducible refine kfresh ?_ ?_) <;> (first | with_reducible rfl | (simp; done))) | ((with_reducible refine ksameS ?_); focus ((repeat (first | with_reducible exact kis_of (by with_reducible assumption) | with_reducible refine kis_set ?_ | ((with_reducible refine kis_new ?_ ?_) <;> (first | with_reducible rfl | rfl | (simp; done))) | with_reducible refine kis_alloc _ ?_ | with_reducible refine kis_drew ?_ | with_reducible refine kis_call (by with_reducible assumption) ?_ | with_reducible exact kis_of (kcall (by with_reducible assumption) (by with_reducible assumption)))); done)) | with_reducible refine kother (by decide) ?_ | with_reducible refine kset (by first | omega | (simp; done) | (simp; omega)) ?_ | with_reducible refine kalloc _ ?_ | with_reducible refine kdrew ?_ | with_reducible refine kdrewN ?_ | with_reducible refine kcall (by with_reducible assumption) ?_))
    · (repeat (first | with_reducible assumption | ((with_reducible refine kfresh ?_ ?_) <;> (first | with_reducible rfl | (simp; done))) | ((with_reducible refine ksameS ?_); focus ((repeat (first | with_reducible exact kis_of (by with_reducible assumption) | with_reducible refine kis_set ?_ | ((with_reducible refine kis_new ?_ ?_) <;> (first | with_reducible rfl | rfl | (simp; done))) | with_reducible refine kis_alloc _ ?_ | with_reducible refine kis_drew ?_ | with_reducible refine kis_call (by with_reducible assumption) ?_ | with_reducible exact kis_of (kcall (by with_reducible assumption) (by with_reducible assumption)))); done)) | with_reducible refine kother (by decide) ?_ | with_reducible refine kset (by first | omega | (simp; done) | (simp; omega)) ?_ | with_reducible refine kalloc _ ?_ | with_reducible refine kdrew ?_ | with_reducible refine kdrewN ?_ | with_reducible refine kcall (by with_reducible assumption) ?_))
    · (repeat (first | with_reducible assumption | ((with_reducible refine kfresh ?_ ?_) <;> (first | with_reducible rfl | (simp; done))) | ((with_reducible refine ksameS ?_); focus ((repeat (first | with_reducible exact kis_of (by with_reducible assumption) | with_reducible refine kis_set ?_ | ((with_reducible refine kis_new ?_ ?_) <;> (first | with_reducible rfl | rfl | (simp; done))) | with_reducible refine kis_alloc _ ?_ | with_reducible refine kis_drew ?_ | with_reducible refine kis_call (by with_reducible assumption) ?_ | with_reducible exact kis_of (kcall (by with_reducible assumption) (by with_reducible assumption)))); done)) | with_reducible refine kother (by decide) ?_ | with_reducible refine kset (by first | omega | (simp; done) | (simp; omega)) ?_ | with_reducible refine kalloc _ ?_ | with_reducible refine kdrew ?_ | with_reducible refine kdrewN ?_ | with_reducible refine kcall (by with_reducible assumption) ?_))
    · (repeat (first | with_reducible assumption | with_reducible refine fdrew ?_ | with_reducible refine fdrewN ?_ | with_reducible refine fset ?_ | ((with_reducible refine fallocNew ?_) <;> (first | with_reducible rfl | (simp; done))) | ((with_reducible refine kfro (by with_reducible assumption) ?_ ?_); focus (first | with_reducible assumption | omega | (simp; done) | (simp; omega))) | ((with_reducible refine falloc ?_ ?_); focus (first | with_reducible assumption | omega | (simp; done) | (simp; omega)))))
    · (repeat (first | with_reducible assumption | with_reducible refine fdrew ?_ | with_reducible refine fdrewN ?_ | with_reducible refine fset ?_ | ((with_reducible refine fallocNew ?_) <;> (first | with_reducible rfl | (simp; done))) | ((with_reducible refine kfro (by with_reducible assumption) ?_ ?_); focus (first | with_reducible assumption | omega | (simp; done) | (simp; omega))) | ((with_reducible refine falloc ?_ ?_); focus (first | with_reducible assumption | omega | (simp; done) | (simp; omega)))))
    · (repeat (first | with_reducible assumption | with_reducible refine fdrew ?_ | with_reducible refine fdrewN ?_ | with_reducible refine fset ?_ | ((with_reducible refine fallocNew ?_) <;> (first | with_reducible rfl | (simp; done))) | ((with_reducible refine kfro (by with_reducible assumption) ?_ ?_); focus (first | with_reducible assumption | omega | (simp; done) | (simp; omega))) | ((with_reducible refine falloc ?_ ?_); focus (first | with_reducible assumption | omega | (simp; done) | (simp; omega)))))
    · (repeat (first | with_reducible assumption | with_reducible refine fdrew ?_ | with_reducible refine fdrewN ?_ | with_reducible refine fset ?_ | ((with_reducible refine fallocNew ?_) <;> (first | with_reducible rfl | (simp; done))) | ((with_reducible refine kfro (by with_reducible assumption) ?_ ?_); focus (first | with_reducible assumption | omega | (simp; done) | (simp; omega))) | ((with_reducible refine falloc ?_ ?_); focus (first | with_reducible assumption | omega | (simp; done) | (simp; omega)))))
    · (repeat (first | with_reducible assumption | with_reducible refine fdrew ?_ | with_reducible refine fdrewN ?_ | with_reducible refine fset ?_ | ((with_reducible refine fallocNew ?_) <;> (first | with_reducible rfl | (simp; done))) | ((with_reducible refine kfro (by with_reducible assumption) ?_ ?_); focus (first | with_reducible assumption | omega | (simp; done) | (simp; omega))) | ((with_reducible refine falloc ?_ ?_); focus (first | with_reducible assumption | omega | (simp; done) | (simp; omega)))))
    · (repeat (first | with_reducible assumption | with_reducible refine fdrew ?_ | with_reducible refine fdrewN ?_ | with_reducible refine fset ?_ | ((with_reducible refine fallocNew ?_) <;> (first | with_reducible rfl | (simp; done))) | ((with_reducible refine kfro (by with_reducible assumption) ?_ ?_); focus (first | with_reducible assumption | omega | (simp; done) | (simp; omega))) | ((with_reducible refine falloc ?_ ?_); focus (first | with_reducible assumption | omega | (simp; done) | (simp; omega)))))
    · (repeat (first | with_reducible assumption | with_reducible refine fdrew ?_ | with_reducible refine fdrewN ?_ | with_reducible refine fset ?_ | ((with_reducible refine fallocNew ?_) <;> (first | with_reducible rfl | (simp; done))) | ((with_reducible refine kfro (by with_reducible assumption) ?_ ?_); focus (first | with_reducible assumption | omega | (simp; done) | (simp; omega))) | ((with_reducible refine falloc ?_ ?_); focus (first | with_reducible assumption | omega | (simp; done) | (simp; omega)))))
    · (repeat (first | with_reducible assumption | with_reducible refine fdrew ?_ | with_reducible refine fdrewN ?_ | with_reducible refine fset ?_ | ((with_reducible refine fallocNew ?_) <;> (first | with_reducible rfl | (simp; done))) | ((with_reducible refine kfro (by with_reducible assumption) ?_ ?_); focus (first | with_reducible assumption | omega | (simp; done) | (simp; omega))) | ((with_reducible refine falloc ?_ ?_); focus (first | with_reducible assumption | omega | (simp; done) | (simp; omega)))))
    · (repeat (first | with_reducible assumption | with_reducible refine fdrew ?_ | with_reducible refine fdrewN ?_ | with_reducible refine fset ?_ | ((with_reducible refine fallocNew ?_) <;> (first | with_reducible rfl | (simp; done))) | ((with_reducible refine kfro (by with_reducible assumption) ?_ ?_); focus (first | with_reducible assumption | omega | (simp; done) | (simp; omega))) | ((with_reducible refine falloc ?_ ?_); focus (first | with_reducible assumption | omega | (simp; done) | (simp; omega)))))
    · (repeat (first | with_reducible exact Below.refl _ _ | with_reducible refine balloc ?_ _ | with_reducible refine bdrewN ?_ _ | with_reducible refine Below.drew ?_ | with_reducible refine bthen ?_ (by with_reducible assumption) | with_reducible refine Below.setCell ?_ (by first | (simp; done) | (simp; omega)) _))
    · (first | omega | (simp; done) | (simp; omega))
  case' rest => obtain ⟨rfl, rfl, rfl, cO0, cO1, cO2, cO3, cO4, cO5, cO6, cO7, cO8, fO0, fO1, fO2, fO3, fO4, fO5, fO6, fO7, fO8, hxO, hsO⟩ := hcut
  obtain ⟨wO, rfl⟩ : ∃ wO : World, wO = wc := ⟨_, rfl⟩
  have lO0 : w.heap.size < wO.heap.size := by omega
  have lO1 : w.heap.size + 1 < wO.heap.size := by omega
  have lO2 : w.heap.size + 1 + 1 < wO.heap.size := by omega
  go_wp2_with fail
  refine Calls.mono (specPlMade_any _ _ _ _ _ hp (by omega) (by omega) (by omega)) ?_
  rw [← Hv1.out, ← Hv2.out, ← Hv3.out]
  rintro e w1 ⟨rfl, hB1⟩
  (obtain ⟨hB1c, hB1f⟩ := bcell hB1; have hB1s := hB1.size; (try simp at hB1s); (try have hB1q1 := Nat.lt_of_succ_le hB1s); (try have hB1q2 := Nat.lt_of_succ_lt hB1q1); (try have hB1q3 := Nat.lt_of_succ_lt hB1q2); (try have hB1zw0 : w.heap.size < w1.heap.size := (by omega)); (try have hB1zw1 : w.heap.size + 1 < w1.heap.size := (by omega)); (try have hB1zw2 : w.heap.size + 1 + 1 < w1.heap.size := (by omega)); (try have hB1zw3 : w.heap.size + 1 + 1 + 1 < w1.heap.size := (by omega)); (try have hB1zw4 : w.heap.size + 1 + 1 + 1 + 1 < w1.heap.size := (by omega)); (try have hB1zwO0 : wO.heap.size < w1.heap.size := (by omega)); (try have hB1zwO1 : wO.heap.size + 1 < w1.heap.size := (by omega)); (try have hB1zwO2 : wO.heap.size + 1 + 1 < w1.heap.size := (by omega)); (try have hB1zwO3 : wO.heap.size + 1 + 1 + 1 < w1.heap.size := (by omega)); (try have hB1zwO4 : wO.heap.size + 1 + 1 + 1 + 1 < w1.heap.size := (by omega)))
  have HV := Lib.hid (show jn1 p a1 a2 a3 b1 b2 b3 = v1 ∧ jn2 p a1 a2 a3 b1 b2 b3 = v2 ∧ jn3 p a1 a2 a3 b1 b2 b3 = v3 from by
    try rw [Hv3.out]
    try rw [Hv2.out]
    try rw [Hv1.out]
    all_goals (exact ⟨rfl, rfl, rfl⟩))
  go_wp2
  (refine bodyPost_ret (v := .agg #[.int .i64 (jn1 p a1 a2 a3 b1 b2 b3), .int .i64 (jn2 p a1 a2 a3 b1 b2 b3), .int .i64 (jn3 p a1 a2 a3 b1 b2 b3)]) (by simp [results, Try.results34, go_sem, HV.out.1, HV.out.2.1, HV.out.2.2, *]) rfl ⟨?_, ?_⟩)
  · rfl
  · (repeat (first | with_reducible exact Below.refl _ _ | with_reducible exact hxO | with_reducible refine balloc ?_ _ | with_reducible refine bdrewN ?_ _ | with_reducible refine Below.drew ?_ | with_reducible refine bthen ?_ (by with_reducible assumption) | with_reducible refine Below.setCell ?_ (by first | (simp; done) | (simp; omega)) _))

end Go.Proofs.Ytkkaicneabkkdaa

namespace Go.Proofs.Ytkkaicneabkkdaa
open Go.RowKit

section
variable {n : Nat} [NeZero n]
theorem sol3_iff {M : Nat → Nat → Int} {a1 a2 a3 b1 b2 b3 c1 c2 c3 : Int} (hM : M = fun i j => ([a1, a2, -a3 % n, b1, b2, -b3 % n, c1, c2, -c3 % n] : List Int).getD (i * 3 + j) 0) (v : Nat → Fin n) :
    Sol n 3 3 M v ↔ OnRow n a1 a2 a3 v ∧ OnRow n b1 b2 b3 v ∧ OnRow n c1 c2 c3 v := by
  subst hM
  constructor
  · intro h
    exact ⟨(row_iff (a1 := a1) (a2 := a2) (a3 := a3) rfl rfl rfl v).1 (h 0 (by decide)), (row_iff (a1 := b1) (a2 := b2) (a3 := b3) rfl rfl rfl v).1 (h 1 (by decide)), (row_iff (a1 := c1) (a2 := c2) (a3 := c3) rfl rfl rfl v).1 (h 2 (by decide))⟩
  · rintro ⟨h0, h1, h2⟩ i hi
    have : i = 0 ∨ i = 1 ∨ i = 2 := by omega
    rcases this with rfl | rfl | rfl
    · exact (row_iff (a1 := a1) (a2 := a2) (a3 := a3) rfl rfl rfl v).2 h0
    · exact (row_iff (a1 := b1) (a2 := b2) (a3 := b3) rfl rfl rfl v).2 h1
    · exact (row_iff (a1 := c1) (a2 := c2) (a3 := c3) rfl rfl rfl v).2 h2
theorem sol2_iff {M : Nat → Nat → Int} {a1 a2 a3 b1 b2 b3 : Int} (hM : M = fun i j => ([a1, a2, -a3 % n, b1, b2, -b3 % n] : List Int).getD (i * 3 + j) 0) (v : Nat → Fin n) :
    Sol n 2 3 M v ↔ OnRow n a1 a2 a3 v ∧ OnRow n b1 b2 b3 v := by
  subst hM
  constructor
  · intro h
    exact ⟨(row_iff (a1 := a1) (a2 := a2) (a3 := a3) rfl rfl rfl v).1 (h 0 (by decide)), (row_iff (a1 := b1) (a2 := b2) (a3 := b3) rfl rfl rfl v).1 (h 1 (by decide))⟩
  · rintro ⟨h0, h1⟩ i hi
    have : i = 0 ∨ i = 1 := by omega
    rcases this with rfl | rfl
    · exact (row_iff (a1 := a1) (a2 := a2) (a3 := a3) rfl rfl rfl v).2 h0
    · exact (row_iff (a1 := b1) (a2 := b2) (a3 := b3) rfl rfl rfl v).2 h1
/-- A vector other than 0 on a place's row. -/
theorem row_some (hp : isP (n : Int) = true) {a1 a2 a3 : Int} (ha : plB n a1 a2 a3 = true) : ∃ v : Nat → Fin n, OnRow n a1 a2 a3 v ∧ ∃ j, j < 3 ∧ v j ≠ 0 := by
  have hr := isP_range hp
  have e10 : K n 1 ≠ 0 := K_small ⟨by omega, by omega⟩ (by decide)
  rw [K_one] at e10
  rcases pl_ways ha with rfl | ⟨rfl, rfl⟩ | ⟨rfl, rfl, rfl⟩
  · refine ⟨fun j => if j = 0 then K n a3 else if j = 1 then 0 else 1, ?_, 2, by decide, by simpa using e10⟩
    unfold OnRow
    simp only [if_true, show ¬ ((1 : Nat) = 0) by decide, show ¬ ((2 : Nat) = 0) by decide, show ¬ ((2 : Nat) = 1) by decide, if_false, K_one]
    grind
  · refine ⟨fun j => if j = 0 then 1 else 0, ?_, 0, by decide, by simpa using e10⟩
    unfold OnRow
    simp only [if_true, show ¬ ((1 : Nat) = 0) by decide, show ¬ ((2 : Nat) = 0) by decide, if_false, K_one, K_zero]
    grind
  · refine ⟨fun j => if j = 0 then 1 else 0, ?_, 0, by decide, by simpa using e10⟩
    unfold OnRow
    simp only [if_true, show ¬ ((1 : Nat) = 0) by decide, show ¬ ((2 : Nat) = 0) by decide, if_false, K_one, K_zero]
    grind
theorem crv_some {a1 a2 a3 b1 b2 b3 : Int} (h : ¬ (K n (cr1 a1 a2 a3 b1 b2 b3) = 0 ∧ K n (cr2 a1 a2 a3 b1 b2 b3) = 0 ∧ K n (cr3 a1 a2 a3 b1 b2 b3) = 0)) : ∃ j, j < 3 ∧ crv n a1 a2 a3 b1 b2 b3 j ≠ 0 := by
  by_cases h0 : K n (cr1 a1 a2 a3 b1 b2 b3) = 0
  · by_cases h1 : K n (cr2 a1 a2 a3 b1 b2 b3) = 0
    · exact ⟨2, by decide, fun e => h ⟨h0, h1, e⟩⟩
    · exact ⟨1, by decide, h1⟩
  · exact ⟨0, by decide, h0⟩
/-- Two places' rows always have a vector other than 0. -/
theorem rows_some (hp : isP (n : Int) = true) {a1 a2 a3 b1 b2 b3 : Int} (ha : plB n a1 a2 a3 = true) (hb : plB n b1 b2 b3 = true) : ∃ v : Nat → Fin n, OnRow n a1 a2 a3 v ∧ OnRow n b1 b2 b3 v ∧ ∃ j, j < 3 ∧ v j ≠ 0 := by
  cases e : eqPl a1 a2 a3 b1 b2 b3
  · exact ⟨crv n a1 a2 a3 b1 b2 b3, (crv_on _ _ _ _ _ _).1, (crv_on _ _ _ _ _ _).2, crv_some (cross_ne hp ha hb e)⟩
  · obtain ⟨rfl, rfl, rfl⟩ := eqPl_iff.1 e
    obtain ⟨v, h1, h2⟩ := row_some hp ha
    exact ⟨v, h1, h1, h2⟩
theorem inLine_rank (hp : isP (n : Int) = true) {a1 a2 a3 b1 b2 b3 c1 c2 c3 : Int} (ha : plB n a1 a2 a3 = true) (hb : plB n b1 b2 b3 = true) (hc : plB n c1 c2 c3 = true) {M0 M : Nat → Nat → Int} {L : Nat → Nat} {r : Nat}
    (hM : M0 = fun i j => ([a1, a2, -a3 % n, b1, b2, -b3 % n, c1, c2, -c3 % n] : List Int).getD (i * 3 + j) 0) (h : Rrf (n : Int) 3 3 M L r 3) (hs : ∀ v : Nat → Fin n, Sol n 3 3 M v ↔ Sol n 3 3 M0 v) : decide (r < 3) = ilB n a1 a2 a3 b1 b2 b3 c1 c2 c3 := by
  have hiff : ∀ v : Nat → Fin n, Sol n 3 3 M v ↔ OnRow n a1 a2 a3 v ∧ OnRow n b1 b2 b3 v ∧ OnRow n c1 c2 c3 v := fun v => (hs v).trans (sol3_iff hM v)
  have hrN := h.rN
  -- a vector other than 0 tells a column that does not lead
  have low : (∃ v : Nat → Fin n, (OnRow n a1 a2 a3 v ∧ OnRow n b1 b2 b3 v ∧ OnRow n c1 c2 c3 v) ∧ ∃ j, j < 3 ∧ v j ≠ 0) → r < 3 := by
    rintro ⟨v, hv, j, hj, hne⟩
    by_cases e : r = 3
    · subst e; exact absurd (h.sol_none ((hiff v).2 hv) hj) hne
    · omega
  cases e : eqPl a1 a2 a3 b1 b2 b3
  · have hx := cross_ne hp ha hb e
    rw [ilB, e, Bool.false_or]
    have hj := join_zero hp hx c1 c2 c3
    by_cases hz : K n (cr1 a1 a2 a3 b1 b2 b3) * K n c1 + K n (cr2 a1 a2 a3 b1 b2 b3) * K n c2 - K n (cr3 a1 a2 a3 b1 b2 b3) * K n c3 = 0
    · rw [hj.2 hz]
      have hon : OnRow n c1 c2 c3 (crv n a1 a2 a3 b1 b2 b3) := by
        unfold OnRow crv
        simp only [if_true, show ¬ ((1 : Nat) = 0) by decide, show ¬ ((2 : Nat) = 0) by decide, show ¬ ((2 : Nat) = 1) by decide, if_false]
        grind
      exact decide_eq_true (low ⟨_, ⟨(crv_on _ _ _ _ _ _).1, (crv_on _ _ _ _ _ _).2, hon⟩, crv_some hx⟩)
    · rw [Bool.eq_false_iff.2 (fun q => hz (hj.1 q))]
      refine decide_eq_false fun hr3 => ?_
      obtain ⟨f, _, hf, _⟩ := h.first hr3
      obtain ⟨v, hv, v1, _⟩ := h.sol_free hf
      obtain ⟨o1, o2, o3⟩ := (hiff v).1 hv
      obtain ⟨p1, p2, p3⟩ := crv_par o1 o2
      have e10 : K n 1 ≠ 0 := K_small ⟨by omega, by have := isP_range hp; omega⟩ (by decide)
      rw [K_one] at e10
      have hk : K n (cr1 a1 a2 a3 b1 b2 b3 * c1 + cr2 a1 a2 a3 b1 b2 b3 * c2 - cr3 a1 a2 a3 b1 b2 b3 * c3) ≠ 0 := by simpa only [K_sub, K_add, K_mul] using hz
      have hi := K_inv hp hk
      simp only [K_sub, K_add, K_mul] at hi
      generalize K n (inv n (cr1 a1 a2 a3 b1 b2 b3 * c1 + cr2 a1 a2 a3 b1 b2 b3 * c2 - cr3 a1 a2 a3 b1 b2 b3 * c3)) = u at hi
      generalize K n (cr1 a1 a2 a3 b1 b2 b3) = x at *
      generalize K n (cr2 a1 a2 a3 b1 b2 b3) = y at *
      generalize K n (cr3 a1 a2 a3 b1 b2 b3) = z at *
      unfold OnRow at o3
      clear o1 o2 hz hk hj hx
      have key : ∀ j, j < 3 → v j = 0 := by
        intro j hj
        have hj3 : j = 0 ∨ j = 1 ∨ j = 2 := by omega
        clear hiff low hs h hf hv v1
        rcases hj3 with rfl | rfl | rfl
        · have : (x * K n c1 + y * K n c2 - z * K n c3) * v 0 = x * (K n c1 * v 0 + K n c2 * v 1 - K n c3 * v 2) := by grind -lia
          rw [o3] at this
          grind -lia
        · have : (x * K n c1 + y * K n c2 - z * K n c3) * v 1 = y * (K n c1 * v 0 + K n c2 * v 1 - K n c3 * v 2) := by grind -lia
          rw [o3] at this
          grind -lia
        · have : (x * K n c1 + y * K n c2 - z * K n c3) * v 2 = z * (K n c1 * v 0 + K n c2 * v 1 - K n c3 * v 2) := by grind -lia
          rw [o3] at this
          grind -lia
      have := key f hf.1
      rw [v1] at this
      exact e10 this
  · rw [ilB, e, Bool.true_or]
    obtain ⟨rfl, rfl, rfl⟩ := eqPl_iff.1 e
    obtain ⟨v, h1, h2, h3⟩ := rows_some hp ha hc
    exact decide_eq_true (low ⟨v, ⟨h1, h1, h2⟩, h3⟩)
end
theorem pl_num {p a1 a2 a3 : Int} (hp : isP p = true) (ha : plB p a1 a2 a3 = true) : (0 ≤ a1 ∧ a1 < p) ∧ (0 ≤ a2 ∧ a2 < p) ∧ (0 ≤ -a3 % p ∧ -a3 % p < p) := ⟨(plB_rng ha).1, (plB_rng ha).2.1, modR _ hp⟩
end Go.Proofs.Ytkkaicneabkkdaa

namespace Go.Proofs.Ytkkaicneabkkdaa
open Go

/-- As Q; by a goto to a label: J of it. -/
def toLabels (J : Nat → Act → World → Prop) (Q : Exit → Act → World → Prop) : Exit → Act → World → Prop
  | .goto l, a, w => J l a w
  | e, a, w => Q e a w

theorem wp_scope_labels {P : Program} {a : Act} {w : World} {Q : Exit → Act → World → Prop} {c : Code} (J : Nat → Act → World → Prop) (μ : Nat → Act → World → Nat)
    (first : c.wp P (toLabels J Q) a w)
    (pass : ∀ l a w, J l a w → ∃ rest, findLabel c l = some rest ∧ rest.wp P (toLabels (fun l' a' w' => J l' a' w' ∧ μ l' a' w' < μ l a w) Q) a w) : (Code.scope c).wp P Q a w := by
  intro b k cs
  -- what stands behind the scope, whatever the exit
  have out : ∀ (e : Exit) (a₁ : Act) (w₁ : World) (s : Machine), (∀ l, e ≠ .goto l) → Q e a₁ w₁ → Arrives P s b (.inScope c :: k) cs e a₁ w₁ → ∃ e a' w', Q e a' w' ∧ Arrives P s b k cs e a' w' := by
    intro e a₁ w₁ s hne hq harr
    cases e with
    | normal => exact ⟨.normal, a₁, w₁, hq, Steps.trans harr (.one step_inScope)⟩
    | exit id => exact ⟨.exit id, a₁, w₁, hq, fun k' hk => harr k' (by simp [exitTo, hk])⟩
    | goto l => exact absurd rfl (hne l)
    | ret => exact ⟨_, a₁, w₁, hq, harr⟩
    | panic ch => exact ⟨_, a₁, w₁, hq, harr⟩
    | outgrown => exact ⟨_, a₁, w₁, hq, harr⟩
  have key : ∀ N l a w rest, μ l a w < N → J l a w → findLabel c l = some rest → ∃ e a' w', Q e a' w' ∧ Arrives P (lone (b.at a (.code rest :: .inScope c :: k)) cs w) b k cs e a' w' := by
    intro N
    induction N with
    | zero => intro l a w rest h; omega
    | succ N ih =>
      intro l a w rest hN hJ hf
      obtain ⟨rest', hf', hw⟩ := pass l a w hJ
      rw [hf] at hf'
      cases hf'
      obtain ⟨e, a₁, w₁, hq, harr⟩ := hw b (.inScope c :: k) cs
      by_cases hg : ∃ l', e = .goto l'
      · obtain ⟨l', rfl⟩ := hg
        obtain ⟨hJ', hlt⟩ := hq
        obtain ⟨r2, hf2, _⟩ := pass l' a₁ w₁ hJ'
        obtain ⟨e₂, a₂, w₂, hq₂, harr₂⟩ := ih l' a₁ w₁ r2 (by omega) hJ' hf2
        exact ⟨e₂, a₂, w₂, hq₂, .of_steps (harr _ (by simp [gotoIn, hf2])) harr₂⟩
      · refine out e a₁ w₁ _ (fun l' h => hg ⟨l', h⟩) ?_ harr
        cases e <;> first | exact hq | exact absurd ⟨_, rfl⟩ hg
  obtain ⟨e, a₁, w₁, hq, harr⟩ := first b (.inScope c :: k) cs
  by_cases hg : ∃ l', e = .goto l'
  · obtain ⟨l', rfl⟩ := hg
    obtain ⟨r2, hf2, _⟩ := pass l' a₁ w₁ hq
    obtain ⟨e₂, a₂, w₂, hq₂, harr₂⟩ := key _ l' a₁ w₁ r2 (Nat.lt_succ_self _) hq hf2
    exact ⟨e₂, a₂, w₂, hq₂, .of_steps (.head step_scope (harr _ (by simp [gotoIn, hf2]))) harr₂⟩
  · obtain ⟨e₂, a₂, w₂, hq₂, harr₂⟩ := out e a₁ w₁ _ (fun l' h => hg ⟨l', h⟩) (by cases e <;> first | exact hq | exact absurd ⟨_, rfl⟩ hg) harr
    exact ⟨e₂, a₂, w₂, hq₂, .of_steps (.one step_scope) harr₂⟩

/-- The same for two labels, where the first way falls into the first one: what stands behind it may be used there. -/
theorem wp_scope_two {P : Program} {a : Act} {w : World} {Q : Exit → Act → World → Prop} {c r0 r1 : Code} (J : Nat → Act → World → Prop) (μ : Nat → Act → World → Nat)
    (hf0 : findLabel c 0 = some (Code.skip.seq r0)) (hf1 : findLabel c 1 = some (Code.skip.seq r1)) (hl : ∀ l a w, J l a w → l = 0 ∨ l = 1)
    (pass0 : ∀ a w, J 0 a w → r0.wp P (toLabels (fun l' a' w' => J l' a' w' ∧ μ l' a' w' < μ 0 a w) Q) a w)
    (pass1 : ∀ a w, J 1 a w → r1.wp P (toLabels (fun l' a' w' => J l' a' w' ∧ μ l' a' w' < μ 1 a w) Q) a w)
    (first : (∀ a w, J 0 a w → r0.wp P (toLabels J Q) a w) → c.wp P (toLabels J Q) a w) : (Code.scope c).wp P Q a w :=
  wp_scope_labels J μ (first fun a w hJ => Code.wp_mono (fun e a' w' h => by cases e <;> first | exact h | exact h.1) (pass0 a w hJ))
    fun l a w hJ => by
      rcases hl l a w hJ with rfl | rfl
      · exact ⟨_, hf0, wp_seq (wp_skip (pass0 a w hJ))⟩
      · exact ⟨_, hf1, wp_seq (wp_skip (pass1 a w hJ))⟩

end Go.Proofs.Ytkkaicneabkkdaa

namespace Go.Proofs.Ytkkaicneabkkdaa
open Go.RowKit

def ints (xs : List Int) : List Value := xs.map (Value.int .i64)
theorem ints_length (xs : List Int) : (ints xs).length = xs.length := List.length_map _
theorem ints_append (xs ys : List Int) : ints (xs ++ ys) = ints xs ++ ints ys := List.map_append

/-- What a slice owns stays while nothing below a bound turns, if its row lies below the bound. -/
theorem own_below {w w' : World} {base B : Nat} {e : TypeId} {k n : Nat} {v : Value} {xs : List Value} (h : w.ownsRow base e k v n xs) (hb : Below B w w') (hv : ∀ g, v.ownBlock = some g → g < B) : w'.ownsRow base e k v n xs := by
  obtain ⟨h1, h2⟩ := h
  refine ⟨h1, ?_⟩
  rcases h2 with h2 | ⟨g, cap, cur, rfl, hg, hh, r⟩
  · exact .inl h2
  · exact .inr ⟨g, cap, cur, rfl, hg, by rw [hb.block g (hv g rfl)]; exact hh, r⟩
/-- .. the bound: the heap's size. -/
theorem own_call {w w' : World} {base : Nat} {e : TypeId} {k n : Nat} {v : Value} {xs : List Value} (h : w.ownsRow base e k v n xs) (hb : Below w.heap.size w w') : w'.ownsRow base e k v n xs :=
  own_below h hb fun g hg => (h.lt g hg).2
theorem own_base {w : World} {base base' : Nat} {e : TypeId} {k n : Nat} {v : Value} {xs : List Value} (h : w.ownsRow base e k v n xs) (hb : base' ≤ base) : w.ownsRow base' e k v n xs := by
  obtain ⟨h1, h2⟩ := h
  refine ⟨h1, ?_⟩
  rcases h2 with h2 | ⟨g, cap, cur, rfl, hg, r⟩
  · exact .inl h2
  · exact .inr ⟨g, cap, cur, rfl, by omega, r⟩
/-- A slice's two shapes. -/
theorem own_ways {w : World} {base : Nat} {e : TypeId} {k n : Nat} {v : Value} {xs : List Value} (h : w.ownsRow base e k v n xs) :
    (n = 0 ∧ ∃ ao cap, v = .slice ao 0 cap) ∨ (0 < n ∧ ∃ g cap, v = .slice (some ⟨g, 0, none⟩) n cap ∧ base ≤ g ∧ g < w.heap.size ∧ n ≤ 9223372036854775807) := by
  rcases h.2 with ⟨rfl, rfl⟩ | ⟨g, cap, cur, rfl, hg, hh, hn, hm, r⟩
  · exact .inl ⟨rfl, _, _, rfl⟩
  · rcases Nat.eq_zero_or_pos n with rfl | h0
    · exact .inl ⟨rfl, _, _, rfl⟩
    · exact .inr ⟨h0, g, cap, rfl, hg, lt_of_block hh, by unfold maxLen at hm; omega⟩
/-- The number at a place. -/
theorem own_cell {w : World} {base : Nat} {e : TypeId} {k n g cap : Nat} {xs : List Int} (h : w.ownsRow base e k (.slice (some ⟨g, 0, none⟩) n cap) n (ints xs)) {j : Nat} (hj : j < n * k) : w.cell? ⟨g, j, none⟩ = some (.int .i64 (xs.getD j 0)) := by
  rw [h.cellAt j hj]
  have hl : xs.length = n * k := by have := h.1; rwa [ints_length] at this
  simp [ints, List.getElem?_eq_getElem (show j < xs.length by omega)]

/-- What a call leaves that returns a slice of its own and a code. -/
def SlicePost (T : TypeId) (k : Nat) (L : List Int) (C : Int) (w : World) (e : Ending) (w' : World) : Prop :=
  ∃ v n, e = .returned (.tuple #[v, .int .i64 C]) ∧ w'.ownsRow w.heap.size T k v n (ints L) ∧ Below w.heap.size w w'
theorem slicePost_mk {T : TypeId} {k n : Nat} {L : List Int} {C : Int} {v : Value} {w w' : World} (h : w'.ownsRow w.heap.size T k v n (ints L)) (hb : Below w.heap.size w w') :
    SlicePost T k L C w (.returned (.tuple #[v, .int .i64 C])) w' := ⟨v, n, rfl, h, hb⟩
theorem slicePost_nil {T : TypeId} {k : Nat} {L : List Int} {C : Int} {w w' : World} (h : L = []) (hb : Below w.heap.size w w') :
    SlicePost T k L C w (.returned (.tuple #[.slice none 0 0, .int .i64 C])) w' := ⟨_, 0, rfl, by rw [h]; exact World.ownsRow_nil _ _ _ _, hb⟩

theorem own_same {w w' : World} {b b' : Nat} {e : TypeId} {k n m : Nat} {v v' : Value} {xs : List Value} (h : w.ownsRow b e (k + 1) v n xs) (h' : w'.ownsRow b' e (k + 1) v' m xs) : n = m :=
  Nat.eq_of_mul_eq_mul_right (Nat.succ_pos k) (h.1.symm.trans h'.1)
theorem own_few {w : World} {b : Nat} {e : TypeId} {k n N : Nat} {v : Value} {xs : List Int} (h : w.ownsRow b e k v n (ints xs)) (hx : xs.length ≤ N) (hk : 0 < k) : n ≤ N := by
  have h1 := h.1
  rw [ints_length] at h1
  have := Nat.le_mul_of_pos_right n hk
  omega
theorem cell_old {B : Nat} {W w' : World} (h : Below B W w') {b : Nat} (hb : b < B) (j : Nat) : w'.cell? ⟨b, j, none⟩ = W.cell? ⟨b, j, none⟩ := World.cell?_of_block (a := ⟨b, j, none⟩) (h.block b hb)

theorem bcellB {B : Nat} {W w1 : World} (hb : Below B W w1) : (∀ b o, b < B → w1.cell? ⟨b, o, none⟩ = W.cell? ⟨b, o, none⟩) ∧ (∀ b o, b < B → w1.frozen? ⟨b, o, none⟩ = W.frozen? ⟨b, o, none⟩) :=
  ⟨fun b o h => World.cell?_of_block (a := ⟨b, o, none⟩) (hb.block b h), fun b o h => World.frozen?_of_block (a := ⟨b, o, none⟩) (hb.block b h)⟩
theorem own_lit {w : World} {base b : Nat} {e : TypeId} {k n : Nat} {cs : List Int} (hb : base ≤ w.heap.size) (hq : b = w.heap.size) (hn : n ≤ 1000000) (hl : cs.length = n * k) :
    (w.alloc (.cells (cs.map (Value.int .i64)).toArray e)).ownsRow base e k (.slice (some ⟨b, 0, none⟩) n n) n (ints cs) := by
  subst hq; exact World.ownsRow_lit w _ n hb (by unfold maxLen; omega) (by simpa using hl)

theorem own_list {w : World} {base n m : Nat} {e : TypeId} {v : Value} {xs : List Int} (h : w.ownsRow base e 1 v n (ints xs)) (hm : xs.length = m + 1) :
    n = m + 1 ∧ ∃ g cap, v = .slice (some ⟨g, 0, none⟩) (m + 1) cap ∧ base ≤ g ∧ g < w.heap.size ∧ ∀ j, j < m + 1 → w.cell? ⟨g, j, none⟩ = some (.int .i64 (xs.getD j 0)) := by
  have hn : n = m + 1 := by have := h.1; rw [ints_length] at this; omega
  subst hn
  rcases own_ways h with ⟨h0, _⟩ | ⟨_, g, cap, rfl, h1, h2, _⟩
  · omega
  · exact ⟨rfl, g, cap, rfl, h1, h2, fun j hj => own_cell h (by omega)⟩

/-- The marks m, m + 1, .. -/
def marks (m n : Nat) : List Int := (List.range n).map fun i => ((m + i : Nat) : Int)
theorem marks_length (m n : Nat) : (marks m n).length = n := by simp [marks]
theorem marks_getD {m n j : Nat} (h : j < n) : (marks m n).getD j 0 = ((m + j : Nat) : Int) := by
  simp [marks, List.getElem?_map, List.getElem?_range h]
theorem marks_succ (m n : Nat) : marks m (n + 1) = marks m n ++ [((m + n : Nat) : Int)] := by simp [marks, List.range_succ]
/-- One mark more. -/
theorem marks_set {m j : Nat} {xs : List Int} (h : j < xs.length) : (ints (marks m j ++ xs.drop j)).set j (.int .i64 ((m + j : Nat) : Int)) = ints (marks m (j + 1) ++ xs.drop (j + 1)) := by
  rw [ints_append, ints_append, marks_succ, ints_append, List.append_assoc]
  rw [List.set_append_right _ _ (by simp [ints_length, marks_length])]
  congr 1
  rw [ints_length, marks_length, Nat.sub_self]
  rw [List.drop_eq_getElem_cons h]
  simp only [ints, List.map_cons, List.set_cons_zero]
  rfl

end Go.Proofs.Ytkkaicneabkkdaa

namespace Go.Proofs.Ytkkaicneabkkdaa
open Go.RowKit

structure Apart (r : Nat) (a W : World) : Prop where
  os : W.os = a.os
  tape : W.tape = a.tape
  output : W.output = a.output
  size : a.heap.size ≤ W.heap.size
  block : ∀ k, k < a.heap.size → k ≠ r → W.heap[k]? = a.heap[k]?

theorem Apart.refl (r : Nat) (a : World) : Apart r a a := ⟨rfl, rfl, rfl, Nat.le_refl _, fun _ _ _ => rfl⟩
theorem Apart.drew {r : Nat} {a W : World} (h : Apart r a W) : Apart r a W.drew := ⟨h.os, h.tape, h.output, h.size, h.block⟩
theorem Apart.undrew {r : Nat} {a W : World} (h : Apart r a W.drew) : Apart r a W := ⟨h.os, h.tape, h.output, h.size, h.block⟩
theorem Apart.call {r : Nat} {a W W' : World} (h : Apart r a W) (k : Below W.heap.size W W') : Apart r a W' :=
  ⟨k.os.trans h.os, k.tape.trans h.tape, k.output.trans h.output, Nat.le_trans h.size k.size, fun i hi hr => (k.block i (Nat.lt_of_lt_of_le hi h.size)).trans (h.block i hi hr)⟩
theorem Apart.alloc {r : Nat} {a W : World} (h : Apart r a W) (o : Obj) : Apart r a (W.alloc o) := h.call ((Below.refl _ _).alloc (Nat.le_refl _) o)
theorem Apart.back {r : Nat} {a W : World} {o : Obj} (hB : a.heap.size ≤ W.heap.size) (h : Apart r a (W.alloc o)) : Apart r a W :=
  ⟨h.os, h.tape, h.output, hB, fun k hk hr => by rw [← h.block k hk hr, Below.heap_alloc _ _ _ (by omega)]⟩
theorem Apart.set {r : Nat} {a W : World} (h : Apart r a W) (j : Nat) (u : Value) : Apart r a (W.setCell ⟨r, j, none⟩ u) :=
  ⟨h.os, h.tape, h.output, by simpa [World.setCell] using h.size, fun k hk hr => (Below.heap_setCell _ _ _ _ hr).trans (h.block k hk hr)⟩
theorem Apart.setNew {r : Nat} {a W : World} (h : Apart r a W) {p : Addr} (hp : a.heap.size ≤ p.block) (u : Value) : Apart r a (W.setCell p u) :=
  ⟨h.os, h.tape, h.output, by simpa [World.setCell] using h.size, fun k hk hr => (Below.heap_setCell _ _ _ _ (by omega)).trans (h.block k hk hr)⟩
theorem Apart.cell {r : Nat} {a W : World} (h : Apart r a W) {b j : Nat} {v : Value} (hr : b ≠ r) (hc : a.cell? ⟨b, j, none⟩ = some v) : W.cell? ⟨b, j, none⟩ = some v :=
  (World.cell?_of_block (w := a) (a := ⟨b, j, none⟩) (h.block b (World.block_lt_of_cell? a ⟨b, j, none⟩ hc) hr)).trans hc
theorem Apart.below {r : Nat} {w a W : World} (hw : Below w.heap.size w a) (hr : w.heap.size ≤ r) (h : Apart r a W) : Below w.heap.size w W :=
  ⟨h.os.trans hw.os, h.tape.trans hw.tape, h.output.trans hw.output, Nat.le_trans hw.size h.size, fun k hk => (h.block k (Nat.lt_of_lt_of_le hk hw.size) (by omega)).trans (hw.block k hk)⟩
theorem frozen_of_block {w w' : World} {a : Addr} (h : w'.heap[a.block]? = w.heap[a.block]?) : w'.frozen? a = w.frozen? a := by
  unfold World.frozen?; rw [h]
theorem Apart.frozen {r : Nat} {a W : World} (h : Apart r a W) {b j : Nat} (hr : b ≠ r) (hl : b < a.heap.size) (hf : a.frozen? ⟨b, j, none⟩ = false) : W.frozen? ⟨b, j, none⟩ = false :=
  (frozen_of_block (w := a) (a := ⟨b, j, none⟩) (h.block b hl hr)).trans hf

end Go.Proofs.Ytkkaicneabkkdaa

namespace Go.Proofs.Ytkkaicneabkkdaa
open Go.RowKit

structure LayM (W : World) (R B N m : Nat) (o : Nat → Nat) (M : Nat → Nat → Int) : Prop where
  head : ∀ i, i < N → W.cell? ⟨R, i, none⟩ = some (.slice (some ⟨B, o i, none⟩) m m)
  hfz : ∀ i, i < N → W.frozen? ⟨R, i, none⟩ = false
  num : ∀ i j, i < N → j < m → W.cell? ⟨B, o i + j, none⟩ = some (.int .i64 (M i j))
  nfz : ∀ i j, i < N → j < m → W.frozen? ⟨B, o i + j, none⟩ = false
  apt : ∀ i i' j j', i < N → i' < N → j < m → j' < m → o i + j = o i' + j' → i = i' ∧ j = j'
  ne : R ≠ B
def upd (M : Nat → Nat → Int) (a b : Nat) (v : Int) (i j : Nat) : Int := if i = a ∧ j = b then v else M i j
theorem LayM.set {W : World} {R B N m : Nat} {o : Nat → Nat} {M : Nat → Nat → Int} (h : LayM W R B N m o M) {i j : Nat} (hi : i < N) (hj : j < m) (v : Int) : LayM (W.setCell ⟨B, o i + j, none⟩ (.int .i64 v)) R B N m o (upd M i j v) :=
  ⟨fun a ha => kset h.ne (h.head a ha), fun a ha => fset (h.hfz a ha), fun a b ha hb => by
    by_cases e : a = i ∧ b = j
    · obtain ⟨rfl, rfl⟩ := e
      rw [upd, if_pos ⟨rfl, rfl⟩]
      exact ksame (h.num a b ha hb)
    · rw [upd, if_neg e]
      exact kother (fun e' => e (h.apt a i b j ha hi hb hj e')) (h.num a b ha hb), fun a b ha hb => fset (h.nfz a b ha hb), h.apt, h.ne⟩
theorem LayM.congr {W : World} {R B N m : Nat} {o : Nat → Nat} {M M' : Nat → Nat → Int} (h : LayM W R B N m o M) (e : ∀ i j, i < N → j < m → M i j = M' i j) : LayM W R B N m o M' :=
  ⟨h.head, h.hfz, fun i j hi hj => by rw [← e i j hi hj]; exact h.num i j hi hj, h.nfz, h.apt, h.ne⟩
theorem LayM.lt {W : World} {R B N m : Nat} {o : Nat → Nat} {M : Nat → Nat → Int} (h : LayM W R B N m o M) (hN : 0 < N) (hm : 0 < m) : R < W.heap.size ∧ B < W.heap.size :=
  ⟨World.block_lt_of_cell? W ⟨R, 0, none⟩ (h.head 0 hN), World.block_lt_of_cell? W ⟨B, o 0 + 0, none⟩ (h.num 0 0 hN hm)⟩
theorem LayM.blocks {W W' : World} {R B N m : Nat} {o : Nat → Nat} {M : Nat → Nat → Int} (h : LayM W R B N m o M) (hR : W'.heap[R]? = W.heap[R]?) (hB : W'.heap[B]? = W.heap[B]?) : LayM W' R B N m o M :=
  ⟨fun i hi => (World.cell?_of_block (w := W) (a := ⟨R, i, none⟩) hR).trans (h.head i hi), fun i hi => (frozen_of_block (w := W) (a := ⟨R, i, none⟩) hR).trans (h.hfz i hi),
   fun i j hi hj => (World.cell?_of_block (w := W) (a := ⟨B, o i + j, none⟩) hB).trans (h.num i j hi hj), fun i j hi hj => (frozen_of_block (w := W) (a := ⟨B, o i + j, none⟩) hB).trans (h.nfz i j hi hj), h.apt, h.ne⟩
theorem LayM.below {W W' : World} {R B N m : Nat} {o : Nat → Nat} {M : Nat → Nat → Int} (h : LayM W R B N m o M) (hN : 0 < N) (hm : 0 < m) (hb : Below W.heap.size W W') : LayM W' R B N m o M :=
  h.blocks (hb.block _ (h.lt hN hm).1) (hb.block _ (h.lt hN hm).2)
/-- Two headers in each other's place. -/
theorem LayM.swap {W : World} {R B N m : Nat} {o : Nat → Nat} {M : Nat → Nat → Int} (h : LayM W R B N m o M) {a b : Nat} (ha : a < N) (hb : b < N) :
    LayM ((W.setCell ⟨R, a, none⟩ (.slice (some ⟨B, o b, none⟩) m m)).setCell ⟨R, b, none⟩ (.slice (some ⟨B, o a, none⟩) m m)) R B N m (fun i => o (swp a b i)) (fun i j => M (swp a b i) j) := by
  refine ⟨fun i hi => ?_, fun i hi => fset (fset (h.hfz i hi)), fun i j hi hj => kset (Ne.symm h.ne) (kset (Ne.symm h.ne) (h.num _ j (swp_lt ha hb hi) hj)), fun i j hi hj => fset (fset (h.nfz _ j (swp_lt ha hb hi) hj)),
    fun i i' j j' hi hi' hj hj' e => by have := h.apt _ _ j j' (swp_lt ha hb hi) (swp_lt ha hb hi') hj hj' e; exact ⟨swp_inj this.1, this.2⟩, h.ne⟩
  have hA := ksame (v := .slice (some ⟨B, o b, none⟩) m m) (h.head a ha)
  by_cases e1 : i = b
  · subst e1
    have : swp a i i = a := by
      unfold swp
      split
      · rename_i e; exact e
      · rw [if_pos rfl]
    simp only [this]
    by_cases e2 : i = a
    · subst e2; exact ksame hA
    · exact ksame (kother (u := .slice (some ⟨B, o i, none⟩) m m) e2 (h.head i hi))
  · by_cases e2 : i = a
    · subst e2
      simp only [swp_left]
      exact kother e1 hA
    · have : swp a b i = i := by unfold swp; rw [if_neg e2, if_neg e1]
      simp only [this]
      exact kother e1 (kother e2 (h.head i hi))
/-- What a world keeps but for the blocks of rows: all that lay before, but for two blocks. -/
structure Apart2 (r s : Nat) (a W : World) : Prop where
  os : W.os = a.os
  tape : W.tape = a.tape
  output : W.output = a.output
  size : a.heap.size ≤ W.heap.size
  block : ∀ k, k < a.heap.size → k ≠ r → k ≠ s → W.heap[k]? = a.heap[k]?
theorem Apart2.refl (r s : Nat) (a : World) : Apart2 r s a a := ⟨rfl, rfl, rfl, Nat.le_refl _, fun _ _ _ _ => rfl⟩
theorem Apart2.drew {r s : Nat} {a W : World} (h : Apart2 r s a W) : Apart2 r s a W.drew := ⟨h.os, h.tape, h.output, h.size, h.block⟩
theorem Apart2.trans {r s : Nat} {a b c : World} (h : Apart2 r s a b) (k : Apart2 r s b c) : Apart2 r s a c :=
  ⟨k.os.trans h.os, k.tape.trans h.tape, k.output.trans h.output, Nat.le_trans h.size k.size, fun i hi h1 h2 => (k.block i (Nat.lt_of_lt_of_le hi h.size) h1 h2).trans (h.block i hi h1 h2)⟩
theorem Apart2.call {r s : Nat} {a W W' : World} (h : Apart2 r s a W) (k : Below W.heap.size W W') : Apart2 r s a W' :=
  h.trans ⟨k.os, k.tape, k.output, k.size, fun i hi _ _ => k.block i hi⟩
theorem Apart2.one {r s : Nat} {a W W' : World} (h : Apart2 r s a W) (k : Apart s W W') : Apart2 r s a W' :=
  h.trans ⟨k.os, k.tape, k.output, k.size, fun i hi _ h2 => k.block i hi h2⟩
theorem Apart2.set {r s : Nat} {a W : World} (h : Apart2 r s a W) {p : Addr} (hp : p.block = r ∨ p.block = s) (u : Value) : Apart2 r s a (W.setCell p u) :=
  h.trans ⟨rfl, rfl, rfl, by simp [World.setCell], fun i _ h1 h2 => Below.heap_setCell _ _ _ _ (by rcases hp with e | e <;> omega)⟩
theorem Apart2.below {r s : Nat} {w a W : World} (hw : Below w.heap.size w a) (hr : w.heap.size ≤ r) (hs : w.heap.size ≤ s) (h : Apart2 r s a W) : Below w.heap.size w W :=
  ⟨h.os.trans hw.os, h.tape.trans hw.tape, h.output.trans hw.output, Nat.le_trans hw.size h.size, fun k hk => (h.block k (Nat.lt_of_lt_of_le hk hw.size) (by omega) (by omega)).trans (hw.block k hk)⟩
theorem Apart2.cell {r s : Nat} {a W : World} (h : Apart2 r s a W) {b j : Nat} {v : Value} (hr : b ≠ r) (hs : b ≠ s) (hc : a.cell? ⟨b, j, none⟩ = some v) : W.cell? ⟨b, j, none⟩ = some v :=
  (World.cell?_of_block (w := a) (a := ⟨b, j, none⟩) (h.block b (World.block_lt_of_cell? a ⟨b, j, none⟩ hc) hr hs)).trans hc

end Go.Proofs.Ytkkaicneabkkdaa

namespace Go.Proofs.Ytkkaicneabkkdaa
open Go.RowKit

set_option maxRecDepth 20000 in
set_option maxHeartbeats 400000 in
theorem implInverse_any (a p : Int) (w : World) (hp : isP p = true) (h3 : 0 ≤ a) (h4 : a ≤ 1099511627776) :
    Calls Try.prog 99 #[.int .i64 p, .int .i64 a] w fun e w' => e = .returned (.int .i64 (inv p a)) ∧ w = w' := by
  have hr := isP_range hp
  obtain ⟨n, rfl⟩ := Int.eq_ofNat_of_zero_le (by omega : 0 ≤ p)
  obtain ⟨m, rfl⟩ := Int.eq_ofNat_of_zero_le h3
  have hn := isP_ne hp
  have HE := Lib.hid (inv_cast n m)
  clear hp hr
  go_enter Try.func99, Try.ntmps99
  go_wp2
  go_loop [5, 7] (fun _ d => ∃ k : Nat, k ≤ n ∧ d = .int .i64 k ∧ NoYes (fun b => m * b % n == 1) k) (fun _ d => n - (intOf d).toNat)
  case atStart => exact ⟨0, by omega, rfl, NoYes.start _⟩
  case round =>
    obtain ⟨k, hk, rfl, hd⟩ := hrel
    by_cases hlt : k < n
    · have hb1 : 0 ≤ (m : Int) * k := Int.mul_nonneg (by omega) (by omega)
      have hb2 : (m : Int) * k ≤ 1099511627776 * 31 := Int.mul_le_mul (by omega) (by omega) (by omega) (by omega)
      have ec : ((m * k % n : Nat) : Int) = (m : Int) * k % n := by simp
      by_cases ht : m * k % n = 1
      · have ht' : ((m : Int) * k % n == 1) = true := by rw [beq_iff_eq]; omega
        have H := Lib.hid (find_some (f := fun b => m * b % n == 1) hd hlt (by simpa using ht))
        clear ht ec
        go_wp2
        go_ret
        exact ⟨ret_int (by rw [HE.out, invN, H.out]; rfl), rfl⟩
      · have ht' : ((m : Int) * k % n == 1) = false := by rw [beq_eq_false_iff_ne]; omega
        have H := Lib.hid (hd.next (by simpa using ht))
        clear ht ec
        go_wp2
        go_round
        case rel => exact ⟨k + 1, by omega, by go_num, H.out⟩
        case measure => simp [intOf]; omega
    · have H := Lib.hid (find_none (n := n) hd (by omega))
      go_wp2
      go_ret
      exact ⟨ret_int (by rw [HE.out, invN, H.out]; rfl), rfl⟩

end Go.Proofs.Ytkkaicneabkkdaa

namespace Go.Proofs.Ytkkaicneabkkdaa
open Go.RowKit

set_option maxRecDepth 20000 in
set_option maxHeartbeats 400000 in
theorem rest_any (p x : Int) (w : World) (h1 : 1 ≤ p) (h2 : p ≤ 2147483648) (h3 : -1099511627776 ≤ x) (h4 : x ≤ 1099511627776) :
    Calls Try.prog 83 #[.int .i64 p, .int .i64 x] w fun e w' => e = .returned (.int .i64 (x % p)) ∧ w = w' := by
  have hb := tmod_bounds x p h1
  have hb1 : -p < x.tmod p := hb.1
  have hb2 : x.tmod p < p := hb.2
  clear hb
  have H := Lib.hid (by rw [← mod_twice x p, Int.add_emod_right] : x.tmod p % p = x % p)
  by_cases hx : 0 ≤ x
  · have hx1 : 0 ≤ x % p := Int.emod_nonneg _ (by omega)
    have hx2 : x % p < p := Int.emod_lt_of_pos _ (by omega)
    clear H hb1 hb2
    go_enter Try.func83, Try.ntmps83
    go_wp2
    go_ret
    exact ⟨ret_int (by simp), rfl⟩
  · go_enter Try.func83, Try.ntmps83
    go_wp2
    go_ret
    exact ⟨ret_int H.out, rfl⟩

end Go.Proofs.Ytkkaicneabkkdaa

namespace Go.Proofs.Ytkkaicneabkkdaa
open Go.RowKit

/-- The row scaled up to column k; the rows below i0, and row i0 up to column k, cleared. -/
def scl (p : Int) (M : Nat → Nat → Int) (at_ c k i j : Nat) : Int := if i = at_ ∧ j < k then ldr p M at_ c j else M i j
def elm (p : Int) (M : Nat → Nat → Int) (at_ c i0 k i j : Nat) : Int := if i = at_ then ldr p M at_ c j else if i < i0 ∨ (i = i0 ∧ j < k) then (M i j - M i c * ldr p M at_ c j) % p else M i j

set_option linter.unusedVariables false in
set_option maxRecDepth 20000 in
set_option maxHeartbeats 4000000 in
theorem makeLeading_any (p : Int) (N m R B cap at_ c : Nat) (o : Nat → Nat) (M : Nat → Nat → Int) (w : World) (hp : isP p = true) (hL : LayM w R B N m o M) (hat : at_ < N) (hc : c < m) (hN : N ≤ 8) (hm : m ≤ 8)
    (hrng : ∀ i j, i < N → j < m → 0 ≤ M i j ∧ M i j < p) :
    Calls Try.prog 79 #[.int .i64 p, .slice (some ⟨R, 0, none⟩) N cap, .int .i64 at_, .int .i64 c] w fun e w' => (∃ v, e = .returned v) ∧ LayM w' R B N m o (ml p M at_ c) ∧ Apart B w w' := by
  have hr := isP_range hp
  have hpos : p ≠ 0 := by omega
  have hh := hL.head at_ hat
  have hpv := hL.num at_ c hat hc
  have hia : (0 : Int) ≤ (at_ : Int) ∧ (at_ : Int) < (N : Int) := by omega
  have hic : (0 : Int) ≤ (c : Int) ∧ (c : Int) < (m : Int) := by omega
  obtain ⟨x, hx⟩ : ∃ x, x = M at_ c := ⟨_, rfl⟩
  have rx := hrng at_ c hat hc
  rw [← hx] at hpv rx
  obtain ⟨d, hd⟩ : ∃ d, d = inv p x := ⟨_, rfl⟩
  have rd := inv_range x hp
  rw [← hd] at rd
  have HLD := Lib.hid (show ∀ j, ldr p M at_ c j = M at_ j * d % p from fun j => by rw [hd, hx]; rfl)
  have HD := Lib.hid hd
  have HX := Lib.hid hx
  clear hd hx
  have HRG := Lib.hid hrng
  clear hrng
  have rl : ∀ j, 0 ≤ ldr p M at_ c j ∧ ldr p M at_ c j < p := fun j => modR _ hp
  have HRL := Lib.hid rl
  clear rl
  have HL0 := Lib.hid (show LayM w R B N m o (scl p M at_ c 0) from hL.congr fun i j _ _ => by rw [scl, if_neg (by omega)])
  clear hL
  go_enter Try.func79, Try.ntmps79
  go_wp2_with fail
  refine Calls.mono (implInverse_any _ _ _ hp (by omega) (by omega)) ?_
  rw [← HD.out]
  rintro e w' ⟨rfl, rfl⟩
  go_wp2_with fail
  go_loopw [10, 11, 29] (fun _ _ i wr => ∃ k : Nat, k ≤ m ∧ i = .int .i64 k ∧ LayM wr R B N m o (scl p M at_ c k) ∧ Apart B w wr) (fun _ _ i _ => m - (intOf i).toNat)
  case atStart => exact ⟨0, by omega, rfl, HL0.out, Apart.refl _ _⟩
  case round =>
    obtain ⟨k, hk, rfl, hL, hap⟩ := hrel
    by_cases hlt : k < m
    · have hkm : (k : Int) < (m : Int) := by omega
      have hik : (0 : Int) ≤ (k : Int) ∧ (k : Int) < (m : Int) := by omega
      have hv := hL.num at_ k hat hlt
      have hf := hL.nfz at_ k hat hlt
      rw [scl, if_neg (by omega)] at hv
      have ry := HRG.out at_ k hat hlt
      have hl := HLD.out k
      have hS := hL.set hat hlt (ldr p M at_ c k)
      have HS := Lib.hid (hS.congr (M' := scl p M at_ c (k + 1)) fun i j _ _ => by
        unfold upd scl
        by_cases e : i = at_ ∧ j = k
        · obtain ⟨rfl, rfl⟩ := e
          rw [if_pos ⟨rfl, rfl⟩, if_pos ⟨rfl, by omega⟩]
        · rw [if_neg e]
          by_cases e2 : i = at_ ∧ j < k
          · rw [if_pos e2, if_pos ⟨e2.1, by omega⟩]
          · rw [if_neg e2, if_neg (fun e3 => by rcases Nat.lt_or_ge j k with q | q; exact e2 ⟨e3.1, q⟩; exact e ⟨e3.1, by omega⟩)])
      have HA := Lib.hid (hap.set (o at_ + k) (.int .i64 (ldr p M at_ c k)))
      clear hS hL hap
      rw [hl] at HS HA
      obtain ⟨y, hy⟩ : ∃ y, y = M at_ k := ⟨_, rfl⟩
      rw [← hy] at hv ry HS HA
      have mu := mulNN 30 30 900 (by decide) (a := y) (b := d) (by omega) (by omega)
      have d_1 := modR (y * d) hp
      clear hy hl
      go_wp2
      go_roundw
      case rel => exact ⟨k + 1, by omega, by go_num, HS.out, HA.out⟩
      case measure => simp [intOf]; omega
    · obtain rfl : k = m := by omega
      have HL1 := Lib.hid (show LayM wr R B N k o (elm p M at_ c 0 0) from hL.congr fun i j _ hj => by
        unfold scl elm
        by_cases e : i = at_
        · rw [if_pos ⟨e, hj⟩, if_pos e]
        · rw [if_neg (fun q => e q.1), if_neg e, if_neg (by omega)])
      have HAP := Lib.hid hap
      clear hL hap
      obtain ⟨w1, hw1⟩ : ∃ w1, w1 = wr := ⟨_, rfl⟩
      rw [← hw1] at HL1 HAP ⊢
      clear hw1
      have hh1 := HL1.out.head at_ hat
      go_wp2_with fail
      go_loopw [12, 13, 14, 15, 16, 45] (fun _ _ _ _ _ i wr => ∃ i0 : Nat, i0 ≤ N ∧ i = .int .i64 i0 ∧ LayM wr R B N k o (elm p M at_ c i0 0) ∧ Apart B w wr) (fun _ _ _ _ _ i _ => N - (intOf i).toNat)
      case atStart => exact ⟨0, by omega, rfl, HL1.out, HAP.out⟩
      case round =>
        obtain ⟨i0, hi0, rfl, hL, hap⟩ := hrel
        by_cases hlt2 : i0 < N
        · have hii : (0 : Int) ≤ (i0 : Int) ∧ (i0 : Int) < (N : Int) := by omega
          have hhi := hL.head i0 hlt2
          by_cases he : i0 = at_
          · subst he
            have HN := Lib.hid (show LayM wr R B N k o (elm p M i0 c (i0 + 1) 0) from hL.congr fun i j _ _ => by
              unfold elm
              by_cases e : i = i0
              · rw [if_pos e, if_pos e]
              · rw [if_neg e, if_neg e]
                by_cases e2 : i < i0
                · rw [if_pos (.inl e2), if_pos (.inl (by omega))]
                · rw [if_neg (by omega), if_neg (by omega)])
            clear hL
            go_wp2
            go_roundw
            case rel => exact ⟨i0 + 1, by omega, by go_num, HN.out, hap⟩
            case measure => simp [intOf]; omega
          · have hne : ((i0 : Int) == (at_ : Int)) = false := by rw [beq_eq_false_iff_ne]; omega
            have hneq : ¬ ((i0 : Int) = (at_ : Int)) := by omega
            have ht := hL.num i0 c hlt2 hc
            rw [elm, if_neg he, if_neg (by omega)] at ht
            have rt := HRG.out i0 c hlt2 hc
            obtain ⟨t, htt⟩ : ∃ t, t = M i0 c := ⟨_, rfl⟩
            rw [← htt] at ht rt
            have HT := Lib.hid htt
            clear htt
            obtain ⟨wo, rfl⟩ : ∃ wo : World, wo = wr := ⟨_, rfl⟩
            go_wp2_with fail
            go_loopw [15, 16, 59] (fun _ _ j wr => ∃ j0 : Nat, j0 ≤ k ∧ j = .int .i64 j0 ∧ LayM wr R B N k o (elm p M at_ c i0 j0) ∧ Apart B w wr) (fun _ _ j _ => k - (intOf j).toNat)
            case atStart => exact ⟨0, by omega, rfl, hL, hap⟩
            case round =>
              obtain ⟨j0, hj0, rfl, hL, hap⟩ := hrel
              by_cases hlt3 : j0 < k
              · have hij : (0 : Int) ≤ (j0 : Int) ∧ (j0 : Int) < (k : Int) := by omega
                have hv := hL.num i0 j0 hlt2 hlt3
                have hf := hL.nfz i0 j0 hlt2 hlt3
                have hv2 := hL.num at_ j0 hat hlt3
                rw [elm, if_neg he, if_neg (by omega)] at hv
                rw [elm, if_pos rfl] at hv2
                have ry := HRG.out i0 j0 hlt2 hlt3
                have rz := HRL.out j0
                have hS := hL.set hlt2 hlt3 ((M i0 j0 - M i0 c * ldr p M at_ c j0) % p)
                have HS := Lib.hid (hS.congr (M' := elm p M at_ c i0 (j0 + 1)) fun i j _ _ => by
                  unfold upd elm
                  by_cases e : i = i0 ∧ j = j0
                  · obtain ⟨rfl, rfl⟩ := e
                    rw [if_pos ⟨rfl, rfl⟩, if_neg he, if_pos (.inr ⟨rfl, by omega⟩)]
                  · rw [if_neg e]
                    by_cases e2 : i = at_
                    · rw [if_pos e2, if_pos e2]
                    · rw [if_neg e2, if_neg e2]
                      by_cases e3 : i < i0 ∨ (i = i0 ∧ j < j0)
                      · rw [if_pos e3, if_pos (by omega)]
                      · rw [if_neg e3, if_neg (by omega)])
                have HA := Lib.hid (hap.set (o i0 + j0) (.int .i64 ((M i0 j0 - M i0 c * ldr p M at_ c j0) % p)))
                clear hS hL hap
                rw [← HT.out] at HS HA
                obtain ⟨y, hy⟩ : ∃ y, y = M i0 j0 := ⟨_, rfl⟩
                obtain ⟨z, hz⟩ : ∃ z, z = ldr p M at_ c j0 := ⟨_, rfl⟩
                rw [← hz] at hv2 rz HS HA
                rw [← hy] at hv ry HS HA
                have mu := mulNN 30 30 900 (by decide) (a := t) (b := z) (by omega) (by omega)
                clear hy hz
                go_wp2_with fail
                refine Calls.mono (rest_any _ _ _ (by omega) (by omega) (by omega) (by omega)) ?_
                rintro e w' ⟨rfl, rfl⟩
                go_wp2
                go_roundw
                case rel => exact ⟨j0 + 1, by omega, by go_num, HS.out, HA.out⟩
                case measure => simp [intOf]; omega
              · obtain rfl : j0 = k := by omega
                have HN := Lib.hid (show LayM wr R B N j0 o (elm p M at_ c (i0 + 1) 0) from hL.congr fun i j _ hj => by
                  unfold elm
                  by_cases e : i = at_
                  · rw [if_pos e, if_pos e]
                  · rw [if_neg e, if_neg e]
                    by_cases e2 : i < i0 ∨ (i = i0 ∧ j < j0)
                    · rw [if_pos e2, if_pos (by omega)]
                    · rw [if_neg e2, if_neg (by omega)])
                clear hL
                go_wp2
                go_roundw
                case rel => exact ⟨i0 + 1, by omega, by go_num, HN.out, hap⟩
                case measure => simp [intOf]; omega
        · obtain rfl : i0 = N := by omega
          have HN := Lib.hid (show LayM wr R B i0 k o (ml p M at_ c) from hL.congr fun i j hi _ => by
            unfold elm ml
            by_cases e : i = at_
            · rw [if_pos e, if_pos e]
            · rw [if_neg e, if_neg e, if_pos (.inl hi)])
          clear hL
          go_wp2
          go_end0
          exact ⟨⟨_, rfl⟩, HN.out, hap⟩

end Go.Proofs.Ytkkaicneabkkdaa

namespace Go.Proofs.Ytkkaicneabkkdaa
open Go.RowKit

set_option linter.unusedVariables false in
set_option maxRecDepth 20000 in
set_option maxHeartbeats 1000000 in
theorem solveClo_any (B o m C c : Nat) (x : Int) (w : World) (hc : c < m) (hm : m ≤ 8) (h : w.cell? ⟨B, o + c, none⟩ = some (.int .i64 x)) (hC : w.cell? ⟨C, 0, none⟩ = some (.int .i64 c)) :
    Calls Try.prog 78 #[.slice (some ⟨B, o, none⟩) m m, .pointer (some ⟨C, 0, none⟩)] w fun e w' => e = .returned (.bool (x != 0)) ∧ w = w' := by
  have hic : (0 : Int) ≤ (c : Int) ∧ (c : Int) < (m : Int) := by omega
  go_enter Try.func78, Try.ntmps78
  go_wp2
  go_ret
  exact ⟨rfl, rfl⟩
/-- What the search for a row answers. -/
def FoundRow (M : Nat → Nat → Int) (r q c : Nat) (e : Ending) : Prop :=
  (∃ a, a < q ∧ M (r + a) c ≠ 0 ∧ e = .returned (.int .i64 (a : Int))) ∨ ((∀ a, a < q → M (r + a) c = 0) ∧ e = .returned (.int .i64 (-1)))
set_option linter.unusedVariables false in
set_option maxRecDepth 20000 in
set_option maxHeartbeats 2000000 in
theorem indexRow_any (R B N m C c r q cap : Nat) (o : Nat → Nat) (M : Nat → Nat → Int) (w : World) (hL : LayM w R B N m o M) (hq : r + q = N) (hc : c < m) (hN : N ≤ 8) (hm : m ≤ 8) (hC : w.cell? ⟨C, 0, none⟩ = some (.int .i64 c)) :
    Calls Try.prog 77 #[.slice (some ⟨R, r, none⟩) q cap, .func (.func 78) #[] #[.pointer (some ⟨C, 0, none⟩)]] w fun e w' => FoundRow M r q c e ∧ w = w' := by
  have HL := Lib.hid hL
  clear hL
  go_enter Try.func77, Try.ntmps77
  go_wp2
  go_loop [5, 8] (fun _ i => ∃ k : Nat, k ≤ q ∧ i = .int .i64 k ∧ ∀ a, a < k → M (r + a) c = 0) (fun _ i => q - (intOf i).toNat)
  case atStart => exact ⟨0, by omega, rfl, fun a ha => by omega⟩
  case round =>
    obtain ⟨k, hk, rfl, hz⟩ := hrel
    have HZ := Lib.hid hz
    clear hz
    by_cases hlt : k < q
    · have hik : (0 : Int) ≤ (k : Int) ∧ (k : Int) < (q : Int) := by omega
      have hkq : (k : Int) < (q : Int) := by omega
      have hh := HL.out.head (r + k) (by omega)
      have hcl2 := solveClo_any B (o (r + k)) m C c (M (r + k) c) w hc hm (HL.out.num (r + k) c (by omega) hc) hC
      obtain ⟨x, hx⟩ : ∃ x, x = M (r + k) c := ⟨_, rfl⟩
      rw [← hx] at hcl2
      have HX := Lib.hid hx
      clear hx
      go_wp2_with fail
      refine Calls.mono hcl2 ?_
      rintro e w' ⟨rfl, rfl⟩
      clear hcl2
      by_cases h0 : x = 0
      · have hb : (x != 0) = false := by rw [h0]; rfl
        rw [hb]
        go_wp2
        go_round
        case rel => exact ⟨k + 1, by omega, by go_num, fun a ha => by
          by_cases e : a = k
          · subst e; rw [← HX.out]; exact h0
          · exact HZ.out a (by omega)⟩
        case measure => simp [intOf]; omega
      · have hb : (x != 0) = true := by simpa using h0
        rw [hb]
        go_wp2
        go_ret
        exact ⟨.inl ⟨k, hlt, by rw [← HX.out]; exact h0, rfl⟩, rfl⟩
    · obtain rfl : k = q := by omega
      go_wp2
      go_ret
      exact ⟨.inr ⟨HZ.out, rfl⟩, rfl⟩

end Go.Proofs.Ytkkaicneabkkdaa

namespace Go.Proofs.Ytkkaicneabkkdaa
open Go.RowKit

/-- The list of n numbers that a function tells. -/
def tab (n : Nat) (f : Nat → Int) : List Int := (List.range n).map f
theorem tab_length (n : Nat) (f : Nat → Int) : (tab n f).length = n := by simp [tab]
theorem tab_congr {n : Nat} {f g : Nat → Int} (h : ∀ i, i < n → f i = g i) : tab n f = tab n g := List.map_congr_left fun i hi => h i (List.mem_range.1 hi)
theorem tab_getD {n i : Nat} (f : Nat → Int) (h : i < n) : (tab n f).getD i 0 = f i := by
  simp [tab, List.getD_eq_getElem?_getD, List.getElem?_map, List.getElem?_range h]
theorem tab_set {n k : Nat} (f : Nat → Int) (x : Int) : (tab n f).set k x = tab n (fun i => if i = k then x else f i) := by
  apply List.ext_getElem
  · simp [tab]
  · intro i h1 h2
    rw [List.getElem_set]
    by_cases e : k = i
    · subst e; simp [tab]
    · have e2 : ¬ i = k := fun h => e h.symm
      simp [tab, e, e2]
theorem ints_set' (L : List Int) (i : Nat) (x : Int) : (ints L).set i (.int .i64 x) = ints (L.set i x) := by simp [ints, List.map_set]
/-- A list told by a function, one place turned: told by another function that agrees. -/
theorem tab_step {n k : Nat} {f g : Nat → Int} {x : Int} (h : ∀ i, i < n → g i = if i = k then x else f i) : (ints (tab n f)).set k (.int .i64 x) = ints (tab n g) := by
  rw [ints_set', tab_set, ← tab_congr h]

/-- The coefficients of S(j) and S(j + 1). -/
def cfp (p : Int) : Nat → (Nat → Int) × (Nat → Int)
  | 0 => (fun _ => 0, fun i => if i = 1 then 1 else 0)
  | j + 1 => ((cfp p j).2, fun i => (2 * (cfp p j).2 i - (cfp p j).1 i + (if i = 1 then 2 else 0) - (if i = 0 then 0 else 4 * (cfp p j).2 (i - 1))) % p)
theorem cfp_r {p : Int} (hp : isP p = true) (j i : Nat) : (0 ≤ (cfp p j).1 i ∧ (cfp p j).1 i < p) ∧ (0 ≤ (cfp p j).2 i ∧ (cfp p j).2 i < p) := by
  have hr := isP_range hp
  induction j generalizing i with
  | zero =>
    refine ⟨⟨Int.le_refl _, by show (0 : Int) < p; omega⟩, ?_⟩
    show 0 ≤ (if i = 1 then (1 : Int) else 0) ∧ (if i = 1 then (1 : Int) else 0) < p
    split <;> omega
  | succ j ih => exact ⟨(ih i).2, Int.emod_nonneg _ (by omega), Int.emod_lt_of_pos _ (by omega)⟩
theorem cfp_out (p : Int) (j : Nat) : (∀ i, j < i → (cfp p j).1 i = 0) ∧ (∀ i, j + 1 < i → (cfp p j).2 i = 0) := by
  induction j with
  | zero => exact ⟨fun _ _ => rfl, fun i hi => if_neg (by omega)⟩
  | succ j ih =>
    refine ⟨fun i hi => ih.2 i (by omega), fun i hi => ?_⟩
    show (2 * (cfp p j).2 i - (cfp p j).1 i + (if i = 1 then 2 else 0) - (if i = 0 then 0 else 4 * (cfp p j).2 (i - 1))) % p = 0
    rw [ih.2 i (by omega), ih.1 i (by omega), ih.2 (i - 1) (by omega), if_neg (by omega), if_neg (by omega)]
    simp
/-- The program's list behind its first loop's k-th round. -/
def s1 (g : Nat → Int) (k i : Nat) : Int := (if i = 1 then 2 else 0) + (if i < k then 2 * g i else 0) - (if 1 ≤ i ∧ i < k + 1 then 4 * g (i - 1) else 0)
theorem s1_r {g : Nat → Int} (h : ∀ i, 0 ≤ g i ∧ g i ≤ 31) (k i : Nat) : -124 ≤ s1 g k i ∧ s1 g k i ≤ 64 := by
  have h1 := h i
  have h2 := h (i - 1)
  unfold s1
  split <;> split <;> split <;> omega
theorem s1_zero (g : Nat → Int) (i : Nat) : s1 g 0 i = if i = 1 then 2 else 0 := by
  unfold s1
  rw [if_neg (show ¬ i < 0 by omega), if_neg (show ¬ (1 ≤ i ∧ i < 0 + 1) by omega)]
  omega
theorem s1_step (g : Nat → Int) (k i : Nat) : s1 g (k + 1) i = if i = k + 1 then (if k + 1 = k then 0 else s1 g k (k + 1)) - 4 * g k else (if i = k then s1 g k k + 2 * g k else s1 g k i) := by
  by_cases h1 : i = k + 1
  · subst h1
    rw [if_pos rfl, if_neg (by omega)]
    unfold s1
    rw [if_neg (show ¬ k + 1 < k + 1 by omega), if_neg (show ¬ k + 1 < k by omega), if_pos (show 1 ≤ k + 1 ∧ k + 1 < k + 1 + 1 by omega), if_neg (show ¬ (1 ≤ k + 1 ∧ k + 1 < k + 1) by omega), show k + 1 - 1 = k by omega]
    omega
  · rw [if_neg h1]
    by_cases h2 : i = k
    · subst h2
      rw [if_pos rfl]
      unfold s1
      rw [if_pos (show i < i + 1 by omega), if_neg (show ¬ i < i by omega)]
      by_cases h3 : 1 ≤ i
      · rw [if_pos (show 1 ≤ i ∧ i < i + 1 + 1 by omega), if_pos (show 1 ≤ i ∧ i < i + 1 by omega)]; omega
      · rw [if_neg (show ¬ (1 ≤ i ∧ i < i + 1 + 1) by omega), if_neg (show ¬ (1 ≤ i ∧ i < i + 1) by omega)]; omega
    · rw [if_neg h2]
      unfold s1
      have e1 : (i < k + 1) = (i < k) := by simp; omega
      have e2 : (1 ≤ i ∧ i < k + 1 + 1) = (1 ≤ i ∧ i < k + 1) := by simp; omega
      simp only [e1, e2]
/-- .. its second loop's. -/
def s2 (g f : Nat → Int) (la k i : Nat) : Int := s1 g la i - (if i < k then f i else 0)
theorem s2_r {g f : Nat → Int} (h : ∀ i, 0 ≤ g i ∧ g i ≤ 31) (hf : ∀ i, 0 ≤ f i ∧ f i ≤ 31) (la k i : Nat) : -155 ≤ s2 g f la k i ∧ s2 g f la k i ≤ 64 := by
  have h1 := s1_r h la i
  have h2 := hf i
  unfold s2
  split <;> omega
theorem s2_step (g f : Nat → Int) (la k i : Nat) : s2 g f la (k + 1) i = if i = k then s2 g f la k k - f k else s2 g f la k i := by
  unfold s2
  by_cases h : i = k
  · subst h; rw [if_pos rfl, if_pos (by omega), if_neg (by omega)]; omega
  · rw [if_neg h]
    have e1 : (i < k + 1) = (i < k) := by simp; omega
    simp only [e1]
/-- .. its third loop's. -/
def s3 (p : Int) (h : Nat → Int) (k i : Nat) : Int := if i < k then h i % p else h i
theorem s3_step (p : Int) (h : Nat → Int) (k i : Nat) : s3 p h (k + 1) i = if i = k then h k % p else s3 p h k i := by
  unfold s3
  by_cases e : i = k
  · subst e; rw [if_pos (by omega), if_pos rfl]
  · rw [if_neg e]
    have e1 : (i < k + 1) = (i < k) := by simp; omega
    simp only [e1]
/-- What the three loops make of S(j) and S(j + 1). -/
theorem s2_next (p : Int) (j i : Nat) : s2 (cfp p j).2 (cfp p j).1 (j + 2) (j + 1) i % p = (cfp p (j + 1)).2 i := by
  have ho := cfp_out p j
  show _ = (2 * (cfp p j).2 i - (cfp p j).1 i + (if i = 1 then 2 else 0) - (if i = 0 then 0 else 4 * (cfp p j).2 (i - 1))) % p
  congr 1
  unfold s2 s1
  have e1 : (if i < j + 1 then (cfp p j).1 i else 0) = (cfp p j).1 i := by
    split
    · rfl
    · exact (ho.1 i (by omega)).symm
  have e2 : (if i < j + 2 then 2 * (cfp p j).2 i else 0) = 2 * (cfp p j).2 i := by
    split
    · rfl
    · rw [ho.2 i (by omega)]; rfl
  have e3 : (if 1 ≤ i ∧ i < j + 2 + 1 then 4 * (cfp p j).2 (i - 1) else 0) = (if i = 0 then 0 else 4 * (cfp p j).2 (i - 1)) := by
    by_cases h0 : i = 0
    · rw [if_pos h0, if_neg (by omega)]
    · rw [if_neg h0]
      by_cases h1 : i < j + 2 + 1
      · rw [if_pos (by omega)]
      · rw [if_neg (by omega), ho.2 (i - 1) (by omega)]; rfl
  rw [e1, e2, e3]
  omega
/-- The coefficients of S(n). -/
def coL (p : Int) (n : Nat) : List Int := tab (n + 1) (cfp p n).1

end Go.Proofs.Ytkkaicneabkkdaa

namespace Go.Proofs.Ytkkaicneabkkdaa
open Go.RowKit

/-- The numbers below k that a test takes. -/
def upTo (f : Int → Bool) (k : Nat) : List Int := ((List.range k).filter fun t : Nat => f (t : Int)).map fun t : Nat => (t : Int)
theorem upTo_yes {f : Int → Bool} {k : Nat} (h : f k = true) : upTo f (k + 1) = upTo f k ++ [(k : Int)] := by simp [upTo, List.range_succ, List.filter_append, h]
theorem upTo_no {f : Int → Bool} {k : Nat} (h : f k = false) : upTo f (k + 1) = upTo f k := by simp [upTo, List.range_succ, List.filter_append, h]
theorem upTo_le (f : Int → Bool) (k : Nat) : (upTo f k).length ≤ k := by
  have := List.length_filter_le (fun t : Nat => f (t : Int)) (List.range k)
  simpa [upTo] using this
theorem infoInt1 : (Try.prog.info? 2).map (fun i => (i.zero, i.size, i.bytes)) = some (some (.int .i64 0), 1, 8) := by kernel_rfl
/-- A slice of numbers to which a number is appended. -/
theorem own_snoc {w : World} {base : Nat} {e : TypeId} {v : Value} {n m : Nat} {xs : List Int} {y : Int} (h : w.ownsRow base e 1 v n (ints xs ++ [.int .i64 y])) (hm : n = m) : w.ownsRow base e 1 v m (ints (xs ++ [y])) := by
  subst hm; rw [ints_append]; exact h
theorem own_lit0 (w : World) {base b : Nat} (e : TypeId) (k : Nat) (hb : base ≤ w.heap.size) (hq : b = w.heap.size) : (w.alloc (.cells #[] e)).ownsRow base e k (.slice (some ⟨b, 0, none⟩) 0 0) 0 (ints []) := by
  subst hq; exact World.ownsRow_lit w #[] 0 hb (by decide) (by simp)
theorem int_oneCell (y : Int) : ∀ u ∈ [Value.int .i64 y], u.oneCell' = true := by
  intro u hu; simp at hu; subst hu; rfl
end Go.Proofs.Ytkkaicneabkkdaa

namespace Go.Proofs.Ytkkaicneabkkdaa
open Go.RowKit

theorem bfromdrew {W w' : World} (h : Below W.drew.heap.size W.drew w') : Below W.heap.size W w' := ⟨h.os, h.tape, h.output, h.size, h.block⟩

end Go.Proofs.Ytkkaicneabkkdaa

namespace Go.Proofs.Ytkkaicneabkkdaa
open Go.RowKit

theorem infoInt3 : (Try.prog.info? 3).map (fun i => (i.zero, i.size, i.bytes)) = some (some (.int .i64 0), 1, 8) := by kernel_rfl
theorem apart_grown {r : Nat} {W W' : World} (h : Apart r W W') : W.grownBy W' (some r) := ⟨h.os, h.tape, h.output, h.size, fun k hk hne => h.block k hk (fun e => hne (by rw [e]))⟩
theorem setCell_grown (W : World) (a : Addr) (v : Value) : W.grownBy (W.setCell a v) (some a.block) := ⟨rfl, rfl, rfl, by simp [World.setCell], fun k _ h => Below.heap_setCell W a v k (fun e => h (by rw [e]))⟩
/-- The columns that lead, in order. -/
def nxt (L : Nat → Nat) (r c k : Nat) : Nat := if k = r then c else L k
theorem tab_nxt (L : Nat → Nat) (r c : Nat) : ints (tab (r + 1) fun k => (nxt L r c k : Int)) = ints (tab r fun k => (L k : Int)) ++ [.int .i64 (c : Int)] := by
  have : tab (r + 1) (fun k => (nxt L r c k : Int)) = tab r (fun k => (L k : Int)) ++ [(c : Int)] := by
    unfold tab
    rw [List.range_succ, List.map_append]
    congr 1
    · exact List.map_congr_left fun k hk => by have := List.mem_range.1 hk; rw [nxt, if_neg (by omega)]
    · simp [nxt]
  rw [this, ints_append]; rfl
/-- A state of the machine: r columns lead, those below c are done. -/
structure Mach (n : Nat) [NeZero n] (R B N m : Nat) (M0 : Nat → Nat → Int) (w : World) (la : Option Addr) (r lc c : Nat) (L : Nat → Nat) (o : Nat → Nat) (M : Nat → Nat → Int) (W : World) : Prop where
  row : W.ownsRow (w.heap.size + 1) 3 1 (.slice la r lc) r (ints (tab r fun k => (L k : Int)))
  lay : LayM W R B N m o M
  rrf : Rrf (n : Int) N m M L r c
  sol : ∀ v : Nat → Fin n, Sol n N m M v ↔ Sol n N m M0 v
  apt : Apart2 R B w W
theorem Mach.call {n : Nat} [NeZero n] {R B N m : Nat} {M0 : Nat → Nat → Int} {w : World} {la : Option Addr} {r lc c : Nat} {L o : Nat → Nat} {M : Nat → Nat → Int} {W W' : World} (h : Mach n R B N m M0 w la r lc c L o M W) (hN : 0 < N) (hm : 0 < m) (hb : Below W.heap.size W W') : Mach n R B N m M0 w la r lc c L o M W' :=
  ⟨own_call h.row hb, h.lay.below hN hm hb, h.rrf, h.sol, h.apt.call hb⟩
theorem Mach.setCol {n : Nat} [NeZero n] {R B N m : Nat} {M0 : Nat → Nat → Int} {w : World} {la : Option Addr} {r lc c : Nat} {L o : Nat → Nat} {M : Nat → Nat → Int} {W : World} (h : Mach n R B N m M0 w la r lc c L o M W) (hR : R < w.heap.size) (hB : B < w.heap.size) (v : Value) : Mach n R B N m M0 w la r lc c L o M (W.setCell ⟨w.heap.size, 0, none⟩ v) :=
  ⟨h.row.kept (setCell_grown W ⟨w.heap.size, 0, none⟩ v) (.inr fun e => by have := (h.row.lt _ e).1; simp only at this; omega), h.lay.blocks (Below.heap_setCell _ _ _ _ (by show R ≠ w.heap.size; omega)) (Below.heap_setCell _ _ _ _ (by show B ≠ w.heap.size; omega)), h.rrf, h.sol,
   ⟨h.apt.os, h.apt.tape, h.apt.output, by simpa [World.setCell] using h.apt.size, fun k hk h1 h2 => (Below.heap_setCell _ _ _ _ (by show k ≠ w.heap.size; omega)).trans (h.apt.block k hk h1 h2)⟩⟩
/-- What impl.solve answers. -/
def Solved (n : Nat) [NeZero n] (R B N m : Nat) (M0 : Nat → Nat → Int) (w : World) (e : Ending) (w' : World) : Prop :=
  ∃ (la : Option Addr) (r lc : Nat) (L o : Nat → Nat) (M : Nat → Nat → Int), e = .returned (.slice la r lc) ∧ Mach n R B N m M0 w la r lc m L o M w'
theorem Rrf.full {p : Int} {N m : Nat} {M : Nat → Nat → Int} {L : Nat → Nat} {c : Nat} (h : Rrf p N m M L N c) : Rrf p N m M L N m :=
  ⟨h.rng, h.rN, Nat.le_refl _, fun k hk => Nat.lt_of_lt_of_le (h.up k hk) h.cm, h.inc, h.one, fun i j hi hN _ => by omega⟩
/-- The column at hand, and how far there is still to go. -/
def colOf (W : World) (C : Nat) : Nat := (intOf ((W.cell? ⟨C, 0, none⟩).getD undef)).toNat
theorem colOf_is {W : World} {C c : Nat} (h : W.cell? ⟨C, 0, none⟩ = some (.int .i64 (c : Int))) : colOf W C = c := by rw [colOf, h]; rfl
/-- At a label. -/
def AtLabel (n : Nat) [NeZero n] (R B N m cap : Nat) (M0 : Nat → Nat → Int) (w : World) (l : Nat) (a' : Act) (W : World) : Prop :=
  (l = 0 ∨ l = 1) ∧ ∃ (la : Option Addr) (r lc c : Nat) (L o : Nat → Nat) (M : Nat → Nat → Int) (u7 u8 u9 u10 u11 u12 u13 u14 u15 u16 u17 u18 u19 u20 u21 u22 u23 u24 u25 u26 u27 u28 u29 u30 u31 u32 u33 u34 u35 u36 u37 u38 u39 u40 u41 u42 u43 u44 u45 u46 u47 u48 u49 u50 u51 u52 u53 : Value),
    a' = { tmps := #[.int .i64 (n : Int), .slice (some ⟨R, 0, none⟩) N cap, undef, undef, .slice none 0 0, .slice la r lc, .pointer (some ⟨w.heap.size, 0, none⟩), u7, u8, u9, u10, u11, u12, u13, u14, u15, u16, u17, u18, u19, u20, u21, u22, u23, u24, u25, u26, u27, u28, u29, u30, u31, u32, u33, u34, u35, u36, u37, u38, u39, u40, u41, u42, u43, u44, u45, u46, u47, u48, u49, u50, u51, u52, u53], defers := [] } ∧ W.cell? ⟨w.heap.size, 0, none⟩ = some (.int .i64 (c : Int)) ∧ W.frozen? ⟨w.heap.size, 0, none⟩ = false ∧ (l = 1 → c < m) ∧
      Mach n R B N m M0 w la r lc (c + l) L o M W
def stepsLeft (m C l : Nat) (W : World) : Nat := 2 * m + 1 - 2 * colOf W C - l

set_option linter.unusedVariables false in
set_option linter.unusedSimpArgs false in
set_option maxRecDepth 20000 in
set_option maxHeartbeats 8000000 in
theorem solve_any (n N m R B cap : Nat) [NeZero n] (o0 : Nat → Nat) (M0 : Nat → Nat → Int) (w : World) (hp : isP (n : Int) = true) (hL : LayM w R B N m o0 M0) (hN : N ≤ 8) (hN0 : 0 < N) (hm : m ≤ 8) (hm0 : 0 < m) (hcap : N ≤ cap)
    (hrng : ∀ i j, i < N → j < m → 0 ≤ M0 i j ∧ M0 i j < (n : Int)) :
    Calls Try.prog 39 #[.int .i64 (n : Int), .slice (some ⟨R, 0, none⟩) N cap] w fun e w' => Solved n R B N m M0 w e w' := by
  have hr := isP_range hp
  obtain ⟨i0, hi, hz0, hz1, hz2⟩ := info_parts infoInt3
  have hlRB := hL.lt hN0 hm0
  have HST := Lib.hid (show Rrf (n : Int) N m M0 (fun _ => 0) 0 0 from Rrf.start _ hrng)
  clear hrng
  have HL := Lib.hid hL
  clear hL
  go_enter Try.func39, Try.ntmps39
  go_wp2_with fail
  refine wp_scope_two (AtLabel n R B N m cap M0 w) (fun l _ W => stepsLeft m w.heap.size l W) rfl rfl (fun l a W h => h.1) ?pass0 ?pass1 ?first
  case first =>
    intro hps
    have hJ0 : AtLabel n R B N m cap M0 w 0 { tmps := #[.int .i64 (n : Int), .slice (some ⟨R, 0, none⟩) N cap, undef, undef, .slice none 0 0, .slice none 0 0, .pointer (some ⟨w.heap.size, 0, none⟩), undef, undef, undef, undef, undef, undef, undef, undef, undef, undef, undef, undef, undef, undef, undef, undef, undef, undef, undef, undef, undef, undef, undef, undef, undef, undef, undef, undef, undef, undef, undef, undef, undef, undef, undef, undef, undef, undef, undef, undef, undef, undef, undef, undef, undef, undef, undef], defers := [] } (w.alloc (.cells #[.int .i64 0] 3)) := by
      refine ⟨.inl rfl, none, 0, 0, 0, (fun _ => 0), o0, M0, _, _, _, _, _, _, _, _, _, _, _, _, _, _, _, _, _, _, _, _, _, _, _, _, _, _, _, _, _, _, _, _, _, _, _, _, _, _, _, _, _, _, _, _, _, _, _, rfl, by (repeat (first | with_reducible assumption | ((with_reducible refine kfresh ?_ ?_) <;> (first | with_reducible rfl | (simp; done))) | ((with_reducible refine ksameS ?_); focus ((repeat (first | with_reducible exact kis_of (by with_reducible assumption) | with_reducible refine kis_set ?_ | ((with_reducible refine kis_new ?_ ?_) <;> (first | with_reducible rfl | rfl | (simp; done))) | with_reducible refine kis_alloc _ ?_ | with_reducible refine kis_drew ?_ | with_reducible refine kis_call (by with_reducible assumption) ?_ | with_reducible exact kis_of (kcall (by with_reducible assumption) (by with_reducible assumption)))); done)) | with_reducible refine kother (by decide) ?_ | with_reducible refine kset (by first | omega | (simp; done) | (simp; omega)) ?_ | with_reducible refine kalloc _ ?_ | with_reducible refine kdrew ?_ | with_reducible refine kdrewN ?_ | with_reducible refine kcall (by with_reducible assumption) ?_)), by (repeat (first | with_reducible assumption | with_reducible refine fdrew ?_ | with_reducible refine fdrewN ?_ | with_reducible refine fset ?_ | ((with_reducible refine fallocNew ?_) <;> (first | with_reducible rfl | (simp; done))) | ((with_reducible refine kfro (by with_reducible assumption) ?_ ?_); focus (first | with_reducible assumption | omega | (simp; done) | (simp; omega))) | ((with_reducible refine falloc ?_ ?_); focus (first | with_reducible assumption | omega | (simp; done) | (simp; omega))))), fun h => by omega, ⟨World.ownsRow_nil _ _ _ _, HL.out.blocks ?_ ?_, HST.out, fun v => Iff.rfl, ⟨rfl, rfl, rfl, by simp, fun k hk _ _ => Below.heap_alloc _ _ _ hk⟩⟩⟩
      · exact Below.heap_alloc _ _ _ hlRB.1
      · exact Below.heap_alloc _ _ _ hlRB.2
    have HPS := Lib.hid (hps _ _ hJ0)
    clear hps hJ0
    go_wp2_with fail
    go_step3
    rename_i hKx
    exact hKx _ _ HPS.out
  case pass0 =>
    rintro a' W ⟨-, la, r, lc, c, L, o, M, u7, u8, u9, u10, u11, u12, u13, u14, u15, u16, u17, u18, u19, u20, u21, u22, u23, u24, u25, u26, u27, u28, u29, u30, u31, u32, u33, u34, u35, u36, u37, u38, u39, u40, u41, u42, u43, u44, u45, u46, u47, u48, u49, u50, u51, u52, u53, rfl, hcell, hfz, hlt, hM⟩
    have rN := hM.rrf.rN
    have cm := hM.rrf.cm
    have hsW := hM.apt.size
    have hlRW := hM.lay.lt hN0 hm0
    have hCl := World.block_lt_of_cell? W ⟨w.heap.size, 0, none⟩ hcell
    simp only at hCl
    rw [Nat.add_zero] at hM cm
    clear hlt
    have HM := Lib.hid hM
    clear hM
    obtain ⟨q, hq⟩ : ∃ q, N = r + q := ⟨N - r, by omega⟩
    have hq1 : N - r = q := by omega
    have hr0 : (0 : Int) ≤ (r : Int) := by omega
    have hrN : (r : Int) ≤ (N : Int) := by omega
    have hNc : (N : Int) ≤ (cap : Int) := by omega
    have hrc : (r : Int) ≤ (cap : Int) := by omega
    have hwr : IntKind.i64.wrap (r : Int) = (r : Int) := wrapI _ (by omega)
    have HQ := Lib.hid hq
    clear hq
    by_cases h1 : N = r
    · clear HQ hq1
      subst h1
      have hMm : Mach n R B N m M0 w la N lc m L o M W := ⟨HM.out.row, HM.out.lay, HM.out.rrf.full, HM.out.sol, HM.out.apt⟩
      have HMm := Lib.hid hMm
      clear hMm
      rcases Nat.lt_or_ge N cap with hcc | hcc
      all_goals (have hcd : (N : Int) < (cap : Int) ∨ cap = N := by omega)
      all_goals (rcases hcd with hcd | hcd)
      all_goals (first | omega | skip)
      all_goals go_wp2_with fail
      all_goals go_quiet (fail)
      all_goals go_wp2
      all_goals simp only [toLabels]
      all_goals (refine bodyPost_ret (v := .slice la N lc) (by simp [results, Try.results39, go_sem]) rfl ⟨la, N, lc, L, o, M, rfl, HMm.out.call hN0 hm0 (bdrewN (Below.refl _ _) _)⟩)
    · have hrlt : r < N := by omega
      have hrcl : (r : Int) < (cap : Int) := by omega
      have hh0 := HM.out.lay.head r hrlt
      have hqv := HQ.out
      have hq0 : 0 < q := by omega
      clear hqv
      have hqi : (0 : Int) < (q : Int) := by omega
      have hqz : ((q : Int) == 0) = false := by rw [beq_eq_false_iff_ne]; omega
      by_cases h2 : c = m
      · subst h2
        go_wp2_with fail
        go_quiet (fail)
        go_wp2
        simp only [toLabels]
        (refine bodyPost_ret (v := .slice la r lc) (by simp [results, Try.results39, go_sem]) rfl ⟨la, r, lc, L, o, M, rfl, HM.out.call hN0 hm0 (bdrewN (Below.refl _ _) _)⟩)
      · have hcm : c < m := by omega
        have hne : ((c : Int) == (m : Int)) = false := by rw [beq_eq_false_iff_ne]; omega
        have hne2 : ¬ ((c : Int) = (m : Int)) := by omega
        go_wp2_with fail
        go_quiet (fail)
        have HMd := Lib.hid (HM.out.call hN0 hm0 (bdrewN (Below.refl W.heap.size W) nq))
        have hcd : (W.drewN nq).cell? ⟨w.heap.size, 0, none⟩ = some (.int .i64 (c : Int)) := kdrewN hcell
        have hfd : (W.drewN nq).frozen? ⟨w.heap.size, 0, none⟩ = false := fdrewN hfz
        have hsd : (W.drewN nq).heap.size = W.heap.size := rfl
        obtain ⟨Wd, hWd⟩ : ∃ Wd, Wd = W.drewN nq := ⟨_, rfl⟩
        rw [← hWd] at HMd hcd hfd hsd ⊢
        clear hWd HM
        go_wp2_with fail
        refine Calls.mono (indexRow_any R B N m w.heap.size c r q (cap - r) o M Wd HMd.out.lay HQ.out.symm hcm hN hm hcd) ?_
        rintro e w' ⟨hF, rfl⟩
        rcases hF with ⟨a, ha, hnz, rfl⟩ | ⟨hz, rfl⟩
        · have hai : (0 : Int) ≤ (a : Int) ∧ (a : Int) < (q : Int) := by omega
          have hnl : ¬ ((a : Int) < 0) := by omega
          have hql := HQ.out
          have hran : r + a < N := by omega
          have hrn : r < N := by omega
          clear hql
          have d0 := HMd.out.lay.head r hrn
          have da := HMd.out.lay.head (r + a) hran
          have f0 := HMd.out.lay.hfz r hrn
          have fa := HMd.out.lay.hfz (r + a) hran
          have s1 : (Wd.setCell ⟨R, r, none⟩ (.slice (some ⟨B, o (r + a), none⟩) m m)).drew.cell? ⟨R, r + a, none⟩ = some (.slice (some ⟨B, o (r + a), none⟩) m m) := by
            show (Wd.setCell ⟨R, r, none⟩ (.slice (some ⟨B, o (r + a), none⟩) m m)).cell? ⟨R, r + a, none⟩ = _
            by_cases e : a = 0
            · subst e; exact ksame d0
            · exact kother (by omega) da
          have s2 : (Wd.setCell ⟨R, r, none⟩ (.slice (some ⟨B, o (r + a), none⟩) m m)).drew.frozen? ⟨R, r + a, none⟩ = false := fset fa
          go_wp2_with fail
          (refine wp_region_held_drew (S := (fun _ => True)) (by kernel_rfl) (by trivial) (fun hHeld => ?_))
          (refine wpAnyH_take (i := 0) (v := ?_) rfl (by kernel_rfl) (by kernel_rfl) (by kernel_rfl) (fun _ _ _ h => h) (Or.inl ⟨by rfl, ?_⟩) (by with_reducible assumption) ?_; rotate_left; (focus (intro wz hSw; (try dsimp only at hSw); go_simp; try with_reducible rfl)); try simp only [Act.put, List.getElem_toArray, List.getElem_cons_zero, List.getElem_cons_succ, List.setIfInBounds_toArray, List.set_cons_zero, List.set_cons_succ])
          (refine wpAnyH_take (i := 1) (v := ?_) rfl (by kernel_rfl) (by kernel_rfl) (by kernel_rfl) (fun _ _ _ h => h) (Or.inl ⟨by rfl, ?_⟩) (by with_reducible assumption) ?_; rotate_left; (focus (intro wz hSw; (try dsimp only at hSw); go_simp; try with_reducible rfl)); try simp only [Act.put, List.getElem_toArray, List.getElem_cons_zero, List.getElem_cons_succ, List.setIfInBounds_toArray, List.set_cons_zero, List.set_cons_succ])
          (refine wpAnyH_take (i := 2) (v := ?_) rfl (by kernel_rfl) (by kernel_rfl) (by kernel_rfl) (fun _ _ _ h => h) (Or.inl ⟨by rfl, ?_⟩) (by with_reducible assumption) ?_; rotate_left; (focus (intro wz hSw; (try dsimp only at hSw); go_simp; try with_reducible rfl)); try simp only [Act.put, List.getElem_toArray, List.getElem_cons_zero, List.getElem_cons_succ, List.setIfInBounds_toArray, List.set_cons_zero, List.set_cons_succ])
          (refine wpAnyH_take (i := 3) (v := ?_) rfl (by kernel_rfl) (by kernel_rfl) (by kernel_rfl) (fun _ _ _ h => h) (Or.inl ⟨by rfl, ?_⟩) (by with_reducible assumption) ?_; rotate_left; (focus (intro wz hSw; (try dsimp only at hSw); go_simp; try with_reducible rfl)); try simp only [Act.put, List.getElem_toArray, List.getElem_cons_zero, List.getElem_cons_succ, List.setIfInBounds_toArray, List.set_cons_zero, List.set_cons_succ])
          (refine wpAnyH_take (i := 4) (v := ?_) rfl (by kernel_rfl) (by kernel_rfl) (by kernel_rfl) (fun _ _ _ h => h) (Or.inl ⟨by rfl, ?_⟩) (by with_reducible assumption) ?_; rotate_left; (focus (intro wz hSw; (try dsimp only at hSw); go_simp; try with_reducible rfl)); try simp only [Act.put, List.getElem_toArray, List.getElem_cons_zero, List.getElem_cons_succ, List.setIfInBounds_toArray, List.set_cons_zero, List.set_cons_succ])
          (refine wpAnyH_take (i := 5) (v := ?_) rfl (by kernel_rfl) (by kernel_rfl) (by kernel_rfl) (fun _ _ _ h => h) (Or.inl ⟨by rfl, ?_⟩) (by with_reducible assumption) ?_; rotate_left; (focus (intro wz hSw; (try dsimp only at hSw); go_simp; try with_reducible rfl)); try simp only [Act.put, List.getElem_toArray, List.getElem_cons_zero, List.getElem_cons_succ, List.setIfInBounds_toArray, List.set_cons_zero, List.set_cons_succ])
          (refine wpAnyH_take (i := 7) (v := ?_) rfl (by kernel_rfl) (by kernel_rfl) (by kernel_rfl) (fun _ _ _ h => h) (Or.inl ⟨by rfl, ?_⟩) (by with_reducible assumption) ?_; rotate_left; (focus (intro wz hSw; (try dsimp only at hSw); go_simp; try with_reducible rfl)); try simp only [Act.put, List.getElem_toArray, List.getElem_cons_zero, List.getElem_cons_succ, List.setIfInBounds_toArray, List.set_cons_zero, List.set_cons_succ])
          (refine wpAnyH_take (i := 8) (v := ?_) rfl (by kernel_rfl) (by kernel_rfl) (by kernel_rfl) (fun _ _ _ h => h) (Or.inl ⟨by rfl, ?_⟩) (by with_reducible assumption) ?_; rotate_left; (focus (intro wz hSw; (try dsimp only at hSw); go_simp; try with_reducible rfl)); try simp only [Act.put, List.getElem_toArray, List.getElem_cons_zero, List.getElem_cons_succ, List.setIfInBounds_toArray, List.set_cons_zero, List.set_cons_succ])
          refine wpAnyH_ready (rs := [6, 9]) (by kernel_rfl) (by simp) ?_
          refine AllReadyH.cons rfl (fun K hK => ?_) (AllReadyH.cons rfl (fun K hK => ?_) AllReadyH.nil)
          · go_simp
            refine hK.out _ _ trivial (fun hHeld => ?_)
            clear hK K
            try simp only [Act.put, List.getElem_toArray, List.getElem_cons_zero, List.getElem_cons_succ, List.setIfInBounds_toArray, List.set_cons_zero, List.set_cons_succ]
            (refine wpAnyH_ready (rs := [9]) (by kernel_rfl) (by simp) ?_; refine AllReadyH.cons rfl (fun K hK => ?_) AllReadyH.nil; (go_simp); refine hK.out _ _ (by trivial) (fun hHeld => ?_); clear hK K; try simp only [Act.put, List.setIfInBounds_toArray, List.set_cons_zero, List.set_cons_succ])
            (refine wpAnyH_take (i := 10) (v := ?_) rfl (by kernel_rfl) (by kernel_rfl) (by kernel_rfl) (fun _ _ _ h => h) (Or.inl ⟨by rfl, ?_⟩) (by with_reducible assumption) ?_; rotate_left; (focus (intro wz hSw; (try dsimp only at hSw); go_simp; try with_reducible rfl)); try simp only [Act.put, List.getElem_toArray, List.getElem_cons_zero, List.getElem_cons_succ, List.setIfInBounds_toArray, List.set_cons_zero, List.set_cons_succ])
            (refine wpAnyH_ready (rs := [11]) (by kernel_rfl) (by simp) ?_; refine AllReadyH.cons rfl (fun K hK => ?_) AllReadyH.nil; (go_simp); refine hK.out _ _ (by trivial) (fun hHeld => ?_); clear hK K; try simp only [Act.put, List.setIfInBounds_toArray, List.set_cons_zero, List.set_cons_succ])
            (refine wpAnyH_take (i := 12) (v := ?_) rfl (by kernel_rfl) (by kernel_rfl) (by kernel_rfl) (fun _ _ _ h => h) (Or.inl ⟨by rfl, ?_⟩) (by with_reducible assumption) ?_; rotate_left; (focus (intro wz hSw; (try dsimp only at hSw); go_simp; try with_reducible rfl)); try simp only [Act.put, List.getElem_toArray, List.getElem_cons_zero, List.getElem_cons_succ, List.setIfInBounds_toArray, List.set_cons_zero, List.set_cons_succ])
            (refine wpAnyH_ready (rs := [13]) (by kernel_rfl) (by simp) ?_; refine AllReadyH.cons rfl (fun K hK => ?_) AllReadyH.nil; (go_simp); refine hK.out _ _ (by trivial) (fun hHeld => ?_); clear hK K; try simp only [Act.put, List.setIfInBounds_toArray, List.set_cons_zero, List.set_cons_succ])
            refine wpAnyH_done (by kernel_rfl) ?_ _
            have hL2 : LayM ((Wd.setCell ⟨R, r, none⟩ (.slice (some ⟨B, o (r + a), none⟩) m m)).setCell ⟨R, r + a, none⟩ (.slice (some ⟨B, o r, none⟩) m m)).drew R B N m (fun i => o (swp r (r + a) i)) (fun i j => M (swp r (r + a) i) j) := (HMd.out.lay.swap hrn hran).blocks rfl rfl
            have hA2 : Apart R Wd ((Wd.setCell ⟨R, r, none⟩ (.slice (some ⟨B, o (r + a), none⟩) m m)).setCell ⟨R, r + a, none⟩ (.slice (some ⟨B, o r, none⟩) m m)).drew := (((Apart.refl R Wd).set r _).set (r + a) _).drew
            have hw2 : ((Wd.setCell ⟨R, r, none⟩ (.slice (some ⟨B, o (r + a), none⟩) m m)).setCell ⟨R, r + a, none⟩ (.slice (some ⟨B, o r, none⟩) m m)).drew.ownsRow (w.heap.size + 1) 3 1 (.slice la r lc) r (ints (tab r fun k => (L k : Int))) := HMd.out.row.kept (apart_grown hA2) (.inr fun e => by have := (HMd.out.row.lt _ e).1; omega)
            obtain ⟨W2, hW2⟩ : ∃ W2, W2 = ((Wd.setCell ⟨R, r, none⟩ (.slice (some ⟨B, o (r + a), none⟩) m m)).setCell ⟨R, r + a, none⟩ (.slice (some ⟨B, o r, none⟩) m m)).drew := ⟨_, rfl⟩
            rw [← hW2] at hL2 hA2 hw2 ⊢
            clear hW2 s1 s2 d0 da f0 fa
            have hc2 := hA2.cell (by omega) hcd
            have hf2 := hA2.frozen (by omega) (by omega) hfd
            have hs2 := hA2.size
            have hpv : K n ((fun i j => M (swp r (r + a) i) j) r c) ≠ 0 := by
              show K n (M (swp r (r + a) r) c) ≠ 0
              rw [swp_left]
              exact K_small (HMd.out.rrf.rng _ c hran hcm) hnz
            have HPV := Lib.hid hpv
            have HNZ := Lib.hid hnz
            clear hpv hnz
            obtain ⟨o2, ho2⟩ : ∃ o2, o2 = (fun i => o (swp r (r + a) i)) := ⟨_, rfl⟩
            have hrng2 : ∀ i j, i < N → j < m → 0 ≤ (fun i j => M (swp r (r + a) i) j) i j ∧ (fun i j => M (swp r (r + a) i) j) i j < (n : Int) := fun i j hi hj => HMd.out.rrf.rng _ j (swp_lt hrn hran hi) hj
            have hrrf := HMd.out.rrf.lead hp hcm (Nat.le_add_right r a) hran HNZ.out
            have hsol : ∀ v : Nat → Fin n, Sol n N m (ml n (fun i j => M (swp r (r + a) i) j) r c) v ↔ Sol n N m M0 v := fun v => (sol_ml hp hrn HPV.out v).trans ((sol_swap (M := M) hrn hran v).trans (HMd.out.sol v))
            obtain ⟨Ma, hMa⟩ : ∃ Ma, Ma = (fun i j => M (swp r (r + a) i) j) := ⟨_, rfl⟩
            have hrrf2 : Rrf (n : Int) N m (ml n Ma r c) (nxt L r c) (r + 1) (c + 1) := by rw [hMa]; exact hrrf
            rw [← hMa] at hL2 hrng2 hsol
            rw [← ho2] at hL2
            clear ho2 hMa hrrf HPV HNZ
            have HR2 := Lib.hid hrng2
            have HSO := Lib.hid hsol
            have HRR := Lib.hid hrrf2
            have HL2 := Lib.hid hL2
            clear hrng2 hsol hrrf2 hL2
            go_wp2_with fail
            refine Calls.mono (makeLeading_any n N m R B cap r c o2 Ma W2 hp HL2.out hrn hcm hN hm HR2.out) ?_
            rintro e W3 ⟨⟨v, rfl⟩, hL3, hA3⟩
            have hc3 := hA3.cell (by omega) hc2
            have hf3 := hA3.frozen (by omega) (by omega) hf2
            have hs3 := hA3.size
            have hw3 := hw2.kept (apart_grown hA3) (.inr fun e => by have := (hw2.lt _ e).1; omega)
            have hC3 := World.block_lt_of_cell? W3 ⟨w.heap.size, 0, none⟩ hc3
            simp only at hC3
            go_wp2_with (at_builtin; refine wpList_append_own _ rfl _ _ 64 rfl (w.heap.size + 1) 3 i0 (.int .i64 0) 1 8 Try.underlying64 hi hz0 hz1 hz2 rfl (by decide) _ _ _ rfl (hw3.alloc _) ⟨W3.heap.size, 0, none⟩ 1 1 [.int .i64 (c : Int)] rfl rfl ?c1 (int_oneCell _) ?c3 ?c4 ?c5 ?_)
            case c1 =>
              intro j u hj
              match j, hj with
              | 0, hj => simp at hj; subst hj; simp [Addr.add]
            case c3 => unfold maxLen; omega
            case c4 => omega
            case c5 => simp; omega
            intro v' W5 hown' hgrow _
            have hrl := fun g hg => (hw3.lt g hg).1
            have blk : ∀ k, k ≤ w.heap.size → W5.heap[k]? = W3.heap[k]? := fun k hk => (hgrow.block k (by simp; omega) (fun e => by have := hrl k e.symm; omega)).trans (Below.heap_alloc _ _ _ (by omega))
            rw [← tab_nxt] at hown'
            rcases own_ways hown' with ⟨h0, _⟩ | ⟨_, g5, lc5, rfl, hg1, hg2, _⟩
            · omega
            have hc5 : W5.cell? ⟨w.heap.size, 0, none⟩ = some (.int .i64 (c : Int)) := (World.cell?_of_block (w := W3) (a := ⟨w.heap.size, 0, none⟩) (blk _ (Nat.le_refl _))).trans hc3
            have hf5 : W5.frozen? ⟨w.heap.size, 0, none⟩ = false := (frozen_of_block (w := W3) (a := ⟨w.heap.size, 0, none⟩) (blk _ (Nat.le_refl _))).trans hf3
            have hs5 := hgrow.size
            simp only [World.size_alloc] at hs5
            have hap3 := (HMd.out.apt.trans ⟨hA2.os, hA2.tape, hA2.output, hA2.size, fun k h1 h2 _ => hA2.block k h1 h2⟩).one hA3
            have HM5 := Lib.hid (show Mach n R B N m M0 w (some ⟨g5, 0, none⟩) (r + 1) lc5 (c + 1) (nxt L r c) o2 (ml n Ma r c) W5 from ⟨hown', hL3.blocks (blk R (by omega)) (blk B (by omega)), HRR.out, HSO.out, ⟨hgrow.os.trans hap3.os, hgrow.tape.trans hap3.tape, hgrow.output.trans hap3.output, by have := hap3.size; omega, fun k hk h1 h2 => (blk k (by omega)).trans (hap3.block k hk h1 h2)⟩⟩)
            clear hown' hgrow hap3 hL3 hw3 hw2 blk hrl
            have hwc : IntKind.i64.wrap ((c : Int) + 1) = (c : Int) + 1 := wrapI _ (by omega)
            go_wp2_with fail
            go_step3
            go_wp2_with fail
            go_step3
            exact ⟨⟨.inl rfl, some ⟨g5, 0, none⟩, r + 1, lc5, c + 1, nxt L r c, o2, ml n Ma r c, _, _, _, _, _, _, _, _, _, _, _, _, _, _, _, _, _, _, _, _, _, _, _, _, _, _, _, _, _, _, _, _, _, _, _, _, _, _, _, _, _, _, _, _, _, _, _, rfl, by rw [show ((c + 1 : Nat) : Int) = (c : Int) + 1 from by omega]; exact ksame hc5, fset hf5, fun h => by omega, HM5.out.setCol hlRB.1 hlRB.2 _⟩, by simp only [stepsLeft, colOf_is hcell, colOf_is (c := c + 1) (show (W5.setCell ⟨w.heap.size, 0, none⟩ (.int .i64 ((c : Int) + 1))).cell? ⟨w.heap.size, 0, none⟩ = _ from by rw [show ((c + 1 : Nat) : Int) = (c : Int) + 1 from by omega]; exact ksame hc5)]; omega⟩
          · go_simp
            refine hK.out _ _ trivial (fun hHeld => ?_)
            clear hK K
            try simp only [Act.put, List.getElem_toArray, List.getElem_cons_zero, List.getElem_cons_succ, List.setIfInBounds_toArray, List.set_cons_zero, List.set_cons_succ]
            (refine wpAnyH_ready (rs := [6]) (by kernel_rfl) (by simp) ?_; refine AllReadyH.cons rfl (fun K hK => ?_) AllReadyH.nil; (go_simp); refine hK.out _ _ (by trivial) (fun hHeld => ?_); clear hK K; try simp only [Act.put, List.setIfInBounds_toArray, List.set_cons_zero, List.set_cons_succ])
            (refine wpAnyH_take (i := 10) (v := ?_) rfl (by kernel_rfl) (by kernel_rfl) (by kernel_rfl) (fun _ _ _ h => h) (Or.inl ⟨by rfl, ?_⟩) (by with_reducible assumption) ?_; rotate_left; (focus (intro wz hSw; (try dsimp only at hSw); go_simp; try with_reducible rfl)); try simp only [Act.put, List.getElem_toArray, List.getElem_cons_zero, List.getElem_cons_succ, List.setIfInBounds_toArray, List.set_cons_zero, List.set_cons_succ])
            (refine wpAnyH_ready (rs := [11]) (by kernel_rfl) (by simp) ?_; refine AllReadyH.cons rfl (fun K hK => ?_) AllReadyH.nil; (go_simp); refine hK.out _ _ (by trivial) (fun hHeld => ?_); clear hK K; try simp only [Act.put, List.setIfInBounds_toArray, List.set_cons_zero, List.set_cons_succ])
            (refine wpAnyH_take (i := 12) (v := ?_) rfl (by kernel_rfl) (by kernel_rfl) (by kernel_rfl) (fun _ _ _ h => h) (Or.inl ⟨by rfl, ?_⟩) (by with_reducible assumption) ?_; rotate_left; (focus (intro wz hSw; (try dsimp only at hSw); go_simp; try with_reducible rfl)); try simp only [Act.put, List.getElem_toArray, List.getElem_cons_zero, List.getElem_cons_succ, List.setIfInBounds_toArray, List.set_cons_zero, List.set_cons_succ])
            (refine wpAnyH_ready (rs := [13]) (by kernel_rfl) (by simp) ?_; refine AllReadyH.cons rfl (fun K hK => ?_) AllReadyH.nil; (go_simp); refine hK.out _ _ (by trivial) (fun hHeld => ?_); clear hK K; try simp only [Act.put, List.setIfInBounds_toArray, List.set_cons_zero, List.set_cons_succ])
            refine wpAnyH_done (by kernel_rfl) ?_ _
            have hL2 : LayM ((Wd.setCell ⟨R, r, none⟩ (.slice (some ⟨B, o (r + a), none⟩) m m)).setCell ⟨R, r + a, none⟩ (.slice (some ⟨B, o r, none⟩) m m)).drew R B N m (fun i => o (swp r (r + a) i)) (fun i j => M (swp r (r + a) i) j) := (HMd.out.lay.swap hrn hran).blocks rfl rfl
            have hA2 : Apart R Wd ((Wd.setCell ⟨R, r, none⟩ (.slice (some ⟨B, o (r + a), none⟩) m m)).setCell ⟨R, r + a, none⟩ (.slice (some ⟨B, o r, none⟩) m m)).drew := (((Apart.refl R Wd).set r _).set (r + a) _).drew
            have hw2 : ((Wd.setCell ⟨R, r, none⟩ (.slice (some ⟨B, o (r + a), none⟩) m m)).setCell ⟨R, r + a, none⟩ (.slice (some ⟨B, o r, none⟩) m m)).drew.ownsRow (w.heap.size + 1) 3 1 (.slice la r lc) r (ints (tab r fun k => (L k : Int))) := HMd.out.row.kept (apart_grown hA2) (.inr fun e => by have := (HMd.out.row.lt _ e).1; omega)
            obtain ⟨W2, hW2⟩ : ∃ W2, W2 = ((Wd.setCell ⟨R, r, none⟩ (.slice (some ⟨B, o (r + a), none⟩) m m)).setCell ⟨R, r + a, none⟩ (.slice (some ⟨B, o r, none⟩) m m)).drew := ⟨_, rfl⟩
            rw [← hW2] at hL2 hA2 hw2 ⊢
            clear hW2 s1 s2 d0 da f0 fa
            have hc2 := hA2.cell (by omega) hcd
            have hf2 := hA2.frozen (by omega) (by omega) hfd
            have hs2 := hA2.size
            have hpv : K n ((fun i j => M (swp r (r + a) i) j) r c) ≠ 0 := by
              show K n (M (swp r (r + a) r) c) ≠ 0
              rw [swp_left]
              exact K_small (HMd.out.rrf.rng _ c hran hcm) hnz
            have HPV := Lib.hid hpv
            have HNZ := Lib.hid hnz
            clear hpv hnz
            obtain ⟨o2, ho2⟩ : ∃ o2, o2 = (fun i => o (swp r (r + a) i)) := ⟨_, rfl⟩
            have hrng2 : ∀ i j, i < N → j < m → 0 ≤ (fun i j => M (swp r (r + a) i) j) i j ∧ (fun i j => M (swp r (r + a) i) j) i j < (n : Int) := fun i j hi hj => HMd.out.rrf.rng _ j (swp_lt hrn hran hi) hj
            have hrrf := HMd.out.rrf.lead hp hcm (Nat.le_add_right r a) hran HNZ.out
            have hsol : ∀ v : Nat → Fin n, Sol n N m (ml n (fun i j => M (swp r (r + a) i) j) r c) v ↔ Sol n N m M0 v := fun v => (sol_ml hp hrn HPV.out v).trans ((sol_swap (M := M) hrn hran v).trans (HMd.out.sol v))
            obtain ⟨Ma, hMa⟩ : ∃ Ma, Ma = (fun i j => M (swp r (r + a) i) j) := ⟨_, rfl⟩
            have hrrf2 : Rrf (n : Int) N m (ml n Ma r c) (nxt L r c) (r + 1) (c + 1) := by rw [hMa]; exact hrrf
            rw [← hMa] at hL2 hrng2 hsol
            rw [← ho2] at hL2
            clear ho2 hMa hrrf HPV HNZ
            have HR2 := Lib.hid hrng2
            have HSO := Lib.hid hsol
            have HRR := Lib.hid hrrf2
            have HL2 := Lib.hid hL2
            clear hrng2 hsol hrrf2 hL2
            go_wp2_with fail
            refine Calls.mono (makeLeading_any n N m R B cap r c o2 Ma W2 hp HL2.out hrn hcm hN hm HR2.out) ?_
            rintro e W3 ⟨⟨v, rfl⟩, hL3, hA3⟩
            have hc3 := hA3.cell (by omega) hc2
            have hf3 := hA3.frozen (by omega) (by omega) hf2
            have hs3 := hA3.size
            have hw3 := hw2.kept (apart_grown hA3) (.inr fun e => by have := (hw2.lt _ e).1; omega)
            have hC3 := World.block_lt_of_cell? W3 ⟨w.heap.size, 0, none⟩ hc3
            simp only at hC3
            go_wp2_with (at_builtin; refine wpList_append_own _ rfl _ _ 64 rfl (w.heap.size + 1) 3 i0 (.int .i64 0) 1 8 Try.underlying64 hi hz0 hz1 hz2 rfl (by decide) _ _ _ rfl (hw3.alloc _) ⟨W3.heap.size, 0, none⟩ 1 1 [.int .i64 (c : Int)] rfl rfl ?c1 (int_oneCell _) ?c3 ?c4 ?c5 ?_)
            case c1 =>
              intro j u hj
              match j, hj with
              | 0, hj => simp at hj; subst hj; simp [Addr.add]
            case c3 => unfold maxLen; omega
            case c4 => omega
            case c5 => simp; omega
            intro v' W5 hown' hgrow _
            have hrl := fun g hg => (hw3.lt g hg).1
            have blk : ∀ k, k ≤ w.heap.size → W5.heap[k]? = W3.heap[k]? := fun k hk => (hgrow.block k (by simp; omega) (fun e => by have := hrl k e.symm; omega)).trans (Below.heap_alloc _ _ _ (by omega))
            rw [← tab_nxt] at hown'
            rcases own_ways hown' with ⟨h0, _⟩ | ⟨_, g5, lc5, rfl, hg1, hg2, _⟩
            · omega
            have hc5 : W5.cell? ⟨w.heap.size, 0, none⟩ = some (.int .i64 (c : Int)) := (World.cell?_of_block (w := W3) (a := ⟨w.heap.size, 0, none⟩) (blk _ (Nat.le_refl _))).trans hc3
            have hf5 : W5.frozen? ⟨w.heap.size, 0, none⟩ = false := (frozen_of_block (w := W3) (a := ⟨w.heap.size, 0, none⟩) (blk _ (Nat.le_refl _))).trans hf3
            have hs5 := hgrow.size
            simp only [World.size_alloc] at hs5
            have hap3 := (HMd.out.apt.trans ⟨hA2.os, hA2.tape, hA2.output, hA2.size, fun k h1 h2 _ => hA2.block k h1 h2⟩).one hA3
            have HM5 := Lib.hid (show Mach n R B N m M0 w (some ⟨g5, 0, none⟩) (r + 1) lc5 (c + 1) (nxt L r c) o2 (ml n Ma r c) W5 from ⟨hown', hL3.blocks (blk R (by omega)) (blk B (by omega)), HRR.out, HSO.out, ⟨hgrow.os.trans hap3.os, hgrow.tape.trans hap3.tape, hgrow.output.trans hap3.output, by have := hap3.size; omega, fun k hk h1 h2 => (blk k (by omega)).trans (hap3.block k hk h1 h2)⟩⟩)
            clear hown' hgrow hap3 hL3 hw3 hw2 blk hrl
            have hwc : IntKind.i64.wrap ((c : Int) + 1) = (c : Int) + 1 := wrapI _ (by omega)
            go_wp2_with fail
            go_step3
            go_wp2_with fail
            go_step3
            exact ⟨⟨.inl rfl, some ⟨g5, 0, none⟩, r + 1, lc5, c + 1, nxt L r c, o2, ml n Ma r c, _, _, _, _, _, _, _, _, _, _, _, _, _, _, _, _, _, _, _, _, _, _, _, _, _, _, _, _, _, _, _, _, _, _, _, _, _, _, _, _, _, _, _, _, _, _, _, rfl, by rw [show ((c + 1 : Nat) : Int) = (c : Int) + 1 from by omega]; exact ksame hc5, fset hf5, fun h => by omega, HM5.out.setCol hlRB.1 hlRB.2 _⟩, by simp only [stepsLeft, colOf_is hcell, colOf_is (c := c + 1) (show (W5.setCell ⟨w.heap.size, 0, none⟩ (.int .i64 ((c : Int) + 1))).cell? ⟨w.heap.size, 0, none⟩ = _ from by rw [show ((c + 1 : Nat) : Int) = (c : Int) + 1 from by omega]; exact ksame hc5)]; omega⟩
        · have HM1 := Lib.hid (show Mach n R B N m M0 w la r lc (c + 1) L o M Wd from ⟨HMd.out.row, HMd.out.lay, HMd.out.rrf.skip hcm (fun i h1 h2 => by have := hz (i - r) (by have := HQ.out; omega); rwa [show r + (i - r) = i from by omega] at this), HMd.out.sol, HMd.out.apt⟩)
          clear hz
          go_wp2_with fail
          go_step3
          exact ⟨⟨.inr rfl, la, r, lc, c, L, o, M, _, _, _, _, _, _, _, _, _, _, _, _, _, _, _, _, _, _, _, _, _, _, _, _, _, _, _, _, _, _, _, _, _, _, _, _, _, _, _, _, _, _, _, _, _, _, _, rfl, hcd, hfd, fun _ => hcm, HM1.out⟩, by simp only [stepsLeft, colOf_is hcd, colOf_is hcell]; omega⟩
  case pass1 =>
    rintro a' W ⟨-, la, r, lc, c, L, o, M, u7, u8, u9, u10, u11, u12, u13, u14, u15, u16, u17, u18, u19, u20, u21, u22, u23, u24, u25, u26, u27, u28, u29, u30, u31, u32, u33, u34, u35, u36, u37, u38, u39, u40, u41, u42, u43, u44, u45, u46, u47, u48, u49, u50, u51, u52, u53, rfl, hcell, hfz, hlt, hM⟩
    have rN := hM.rrf.rN
    have cm := hM.rrf.cm
    have hsW := hM.apt.size
    have hlRW := hM.lay.lt hN0 hm0
    have hCl := World.block_lt_of_cell? W ⟨w.heap.size, 0, none⟩ hcell
    simp only at hCl
    have hcm := hlt rfl
    clear hlt
    have HM := Lib.hid hM
    clear hM
    have hwc : IntKind.i64.wrap ((c : Int) + 1) = (c : Int) + 1 := wrapI _ (by omega)
    go_wp2_with fail
    go_step3
    exact ⟨⟨.inl rfl, la, r, lc, c + 1, L, o, M, _, _, _, _, _, _, _, _, _, _, _, _, _, _, _, _, _, _, _, _, _, _, _, _, _, _, _, _, _, _, _, _, _, _, _, _, _, _, _, _, _, _, _, _, _, _, _, rfl, by rw [show ((c + 1 : Nat) : Int) = (c : Int) + 1 from by omega]; exact ksame hcell, fset hfz, fun h => by omega, HM.out.setCol hlRB.1 hlRB.2 _⟩, by simp only [stepsLeft, colOf_is hcell, colOf_is (c := c + 1) (show (W.setCell ⟨w.heap.size, 0, none⟩ (.int .i64 ((c : Int) + 1))).cell? ⟨w.heap.size, 0, none⟩ = _ from by rw [show ((c + 1 : Nat) : Int) = (c : Int) + 1 from by omega]; exact ksame hcell)]; omega⟩

end Go.Proofs.Ytkkaicneabkkdaa

namespace Go.Proofs.Ytkkaicneabkkdaa
open Go.RowKit

set_option linter.unusedSimpArgs false in
theorem made_tabQ (m : Nat) : (madeCells #[Value.int .i64 0] m).toList = ints (tab m fun _ => 0) := by
  simp [madeCells, ints, tab, Nat.mod_one]
set_option linter.unusedSimpArgs false in
/-- make, as one step of a region that draws. -/
theorem step_makeQ {P : Program} {ops : Array Oper} {o : Oper} {a : Act} {w : World} {K : Act → World → Prop} {Q : Exit → Act → World → Prop} {E : Prop}
    (hg : o.guard = none) (l c : Operand) (t : TypeId) (hop : o.op = Op.makeSlice t l c) (base : Nat) (e : TypeId) (i : TypeInfo) (z : Value) (size : Nat) (h1 : P.underlying t = some (.slice e)) (h2 : P.info? e = some i) (h3 : i.zero = some z) (h4 : i.size = size)
    (kl kc : IntKind) (n : Nat) (hl : a.eval l = .int kl (n : Int)) (hc : a.eval c = .int kc (n : Int)) (b2 : i.bytes * n ≤ 281474976710656) (b3 : n ≤ maxLen) (b4 : base ≤ w.heap.size)
    (hK : ∀ w', w'.ownsRow base e size (.slice (some ⟨w.heap.size, 0, none⟩) n n) n (madeCells z.cells (n * size)).toList → w.grownBy w' none → K (a.put o.dst (.slice (some ⟨w.heap.size, 0, none⟩) n n)) w') :
    if Region.wanted o (yielded ops a.tmps) = true then Oper.wp P o a w K Q else E := by
  rw [if_pos (by simp [Region.wanted, hg])]
  obtain ⟨w', hrun, r1, r2⟩ := run_make_full (P := P) w base t e i z size h1 h2 h3 h4 kl kc n b2 b3 b4
  unfold Oper.wp
  simp [execOp, hop, hl, hc, hrun, Result.andThen]
  exact hK w' r1 r2


end Go.Proofs.Ytkkaicneabkkdaa

namespace Go.Proofs.Ytkkaicneabkkdaa
open Go.RowKit

set_option linter.unusedVariables false in
set_option maxRecDepth 20000 in
set_option maxHeartbeats 2000000 in
theorem indexInt_any (G r lc f : Nat) (L : Nat → Nat) (w : World) (hr : r ≤ 8) (hf : f ≤ 8) (hc : ∀ i, i < r → w.cell? ⟨G, i, none⟩ = some (.int .i64 (L i : Int))) :
    Calls Try.prog 102 #[.slice (some ⟨G, 0, none⟩) r lc, .int .i64 (f : Int)] w fun e w' => ((∃ a : Nat, a < r ∧ L a = f ∧ e = .returned (.int .i64 (a : Int))) ∨ ((∀ a, a < r → L a ≠ f) ∧ e = .returned (.int .i64 (-1)))) ∧ w = w' := by
  have HC := Lib.hid hc
  clear hc
  go_enter Try.func102, Try.ntmps102
  go_wp2
  go_loop [5, 8] (fun _ i => ∃ k : Nat, k ≤ r ∧ i = .int .i64 k ∧ ∀ a, a < k → L a ≠ f) (fun _ i => r - (intOf i).toNat)
  case atStart => exact ⟨0, by omega, rfl, fun a ha => by omega⟩
  case round =>
    obtain ⟨k, hk, rfl, hz⟩ := hrel
    have HZ := Lib.hid hz
    clear hz
    by_cases hlt : k < r
    · have hik : (0 : Int) ≤ (k : Int) ∧ (k : Int) < (r : Int) := by omega
      have hkq : (k : Int) < (r : Int) := by omega
      have hh := HC.out k hlt
      obtain ⟨x, hx⟩ : ∃ x, x = L k := ⟨_, rfl⟩
      rw [← hx] at hh
      have HX := Lib.hid hx
      clear hx
      by_cases h0 : x = f
      · have hb : ((f : Int) == (x : Int)) = true := by rw [h0]; simp
        have hb2 : ((f : Int) = (x : Int)) := by rw [h0]
        go_wp2
        go_ret
        exact ⟨.inl ⟨k, hlt, by rw [← HX.out]; exact h0, rfl⟩, rfl⟩
      · have hb : ((f : Int) == (x : Int)) = false := by rw [beq_eq_false_iff_ne]; omega
        have hb2 : ¬ ((f : Int) = (x : Int)) := by omega
        go_wp2
        go_round
        case rel => exact ⟨k + 1, by omega, by go_num, fun a ha => by
          by_cases e : a = k
          · subst e; rw [← HX.out]; exact h0
          · exact HZ.out a (by omega)⟩
        case measure => simp [intOf]; omega
    · obtain rfl : k = r := by omega
      go_wp2
      go_ret
      exact ⟨.inr ⟨HZ.out, rfl⟩, rfl⟩
set_option maxRecDepth 20000 in
set_option maxHeartbeats 1000000 in
theorem containsInt_any (G r lc f : Nat) (L : Nat → Nat) (w : World) (hr : r ≤ 8) (hf : f ≤ 8) (hc : ∀ i, i < r → w.cell? ⟨G, i, none⟩ = some (.int .i64 (L i : Int))) :
    Calls Try.prog 96 #[.slice (some ⟨G, 0, none⟩) r lc, .int .i64 (f : Int)] w fun e w' => (((∃ a, a < r ∧ L a = f) ∧ e = .returned (.bool true)) ∨ ((∀ a, a < r → L a ≠ f) ∧ e = .returned (.bool false))) ∧ w = w' := by
  have hi := indexInt_any G r lc f L w hr hf hc
  clear hc
  go_enter Try.func96, Try.ntmps96
  go_wp2_with fail
  refine Calls.mono hi ?_
  rintro e w' ⟨hF, rfl⟩
  clear hi
  rcases hF with ⟨a, ha, hL, rfl⟩ | ⟨hz, rfl⟩
  · have h1 : (0 : Int) ≤ (a : Int) := by omega
    have HL := Lib.hid (show ∃ a, a < r ∧ L a = f from ⟨a, ha, hL⟩)
    clear hL ha
    go_wp2
    go_ret
    exact ⟨.inl ⟨HL.out, by first | rfl | simp [h1]⟩, rfl⟩
  · have HZ := Lib.hid hz
    clear hz
    go_wp2
    go_ret
    exact ⟨.inr ⟨HZ.out, by first | rfl | simp⟩, rfl⟩

end Go.Proofs.Ytkkaicneabkkdaa

namespace Go.Proofs.Ytkkaicneabkkdaa
open Go.RowKit

theorem own_frozen {w : World} {base : Nat} {e : TypeId} {k n g cap : Nat} {v : List Value} (h : w.ownsRow base e k (.slice (some ⟨g, 0, none⟩) n cap) n v) (j : Nat) : w.frozen? ⟨g, j, none⟩ = false := by
  rcases h.2 with ⟨h1, _⟩ | ⟨g', cap', cur, h1, _, hh, _⟩
  · simp at h1
  · simp at h1
    obtain ⟨rfl, _⟩ := h1
    simp only [World.frozen?, hh]
    simp
theorem apart_of_grown {F : Nat} {W W' : World} (h : W.grownBy W' none) : Apart F W W' := ⟨h.os, h.tape, h.output, h.size, fun k hk _ => h.block k hk (fun e => by cases e)⟩
/-- What is answered where numbers are found, and where none are. -/
def OnlyBy (n : Nat) [NeZero n] (N m : Nat) (M0 : Nat → Nat → Int) (x : Nat → Int) : Prop :=
  ∃ (f r : Nat) (L : Nat → Nat) (M : Nat → Nat → Int), Rrf (n : Int) N m M L r m ∧ r + 1 = m ∧ Free m L r f ∧ x f = 1 ∧ (∀ k, k < r → x (L k) = (-M k f) % (n : Int)) ∧ ∀ v : Nat → Fin n, Sol n N m M v ↔ Sol n N m M0 v
def OnlyNot (n : Nat) [NeZero n] (N m : Nat) (M0 : Nat → Nat → Int) : Prop :=
  ∃ (r : Nat) (L : Nat → Nat) (M : Nat → Nat → Int), Rrf (n : Int) N m M L r m ∧ r + 1 ≠ m ∧ ∀ v : Nat → Fin n, Sol n N m M v ↔ Sol n N m M0 v
def OnlyAns (n : Nat) [NeZero n] (R B N m : Nat) (M0 : Nat → Nat → Int) (w : World) (e : Ending) (w' : World) : Prop :=
  Apart2 R B w w' ∧ ((OnlyNot n N m M0 ∧ e = .returned (.tuple #[.slice none 0 0, .bool false])) ∨ ∃ (F : Nat) (x : Nat → Int), OnlyBy n N m M0 x ∧ (∀ j, j < m → 0 ≤ x j ∧ x j < (n : Int)) ∧ w.heap.size ≤ F ∧ (∀ j, j < m → w'.cell? ⟨F, j, none⟩ = some (.int .i64 (x j))) ∧ e = .returned (.tuple #[.slice (some ⟨F, 0, none⟩) m m, .bool true]))
/-- The numbers so far. -/
structure FillAt (n F m f : Nat) (L : Nat → Nat) (M : Nat → Nat → Int) (w : World) (k : Nat) (x : Nat → Int) (W : World) : Prop where
  num : ∀ j, j < m → W.cell? ⟨F, j, none⟩ = some (.int .i64 (x j))
  nfz : ∀ j, j < m → W.frozen? ⟨F, j, none⟩ = false
  rng : ∀ j, j < m → 0 ≤ x j ∧ x j < (n : Int)
  one : x f = 1
  led : ∀ i, i < k → x (L i) = (-M i f) % (n : Int)
  apt : Apart F w W
def put1 (x : Nat → Int) (j : Nat) (v : Int) (i : Nat) : Int := if i = j then v else x i
theorem FillAt.step {n F m f r : Nat} {L : Nat → Nat} {M : Nat → Nat → Int} {w : World} {k : Nat} {x : Nat → Int} {W : World} (h : FillAt n F m f L M w k x W) (hp : isP (n : Int) = true) (hk : k < r) (hm : L k < m) (hf : Free m L r f) (hin : ∀ i, i < r → i ≠ k → L i ≠ L k) :
    FillAt n F m f L M w (k + 1) (put1 x (L k) ((-M k f) % (n : Int))) (W.setCell ⟨F, L k, none⟩ (.int .i64 ((-M k f) % (n : Int)))) := by
  refine ⟨fun j hj => ?_, fun j hj => fset (h.nfz j hj), fun j hj => ?_, ?_, fun i hi => ?_, h.apt.set _ _⟩
  · by_cases e : j = L k
    · rw [put1, if_pos e, e]; exact ksame (h.num _ hm)
    · rw [put1, if_neg e]; exact kother e (h.num j hj)
  · by_cases e : j = L k
    · rw [put1, if_pos e]; exact modR _ hp
    · rw [put1, if_neg e]; exact h.rng j hj
  · rw [put1, if_neg (fun e => hf.2 k hk e.symm)]; exact h.one
  · by_cases e : i = k
    · rw [e, put1, if_pos rfl]
    · rw [put1, if_neg (hin i (by omega) e)]; exact h.led i (by omega)

set_option linter.unusedVariables false in
set_option linter.unusedSimpArgs false in
set_option maxRecDepth 20000 in
set_option maxHeartbeats 8000000 in
theorem onlySolution_any (n N m R B cap : Nat) [NeZero n] (o0 : Nat → Nat) (M0 : Nat → Nat → Int) (w : World) (hp : isP (n : Int) = true) (hL : LayM w R B N m o0 M0) (hN : N ≤ 8) (hN0 : 0 < N) (hm : m ≤ 8) (hm0 : 1 < m) (hcap : N ≤ cap)
    (hrng : ∀ i j, i < N → j < m → 0 ≤ M0 i j ∧ M0 i j < (n : Int)) :
    Calls Try.prog 67 #[.int .i64 (n : Int), .slice (some ⟨R, 0, none⟩) N cap] w fun e w' => OnlyAns n R B N m M0 w e w' := by
  have hr := isP_range hp
  obtain ⟨i0, hi0, hz0, hz1, hz2⟩ := info_parts infoInt1
  have hsolve := solve_any n N m R B cap o0 M0 w hp hL hN hN0 hm (by omega) hcap hrng
  have hlRB := hL.lt hN0 (by omega)
  clear hL hrng
  have HSV := Lib.hid hsolve
  clear hsolve
  go_enter Try.func67, Try.ntmps67
  go_wp2_with fail
  refine Calls.mono HSV.out ?_
  clear HSV
  rintro e w1 ⟨la, r, lc, L, o, M, rfl, hM⟩
  have rN := hM.rrf.rN
  have rm := hM.rrf.cm
  have hh0 := hM.lay.head 0 hN0
  have hs1 := hM.apt.size
  have hi0N : (0 : Int) < (N : Int) := by omega
  have hNc : (0 : Int) < (cap : Int) := by omega
  have rM : r ≤ m := by
    rcases Nat.eq_zero_or_pos r with e | e
    · omega
    · have h1 := hM.rrf.gap (a := 0) (b := r - 1) (by omega) (by omega)
      have h2 := hM.rrf.up (r - 1) (by omega)
      omega
  by_cases hrm : r + 1 = m
  · rcases own_ways hM.row with ⟨h0, _⟩ | ⟨_, G, lc', hla, hg1, hg2, _⟩
    · omega
    obtain ⟨rfl, rfl⟩ : la = some ⟨G, 0, none⟩ ∧ lc = lc' := by simpa using hla
    clear hla
    have hLc : ∀ i, i < r → w1.cell? ⟨G, i, none⟩ = some (.int .i64 (L i : Int)) := fun i hi => by
      have := own_cell hM.row (j := i) (by omega)
      rwa [tab_getD _ hi] at this
    obtain ⟨f, hfr, hfree, hbef, hbeh⟩ := hM.rrf.first (by omega)
    have hup := hM.rrf.up
    have hinj : ∀ k, k < r → ∀ i, i < r → i ≠ k → L i ≠ L k := fun k hk i hi hne e => hne (hM.rrf.inj hi hk e)
    have hfm := hfree.1
    have HLC := Lib.hid hLc
    have HFR := Lib.hid hfree
    have HBE := Lib.hid hbef
    have HUP := Lib.hid hup
    have HIN := Lib.hid hinj
    have HM := Lib.hid hM
    clear hM hLc hfree hbef hbeh hup hinj
    have hrmi : (r : Int) = (m : Int) - 1 := by omega
    have hrm2 : ((r : Int) != (m : Int) - 1) = false := by simp; omega
    have hrm3 : ((r : Int) == (m : Int) - 1) = true := by simp; omega
    go_wp2_with fail
    go_loop [8] (fun i => ∃ k : Nat, k ≤ f ∧ i = .int .i64 k) (fun i => f - (intOf i).toNat)
    case atStart => exact ⟨0, by omega, rfl⟩
    case round =>
      obtain ⟨k, hk, rfl⟩ := hrel
      by_cases hlt : k < f
      · have hik : (0 : Int) ≤ (k : Int) ∧ (k : Int) < 8 := by omega
        go_wp2_with fail
        refine Calls.mono (containsInt_any G r lc k L w1 (by omega) (by omega) HLC.out) ?_
        rintro e w' ⟨hF, rfl⟩
        rcases hF with ⟨_, rfl⟩ | ⟨h, _⟩
        · go_wp2
          go_round
          case rel => exact ⟨k + 1, by omega, by go_num⟩
          case measure => simp [intOf]; omega
        · exact absurd (HBE.out k hlt) (h k (by omega))
      · obtain rfl : k = f := by omega
        have hik : (0 : Int) ≤ (k : Int) ∧ (k : Int) < (m : Int) := by omega
        go_wp2_with fail
        refine Calls.mono (containsInt_any G r lc k L w1 (by omega) (by omega) HLC.out) ?_
        rintro e w' ⟨hF, rfl⟩
        rcases hF with ⟨⟨a, ha, e⟩, _⟩ | ⟨_, rfl⟩
        · exact absurd e (HFR.out.2 a ha)
        · go_wp2_with (at_make; refine wpList_make_full _ rfl _ _ 87 rfl w1.heap.size 2 i0 (.int .i64 0) 1 Try.underlying87 hi0 hz0 hz1 .i64 .i64 (m : Int) (m : Int) m rfl rfl rfl rfl (by rw [hz2]; omega) (by unfold maxLen; omega) (Nat.le_refl _) ?_)
          intro wm hom hgm
          rw [made_tabQ] at hom
          have hap0 : Apart w1.heap.size w1 wm := apart_of_grown hgm
          have hnm : ∀ j, j < m → wm.cell? ⟨w1.heap.size, j, none⟩ = some (.int .i64 0) := fun j hj => by
            have := own_cell hom (j := j) (by omega)
            rwa [tab_getD _ (by omega)] at this
          have hF0 := Lib.hid (show FillAt n w1.heap.size m k L M w1 0 (put1 (fun _ => 0) k 1) (wm.setCell ⟨w1.heap.size, k, none⟩ (.int .i64 1)) from
            ⟨fun j hj => by
              by_cases e : j = k
              · rw [put1, if_pos e, e]; exact ksame (hnm _ hfm)
              · rw [put1, if_neg e]; exact kother e (hnm j hj), fun j hj => fset (own_frozen hom j), fun j hj => by
              by_cases e : j = k
              · rw [put1, if_pos e]; omega
              · rw [put1, if_neg e]; omega, by rw [put1, if_pos rfl], fun i hi => by omega, hap0.set _ _⟩)
          have hk1 := hnm k hfm
          have hk2 := own_frozen hom k
          clear hom hgm hap0 hnm
          go_wp2_with fail
          go_loopw [10, 11, 36] (fun _ _ i wr => ∃ i0 : Nat, i0 ≤ r ∧ i = .int .i64 i0 ∧ ∃ x, FillAt n w1.heap.size m k L M w1 i0 x wr) (fun _ _ i _ => r - (intOf i).toNat)
          case atStart => exact ⟨0, by omega, rfl, _, hF0.out⟩
          case round =>
            obtain ⟨q, hq, rfl, x, hFill⟩ := hrel
            have HFI := Lib.hid hFill
            clear hFill
            have hlW := HM.out.lay.lt hN0 (by omega)
            by_cases hlt2 : q < r
            · have hiq : (0 : Int) ≤ (q : Int) ∧ (q : Int) < (r : Int) ∧ (q : Int) < (N : Int) ∧ (q : Int) < (cap : Int) := by omega
              obtain ⟨hiq1, hiq2, hiq3, hiq4⟩ := hiq
              have hLq := HFI.out.apt.cell (by omega) (HLC.out q hlt2)
              have hlay := HM.out.lay.blocks (HFI.out.apt.block R hlW.1 (by omega)) (HFI.out.apt.block B hlW.2 (by omega))
              have hhq := hlay.head q (by omega)
              have hnq := hlay.num q k (by omega) hfm
              have hrq := HM.out.rrf.rng q k (by omega) hfm
              have hLm := HUP.out q hlt2
              have hcq := HFI.out.num (L q) hLm
              have hfq := HFI.out.nfz (L q) hLm
              have hST := Lib.hid (HFI.out.step hp hlt2 hLm HFR.out (HIN.out q hlt2))
              clear hlay
              obtain ⟨c, hc⟩ : ∃ c, c = L q := ⟨_, rfl⟩
              obtain ⟨y, hy⟩ : ∃ y, y = M q k := ⟨_, rfl⟩
              rw [← hc, ← hy] at hST
              rw [← hc] at hLq hcq hfq hLm
              rw [← hy] at hnq hrq
              clear hc hy
              have hci : (0 : Int) ≤ (c : Int) ∧ (c : Int) < (m : Int) := by omega
              go_wp2_with fail
              refine Calls.mono (rest_any _ _ _ (by omega) (by omega) (by omega) (by omega)) ?_
              rintro e w' ⟨rfl, rfl⟩
              go_wp2
              go_roundw
              case rel => exact ⟨q + 1, by omega, by go_num, _, hST.out⟩
              case measure => simp [intOf]; omega
            · obtain rfl : q = r := by omega
              have hA2 : Apart2 R B w wr := HM.out.apt.trans ⟨HFI.out.apt.os, HFI.out.apt.tape, HFI.out.apt.output, HFI.out.apt.size, fun k1 h1 _ _ => HFI.out.apt.block k1 h1 (by omega)⟩
              have HA := Lib.hid hA2
              clear hA2
              go_wp2
              (refine bodyPost_ret (v := .tuple #[.slice (some ⟨w1.heap.size, 0, none⟩) m m, .bool true]) (by simp [results, Try.results67, go_sem]) rfl ⟨HA.out, .inr ⟨w1.heap.size, x, ⟨k, q, L, M, HM.out.rrf, hrm, HFR.out, HFI.out.one, HFI.out.led, HM.out.sol⟩, HFI.out.rng, hs1, HFI.out.num, rfl⟩⟩)
  · have HM := Lib.hid hM
    clear hM
    have hrm2 : ((r : Int) != (m : Int) - 1) = true := by simp; omega
    have hrm3 : ((r : Int) == (m : Int) - 1) = false := by simp; omega
    have hrm4 : ¬ ((r : Int) = (m : Int) - 1) := by omega
    go_wp2
    (refine bodyPost_ret (v := .tuple #[.slice none 0 0, .bool false]) (by simp [results, Try.results67, go_sem]) rfl ⟨HM.out.apt, .inl ⟨⟨r, L, M, HM.out.rrf, hrm, HM.out.sol⟩, rfl⟩⟩)

end Go.Proofs.Ytkkaicneabkkdaa

namespace Go.Proofs.Ytkkaicneabkkdaa
open Go.RowKit

/-- The numbers of the model's list, and the conic's. -/
def pn (c l1 l2 : Int) : Int := if (c == 1) = true then l1 * l1 - l2 * l2 else if (c == 2) = true then 2 * l1 * l2 else l1 * l1 + l2 * l2
def ps1 (p c l1 l2 : Int) : Int := ((if (c == 2) = true then 0 else pn c l1 l2) - l1 * l1) % p
def ps2 (p c l1 l2 : Int) : Int := ((if (c == 2) = true then 2 * pn c l1 l2 else 0) - 2 * l1 * l2) % p
def ps3 (p c l1 l2 : Int) : Int := ((if (c == 1) = true then -pn c l1 l2 else if (c == 2) = true then 0 else pn c l1 l2) - l2 * l2) % p
def ps4 (p c a1 a2 l1 l2 l3 : Int) : Int := ((if (c == 2) = true then -2 * pn c l1 l2 * a2 else -2 * pn c l1 l2 * a1) - 2 * l1 * l3) % p
def ps5 (p c a1 a2 l1 l2 l3 : Int) : Int := ((if (c == 1) = true then 2 * pn c l1 l2 * a2 else if (c == 2) = true then -2 * pn c l1 l2 * a1 else -2 * pn c l1 l2 * a2) - 2 * l2 * l3) % p
def ps6 (p c a1 a2 l1 l2 l3 : Int) : Int := ((if (c == 1) = true then pn c l1 l2 * (a1 * a1 - a2 * a2) else if (c == 2) = true then 2 * pn c l1 l2 * a1 * a2 else pn c l1 l2 * (a1 * a1 + a2 * a2)) - l3 * l3) % p
def pz (p c l1 l2 x : Int) : Int := ck p (ps1 p c l1 l2) (ps2 p c l1 l2) (ps3 p c l1 l2) x
set_option linter.unusedVariables false in
def pa1 (p c a1 a2 l1 l2 l3 : Int) : Int := pz p c l1 l2 (ps1 p c l1 l2)
set_option linter.unusedVariables false in
def pa2 (p c a1 a2 l1 l2 l3 : Int) : Int := pz p c l1 l2 (ps2 p c l1 l2)
set_option linter.unusedVariables false in
def pa3 (p c a1 a2 l1 l2 l3 : Int) : Int := pz p c l1 l2 (ps3 p c l1 l2)
set_option linter.unusedVariables false in
def pa4 (p c a1 a2 l1 l2 l3 : Int) : Int := pz p c l1 l2 (ps4 p c a1 a2 l1 l2 l3)
set_option linter.unusedVariables false in
def pa5 (p c a1 a2 l1 l2 l3 : Int) : Int := pz p c l1 l2 (ps5 p c a1 a2 l1 l2 l3)
set_option linter.unusedVariables false in
def pa6 (p c a1 a2 l1 l2 l3 : Int) : Int := pz p c l1 l2 (ps6 p c a1 a2 l1 l2 l3)
/-- The foot of a point, and the program's value at it. -/
def ftX' (p c l1 l2 l3 x y : Int) : Int := meX p l1 l2 l3 (pt1 p c l1 l2 x y) (pt2 p c l1 l2 x y) (pt3 p c l1 l2 x y)
def ftY' (p c l1 l2 l3 x y : Int) : Int := meY p l1 l2 l3 (pt1 p c l1 l2 x y) (pt2 p c l1 l2 x y) (pt3 p c l1 l2 x y)
set_option linter.unusedSimpArgs false in
theorem ft_r' (c l1 l2 l3 x y : Int) {p : Int} (h : isP p = true) : (0 ≤ ftX' p c l1 l2 l3 x y ∧ ftX' p c l1 l2 l3 x y < p) ∧ (0 ≤ ftY' p c l1 l2 l3 x y ∧ ftY' p c l1 l2 l3 x y < p) := ⟨modR _ h, modR _ h⟩
def gv (p c l1 l2 l3 a1 a2 x y : Int) : Int := qdr p c x y a1 a2 - qdr p c x y (ftX' p c l1 l2 l3 x y) (ftY' p c l1 l2 l3 x y)
set_option linter.unusedSimpArgs false in
theorem gv_r (c l1 l2 l3 a1 a2 x y : Int) {p : Int} (h : isP p = true) : -30 ≤ gv p c l1 l2 l3 a1 a2 x y ∧ gv p c l1 l2 l3 a1 a2 x y ≤ 30 := by
  have hr := isP_range h
  have h1 := qdr_r c x y a1 a2 h
  have h2 := qdr_r c x y (ftX' p c l1 l2 l3 x y) (ftY' p c l1 l2 l3 x y) h
  unfold gv; omega
section
variable (p c l1 l2 l3 a1 a2 : Int)
def gO : Int := gv p c l1 l2 l3 a1 a2 0 0
def gR : Int := gv p c l1 l2 l3 a1 a2 1 0 - gv p c l1 l2 l3 a1 a2 0 0
def gL : Int := gv p c l1 l2 l3 a1 a2 (p - 1) 0 - gv p c l1 l2 l3 a1 a2 0 0
def gU : Int := gv p c l1 l2 l3 a1 a2 0 1 - gv p c l1 l2 l3 a1 a2 0 0
def gD : Int := gv p c l1 l2 l3 a1 a2 0 (p - 1) - gv p c l1 l2 l3 a1 a2 0 0
def gB : Int := gv p c l1 l2 l3 a1 a2 1 1 - gO p c l1 l2 l3 a1 a2 - gR p c l1 l2 l3 a1 a2 - gU p c l1 l2 l3 a1 a2
def pr1 : Int := (gR p c l1 l2 l3 a1 a2 + gL p c l1 l2 l3 a1 a2) % p
def pr2 : Int := (2 * gB p c l1 l2 l3 a1 a2) % p
def pr3 : Int := (gU p c l1 l2 l3 a1 a2 + gD p c l1 l2 l3 a1 a2) % p
def pr4 : Int := (gR p c l1 l2 l3 a1 a2 - gL p c l1 l2 l3 a1 a2) % p
def pr5 : Int := (gU p c l1 l2 l3 a1 a2 - gD p c l1 l2 l3 a1 a2) % p
def pr6 : Int := (2 * gO p c l1 l2 l3 a1 a2) % p
def pc0 (x : Int) : Int := ck p (pr1 p c l1 l2 l3 a1 a2) (pr2 p c l1 l2 l3 a1 a2) (pr3 p c l1 l2 l3 a1 a2) x
def pc1 : Int := pc0 p c l1 l2 l3 a1 a2 (pr1 p c l1 l2 l3 a1 a2)
def pc2 : Int := pc0 p c l1 l2 l3 a1 a2 (pr2 p c l1 l2 l3 a1 a2)
def pc3 : Int := pc0 p c l1 l2 l3 a1 a2 (pr3 p c l1 l2 l3 a1 a2)
def pc4 : Int := pc0 p c l1 l2 l3 a1 a2 (pr4 p c l1 l2 l3 a1 a2)
def pc5 : Int := pc0 p c l1 l2 l3 a1 a2 (pr5 p c l1 l2 l3 a1 a2)
def pc6 : Int := pc0 p c l1 l2 l3 a1 a2 (pr6 p c l1 l2 l3 a1 a2)
end
section
variable {n : Nat} [NeZero n]
set_option linter.unusedSimpArgs false in
theorem K_qdr {c : Int} (hc : colB c = true) (x y u v : Int) : K n (qdr n c x y u v) = if c = 0 then (K n u - K n x) * (K n u - K n x) + (K n v - K n y) * (K n v - K n y) else if c = 1 then (K n u - K n x) * (K n u - K n x) - (K n v - K n y) * (K n v - K n y) else 2 * (K n u - K n x) * (K n v - K n y) := by
  unfold qdr prd
  rcases colB_ways hc with rfl | rfl | rfl
  · simp only [if_pos, K_mod, K_add, K_mul, K_sub]
  · simp only [show ¬ ((1 : Int) = 0) by decide, if_false, if_true, K_mod, K_add, K_mul, K_sub]
  · simp only [show ¬ ((2 : Int) = 0) by decide, show ¬ ((2 : Int) = 1) by decide, if_false, K_mod, K_add, K_mul, K_sub]; grind
set_option linter.unusedSimpArgs false in
/-- Foot: its differences from the point. -/
theorem K_foot (hp : isP (n : Int) = true) {c l1 l2 l3 : Int} (hc : colB c = true) (hl : leadB l1 l2 = true) (hn : perpB n c l1 l2 l1 l2 = false) (x y : Int) :
    ∃ e : Fin n, e * (K n l1 * K n (vOf n c (-l2 % n) l1) - K n l2 * K n (uOf c (-l2 % n) l1)) = 1 ∧
      K n (ftX' n c l1 l2 l3 x y) - K n x = -(K n (vOf n c (-l2 % n) l1) * (K n l1 * K n x + K n l2 * K n y + K n l3)) * e ∧
      K n (ftY' n c l1 l2 l3 x y) - K n y = K n (uOf c (-l2 % n) l1) * (K n l1 * K n x + K n l2 * K n y + K n l3) * e := by
  have hd : ¬ (detM l1 l2 (pt1 n c l1 l2 x y) (pt2 n c l1 l2 x y) % n = 0) := fun h => by rw [(det_pt hp hc hl).1 h] at hn; cases hn
  have hi : K n (detM l1 l2 (pt1 n c l1 l2 x y) (pt2 n c l1 l2 x y)) * K n (inv n (detM l1 l2 (pt1 n c l1 l2 x y) (pt2 n c l1 l2 x y))) = 1 := K_inv hp (fun h => hd (K_eq_zero.1 h))
  refine ⟨K n (nrm n (uOf c (-l2 % n) l1) (vOf n c (-l2 % n) l1)) * K n (inv n (detM l1 l2 (pt1 n c l1 l2 x y) (pt2 n c l1 l2 x y))), ?_⟩
  unfold ftX' ftY' meX meY
  simp only [K_mod, K_mul, K_sub]
  generalize K n (inv n (detM l1 l2 (pt1 n c l1 l2 x y) (pt2 n c l1 l2 x y))) = D at *
  unfold detM at hi
  simp only [pt1, pt2, pt3, tl1, tl2, tl3, mk1, mk2, mk3, tw, K_mod, K_mul, K_sub, K_neg, K_add] at hi ⊢
  generalize K n (nrm n (uOf c (-l2 % n) l1) (vOf n c (-l2 % n) l1)) = t at *
  generalize K n (uOf c (-l2 % n) l1) = U at *
  generalize K n (vOf n c (-l2 % n) l1) = V at *
  refine ⟨by grind, by grind, by grind⟩
set_option linter.unusedSimpArgs false in
/-- The program's value at a point. -/
theorem K_gv (hp : isP (n : Int) = true) {c l1 l2 l3 : Int} (a1 a2 : Int) (hc : colB c = true) (hl : leadB l1 l2 = true) (hn : perpB n c l1 l2 l1 l2 = false) :
    ∃ v : Fin n, v * K n (pn c l1 l2) = 1 ∧ ∀ x y, K n (gv n c l1 l2 l3 a1 a2 x y) = K n (qdr n c x y a1 a2) - v * ((K n l1 * K n x + K n l2 * K n y + K n l3) * (K n l1 * K n x + K n l2 * K n y + K n l3)) := by
  obtain ⟨e0, h0, -, -⟩ := K_foot (l3 := l3) hp hc hl hn 0 0
  have key : ∀ x y, ∃ e : Fin n, e = e0 ∧ K n (ftX' n c l1 l2 l3 x y) - K n x = -(K n (vOf n c (-l2 % n) l1) * (K n l1 * K n x + K n l2 * K n y + K n l3)) * e ∧ K n (ftY' n c l1 l2 l3 x y) - K n y = K n (uOf c (-l2 % n) l1) * (K n l1 * K n x + K n l2 * K n y + K n l3) * e := by
    intro x y
    obtain ⟨e, h1, h2, h3⟩ := K_foot (l3 := l3) hp hc hl hn x y
    refine ⟨e, ?_, h2, h3⟩
    generalize (K n l1 * K n (vOf n c (-l2 % n) l1) - K n l2 * K n (uOf c (-l2 % n) l1)) = N at h0 h1
    have : e * (e0 * N) = e0 * (e * N) := by grind
    rw [h0, h1] at this; grind
  refine ⟨if c = 0 then e0 else -e0, ?_, ?_⟩
  · rcases colB_ways hc with rfl | rfl | rfl <;> simp [pn, uOf, vOf, K_mul, K_add, K_sub, K_neg, K_mod, K_two] at h0 ⊢ <;> grind
  · intro x y
    obtain ⟨e, rfl, h2, h3⟩ := key x y
    unfold gv
    rw [K_sub, K_qdr hc x y (ftX' n c l1 l2 l3 x y), h2, h3]
    generalize K n (qdr n c x y a1 a2) = q
    generalize K n l1 * K n x + K n l2 * K n y + K n l3 = L
    rcases colB_ways hc with rfl | rfl | rfl <;> simp [uOf, vOf, K_mul, K_add, K_sub, K_neg, K_mod] at h0 ⊢ <;> grind
set_option linter.unusedSimpArgs false in
/-- Numbers that are multiples of others make the same conic. -/
theorem ck_ratio (hp : isP (n : Int) = true) {a b d x a' b' d' x' : Int} {u v : Fin n} (hu : v * u = 1)
    (ra : 0 ≤ a ∧ a < n) (rb : 0 ≤ b ∧ b < n) (rd : 0 ≤ d ∧ d < n) (ra' : 0 ≤ a' ∧ a' < n) (rb' : 0 ≤ b' ∧ b' < n) (rd' : 0 ≤ d' ∧ d' < n)
    (ea : K n a' = u * K n a) (eb : K n b' = u * K n b) (ed : K n d' = u * K n d) (ex : K n x' = u * K n x) : ck n a' b' d' x' = ck n a b d x := by
  have r0 : 0 ≤ (0 : Int) ∧ (0 : Int) < n := by have := isP_range hp; omega
  have zero : ∀ {s t : Int}, (0 ≤ s ∧ s < n) → (0 ≤ t ∧ t < n) → K n t = u * K n s → (t == 0) = (s == 0) := by
    intro s t rs rt e
    rw [Bool.eq_iff_iff, beq_iff_eq, beq_iff_eq]
    constructor
    · rintro rfl
      have : v * (u * K n s) = 0 := by rw [← e, K_zero]; grind
      exact K_inj rs r0 (by rw [K_zero]; grind)
    · rintro rfl
      exact K_inj rt r0 (by rw [e, K_zero]; grind)
  have hL : K n (ld3 a' b' d') = u * K n (ld3 a b d) := by
    unfold ld3; rw [zero ra ra' ea, zero rb rb' eb]
    split
    · split
      · exact ed
      · exact eb
    · exact ea
  unfold ck
  rw [← K_ext]
  simp only [K_mul]
  by_cases h : K n (ld3 a b d) = 0
  · have h' : K n (ld3 a' b' d') = 0 := by rw [hL, h]; grind
    have e1 : ld3 a b d = 0 := K_inj (ld3_r ra rb rd) r0 (by rw [h, K_zero])
    have e2 : ld3 a' b' d' = 0 := K_inj (ld3_r ra' rb' rd') r0 (by rw [h', K_zero])
    rw [e1, e2, inv_zero hp, K_zero]; grind
  · have h' : K n (ld3 a' b' d') ≠ 0 := fun e => h (by rw [hL] at e; have : v * (u * K n (ld3 a b d)) = 0 := by rw [e]; grind
                                                       grind)
    have i1 := K_inv hp h
    have i2 := K_inv hp h'
    rw [hL] at i2
    rw [ex]
    generalize K n (inv n (ld3 a b d)) = I at *
    generalize K n (inv n (ld3 a' b' d')) = J at *
    generalize K n (ld3 a b d) = L at *
    have : u * J * (L * I) = I * (u * L * J) := by grind
    rw [i1, i2] at this
    grind
set_option linter.unusedSimpArgs false in
theorem K_p1 : K n ((n : Int) - 1) = -1 := by rw [K_sub, K_self, K_one]; grind
end
set_option linter.unusedSimpArgs false in
theorem ps_r (c l1 l2 : Int) {p : Int} (h : isP p = true) : (0 ≤ ps1 p c l1 l2 ∧ ps1 p c l1 l2 < p) ∧ (0 ≤ ps2 p c l1 l2 ∧ ps2 p c l1 l2 < p) ∧ (0 ≤ ps3 p c l1 l2 ∧ ps3 p c l1 l2 < p) := ⟨modR _ h, modR _ h, modR _ h⟩
set_option linter.unusedSimpArgs false in
theorem pr_r (c l1 l2 l3 a1 a2 : Int) {p : Int} (h : isP p = true) : (0 ≤ pr1 p c l1 l2 l3 a1 a2 ∧ pr1 p c l1 l2 l3 a1 a2 < p) ∧ (0 ≤ pr2 p c l1 l2 l3 a1 a2 ∧ pr2 p c l1 l2 l3 a1 a2 < p) ∧ (0 ≤ pr3 p c l1 l2 l3 a1 a2 ∧ pr3 p c l1 l2 l3 a1 a2 < p) := ⟨modR _ h, modR _ h, modR _ h⟩
set_option linter.unusedSimpArgs false in
/-- The program's parabola is the model's. -/
theorem par_same {p c l1 l2 l3 : Int} (a1 a2 : Int) (hp : isP p = true) (hc : colB c = true) (hl : leadB l1 l2 = true) (hn : perpB p c l1 l2 l1 l2 = false) :
    pa1 p c a1 a2 l1 l2 l3 = pc1 p c l1 l2 l3 a1 a2 ∧ pa2 p c a1 a2 l1 l2 l3 = pc2 p c l1 l2 l3 a1 a2 ∧ pa3 p c a1 a2 l1 l2 l3 = pc3 p c l1 l2 l3 a1 a2 ∧ pa4 p c a1 a2 l1 l2 l3 = pc4 p c l1 l2 l3 a1 a2 ∧ pa5 p c a1 a2 l1 l2 l3 = pc5 p c l1 l2 l3 a1 a2 ∧ pa6 p c a1 a2 l1 l2 l3 = pc6 p c l1 l2 l3 a1 a2 := by
  obtain ⟨n, rfl⟩ := Int.eq_ofNat_of_zero_le (by have := isP_range hp; omega : 0 ≤ p)
  haveI := neZero_of hp
  obtain ⟨v, hv, hg⟩ := K_gv (l3 := l3) hp a1 a2 hc hl hn
  have h2 : K n 2 ≠ 0 := K_small ⟨by decide, by have := isP_range hp; omega⟩ (by decide)
  have i2 := K_inv hp h2
  rw [K_two] at i2
  have hu : (K n (inv n 2) * K n (pn c l1 l2)) * (2 * v) = 1 := by grind
  have e1 : K n (pr1 n c l1 l2 l3 a1 a2) = 2 * v * K n (ps1 n c l1 l2) := by
    unfold pr1 gR gL ps1
    simp only [K_mod, K_add, K_sub, hg, K_qdr hc, K_zero, K_one, K_self]
    clear hg hu i2 h2 hl hn
    rcases colB_ways hc with rfl | rfl | rfl <;> simp [pn, K_mul, K_add, K_sub, K_two, K_zero] at hv ⊢ <;> clear hc <;> generalize K n l1 = m1 at * <;> generalize K n l2 = m2 at * <;> generalize K n l3 = m3 at * <;> generalize K n a1 = x1 at * <;> generalize K n a2 = x2 at * <;> clear hp <;> grind -lia
  have e2 : K n (pr2 n c l1 l2 l3 a1 a2) = 2 * v * K n (ps2 n c l1 l2) := by
    unfold pr2 gB gO gR gU ps2
    simp only [K_mod, K_add, K_sub, K_mul, hg, K_qdr hc, K_zero, K_one, K_self, K_two]
    clear hg hu i2 h2 hl hn e1
    rcases colB_ways hc with rfl | rfl | rfl <;> simp [pn, K_mul, K_add, K_sub, K_two, K_zero] at hv ⊢ <;> clear hc <;> generalize K n l1 = m1 at * <;> generalize K n l2 = m2 at * <;> generalize K n l3 = m3 at * <;> generalize K n a1 = x1 at * <;> generalize K n a2 = x2 at * <;> clear hp <;> grind -lia
  have e3 : K n (pr3 n c l1 l2 l3 a1 a2) = 2 * v * K n (ps3 n c l1 l2) := by
    unfold pr3 gU gD ps3
    simp only [K_mod, K_add, K_sub, hg, K_qdr hc, K_zero, K_one, K_self]
    clear hg hu i2 h2 hl hn e1 e2
    rcases colB_ways hc with rfl | rfl | rfl <;> simp [pn, K_mul, K_add, K_sub, K_neg, K_two, K_zero] at hv ⊢ <;> clear hc <;> generalize K n l1 = m1 at * <;> generalize K n l2 = m2 at * <;> generalize K n l3 = m3 at * <;> generalize K n a1 = x1 at * <;> generalize K n a2 = x2 at * <;> clear hp <;> grind -lia
  have e4 : K n (pr4 n c l1 l2 l3 a1 a2) = 2 * v * K n (ps4 n c a1 a2 l1 l2 l3) := by
    unfold pr4 gR gL ps4
    simp only [K_mod, K_add, K_sub, hg, K_qdr hc, K_zero, K_one, K_self]
    clear hg hu i2 h2 hl hn e1 e2 e3
    rcases colB_ways hc with rfl | rfl | rfl <;> simp [pn, K_mul, K_add, K_sub, K_neg, K_two, K_zero] at hv ⊢ <;> clear hc <;> generalize K n l1 = m1 at * <;> generalize K n l2 = m2 at * <;> generalize K n l3 = m3 at * <;> generalize K n a1 = x1 at * <;> generalize K n a2 = x2 at * <;> clear hp <;> grind -lia
  have e5 : K n (pr5 n c l1 l2 l3 a1 a2) = 2 * v * K n (ps5 n c a1 a2 l1 l2 l3) := by
    unfold pr5 gU gD ps5
    simp only [K_mod, K_add, K_sub, hg, K_qdr hc, K_zero, K_one, K_self]
    clear hg hu i2 h2 hl hn e1 e2 e3 e4
    rcases colB_ways hc with rfl | rfl | rfl <;> simp [pn, K_mul, K_add, K_sub, K_neg, K_two, K_zero] at hv ⊢ <;> clear hc <;> generalize K n l1 = m1 at * <;> generalize K n l2 = m2 at * <;> generalize K n l3 = m3 at * <;> generalize K n a1 = x1 at * <;> generalize K n a2 = x2 at * <;> clear hp <;> grind -lia
  have e6 : K n (pr6 n c l1 l2 l3 a1 a2) = 2 * v * K n (ps6 n c a1 a2 l1 l2 l3) := by
    unfold pr6 gO ps6
    simp only [K_mod, K_add, K_sub, K_mul, hg, K_qdr hc, K_zero, K_one, K_two]
    clear hg hu i2 h2 hl hn e1 e2 e3 e4 e5
    rcases colB_ways hc with rfl | rfl | rfl <;> simp [pn, K_mul, K_add, K_sub, K_neg, K_two, K_zero] at hv ⊢ <;> clear hc <;> generalize K n l1 = m1 at * <;> generalize K n l2 = m2 at * <;> generalize K n l3 = m3 at * <;> generalize K n a1 = x1 at * <;> generalize K n a2 = x2 at * <;> clear hp <;> grind -lia
  obtain ⟨r1, r2, r3⟩ := ps_r c l1 l2 hp
  obtain ⟨t1, t2, t3⟩ := pr_r c l1 l2 l3 a1 a2 hp
  exact ⟨(ck_ratio hp hu r1 r2 r3 t1 t2 t3 e1 e2 e3 e1).symm, (ck_ratio hp hu r1 r2 r3 t1 t2 t3 e1 e2 e3 e2).symm, (ck_ratio hp hu r1 r2 r3 t1 t2 t3 e1 e2 e3 e3).symm, (ck_ratio hp hu r1 r2 r3 t1 t2 t3 e1 e2 e3 e4).symm, (ck_ratio hp hu r1 r2 r3 t1 t2 t3 e1 e2 e3 e5).symm, (ck_ratio hp hu r1 r2 r3 t1 t2 t3 e1 e2 e3 e6).symm⟩

end Go.Proofs.Ytkkaicneabkkdaa

namespace Go.Proofs.Ytkkaicneabkkdaa
open Go.RowKit

theorem infoSl3 : (Try.prog.info? 87).map (fun i => (i.zero, i.size, i.bytes)) = some (some (.slice none 0 0), 1, 24) := by kernel_rfl
theorem own_cap3 {w : World} {base : Nat} {e : TypeId} {k n g cap : Nat} {xs : List Value} (h : w.ownsRow base e k (.slice (some ⟨g, 0, none⟩) n cap) n xs) : n ≤ cap := by
  rcases h.2 with ⟨h', _⟩ | ⟨g', cap', cur, h', hb, hg, hnc, _⟩
  · simp at h'
  · simp only [Value.slice.injEq, Option.some.injEq, Addr.mk.injEq, and_true, true_and] at h'
    omega
/-- The headers of rows of 3 numbers. -/
def hds3 (T k : Nat) : List Value := (List.range k).map fun i : Nat => Value.slice (some ⟨T, i * 3, none⟩) 3 3
theorem hds3_succ (T k : Nat) : hds3 T (k + 1) = hds3 T k ++ [.slice (some ⟨T, k * 3, none⟩) 3 3] := by simp [hds3, List.range_succ]
set_option linter.unusedVariables false in
set_option maxRecDepth 20000 in
set_option maxHeartbeats 4000000 in
theorem rowsOf3_any (T cap0 k base : Nat) (xs : List Int) (w : World) (hown : w.ownsRow base 2 1 (.slice (some ⟨T, 0, none⟩) (k * 3) cap0) (k * 3) (ints xs)) (hk : k ≤ 8) (hk0 : 0 < k) :
    Calls Try.prog 68 #[.slice (some ⟨T, 0, none⟩) (k * 3) cap0, .int .i64 3] w fun e w' => ∃ R cap : Nat, e = .returned (.slice (some ⟨R, 0, none⟩) k cap) ∧ k ≤ cap ∧ w.heap.size ≤ R ∧ LayM w' R T k 3 (fun i => i * 3) (fun i j => xs.getD (i * 3 + j) 0) ∧ Below w.heap.size w w' := by
  obtain ⟨i0, hi, hz0, hz1, hz2⟩ := info_parts infoSl3
  have hcap0 := own_cap3 hown
  have hT := (hown.lt T rfl).2
  have HOW := Lib.hid hown
  clear hown
  go_enter Try.func68, Try.ntmps68
  go_wp2_with fail
  go_loopw [5, 6, 7] (fun v s _ wr => ∃ i : Nat, i ≤ k ∧ s = .int .i64 ((i * 3 : Nat) : Int) ∧ wr.ownsRow w.heap.size 87 1 v i (hds3 T i) ∧ Below w.heap.size w wr) (fun _ s _ _ => k * 3 - (intOf s).toNat)
  case atStart => exact ⟨0, by omega, rfl, World.ownsRow_nil _ _ _ _, Below.refl _ _⟩
  case round =>
    obtain ⟨i, hik, rfl, hown, hbel⟩ := hrel
    have hsr := hbel.size
    by_cases hlt : i < k
    · obtain ⟨s, hs⟩ : ∃ s, s = i * 3 := ⟨_, rfl⟩
      have HS := Lib.hid (hds3_succ T i)
      obtain ⟨N, hN⟩ : ∃ N, N = k * 3 := ⟨_, rfl⟩
      have h1 : (s : Int) < (N : Int) := by omega
      have h2 : IntKind.i64.wrap ((s : Int) + 3) = (s : Int) + 3 := wrapI _ (by omega)
      have h3 : (0 : Int) ≤ (s : Int) := by omega
      have h4 : (s : Int) + 3 ≤ (cap0 : Int) := by omega
      have h5 : (s : Int) ≤ (s : Int) + 3 := by omega
      have h6 : (0 : Int) ≤ (s : Int) + 3 := by omega
      have h7 : s < cap0 := by omega
      have h8 : ((s : Int) + 3).toNat = s + 3 := by omega
      have h9 : s + 3 - s = 3 := by omega
      rw [← hs] at HS ⊢
      rw [← hN]
      have HSS := Lib.hid hs
      have HNN := Lib.hid hN
      clear hs hN
      go_wp2_with (at_builtin; refine wpList_append_own _ rfl _ _ 66 rfl w.heap.size 87 i0 (.slice none 0 0) 1 24 Try.underlying66 hi hz0 hz1 hz2 rfl (by decide) _ _ _ rfl (hown.alloc _) ⟨wr.heap.size, 0, none⟩ 1 1 [.slice (some ⟨T, s, none⟩) 3 3] rfl rfl ?c1 ?c2 ?c3 ?c4 ?c5 ?_)
      case c1 =>
        intro j u hj
        match j, hj with
        | 0, hj => simp at hj; subst hj; simp [Addr.add]
      case c2 => intro u hu; simp at hu; subst hu; rfl
      case c3 => unfold maxLen; omega
      case c4 => omega
      case c5 => simp; omega
      intro v' w3 hown' hgrow _
      have hb3 : Below w.heap.size w w3 := (hbel.alloc hsr _).grown hgrow (by simp; omega) (fun g' hg' => (hown.lt g' hg').1)
      rw [← HS.out] at hown'
      have HO := Lib.hid hown'
      clear hown' hgrow hown hbel
      go_wp2
      go_roundw
      case rel => exact ⟨i + 1, by omega, by rw [show ((i + 1) * 3 : Nat) = s + 3 from by have := HSS.out; omega]; go_num, HO.out, hb3⟩
      case measure => have := HSS.out; have := HNN.out; simp [intOf]; omega
    · obtain rfl : i = k := by omega
      rcases own_ways hown with ⟨h0, _⟩ | ⟨_, R, cap, rfl, hg1, hg2, _⟩
      · omega
      have hcap := own_cap3 hown
      have hl2 := own_below HOW.out hbel (fun g hg => by cases hg; exact hT)
      have HP := Lib.hid (show LayM wr R T i 3 (fun i => i * 3) (fun i j => xs.getD (i * 3 + j) 0) from
        ⟨fun a ha => by rw [hown.cellAt a (by omega)]; simp [hds3, ha], fun a ha => hown.frozenAt a, fun a j ha hj => own_cell hl2 (by omega), fun a j ha hj => hl2.frozenAt _, fun a a' j j' ha ha' hj hj' e => by omega, by omega⟩)
      clear hl2
      obtain ⟨N, hN⟩ : ∃ N, N = i * 3 := ⟨_, rfl⟩
      rw [← hN]
      clear hN HOW
      go_wp2
      (refine bodyPost_ret (v := .slice (some ⟨R, 0, none⟩) i cap) (by simp [results, Try.results68, go_sem]) rfl ⟨R, cap, rfl, hcap, hg1, HP.out, hbel⟩)

end Go.Proofs.Ytkkaicneabkkdaa
