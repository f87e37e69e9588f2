/-
  Small texts in one: Math, BaseMath, TriMath, CircVals, InsMath, Slice, Btw, SeqAll, PtKey, SetMath, FlatAt, TangMath, SpecBefore, CollG, LnKey, LnCells, Grow, ArrEq, StepApp, Field, Mod, SpecVec, Inv, SpecNormal, SpecTL, SpecTangent, SpecOn, SpecAt0, SpecProd1, SpecProd, PtCells, SpecAt02, SpecPts, CircMathA, SpecIsCircle, SpecCol.
-/
import Derived.WalkKit
import Derived.Deep.QuietTactic
import Derived.BigQuiet
import Derived.StillTailTactics
import Derived.LoopN
import Derived.RangeFuncNested
import Derived.RangeFuncBound
import Derived.RangeFuncCalls
import Derived.RangeFuncLeaves
import Derived.Shelf.Abstract
import Derived.OwnWalkIn
import Derived.TacticsInMore
import Derived.LoopNIn
import Derived.LoopIn
import Derived.Test.YtmpgpmcmhbpjeabRows
import Derived.Lib.Hide
import Derived.Maps.Own
import Derived.Maps.OwnSet
import Derived.Maps.Views
import Derived.DeepKeys4
import Derived.WideKeyPair
import Derived.Sort.MapsRangeIn
import Derived.ChangeKeysEq
import Derived.Deep.RegionLaw
import Derived.Deep.RegionHeld3
import Derived.Deep.DeepCutAuto

namespace Go.Proofs.Ytmpgpmcmhbpjeab
open Go.RowKit

theorem balloc {w w1 : World} (h : Below w.heap.size w w1) (o : Obj) : Below w.heap.size w (w1.alloc o) := h.alloc h.size o
theorem bdrewN {B : Nat} {w w1 : World} (h : Below B w w1) (n : Nat) : Below B w (w1.drewN n) := ⟨h.os, h.tape, h.output, h.size, h.block⟩
/-- Two calls, one behind the other. -/
theorem bthen {w w1 w2 : World} (h : Below w.heap.size w w1) (k : Below w1.heap.size w1 w2) : Below w.heap.size w w2 := h.trans (k.mono h.size)

theorem cell_back {W w' : World} (h : Below W.heap.size W w') {b : Nat} (hb : b < W.heap.size) (j : Nat) : w'.cell? ⟨b, j, none⟩ = W.cell? ⟨b, j, none⟩ := h.cell (p := ⟨b, j, none⟩) hb

theorem bcell {W w1 : World} (hb : Below W.heap.size W w1) : (∀ b o, b < W.heap.size → w1.cell? ⟨b, o, none⟩ = W.cell? ⟨b, o, none⟩) ∧ (∀ b o, b < W.heap.size → w1.frozen? ⟨b, o, none⟩ = W.frozen? ⟨b, o, none⟩) :=
  ⟨fun b o h => hb.cell (p := ⟨b, o, none⟩) h, fun b o h => hb.frozen (p := ⟨b, o, none⟩) h⟩

theorem stillOf {P : Program} {f : FuncId} {args : Array Value} {w : World} {v : Value} (h : Calls P f args w fun e w' => e = .returned v ∧ w = w') : Calls P f args w fun e w'' => e = .returned v ∧ w'' = w :=
  Calls.mono h fun _ _ hh => ⟨hh.1, hh.2.symm⟩
theorem quietOf {P : Program} {f : FuncId} {args : Array Value} {w : World} {n : Nat} {v : Value} (h : Calls P f args (w.drewN n) fun e w' => e = .returned v ∧ w.drewN n = w') : Calls P f args (w.drewN n) fun e w'' => e = .returned v ∧ ∃ m, w'' = w.drewN m :=
  Calls.mono h fun _ _ hh => ⟨hh.1, n, hh.2.symm⟩

/-- A region that draws its order: what only reads and calls quietly, then a tail in one order. -/
theorem region_tail {P : Program} {id : Nat} {Q : Exit → Act → World → Prop} {a : Act} {w : World} {l : List Oper} (n : Nat) (hm : P.follows .mixedOrders = true) (hB : Region.lexTailB .any l.toArray n = true)
    (h : wpStill P l.toArray w.drew (fun a' => wpList P l.toArray Q (l.drop n) a' w.drew) (l.take n) a) : (Code.region id l.toArray true).wp P Q a w := wp_region_still_tail n hm hB h

theorem kalloc {W : World} {a : Addr} {v : Value} (o : Obj) (h : W.cell? a = some v) : (W.alloc o).cell? a = some v := by
  have hl : a.block < W.heap.size := World.block_lt_of_cell? W a h
  rw [← h]
  exact World.cell?_of_block (w := W) (Below.heap_alloc W o a.block hl)
theorem kcall {W W' : World} {b j : Nat} {v : Value} (hb : Below W.heap.size W W') (h : W.cell? ⟨b, j, none⟩ = some v) : W'.cell? ⟨b, j, none⟩ = some v :=
  (cell_back hb (World.block_lt_of_cell? W ⟨b, j, none⟩ h) j).trans h
theorem krealloc {W : World} {b j : Nat} {v : Value} {o o' : Obj} (hn : b ≠ W.heap.size) (h : (W.alloc o).cell? ⟨b, j, none⟩ = some v) : (W.alloc o').cell? ⟨b, j, none⟩ = some v := by
  have hl : b < (W.alloc o).heap.size := World.block_lt_of_cell? (W.alloc o) ⟨b, j, none⟩ h
  have hb : b < W.heap.size := by simp at hl; omega
  have h0 : W.cell? ⟨b, j, none⟩ = some v := (World.cell?_of_block (w := W) (a := ⟨b, j, none⟩) (Below.heap_alloc W o b hb)).symm.trans h
  exact kalloc o' h0
theorem ksame {W : World} {a : Addr} {u v : Value} (h : W.cell? a = some u) : (W.setCell a v).cell? a = some v := World.cell?_setCell_same' _ _ _ (by rw [h]; rfl)
theorem kother {W : World} {b j k : Nat} {u v : Value} (hn : j ≠ k) (h : W.cell? ⟨b, j, none⟩ = some v) : (W.setCell ⟨b, k, none⟩ u).cell? ⟨b, j, none⟩ = some v := by
  simp only [World.cell?, World.setCell, Array.getElem?_modify] at h ⊢
  simp only [if_true]
  cases hb : W.heap[b]? with
  | none => rw [hb] at h; simp at h
  | some o =>
    rw [hb] at h
    cases o <;> simp_all
    rw [Array.getElem?_setIfInBounds_ne (by omega)]; exact h
theorem kis_of {W : World} {a : Addr} {v : Value} (h : W.cell? a = some v) : (W.cell? a).isSome = true := by rw [h]; rfl
theorem kis_set {W : World} {a b : Addr} {u : Value} (h : (W.cell? a).isSome = true) : ((W.setCell b u).cell? a).isSome = true := by
  obtain ⟨v, hv⟩ := Option.isSome_iff_exists.1 h
  obtain ⟨v', h'⟩ := Go.RowKit.cell?_setCell_some (p := b) (x := u) hv
  rw [h']; rfl
theorem kis_alloc {W : World} {a : Addr} (o : Obj) (h : (W.cell? a).isSome = true) : ((W.alloc o).cell? a).isSome = true := by
  obtain ⟨v, hv⟩ := Option.isSome_iff_exists.1 h
  rw [kalloc o hv]; rfl
theorem kis_drew {W : World} {a : Addr} (h : (W.cell? a).isSome = true) : (W.drew.cell? a).isSome = true := h
theorem kis_call {W W' : World} {b j : Nat} (hb : Below W.heap.size W W') (h : (W.cell? ⟨b, j, none⟩).isSome = true) : (W'.cell? ⟨b, j, none⟩).isSome = true := by
  obtain ⟨v, hv⟩ := Option.isSome_iff_exists.1 h
  rw [kcall hb hv]; rfl
theorem ksameS {W : World} {a : Addr} {v : Value} (h : (W.cell? a).isSome = true) : (W.setCell a v).cell? a = some v := World.cell?_setCell_same' _ _ _ h
theorem kset3 {W : World} {q : Nat} {x y z u0 u1 u2 : Value} (h0 : W.cell? ⟨q, 0, none⟩ = some u0) (h1 : W.cell? ⟨q, 1, none⟩ = some u1) (h2 : W.cell? ⟨q, 2, none⟩ = some u2) :
    (((W.setCell ⟨q, 0, none⟩ x).setCell ⟨q, 1, none⟩ y).setCell ⟨q, 2, none⟩ z).cell? ⟨q, 0, none⟩ = some x ∧ (((W.setCell ⟨q, 0, none⟩ x).setCell ⟨q, 1, none⟩ y).setCell ⟨q, 2, none⟩ z).cell? ⟨q, 1, none⟩ = some y ∧
    (((W.setCell ⟨q, 0, none⟩ x).setCell ⟨q, 1, none⟩ y).setCell ⟨q, 2, none⟩ z).cell? ⟨q, 2, none⟩ = some z :=
  ⟨kother (by decide) (kother (by decide) (ksame h0)), kother (by decide) (ksame (kother (by decide) h1)), ksame (kother (by decide) (kother (by decide) h2))⟩
theorem kset2 {W : World} {q : Nat} {x y u0 u1 : Value} (h0 : W.cell? ⟨q, 0, none⟩ = some u0) (h1 : W.cell? ⟨q, 1, none⟩ = some u1) :
    ((W.setCell ⟨q, 0, none⟩ x).setCell ⟨q, 1, none⟩ y).cell? ⟨q, 0, none⟩ = some x ∧ ((W.setCell ⟨q, 0, none⟩ x).setCell ⟨q, 1, none⟩ y).cell? ⟨q, 1, none⟩ = some y :=
  ⟨kother (by decide) (ksame h0), ksame (kother (by decide) h1)⟩
theorem kfresh {W : World} {c : Array Value} {t : TypeId} {q j : Nat} {v : Value} (hq : q = W.heap.size) (hc : c[j]? = some v) : (W.alloc (.cells c t)).cell? ⟨q, j, none⟩ = some v := by
  subst hq
  have h : (W.alloc (.cells c t)).heap[W.heap.size]? = some (.cells c t) := by
    show (W.heap.push _)[W.heap.size]? = _
    simp
  simp only [World.cell?, h]
  exact hc
theorem kis_new {W : World} {c : Array Value} {t : TypeId} {q j : Nat} (hq : q = W.heap.size) (hc : (c[j]?).isSome = true) : ((W.alloc (.cells c t)).cell? ⟨q, j, none⟩).isSome = true := by
  obtain ⟨v, hv⟩ := Option.isSome_iff_exists.1 hc
  rw [kfresh hq hv]; rfl
theorem kfro {W W' : World} {b j : Nat} (hb : Below W.heap.size W W') (hl : b < W.heap.size) (h : W.frozen? ⟨b, j, none⟩ = false) : W'.frozen? ⟨b, j, none⟩ = false :=
  (hb.frozen (p := ⟨b, j, none⟩) hl).trans h
theorem fallocNew {W : World} {c : Array Value} {t : TypeId} {q j : Nat} (hq : q = W.heap.size) : (W.alloc (.cells c t)).frozen? ⟨q, j, none⟩ = false := by
  subst hq
  have h : (W.alloc (.cells c t)).heap[W.heap.size]? = some (.cells c t) := by
    show (W.heap.push _)[W.heap.size]? = _
    simp
  simp only [World.frozen?, h]
  simp
theorem falloc {W : World} {b j : Nat} {o : Obj} (hl : b < W.heap.size) (h : W.frozen? ⟨b, j, none⟩ = false) : (W.alloc o).frozen? ⟨b, j, none⟩ = false :=
  (World.frozen?_of_block (w := W) (a := ⟨b, j, none⟩) (Below.heap_alloc W o b hl)).trans h
theorem kback {W : World} {b j : Nat} {v : Value} {o : Obj} (hn : b ≠ W.heap.size) (h : (W.alloc o).cell? ⟨b, j, none⟩ = some v) : W.cell? ⟨b, j, none⟩ = some v := by
  have hl : b < (W.alloc o).heap.size := World.block_lt_of_cell? (W.alloc o) ⟨b, j, none⟩ h
  have hb : b < W.heap.size := by simp at hl; omega
  exact (World.cell?_of_block (w := W) (a := ⟨b, j, none⟩) (Below.heap_alloc W o b hb)).symm.trans h
theorem kundrew {W : World} {a : Addr} {v : Value} (h : W.drew.cell? a = some v) : W.cell? a = some v := h
theorem kdrew {W : World} {a : Addr} {v : Value} (h : W.cell? a = some v) : W.drew.cell? a = some v := h
theorem kdrewN {W : World} {a : Addr} {v : Value} {n : Nat} (h : W.cell? a = some v) : (W.drewN n).cell? a = some v := h
theorem fdrewN {W : World} {a : Addr} {n : Nat} (h : W.frozen? a = false) : (W.drewN n).frozen? a = false := h
theorem fdrew {W : World} {a : Addr} (h : W.frozen? a = false) : W.drew.frozen? a = false := h
theorem kset {W : World} {b j q k : Nat} {u v : Value} (hn : b ≠ q) (h : W.cell? ⟨b, j, none⟩ = some v) : (W.setCell ⟨q, k, none⟩ u).cell? ⟨b, j, none⟩ = some v := by
  rw [← h]
  exact World.cell?_of_block (w := W) (Below.heap_setCell W ⟨q, k, none⟩ u b hn)

/-- The ten primes. -/
def isP (p : Int) : Bool := decide (p = 3 ∨ p = 5 ∨ p = 7 ∨ p = 11 ∨ p = 13 ∨ p = 17 ∨ p = 19 ∨ p = 23 ∨ p = 29 ∨ p = 31)
/-- A number from lo to hi. -/
def inB (n lo hi : Int) : Bool := decide (lo ≤ n ∧ n ≤ hi)
theorem inB_true {n lo hi : Int} (h : lo ≤ n ∧ n ≤ hi) : inB n lo hi = true := by unfold inB; exact decide_eq_true h
theorem inB_false {n lo hi : Int} (h : ¬ (lo ≤ n ∧ n ≤ hi)) : inB n lo hi = false := by unfold inB; exact decide_eq_false h
theorem isP_iff {p : Int} : isP p = true ↔ (p = 3 ∨ p = 5 ∨ p = 7 ∨ p = 11 ∨ p = 13 ∨ p = 17 ∨ p = 19 ∨ p = 23 ∨ p = 29 ∨ p = 31) := by unfold isP; exact decide_eq_true_iff
theorem isP_range {p : Int} (h : isP p = true) : 3 ≤ p ∧ p ≤ 31 := by rw [isP_iff] at h; omega
theorem isP_none {p : Int} (h : ¬ (3 ≤ p ∧ p ≤ 31)) : isP p = false := by
  cases hh : isP p with
  | false => rfl
  | true => exact absurd (isP_range hh) h
/-- A number below 32 without a divisor from 2 on up to its root is a prime, and one with such a divisor is none. -/
theorem isP_divs_fin : ∀ p : Fin 32, ∀ d : Fin 7, 3 ≤ p.val → 2 ≤ d.val → p.val % d.val = 0 → d.val * d.val ≤ p.val → isP (p.val : Int) = false := by decide +kernel
theorem isP_nodivs_fin : ∀ p : Fin 32, ∀ k : Fin 7, 3 ≤ p.val → p.val < k.val * k.val → (∀ d : Fin 7, d.val < k.val → 2 ≤ d.val → p.val % d.val ≠ 0) → isP (p.val : Int) = true := by decide +kernel
theorem isP_divs (p d : Nat) (h : p < 32) (h3 : 3 ≤ p) (hd : d < 7) (h2 : 2 ≤ d) (hm : p % d = 0) (hq : d * d ≤ p) : isP (p : Int) = false :=
  isP_divs_fin ⟨p, h⟩ ⟨d, hd⟩ h3 h2 hm hq
theorem isP_nodivs (p k : Nat) (h : p < 32) (h3 : 3 ≤ p) (hk : k < 7) (hq : p < k * k) (hm : ∀ d, d < k → 2 ≤ d → p % d ≠ 0) : isP (p : Int) = true :=
  isP_nodivs_fin ⟨p, h⟩ ⟨k, hk⟩ h3 hq fun d hdk hd2 => hm d.val hdk hd2

end Go.Proofs.Ytmpgpmcmhbpjeab

namespace Go.Proofs.Ytmpgpmcmhbpjeab
open Go.RowKit

/-- No number before k answers yes. -/
def NoYes (f : Nat → Bool) (k : Nat) : Prop := ∀ c, c < k → f c = false
theorem NoYes.start (f : Nat → Bool) : NoYes f 0 := fun _ h => absurd h (by omega)
theorem NoYes.next {f : Nat → Bool} {k : Nat} (h : NoYes f k) (hk : f k = false) : NoYes f (k + 1) := fun c hc => by
  by_cases e : c = k
  · rw [e]; exact hk
  · exact h c (by omega)
theorem find_some {f : Nat → Bool} {n k : Nat} (h : NoYes f k) (hk : k < n) (hy : f k = true) : (List.range n).find? f = some k := by
  rw [List.find?_eq_some_iff_append]
  refine ⟨hy, List.range k, (List.range' (k + 1) (n - k - 1)), ?_, ?_⟩
  · rw [List.range_eq_range', List.range_eq_range', show (k :: List.range' (k + 1) (n - k - 1)) = List.range' k (n - k) by
      rw [show n - k = (n - k - 1) + 1 by omega, List.range'_succ]; rfl]
    have := @List.range'_append_1 0 k (n - k)
    rw [Nat.zero_add, show k + (n - k) = n by omega] at this
    exact this.symm
  · intro a ha
    have := h a (by simpa using ha)
    simp [this]
theorem find_none {f : Nat → Bool} {n k : Nat} (h : NoYes f k) (hk : n ≤ k) : (List.range n).find? f = none := by
  rw [List.find?_eq_none]
  intro x hx
  have := h x (by have := List.mem_range.1 hx; omega)
  simp [this]

/-- The inverse of m modulo n, or 0. -/
def invN (n m : Nat) : Nat := ((List.range n).find? fun b => m * b % n == 1).getD 0
/-- The inverse of a modulo p, or 0. -/
def inv (p a : Int) : Int := (invN p.toNat (a % p).toNat : Int)
theorem isP_ne {n : Nat} (h : isP (n : Int) = true) : 3 ≤ n ∧ n ≤ 31 := by have := isP_range h; omega
theorem pow_inv_fin : ∀ n : Fin 32, isP (n.val : Int) = true → ∀ m : Fin 32, m.val < n.val → m.val ^ (n.val - 2) % n.val = invN n.val m.val := by decide +kernel
theorem pow_inv {n m : Nat} (h : isP (n : Int) = true) (hm : m < n) : m ^ (n - 2) % n = invN n m :=
  have := isP_ne h
  pow_inv_fin ⟨n, by omega⟩ h ⟨m, by omega⟩ hm
theorem invN_mod (n m : Nat) : invN n (m % n) = invN n m := by
  unfold invN
  congr 2
  funext b
  rw [Nat.mod_mul_mod]
theorem inv_cast (n m : Nat) : inv (n : Int) (m : Int) = (invN n m : Int) := by
  unfold inv
  rw [show ((m : Int) % (n : Int)).toNat = m % n by omega, Int.toNat_natCast, invN_mod]
theorem invN_lt_fin : ∀ n : Fin 32, isP (n.val : Int) = true → ∀ m : Fin 32, m.val < n.val → invN n.val m.val < n.val ∧ (0 < m.val → m.val * invN n.val m.val % n.val = 1) := by decide +kernel
theorem inv_range {p : Int} (a : Int) (h : isP p = true) : 0 ≤ inv p a ∧ inv p a < p := by
  obtain ⟨n, rfl⟩ := Int.eq_ofNat_of_zero_le (by have := isP_range h; omega : 0 ≤ p)
  have h2 := isP_ne h
  have h3 : 0 ≤ a % (n : Int) := Int.emod_nonneg _ (by omega)
  have h4 : a % (n : Int) < n := Int.emod_lt_of_pos _ (by omega)
  have := (invN_lt_fin ⟨n, by omega⟩ h ⟨(a % (n : Int)).toNat, by omega⟩ (by show (a % (n : Int)).toNat < n; omega)).1
  unfold inv
  rw [Int.toNat_natCast]
  simp only at this
  omega

/-- One step of the power by squares: the exponent halves. -/
theorem pow_step_odd {n out base k r : Nat} (hk : k % 2 = 1) (h : out * base ^ k % n = r) : (out * base % n) * (base * base % n) ^ (k / 2) % n = r := by
  have e : k = k / 2 * 2 + 1 := by omega
  rw [← h, Nat.mul_mod, Nat.mod_mod, Nat.pow_mod, Nat.mod_mod, ← Nat.pow_mod, ← Nat.mul_mod]
  conv => rhs; rw [e, Nat.pow_succ, Nat.mul_comm (k / 2) 2, Nat.pow_mul, Nat.pow_two, Nat.mul_comm _ base, ← Nat.mul_assoc]
theorem pow_step_even {n out base k r : Nat} (hk : k % 2 = 0) (h : out * base ^ k % n = r) : out * (base * base % n) ^ (k / 2) % n = r := by
  have e : k = k / 2 * 2 := by omega
  rw [← h, Nat.mul_mod, Nat.pow_mod, Nat.mod_mod, ← Nat.pow_mod, ← Nat.mul_mod]
  conv => rhs; rw [e, Nat.mul_comm (k / 2) 2, Nat.pow_mul, Nat.pow_two]

/-- Whether r is a root of a. -/
def isRoot (n : Nat) (a : Int) (r : Nat) : Bool := ((r : Int) * r % n == a)
/-- The least root of a, if there is one. -/
def rootO (p a : Int) : Option Nat := (List.range p.toNat).find? (isRoot p.toNat a)
def rootV (p a : Int) : Int := ((rootO p a).getD 0 : Nat)
def rootB (p a : Int) : Bool := (rootO p a).isSome
theorem root_some {n k : Nat} {a : Int} (h : NoYes (isRoot n a) k) (hk : k < n) (hy : isRoot n a k = true) : rootV (n : Int) a = k ∧ rootB (n : Int) a = true := by
  have := find_some h hk hy
  simp [rootV, rootB, rootO, this]
theorem root_none {n k : Nat} {a : Int} (h : NoYes (isRoot n a) k) (hk : n ≤ k) : rootV (n : Int) a = 0 ∧ rootB (n : Int) a = false := by
  have := find_none h hk
  simp only [rootV, rootB, rootO, Int.toNat_natCast, this]
  exact ⟨rfl, rfl⟩

/-- Go's remainder twice is the rest. -/
theorem mod_twice (x p : Int) : (x.tmod p + p) % p = x % p := by
  rw [Int.add_emod_right]
  rw [Int.tmod_def, Int.sub_mul_emod_self_left]
theorem tmod_bounds (x p : Int) (h : 1 ≤ p) : -p < x.tmod p ∧ x.tmod p < p := by
  have h1 := Int.tmod_lt_of_pos x (by omega : 0 < p)
  have h2 := Int.lt_tmod_of_pos x (by omega : 0 < p)
  omega

end Go.Proofs.Ytmpgpmcmhbpjeab

namespace Go.Proofs.Ytmpgpmcmhbpjeab
open Go.RowKit

section
variable {n : Nat} [NeZero n]
/-- The class of a number modulo n. -/
def K (n : Nat) [NeZero n] (x : Int) : Fin n := (Lean.Grind.Ring.intCast.intCast x : Fin n)
theorem K_ext {x y : Int} : K n x = K n y ↔ x % n = y % n := Lean.Grind.IsCharP.intCast_ext_iff (α := Fin n) n
theorem K_add (x y : Int) : K n (x + y) = K n x + K n y := Lean.Grind.Ring.intCast_add x y
theorem K_mul (x y : Int) : K n (x * y) = K n x * K n y := Lean.Grind.Ring.intCast_mul x y
theorem K_sub (x y : Int) : K n (x - y) = K n x - K n y := Lean.Grind.Ring.intCast_sub x y
theorem K_neg (x : Int) : K n (-x) = -K n x := Lean.Grind.Ring.intCast_neg x
theorem K_mod (x : Int) : K n (x % n) = K n x := Lean.Grind.IsCharP.intCast_emod n x
theorem K_zero : K n 0 = 0 := Lean.Grind.Ring.intCast_zero
theorem K_one : K n 1 = 1 := Lean.Grind.Ring.intCast_one
theorem K_two : K n 2 = 2 := by rw [show (2 : Int) = 1 + 1 from rfl, K_add, K_one]; grind
theorem K_three : K n 3 = 3 := by rw [show (3 : Int) = 2 + 1 from rfl, K_add, K_two, K_one]; grind
theorem K_four : K n 4 = 4 := by rw [show (4 : Int) = 2 + 2 from rfl, K_add, K_two]; grind
theorem K_eq_zero {x : Int} : K n x = 0 ↔ x % n = 0 := by
  rw [← K_zero, K_ext, Int.zero_emod]
theorem K_self : K n n = 0 := by rw [K_eq_zero]; exact Int.emod_self
theorem K_inj {x y : Int} (hx : 0 ≤ x ∧ x < n) (hy : 0 ≤ y ∧ y < n) (h : K n x = K n y) : x = y := by
  have := K_ext.1 h
  rwa [Int.emod_eq_of_lt hx.1 hx.2, Int.emod_eq_of_lt hy.1 hy.2] at this
theorem K_small {x : Int} (hx : 0 ≤ x ∧ x < n) (h : x ≠ 0) : K n x ≠ 0 := fun e => h (by
  have := K_eq_zero.1 e
  rwa [Int.emod_eq_of_lt hx.1 hx.2] at this)
theorem K_inv (hp : isP (n : Int) = true) {y : Int} (hy : K n y ≠ 0) : K n y * K n (inv n y) = 1 := by
  have hr := isP_ne hp
  have h3 : 0 ≤ y % (n : Int) := Int.emod_nonneg _ (by omega)
  have h4 : y % (n : Int) < n := Int.emod_lt_of_pos _ (by omega)
  obtain ⟨m, hm⟩ := Int.eq_ofNat_of_zero_le h3
  have hm0 : 0 < m := by
    rcases Nat.eq_zero_or_pos m with h | h
    · exact absurd (K_eq_zero.2 (by rw [hm, h]; rfl)) hy
    · exact h
  have h5 := (invN_lt_fin ⟨n, by omega⟩ hp ⟨m, by omega⟩ (by show m < n; omega)).2 hm0
  have e : inv (n : Int) y = (invN n m : Int) := by
    unfold inv; rw [hm, Int.toNat_natCast, Int.toNat_natCast]
  rw [← K_mod y, hm, e, ← K_mul, ← K_one, K_ext, ← Int.natCast_mul, ← Int.natCast_emod]
  simp only at h5
  rw [h5, Int.emod_eq_of_lt (by omega) (by omega)]; rfl
theorem K_noz (hp : isP (n : Int) = true) {x y : Int} (h : K n x * K n y = 0) : K n x = 0 ∨ K n y = 0 := by
  by_cases hx : K n x = 0
  · exact .inl hx
  · have := K_inv hp hx
    right; grind
end
theorem neZero_of {n : Nat} (hp : isP (n : Int) = true) : NeZero n := ⟨by have := isP_ne hp; omega⟩
end Go.Proofs.Ytmpgpmcmhbpjeab

namespace Go.Proofs.Ytmpgpmcmhbpjeab
open Go.RowKit

/-- All the numbers are modulo p. -/
def numsIn (p : Int) (xs : List Int) : Bool := xs.all fun x => inB x 0 (p - 1)
/-- The code of a prime and a test. -/
def codeOf (p : Int) (b : Bool) : Int := if isP p then (if b then 0 else 2) else 1
theorem codeOf_no {p : Int} {b : Bool} (h : isP p = false) : codeOf p b = 1 := by simp [codeOf, h]
theorem codeOf_out {p : Int} {b : Bool} (h : isP p = true) (hb : b = false) : codeOf p b = 2 := by simp [codeOf, h, hb]
theorem codeOf_in {p : Int} {b : Bool} (h : isP p = true) (hb : b = true) : codeOf p b = 0 := by simp [codeOf, h, hb]

/-- The numbers before k are all in the range. -/
def UpIn (p : Int) (xs : List Int) (k : Nat) : Prop := ∀ i, i < k → inB (xs.getD i 0) 0 (p - 1) = true
theorem UpIn.start (p : Int) (xs : List Int) : UpIn p xs 0 := fun _ h => absurd h (by omega)
theorem UpIn.next {p : Int} {xs : List Int} {k : Nat} {x : Int} (h : UpIn p xs k) (hx : x = xs.getD k 0) (hin : inB x 0 (p - 1) = true) : UpIn p xs (k + 1) := fun i hi => by
  by_cases e : i = k
  · rw [e, ← hx]; exact hin
  · exact h i (by omega)
theorem UpIn.all {p : Int} {xs : List Int} {k : Nat} (h : UpIn p xs k) (hk : xs.length ≤ k) : numsIn p xs = true := by
  unfold numsIn
  rw [List.all_eq_true]
  intro x hx
  obtain ⟨i, hi, e⟩ := List.getElem_of_mem hx
  have h1 := h i (by omega)
  rw [List.getD_eq_getElem?_getD, List.getElem?_eq_getElem hi, Option.getD_some, e] at h1
  exact h1
theorem numsIn_no {p : Int} {xs : List Int} {k : Nat} {x : Int} (hk : k < xs.length) (hx : x = xs.getD k 0) (hin : inB x 0 (p - 1) = false) : numsIn p xs = false := by
  unfold numsIn
  rw [List.all_eq_false]
  refine ⟨xs[k], List.getElem_mem hk, ?_⟩
  rw [List.getD_eq_getElem?_getD, List.getElem?_eq_getElem hk, Option.getD_some] at hx
  rw [← hx, hin]; simp

/-- The cells from o on of block b hold the numbers. -/
def Cells (w : World) (b o : Nat) (xs : List Int) : Prop := ∀ i, i < xs.length → w.cell? ⟨b, o + i, none⟩ = some (.int .i64 (xs.getD i 0))

theorem cells_new (w : World) (xs : List Int) (t : TypeId) : Cells (w.alloc (.cells (xs.map (Value.int .i64)).toArray t)) w.heap.size 0 xs := by
  intro i hi
  have h : (w.alloc (.cells (xs.map (Value.int .i64)).toArray t)).heap[w.heap.size]? = some (.cells (xs.map (Value.int .i64)).toArray t) := by
    show (w.heap.push _)[w.heap.size]? = _
    simp
  simp only [World.cell?, h, Nat.zero_add]
  simp [List.getElem?_eq_getElem hi]

theorem code_cases (p : Int) (b : Bool) : (codeOf p b = 0 ∧ isP p = true ∧ b = true) ∨ codeOf p b = 1 ∨ codeOf p b = 2 := by
  unfold codeOf; cases isP p <;> cases b <;> simp
/-- A code that is no zero stays with another test behind it. -/
theorem code_and_1 {p : Int} {a b : Bool} (h : codeOf p a = 1) : codeOf p (a && b) = 1 := by
  cases hp : isP p
  · exact codeOf_no hp
  · revert h; cases a <;> simp [codeOf, hp]
theorem code_and_2 {p : Int} {a b : Bool} (h : codeOf p a = 2) : codeOf p (a && b) = 2 := by
  cases hp : isP p
  · rw [codeOf_no hp] at h; omega
  · revert h; cases a <;> simp [codeOf, hp]
/-- Which of two tests has failed. -/
theorem code_split_1 {p : Int} {a b : Bool} (h : codeOf p (a && b) = 1) : codeOf p a = 1 := by
  cases hp : isP p
  · exact codeOf_no hp
  · revert h; cases a <;> cases b <;> simp [codeOf, hp]
theorem code_split_2 {p : Int} {a b : Bool} (h : codeOf p (a && b) = 2) : (isP p = true ∧ codeOf p a = 0 ∧ a = true ∧ b = false ∧ codeOf p b = 2) ∨ codeOf p a = 2 := by
  cases hp : isP p
  · rw [codeOf_no hp] at h; omega
  · cases a
    · exact .inr (codeOf_out hp rfl)
    · cases b
      · exact .inl ⟨rfl, codeOf_in hp rfl, rfl, rfl, codeOf_out hp rfl⟩
      · simp [codeOf, hp] at h
theorem numsIn_one {p a : Int} (h : numsIn p [a] = true) : 0 ≤ a ∧ a < p := by
  simp [numsIn, inB] at h; omega

theorem numsIn2 (p a b : Int) : numsIn p [a, b] = (inB a 0 (p - 1) && inB b 0 (p - 1)) := by simp [numsIn]
theorem numsIn3 (p a b c : Int) : numsIn p [a, b, c] = (inB a 0 (p - 1) && (inB b 0 (p - 1) && inB c 0 (p - 1))) := by simp [numsIn]
theorem numsApp2 (p a b c d : Int) : numsIn p [a, b, c, d] = (numsIn p [a, b] && numsIn p [c, d]) := by simp [numsIn, Bool.and_assoc]
theorem numsApp3 (p a b c d e f : Int) : numsIn p [a, b, c, d, e, f] = (numsIn p [a, b] && (numsIn p [c, d] && numsIn p [e, f])) := by simp [numsIn, Bool.and_assoc]
theorem numsApp4 (p a b c d e f g h : Int) : numsIn p [a, b, c, d, e, f, g, h] = (numsIn p [a, b] && (numsIn p [c, d] && (numsIn p [e, f] && numsIn p [g, h]))) := by simp [numsIn, Bool.and_assoc]
/-- Three numbers are a line. -/
def leadB (a b : Int) : Bool := a == 1 || (a == 0 && b == 1)
def lineB (p a b c : Int) : Bool := leadB a b && numsIn p [a, b, c]
theorem cells_at {w : World} {b : Nat} (hb : b = w.heap.size) (xs : List Int) (t : TypeId) : Cells (w.alloc (.cells (xs.map (Value.int .i64)).toArray t)) b 0 xs := by
  subst hb; exact cells_new w xs t

end Go.Proofs.Ytmpgpmcmhbpjeab

namespace Go.Proofs.Ytmpgpmcmhbpjeab
open Go.RowKit

theorem lineB_of {p a b c : Int} (hl : leadB a b = true) (hn : numsIn p [a, b, c] = true) : lineB p a b c = true := by rw [lineB, hl, hn]; rfl
theorem lineB_no1 {p a b c : Int} (hl : leadB a b = false) : lineB p a b c = false := by rw [lineB, hl]; rfl
theorem lineB_no2 {p a b c : Int} (hn : numsIn p [a, b, c] = false) : lineB p a b c = false := by rw [lineB, hn, Bool.and_false]
theorem lineB_in {p a b c : Int} (h : lineB p a b c = true) : leadB a b = true ∧ numsIn p [a, b, c] = true := by simpa [lineB] using h

/-- The four ways of the two leading numbers. -/
theorem leadB_ways (a b : Int) : (a = 1 ∧ leadB a b = true) ∨ (a = 0 ∧ b = 1 ∧ leadB a b = true) ∨ (a = 0 ∧ (b == 1) = false ∧ leadB a b = false) ∨ ((a == 1) = false ∧ (a == 0) = false ∧ leadB a b = false) := by
  by_cases h1 : a = 1
  · exact .inl ⟨h1, by simp [leadB, h1]⟩
  · by_cases h0 : a = 0
    · by_cases hb : b = 1
      · exact .inr (.inl ⟨h0, hb, by simp [leadB, h0, hb]⟩)
      · exact .inr (.inr (.inl ⟨h0, by simpa using hb, by simp [leadB, h0, hb]⟩))
    · exact .inr (.inr (.inr ⟨by simpa using h1, by simpa using h0, by simp [leadB, h0, h1]⟩))

end Go.Proofs.Ytmpgpmcmhbpjeab

namespace Go.Proofs.Ytmpgpmcmhbpjeab
open Go.RowKit

theorem mulP {a b : Int} (ha : 0 ≤ a ∧ a ≤ 31) (hb : 0 ≤ b ∧ b ≤ 31) : 0 ≤ a * b ∧ a * b ≤ 961 :=
  ⟨Int.mul_nonneg ha.1 hb.1, by have := Int.mul_le_mul ha.2 hb.2 hb.1 (by omega); omega⟩
theorem mulB {a b : Int} (ha : -8192 ≤ a ∧ a ≤ 8192) (hb : -8192 ≤ b ∧ b ≤ 8192) : -67108864 ≤ a * b ∧ a * b ≤ 67108864 := by
  have h : (a * b).natAbs ≤ 8192 * 8192 := by rw [Int.natAbs_mul]; exact Nat.mul_le_mul (by omega) (by omega)
  omega
theorem wrapI (x : Int) (h : -1099511627776 ≤ x ∧ x ≤ 1099511627776) : IntKind.i64.wrap x = x := IntWalk.i64_in _ (by omega)
theorem modR (x : Int) {p : Int} (h : isP p = true) : 0 ≤ x % p ∧ x % p < p := by
  have := isP_range h
  exact ⟨Int.emod_nonneg _ (by omega), Int.emod_lt_of_pos _ (by omega)⟩
theorem modR31 (x : Int) {p : Int} (h : isP p = true) : 0 ≤ x % p ∧ x % p ≤ 31 := by
  have := isP_range h; have := modR x h; omega
theorem invR31 (x : Int) {p : Int} (h : isP p = true) : 0 ≤ inv p x ∧ inv p x ≤ 31 := by
  have := isP_range h; have := inv_range x h; omega
theorem nums2 {p a b : Int} (h : numsIn p [a, b] = true) : (0 ≤ a ∧ a < p) ∧ (0 ≤ b ∧ b < p) := by
  simp [numsIn, inB] at h; omega
theorem nums3 {p a b c : Int} (h : numsIn p [a, b, c] = true) : (0 ≤ a ∧ a < p) ∧ (0 ≤ b ∧ b < p) ∧ (0 ≤ c ∧ c < p) := by
  simp [numsIn, inB] at h; omega
theorem nums4 {p a b c d : Int} (h : numsIn p [a, b, c, d] = true) : (0 ≤ a ∧ a < p) ∧ (0 ≤ b ∧ b < p) ∧ (0 ≤ c ∧ c < p) ∧ (0 ≤ d ∧ d < p) := by
  simp [numsIn, inB] at h; omega
theorem nums6 {p a b c d e f : Int} (h : numsIn p [a, b, c, d, e, f] = true) : (0 ≤ a ∧ a < p) ∧ (0 ≤ b ∧ b < p) ∧ (0 ≤ c ∧ c < p) ∧ (0 ≤ d ∧ d < p) ∧ (0 ≤ e ∧ e < p) ∧ (0 ≤ f ∧ f < p) := by
  simp [numsIn, inB] at h; omega
theorem lead_ways {a b : Int} (h : leadB a b = true) : a = 1 ∨ a = 0 ∧ b = 1 := by
  simpa [leadB] using h

/-- What the first number that is not 0 is divided by. -/
def nrm (p a b : Int) : Int := if a % p = 0 then inv p b else inv p a
theorem inv_mod (p a : Int) : inv p (a % p) = inv p a := by unfold inv; rw [Int.emod_emod]
theorem nrm_mod (p a b : Int) : nrm p (a % p) (b % p) = nrm p a b := by unfold nrm; rw [Int.emod_emod, inv_mod, inv_mod]
theorem nrm_range {p : Int} (a b : Int) (h : isP p = true) : 0 ≤ nrm p a b ∧ nrm p a b ≤ 31 := by
  unfold nrm; split <;> exact invR31 _ h
/-- The numbers of the line that a, b, c make. -/
def mk1 (p a b _c : Int) : Int := a * nrm p a b % p
def mk2 (p a b _c : Int) : Int := b * nrm p a b % p
def mk3 (p a b c : Int) : Int := c * nrm p a b % p

section
variable {n : Nat} [NeZero n]
theorem K_nrm (hp : isP (n : Int) = true) {a b : Int} (h : ¬ (K n a = 0 ∧ K n b = 0)) : (K n a ≠ 0 ∧ K n a * K n (nrm n a b) = 1) ∨ (K n a = 0 ∧ K n b ≠ 0 ∧ K n b * K n (nrm n a b) = 1) := by
  unfold nrm
  by_cases ha : K n a = 0
  · have hb : K n b ≠ 0 := fun e => h ⟨ha, e⟩
    rw [if_pos (K_eq_zero.1 ha)]
    exact .inr ⟨ha, hb, K_inv hp hb⟩
  · rw [if_neg (fun e => ha (K_eq_zero.2 e))]
    exact .inl ⟨ha, K_inv hp ha⟩
/-- Numbers that are in one ratio make one line. -/
theorem mk_ratio (hp : isP (n : Int) = true) {a b c a' b' c' u : Int} (hu : K n u ≠ 0) (h : ¬ (K n a = 0 ∧ K n b = 0)) (ea : K n a' = K n u * K n a) (eb : K n b' = K n u * K n b) (ec : K n c' = K n u * K n c) :
    mk1 n a' b' c' = mk1 n a b c ∧ mk2 n a' b' c' = mk2 n a b c ∧ mk3 n a' b' c' = mk3 n a b c := by
  have hU := K_inv hp hu
  have h' : ¬ (K n a' = 0 ∧ K n b' = 0) := by
    rintro ⟨h1, h2⟩
    exact h ⟨by rw [ea] at h1; grind, by rw [eb] at h2; grind⟩
  unfold mk1 mk2 mk3
  simp only [← K_ext (n := n), K_mul]
  rw [ea, eb, ec]
  rcases K_nrm hp h with ⟨h1, h2⟩ | ⟨h1, h2, h3⟩ <;> rcases K_nrm hp h' with ⟨g1, g2⟩ | ⟨g1, g2, g3⟩
  · rw [ea] at g2
    refine ⟨?_, ?_, ?_⟩ <;> grind
  · rw [ea] at g1; exfalso; exact h1 (by grind)
  · rw [ea, h1] at g1; exfalso; exact g1 (by grind)
  · rw [eb] at g3
    refine ⟨?_, ?_, ?_⟩ <;> grind
end
/-- The numbers of the line through two points. -/
def th1 (p a1 a2 b1 b2 : Int) : Int := mk1 p (a2 - b2) (b1 - a1) (a1 * b2 - b1 * a2)
def th2 (p a1 a2 b1 b2 : Int) : Int := mk2 p (a2 - b2) (b1 - a1) (a1 * b2 - b1 * a2)
def th3 (p a1 a2 b1 b2 : Int) : Int := mk3 p (a2 - b2) (b1 - a1) (a1 * b2 - b1 * a2)
theorem thEq {p a1 a2 b1 b2 : Int} (hp : isP p = true) (ha1 : 0 ≤ a1 ∧ a1 < p) (ha2 : 0 ≤ a2 ∧ a2 < p) (hb1 : 0 ≤ b1 ∧ b1 < p) (hb2 : 0 ≤ b2 ∧ b2 < p) (hne : ¬ (a1 = b1 ∧ a2 = b2)) :
    th1 p a1 a2 b1 b2 = mk1 p ((b2 - a2) % p) (-((b1 - a1) % p) % p) (((b1 - a1) % p * a2 - (b2 - a2) % p * a1) % p) ∧
    th2 p a1 a2 b1 b2 = mk2 p ((b2 - a2) % p) (-((b1 - a1) % p) % p) (((b1 - a1) % p * a2 - (b2 - a2) % p * a1) % p) ∧
    th3 p a1 a2 b1 b2 = mk3 p ((b2 - a2) % p) (-((b1 - a1) % p) % p) (((b1 - a1) % p * a2 - (b2 - a2) % p * a1) % p) := by
  obtain ⟨n, rfl⟩ := Int.eq_ofNat_of_zero_le (by have := isP_range hp; omega : 0 ≤ p)
  haveI := neZero_of hp
  have hu : K n (-1) ≠ 0 := by
    intro e
    have h1 := K_eq_zero.1 e
    have := isP_ne hp
    rw [show ((-1 : Int) % (n : Int)) = n - 1 from by
      rw [Int.emod_eq_add_self_emod, Int.emod_eq_of_lt (by omega) (by omega)]; omega] at h1
    omega
  unfold th1 th2 th3
  refine mk_ratio hp hu ?_ ?_ ?_ ?_
  · rintro ⟨h1, h2⟩
    rw [K_mod, K_sub] at h1
    rw [K_mod, K_neg, K_mod, K_sub] at h2
    exact hne ⟨K_inj ha1 hb1 (by grind), K_inj ha2 hb2 (by grind)⟩
  all_goals
    simp only [K_mod, K_sub, K_neg, K_mul, K_one]
    grind
end Go.Proofs.Ytmpgpmcmhbpjeab

namespace Go.Proofs.Ytmpgpmcmhbpjeab
open Go.RowKit

/-- One of the three colours. -/
def colB (c : Int) : Bool := inB c 0 2
theorem colB_ways {c : Int} (h : colB c = true) : c = 0 ∨ c = 1 ∨ c = 2 := by
  unfold colB inB at h; have := of_decide_eq_true h; omega
theorem colB_range {c : Int} (h : colB c = true) : 0 ≤ c ∧ c ≤ 2 := by
  have := colB_ways h; omega
theorem code_col_T {p c : Int} {b : Bool} (h : colB c = true) : codeOf p (colB c && b) = codeOf p b := by rw [h, Bool.true_and]
theorem code_col_F {p c : Int} {b : Bool} (h : colB c = false) : codeOf p (colB c && b) = codeOf p false := by rw [h, Bool.false_and]
/-- A code of a test that is no zero: with another test beside it, it stays. -/
theorem code_col_1 {p : Int} {a b : Bool} (h : codeOf p b = 1) : codeOf p (a && b) = 1 := by
  cases hp : isP p
  · exact codeOf_no hp
  · revert h; cases b <;> simp [codeOf, hp]
theorem code_col_2 {p : Int} {a b : Bool} (h : codeOf p b = 2) : codeOf p (a && b) = 2 := by
  cases hp : isP p
  · rw [codeOf_no hp] at h; omega
  · revert h; cases b <;> simp [codeOf, hp]

end Go.Proofs.Ytmpgpmcmhbpjeab

namespace Go.Proofs.Ytmpgpmcmhbpjeab
open Go.RowKit

/-- The product of two points by a colour. -/
def prd (p c a1 a2 b1 b2 : Int) : Int := (if c = 0 then a1 * b1 + a2 * b2 else if c = 1 then a1 * b1 - a2 * b2 else a1 * b2 + a2 * b1) % p
theorem prd_0 (p a1 a2 b1 b2 : Int) : prd p 0 a1 a2 b1 b2 = (a1 * b1 + a2 * b2) % p := rfl
theorem prd_1 (p a1 a2 b1 b2 : Int) : prd p 1 a1 a2 b1 b2 = (a1 * b1 - a2 * b2) % p := rfl
theorem prd_2 (p a1 a2 b1 b2 : Int) : prd p 2 a1 a2 b1 b2 = (a1 * b2 + a2 * b1) % p := rfl
theorem prd_r (c a1 a2 b1 b2 : Int) {p : Int} (h : isP p = true) : 0 ≤ prd p c a1 a2 b1 b2 ∧ prd p c a1 a2 b1 b2 ≤ 31 := modR31 _ h
theorem prd_lt (c a1 a2 b1 b2 : Int) {p : Int} (h : isP p = true) : 0 ≤ prd p c a1 a2 b1 b2 ∧ prd p c a1 a2 b1 b2 < p := modR _ h
/-- The quadrance of two points by a colour. -/
def qdr (p c a1 a2 b1 b2 : Int) : Int := prd p c ((b1 - a1) % p) ((b2 - a2) % p) ((b1 - a1) % p) ((b2 - a2) % p)
/-- Whether two directions are perpendicular. -/
def perpB (p c l1 l2 m1 m2 : Int) : Bool := prd p c (-l2 % p) l1 (-m2 % p) m1 == 0

end Go.Proofs.Ytmpgpmcmhbpjeab

namespace Go.Proofs.Ytmpgpmcmhbpjeab
open Go.RowKit

def area (p a1 a2 b1 b2 c1 c2 : Int) : Int := ((b1 - a1) * (c2 - a2) - (b2 - a2) * (c1 - a1)) % p
theorem area_impl {p : Int} (a1 a2 b1 b2 c1 c2 : Int) (hp : isP p = true) :
    ((b1 - a1) % p * ((c2 - a2) % p) - (b2 - a2) % p * ((c1 - a1) % p)) % p = area p a1 a2 b1 b2 c1 c2 := by
  obtain ⟨n, rfl⟩ := Int.eq_ofNat_of_zero_le (by have := isP_range hp; omega : 0 ≤ p)
  haveI := neZero_of hp
  rw [area, ← K_ext]
  simp only [K_sub, K_mul, K_mod]

end Go.Proofs.Ytmpgpmcmhbpjeab

namespace Go.Proofs.Ytmpgpmcmhbpjeab
open Go.RowKit

/-- A number of the combination of two points. -/
def cmb (p a b t : Int) : Int := (a + t * (b - a)) % p
theorem cmb_spec {p : Int} (a b t : Int) (hp : isP p = true) : (a + t * ((b - a) % p) % p) % p = cmb p a b t := by
  obtain ⟨n, rfl⟩ := Int.eq_ofNat_of_zero_le (by have := isP_range hp; omega : 0 ≤ p)
  haveI := neZero_of hp
  rw [cmb, ← K_ext]
  simp only [K_add, K_sub, K_mul, K_mod]
theorem cmb_impl {p : Int} (a b t : Int) (hp : isP p = true) : (a + t * ((b - a) % p)) % p = cmb p a b t := by
  obtain ⟨n, rfl⟩ := Int.eq_ofNat_of_zero_le (by have := isP_range hp; omega : 0 ≤ p)
  haveI := neZero_of hp
  rw [cmb, ← K_ext]
  simp only [K_add, K_sub, K_mul, K_mod]
/-- A number of the midpoint of two points. -/
def mid (p a b : Int) : Int := (p + 1) / 2 * ((a + b) % p) % p
theorem half_two {p : Int} (hp : isP p = true) : 2 * ((p + 1) / 2) = p + 1 := by
  rw [isP_iff] at hp; omega
theorem mid_ring {n : Nat} [NeZero n] (A B H I : Fin n) (e : 2 * H = 1) (k : 2 * I = 1) : A + I * (B - A) = H * (A + B) := by
  have h : H = I := by
    have h1 : H * (2 * I) = I * (2 * H) := by grind
    rw [k, e] at h1
    grind
  have h2 : A = I * (2 * A) := by
    have : I * (2 * A) = A * (2 * I) := by grind
    rw [this, k]; grind
  subst h
  grind
theorem mid_impl {p : Int} (a b : Int) (hp : isP p = true) : cmb p a b (inv p 2) = mid p a b := by
  have h2 := half_two hp
  have hr := isP_range hp
  obtain ⟨n, rfl⟩ := Int.eq_ofNat_of_zero_le (by omega : 0 ≤ p)
  haveI := neZero_of hp
  obtain ⟨h, hh⟩ : ∃ h, h = ((n : Int) + 1) / 2 := ⟨_, rfl⟩
  rw [mid, cmb, ← K_ext, ← hh]
  rw [← hh] at h2
  have e := congrArg (K n) h2
  have k2 : K n 2 ≠ 0 := K_small (by omega) (by omega)
  have ki := K_inv hp k2
  rw [K_add, K_self, K_one, K_mul] at e
  simp only [K_add, K_sub, K_mul, K_mod]
  rw [K_two] at e ki
  exact mid_ring _ _ _ _ (by rw [e]; grind) ki

end Go.Proofs.Ytmpgpmcmhbpjeab

namespace Go.Proofs.Ytmpgpmcmhbpjeab
open Go.RowKit

def detM (l1 l2 m1 m2 : Int) : Int := l1 * m2 - l2 * m1
def meX (p l1 l2 l3 m1 m2 m3 : Int) : Int := (l2 * m3 - m2 * l3) * inv p (detM l1 l2 m1 m2) % p
def meY (p l1 l2 l3 m1 m2 m3 : Int) : Int := (m1 * l3 - l1 * m3) * inv p (detM l1 l2 m1 m2) % p

/-- Lines are parallel just where the determinant is 0. -/
theorem det_zero {p l1 l2 m1 m2 : Int} (hp : isP p = true) (hl : leadB l1 l2 = true) (hm : leadB m1 m2 = true) (hr : (0 ≤ l1 ∧ l1 < p) ∧ (0 ≤ l2 ∧ l2 < p)) (gr : (0 ≤ m1 ∧ m1 < p) ∧ (0 ≤ m2 ∧ m2 < p)) :
    detM l1 l2 m1 m2 % p = 0 ↔ (l1 = m1 ∧ l2 = m2) := by
  have h31 := isP_range hp
  unfold detM
  rcases lead_ways hl with rfl | ⟨rfl, rfl⟩ <;> rcases lead_ways hm with rfl | ⟨rfl, rfl⟩
  · rw [Int.one_mul, Int.mul_one]
    constructor
    · intro h
      have h1 := Int.emod_emod_of_dvd m2 (Int.dvd_refl p)
      have h2 : m2 % p = l2 % p := Int.emod_eq_emod_iff_emod_sub_eq_zero.2 h
      rw [Int.emod_eq_of_lt gr.2.1 gr.2.2, Int.emod_eq_of_lt hr.2.1 hr.2.2] at h2
      exact ⟨rfl, h2.symm⟩
    · rintro ⟨_, rfl⟩
      simp
  · rw [show (1 : Int) * 1 - l2 * 0 = 1 by simp, Int.emod_eq_of_lt (by omega) (by omega)]
    omega
  · rw [show (0 : Int) * m2 - 1 * 1 = -1 by simp]
    constructor
    · intro h
      rw [Int.emod_eq_add_self_emod, Int.emod_eq_of_lt (by omega) (by omega)] at h
      omega
    · omega
  · simp
theorem meX_impl (p l1 l2 l3 m1 m2 m3 : Int) : (l2 * m3 - m2 * l3) % p * inv p ((l1 * m2 - m1 * l2) % p) % p = meX p l1 l2 l3 m1 m2 m3 := by
  rw [meX, detM, inv_mod, Int.mul_comm m1 l2, Int.mul_emod ((l2 * m3 - m2 * l3) % p), Int.emod_emod, ← Int.mul_emod]
theorem meY_impl (p l1 l2 l3 m1 m2 m3 : Int) : (l3 * m1 - m3 * l1) % p * inv p ((l1 * m2 - m1 * l2) % p) % p = meY p l1 l2 l3 m1 m2 m3 := by
  rw [meY, detM, inv_mod, Int.mul_comm m1 l2, Int.mul_comm l3 m1, Int.mul_comm m3 l1, Int.mul_emod ((m1 * l3 - l1 * m3) % p), Int.emod_emod, ← Int.mul_emod]
theorem tmod_emod (x p : Int) : x.tmod p % p = x % p := by
  rw [Int.tmod_def, Int.sub_mul_emod_self_left]
theorem meX_spec (p l1 l2 l3 m1 m2 m3 : Int) : (l2 * m3 - m2 * l3).tmod p * inv p (detM l1 l2 m1 m2 % p) % p = meX p l1 l2 l3 m1 m2 m3 := by
  rw [meX, inv_mod, Int.mul_emod ((l2 * m3 - m2 * l3).tmod p), tmod_emod, ← Int.mul_emod]
theorem meY_spec (p l1 l2 l3 m1 m2 m3 : Int) : (m1 * l3 - l1 * m3).tmod p * inv p (detM l1 l2 m1 m2 % p) % p = meY p l1 l2 l3 m1 m2 m3 := by
  rw [meY, inv_mod, Int.mul_emod ((m1 * l3 - l1 * m3).tmod p), tmod_emod, ← Int.mul_emod]

end Go.Proofs.Ytmpgpmcmhbpjeab

namespace Go.Proofs.Ytmpgpmcmhbpjeab
open Go.RowKit

def moC0 (p l1 l2 l3 m1 m2 m3 : Int) : Int := codeOf p (lineB p l1 l2 l3 && lineB p m1 m2 m3)
def moC (p l1 l2 l3 m1 m2 m3 : Int) : Int := if moC0 p l1 l2 l3 m1 m2 m3 = 0 ∧ l1 = m1 ∧ l2 = m2 then 5 else moC0 p l1 l2 l3 m1 m2 m3
def moV (p l1 l2 l3 m1 m2 m3 x : Int) : Int := if moC0 p l1 l2 l3 m1 m2 m3 = 0 ∧ ¬ (l1 = m1 ∧ l2 = m2) then x else 0
def moV1 (p l1 l2 l3 m1 m2 m3 : Int) : Int := moV p l1 l2 l3 m1 m2 m3 (meX p l1 l2 l3 m1 m2 m3)
def moV2 (p l1 l2 l3 m1 m2 m3 : Int) : Int := moV p l1 l2 l3 m1 m2 m3 (meY p l1 l2 l3 m1 m2 m3)
abbrev moR (p l1 l2 l3 m1 m2 m3 : Int) : Value := .tuple #[.agg #[.int .i64 (moV1 p l1 l2 l3 m1 m2 m3), .int .i64 (moV2 p l1 l2 l3 m1 m2 m3)], .int .i64 (moC p l1 l2 l3 m1 m2 m3)]
theorem mo_err {p l1 l2 l3 m1 m2 m3 k : Int} (h : codeOf p (lineB p l1 l2 l3 && lineB p m1 m2 m3) = k) (hk : k ≠ 0) : moV1 p l1 l2 l3 m1 m2 m3 = 0 ∧ moV2 p l1 l2 l3 m1 m2 m3 = 0 ∧ moC p l1 l2 l3 m1 m2 m3 = k := by
  have h' : moC0 p l1 l2 l3 m1 m2 m3 = k := h
  simp [moV1, moV2, moV, moC, h', hk]
theorem mo_par {p l1 l2 l3 m1 m2 m3 : Int} (h : codeOf p (lineB p l1 l2 l3 && lineB p m1 m2 m3) = 0) (e : l1 = m1 ∧ l2 = m2) : moV1 p l1 l2 l3 m1 m2 m3 = 0 ∧ moV2 p l1 l2 l3 m1 m2 m3 = 0 ∧ moC p l1 l2 l3 m1 m2 m3 = 5 := by
  obtain ⟨rfl, rfl⟩ := e
  have h' : moC0 p l1 l2 l3 l1 l2 m3 = 0 := h
  simp [moV1, moV2, moV, moC, h']
theorem mo_good {p l1 l2 l3 m1 m2 m3 : Int} (h : codeOf p (lineB p l1 l2 l3 && lineB p m1 m2 m3) = 0) (e : ¬ (l1 = m1 ∧ l2 = m2)) : moV1 p l1 l2 l3 m1 m2 m3 = meX p l1 l2 l3 m1 m2 m3 ∧ moV2 p l1 l2 l3 m1 m2 m3 = meY p l1 l2 l3 m1 m2 m3 ∧ moC p l1 l2 l3 m1 m2 m3 = 0 := by
  have h' : moC0 p l1 l2 l3 m1 m2 m3 = 0 := h
  have g : moC0 p l1 l2 l3 m1 m2 m3 = 0 ∧ ¬ (l1 = m1 ∧ l2 = m2) := ⟨h', e⟩
  have f : ¬ (moC0 p l1 l2 l3 m1 m2 m3 = 0 ∧ l1 = m1 ∧ l2 = m2) := fun hh => e hh.2
  rw [moV1, moV2, moV, moV, moC, if_pos g, if_pos g, if_neg f, h']
  exact ⟨rfl, rfl, rfl⟩

end Go.Proofs.Ytmpgpmcmhbpjeab

namespace Go.Proofs.Ytmpgpmcmhbpjeab
open Go.RowKit

/-- The two numbers with which the product with a direction is made. -/
def uOf (c d1 d2 : Int) : Int := if c = 2 then d2 else d1
def vOf (p c d1 d2 : Int) : Int := if c = 1 then -d2 % p else if c = 2 then d1 else d2
/-- The line through a point whose points have one product with a direction. -/
def tw (p c d1 d2 a1 a2 : Int) : Int := -(uOf c d1 d2 * a1 + vOf p c d1 d2 * a2) % p
def tl1 (p c d1 d2 a1 a2 : Int) : Int := mk1 p (uOf c d1 d2) (vOf p c d1 d2) (tw p c d1 d2 a1 a2)
def tl2 (p c d1 d2 a1 a2 : Int) : Int := mk2 p (uOf c d1 d2) (vOf p c d1 d2) (tw p c d1 d2 a1 a2)
def tl3 (p c d1 d2 a1 a2 : Int) : Int := mk3 p (uOf c d1 d2) (vOf p c d1 d2) (tw p c d1 d2 a1 a2)
theorem uv_r {p c d1 d2 : Int} (hp : isP p = true) (h1 : 0 ≤ d1 ∧ d1 < p) (h2 : 0 ≤ d2 ∧ d2 < p) : (0 ≤ uOf c d1 d2 ∧ uOf c d1 d2 < p) ∧ (0 ≤ vOf p c d1 d2 ∧ vOf p c d1 d2 < p) := by
  have := modR (-d2) hp
  unfold uOf vOf
  constructor
  · split <;> assumption
  · split
    · assumption
    · split <;> assumption
/-- What the program takes for the same. -/
theorem tl_impl {p c d1 d2 a1 a2 : Int} (hp : isP p = true) (hc : colB c = true) (h1 : 0 ≤ d1 ∧ d1 < p) (h2 : 0 ≤ d2 ∧ d2 < p) :
    prd p c d1 d2 1 0 = uOf c d1 d2 ∧ prd p c d1 d2 0 1 = vOf p c d1 d2 ∧ -(prd p c d1 d2 a1 a2) % p = tw p c d1 d2 a1 a2 := by
  have e1 : d1 % p = d1 := Int.emod_eq_of_lt h1.1 h1.2
  have e2 : d2 % p = d2 := Int.emod_eq_of_lt h2.1 h2.2
  obtain ⟨n, rfl⟩ := Int.eq_ofNat_of_zero_le (by have := isP_range hp; omega : 0 ≤ p)
  haveI := neZero_of hp
  rcases colB_ways hc with rfl | rfl | rfl
  · refine ⟨by simp [prd, uOf, e1], by simp [prd, vOf, e2], ?_⟩
    rw [tw, prd_0, ← K_ext]
    simp only [uOf, vOf, K_neg, K_mod, K_add, K_mul]
    simp
  · refine ⟨by simp [prd, uOf, e1], by simp [prd, vOf], ?_⟩
    rw [tw, prd_1, ← K_ext]
    simp only [uOf, vOf, if_true]
    rw [if_neg (by decide)]
    simp only [K_neg, K_mod, K_sub, K_add, K_mul]
    grind
  · refine ⟨by simp [prd, uOf, e2], by simp [prd, vOf, e1], ?_⟩
    rw [tw, prd_2, ← K_ext]
    simp only [uOf, vOf, K_neg, K_mod, K_add, K_mul]
    simp
    grind
/-- The perpendicular line through a point. -/
def pt1 (p c l1 l2 a1 a2 : Int) : Int := tl1 p c (-l2 % p) l1 a1 a2
def pt2 (p c l1 l2 a1 a2 : Int) : Int := tl2 p c (-l2 % p) l1 a1 a2
def pt3 (p c l1 l2 a1 a2 : Int) : Int := tl3 p c (-l2 % p) l1 a1 a2

end Go.Proofs.Ytmpgpmcmhbpjeab

namespace Go.Proofs.Ytmpgpmcmhbpjeab
open Go.RowKit

section
variable {n : Nat} [NeZero n]
theorem K_one_ne (hp : isP (n : Int) = true) : K n 1 ≠ 0 := K_small (by have := isP_range hp; omega) (by omega)
theorem mk_line (hp : isP (n : Int) = true) {a b : Int} (c : Int) (h : ¬ (K n a = 0 ∧ K n b = 0)) : lineB n (mk1 n a b c) (mk2 n a b c) (mk3 n a b c) = true := by
  have hr := isP_range hp
  have r1 := modR (a * nrm n a b) hp
  have r2 := modR (b * nrm n a b) hp
  have r3 := modR (c * nrm n a b) hp
  refine lineB_of ?_ ?_
  · rcases K_nrm hp h with ⟨_, h2⟩ | ⟨h1, _, h3⟩
    · have e : mk1 n a b c = 1 := K_inj (n := n) r1 (by omega) (by rw [mk1, K_mod, K_mul, h2, K_one])
      simp [leadB, e]
    · have e1 : mk1 n a b c = 0 := K_inj (n := n) r1 (by omega) (by rw [mk1, K_mod, K_mul, h1, K_zero]; grind)
      have e2 : mk2 n a b c = 1 := K_inj (n := n) r2 (by omega) (by rw [mk2, K_mod, K_mul, h3, K_one])
      simp [leadB, e1, e2]
  · rw [numsIn3, inB_true (by rw [mk1]; omega), inB_true (by rw [mk2]; omega), inB_true (by rw [mk3]; omega)]
    rfl
theorem uv_key {c l1 l2 : Int} (hc : colB c = true) (h : K n (uOf c (-l2 % n) l1) = 0 ∧ K n (vOf n c (-l2 % n) l1) = 0) : K n l1 = 0 ∧ K n l2 = 0 := by
  obtain ⟨h1, h2⟩ := h
  rcases colB_ways hc with rfl | rfl | rfl
  · rw [show uOf 0 (-l2 % (n : Int)) l1 = -l2 % n from rfl, K_mod, K_neg] at h1
    rw [show vOf n 0 (-l2 % (n : Int)) l1 = l1 from rfl] at h2
    exact ⟨h2, by grind⟩
  · rw [show uOf 1 (-l2 % (n : Int)) l1 = -l2 % n from rfl, K_mod, K_neg] at h1
    rw [show vOf n 1 (-l2 % (n : Int)) l1 = -l1 % n from rfl, K_mod, K_neg] at h2
    exact ⟨by grind, by grind⟩
  · rw [show uOf 2 (-l2 % (n : Int)) l1 = l1 from rfl] at h1
    rw [show vOf n 2 (-l2 % (n : Int)) l1 = -l2 % n from rfl, K_mod, K_neg] at h2
    exact ⟨h1, by grind⟩
theorem uv_nz (hp : isP (n : Int) = true) {c l1 l2 : Int} (hc : colB c = true) (hl : leadB l1 l2 = true) : ¬ (K n (uOf c (-l2 % n) l1) = 0 ∧ K n (vOf n c (-l2 % n) l1) = 0) := fun h => by
  have hk := uv_key hc h
  rcases lead_ways hl with rfl | ⟨_, rfl⟩
  · exact K_one_ne hp hk.1
  · exact K_one_ne hp hk.2
theorem uv_prd {c l1 l2 : Int} (hc : colB c = true) : K n l1 * K n (vOf n c (-l2 % n) l1) - K n l2 * K n (uOf c (-l2 % n) l1) = K n (prd n c (-l2 % n) l1 (-l2 % n) l1) := by
  rcases colB_ways hc with rfl | rfl | rfl
  · rw [show uOf 0 (-l2 % (n : Int)) l1 = -l2 % n from rfl, show vOf n 0 (-l2 % (n : Int)) l1 = l1 from rfl, prd_0]
    simp only [K_mod, K_neg, K_add, K_mul]; grind
  · rw [show uOf 1 (-l2 % (n : Int)) l1 = -l2 % n from rfl, show vOf n 1 (-l2 % (n : Int)) l1 = -l1 % n from rfl, prd_1]
    simp only [K_mod, K_neg, K_sub, K_mul]; grind
  · rw [show uOf 2 (-l2 % (n : Int)) l1 = l1 from rfl, show vOf n 2 (-l2 % (n : Int)) l1 = -l2 % n from rfl, prd_2]
    simp only [K_mod, K_neg, K_add, K_mul]; grind
theorem det_pt (hp : isP (n : Int) = true) {c l1 l2 a1 a2 : Int} (hc : colB c = true) (hl : leadB l1 l2 = true) : detM l1 l2 (pt1 n c l1 l2 a1 a2) (pt2 n c l1 l2 a1 a2) % n = 0 ↔ perpB n c l1 l2 l1 l2 = true := by
  have hnz := uv_nz hp hc hl
  have hN : K n (nrm n (uOf c (-l2 % n) l1) (vOf n c (-l2 % n) l1)) ≠ 0 := fun e => by
    rcases K_nrm hp hnz with ⟨_, h2⟩ | ⟨_, _, h2⟩ <;>
      exact K_one_ne hp (by rw [K_one, ← h2, e]; grind)
  have e : K n (detM l1 l2 (pt1 n c l1 l2 a1 a2) (pt2 n c l1 l2 a1 a2)) = K n (nrm n (uOf c (-l2 % n) l1) (vOf n c (-l2 % n) l1)) * K n (prd n c (-l2 % n) l1 (-l2 % n) l1) := by
    rw [← uv_prd hc, detM, pt1, pt2, tl1, tl2, mk1, mk2]
    simp only [K_sub, K_mul, K_mod]
    grind
  rw [← K_eq_zero, e, perpB, beq_iff_eq]
  have hb := prd_lt c (-l2 % n) l1 (-l2 % n) l1 hp
  constructor
  · intro h
    rw [← K_mul] at h
    rcases K_noz hp (x := nrm n (uOf c (-l2 % n) l1) (vOf n c (-l2 % n) l1)) (y := prd n c (-l2 % n) l1 (-l2 % n) l1) (by rw [← K_mul]; exact h) with h1 | h1
    · exact absurd h1 hN
    · rcases Int.lt_or_eq_of_le hb.1 with h2 | h2
      · exact absurd h1 (K_small hb (by omega))
      · exact h2.symm
  · intro h; rw [h, K_zero]; grind
end
theorem pt_line {p c l1 l2 : Int} (a1 a2 : Int) (hp : isP p = true) (hc : colB c = true) (hl : leadB l1 l2 = true) : lineB p (pt1 p c l1 l2 a1 a2) (pt2 p c l1 l2 a1 a2) (pt3 p c l1 l2 a1 a2) = true := by
  obtain ⟨n, rfl⟩ := Int.eq_ofNat_of_zero_le (by have := isP_range hp; omega : 0 ≤ p)
  haveI := neZero_of hp
  exact mk_line hp _ (uv_nz hp hc hl)
theorem pt_det {p c l1 l2 : Int} (a1 a2 : Int) (hp : isP p = true) (hc : colB c = true) (hl : leadB l1 l2 = true) : detM l1 l2 (pt1 p c l1 l2 a1 a2) (pt2 p c l1 l2 a1 a2) % p = 0 ↔ perpB p c l1 l2 l1 l2 = true := by
  obtain ⟨n, rfl⟩ := Int.eq_ofNat_of_zero_le (by have := isP_range hp; omega : 0 ≤ p)
  haveI := neZero_of hp
  exact det_pt hp hc hl
theorem pt_same {p c l1 l2 l3 : Int} (a1 a2 : Int) (hp : isP p = true) (hc : colB c = true) (hb : lineB p l1 l2 l3 = true) : (l1 = pt1 p c l1 l2 a1 a2 ∧ l2 = pt2 p c l1 l2 a1 a2) ↔ perpB p c l1 l2 l1 l2 = true := by
  have hl := lineB_in hb
  have hm := lineB_in (pt_line (l1 := l1) (l2 := l2) a1 a2 hp hc hl.1)
  have n1 := nums3 hl.2
  have n2 := nums3 hm.2
  rw [← pt_det a1 a2 hp hc hl.1]
  exact (det_zero hp hl.1 hm.1 ⟨n1.1, n1.2.1⟩ ⟨n2.1, n2.2.1⟩).symm

end Go.Proofs.Ytmpgpmcmhbpjeab

namespace Go.Proofs.Ytmpgpmcmhbpjeab
open Go.RowKit

section
variable {p : Int}
theorem tl1_r (c d1 d2 a1 a2 : Int) (h : isP p = true) : 0 ≤ tl1 p c d1 d2 a1 a2 ∧ tl1 p c d1 d2 a1 a2 < p := modR _ h
theorem pt1_r (c l1 l2 a1 a2 : Int) (h : isP p = true) : 0 ≤ pt1 p c l1 l2 a1 a2 ∧ pt1 p c l1 l2 a1 a2 < p := modR _ h
theorem tl2_r (c d1 d2 a1 a2 : Int) (h : isP p = true) : 0 ≤ tl2 p c d1 d2 a1 a2 ∧ tl2 p c d1 d2 a1 a2 < p := modR _ h
theorem pt2_r (c l1 l2 a1 a2 : Int) (h : isP p = true) : 0 ≤ pt2 p c l1 l2 a1 a2 ∧ pt2 p c l1 l2 a1 a2 < p := modR _ h
theorem tl3_r (c d1 d2 a1 a2 : Int) (h : isP p = true) : 0 ≤ tl3 p c d1 d2 a1 a2 ∧ tl3 p c d1 d2 a1 a2 < p := modR _ h
theorem pt3_r (c l1 l2 a1 a2 : Int) (h : isP p = true) : 0 ≤ pt3 p c l1 l2 a1 a2 ∧ pt3 p c l1 l2 a1 a2 < p := modR _ h
end

end Go.Proofs.Ytmpgpmcmhbpjeab

namespace Go.Proofs.Ytmpgpmcmhbpjeab
open Go.RowKit

theorem bool_ways (b : Bool) : b = false ∨ b = true := by cases b <;> simp

theorem mulNN (A B C : Int) (hC : C = A * B) {a b : Int} (ha : 0 ≤ a ∧ a ≤ A) (hb : 0 ≤ b ∧ b ≤ B) : 0 ≤ a * b ∧ a * b ≤ C :=
  ⟨Int.mul_nonneg ha.1 hb.1, by have h := Int.mul_le_mul ha.2 hb.2 hb.1 (by omega : 0 ≤ A); omega⟩
theorem mulSS (A B C : Int) (hC : C = A * B) (hA : 0 ≤ A) {a b : Int} (ha : -A ≤ a ∧ a ≤ A) (hb : -B ≤ b ∧ b ≤ B) : -C ≤ a * b ∧ a * b ≤ C := by
  have h : (a * b).natAbs ≤ A.natAbs * B.natAbs := by rw [Int.natAbs_mul]; exact Nat.mul_le_mul (by omega) (by omega)
  have e : C.natAbs = A.natAbs * B.natAbs := by rw [hC, Int.natAbs_mul]
  have hB : 0 ≤ B := by omega
  have hc : 0 ≤ C := by rw [hC]; exact Int.mul_nonneg hA hB
  omega

theorem mulSq (A C : Int) (hC : C = A * A) {a : Int} (ha : -A ≤ a ∧ a ≤ A) : 0 ≤ a * a ∧ a * a ≤ C := by
  rcases Int.le_total 0 a with h | h
  · have h2 := Int.mul_le_mul ha.2 ha.2 h (by omega : 0 ≤ A)
    exact ⟨Int.mul_nonneg h h, by omega⟩
  · have h2 := Int.mul_le_mul (by omega : -a ≤ A) (by omega : -a ≤ A) (by omega : 0 ≤ -a) (by omega : 0 ≤ A)
    have h3 := Int.mul_nonneg (by omega : 0 ≤ -a) (by omega : 0 ≤ -a)
    rw [Int.neg_mul_neg] at h2 h3
    exact ⟨h3, by omega⟩

theorem fset {W : World} {a b : Addr} {v : Value} (h : W.frozen? b = false) : (W.setCell a v).frozen? b = false := by rw [World.frozen?_setCell]; exact h

theorem area_r (a1 a2 b1 b2 c1 c2 : Int) {p : Int} (h : isP p = true) : 0 ≤ area p a1 a2 b1 b2 c1 c2 ∧ area p a1 a2 b1 b2 c1 c2 < p := modR _ h

end Go.Proofs.Ytmpgpmcmhbpjeab

namespace Go.Proofs.Ytmpgpmcmhbpjeab
open Go.RowKit

/-- The product of two points by a colour, its rest not yet taken. -/
def rawp (c a1 a2 b1 b2 : Int) : Int := if c = 0 then a1 * b1 + a2 * b2 else if c = 1 then a1 * b1 - a2 * b2 else a1 * b2 + a2 * b1
theorem prd_raw (p c a1 a2 b1 b2 : Int) : prd p c a1 a2 b1 b2 = rawp c a1 a2 b1 b2 % p := rfl
theorem rawp_r {c a1 a2 b1 b2 : Int} (ha1 : 0 ≤ a1 ∧ a1 ≤ 31) (ha2 : 0 ≤ a2 ∧ a2 ≤ 31) (hb1 : 0 ≤ b1 ∧ b1 ≤ 31) (hb2 : 0 ≤ b2 ∧ b2 ≤ 31) : -961 ≤ rawp c a1 a2 b1 b2 ∧ rawp c a1 a2 b1 b2 ≤ 1922 := by
  have m1 := mulP ha1 hb1
  have m2 := mulP ha2 hb2
  have m3 := mulP ha1 hb2
  have m4 := mulP ha2 hb1
  unfold rawp
  split
  · omega
  · split <;> omega
/-- A line is null by a colour. -/
def nullB (p c l1 l2 : Int) : Bool := prd p c (-l2 % p) l1 (-l2 % p) l1 == 0
/-- The product of two lines' directions, the cross, the spread. -/
def crD (p c l1 l2 m1 m2 : Int) : Int := prd p c (-l2 % p) l1 (-m2 % p) m1
def crO (p c l1 l2 m1 m2 : Int) : Int := crD p c l1 l2 m1 m2 * crD p c l1 l2 m1 m2 % p * inv p (prd p c (-l2 % p) l1 (-l2 % p) l1 * prd p c (-m2 % p) m1 (-m2 % p) m1) % p
def crT (p c l1 l2 m1 m2 : Int) : Int := if (nullB p c l1 l2 || nullB p c m1 m2) = true then 5 else 0
def crV (p c l1 l2 m1 m2 : Int) : Int := if (nullB p c l1 l2 || nullB p c m1 m2) = true then 0 else crO p c l1 l2 m1 m2
def spO (p c l1 l2 m1 m2 : Int) : Int := (1 - crO p c l1 l2 m1 m2) % p
def spV (p c l1 l2 m1 m2 : Int) : Int := if (nullB p c l1 l2 || nullB p c m1 m2) = true then 0 else spO p c l1 l2 m1 m2
def twO (p c l1 l2 m1 m2 : Int) : Int := (1 - crO p c l1 l2 m1 m2) % p * inv p (crO p c l1 l2 m1 m2) % p
theorem crO_r {p : Int} (c l1 l2 m1 m2 : Int) (h : isP p = true) : 0 ≤ crO p c l1 l2 m1 m2 ∧ crO p c l1 l2 m1 m2 < p := modR _ h
theorem spO_r {p : Int} (c l1 l2 m1 m2 : Int) (h : isP p = true) : 0 ≤ spO p c l1 l2 m1 m2 ∧ spO p c l1 l2 m1 m2 < p := modR _ h
/-- What the program takes for a cross: its test, its number. -/
theorem mul_zero_iff {p x y : Int} (hp : isP p = true) : (x * y % p == 0) = (x % p == 0 || y % p == 0) := by
  have hr := isP_range hp
  obtain ⟨n, rfl⟩ := Int.eq_ofNat_of_zero_le (by omega : 0 ≤ p)
  haveI := neZero_of hp
  rw [Bool.eq_iff_iff]
  simp only [Bool.or_eq_true, beq_iff_eq]
  constructor
  · intro h
    have h1 : K n x * K n y = 0 := by rw [← K_mul]; exact K_eq_zero.2 h
    rcases K_noz hp h1 with h2 | h2
    · exact .inl (K_eq_zero.1 h2)
    · exact .inr (K_eq_zero.1 h2)
  · rintro (h | h)
    · rw [Int.mul_emod, h, Int.zero_mul, Int.zero_emod]
    · rw [Int.mul_emod, h, Int.mul_zero, Int.zero_emod]
theorem quad_null {p : Int} (c l1 l2 m1 m2 : Int) (hp : isP p = true) : ((rawp c (-l2 % p) l1 (-l2 % p) l1 * rawp c (-m2 % p) m1 (-m2 % p) m1) % p == 0) = (nullB p c l1 l2 || nullB p c m1 m2) := by
  rw [mul_zero_iff hp]; rfl
theorem cross_bad {p c l1 l2 m1 m2 : Int} (hp : isP p = true) (h : ((rawp c (-l2 % p) l1 (-l2 % p) l1 * rawp c (-m2 % p) m1 (-m2 % p) m1) % p == 0) = true) :
    crV p c l1 l2 m1 m2 = 0 ∧ crT p c l1 l2 m1 m2 = 5 := by
  rw [quad_null _ _ _ _ _ hp] at h
  simp [crV, crT, h]
theorem cross_good {p c l1 l2 m1 m2 : Int} (hp : isP p = true) (h : ((rawp c (-l2 % p) l1 (-l2 % p) l1 * rawp c (-m2 % p) m1 (-m2 % p) m1) % p == 0) = false) :
    crV p c l1 l2 m1 m2 = rawp c (-l2 % p) l1 (-m2 % p) m1 * rawp c (-l2 % p) l1 (-m2 % p) m1 * inv p ((rawp c (-l2 % p) l1 (-l2 % p) l1 * rawp c (-m2 % p) m1 (-m2 % p) m1) % p) % p ∧ crT p c l1 l2 m1 m2 = 0 := by
  rw [quad_null _ _ _ _ _ hp] at h
  refine ⟨?_, by simp [crT, h]⟩
  have e : crV p c l1 l2 m1 m2 = crO p c l1 l2 m1 m2 := by simp [crV, h]
  have hi : inv p (prd p c (-l2 % p) l1 (-l2 % p) l1 * prd p c (-m2 % p) m1 (-m2 % p) m1) = inv p ((rawp c (-l2 % p) l1 (-l2 % p) l1 * rawp c (-m2 % p) m1 (-m2 % p) m1) % p) := by
    rw [← inv_mod]; congr 1; rw [prd_raw, prd_raw, ← Int.mul_emod]
  rw [e, crO, hi, crD, prd_raw]
  rw [← Int.mul_emod, Int.mul_emod (rawp c (-l2 % p) l1 (-m2 % p) m1 * rawp c (-l2 % p) l1 (-m2 % p) m1 % p), Int.emod_emod, ← Int.mul_emod]
/-- Triple spreads. -/
def tripB (p r s t : Int) : Bool := ((r + s + t) * (r + s + t) - 2 * (r * r + s * s + t * t) - 4 * r * s * t) % p == 0

end Go.Proofs.Ytmpgpmcmhbpjeab

namespace Go.Proofs.Ytmpgpmcmhbpjeab
open Go.RowKit

/-- The spread at a of b and c. -/
def atD (p col a1 a2 b1 b2 c1 c2 : Int) : Int := prd p col ((b1 - a1) % p) ((b2 - a2) % p) ((c1 - a1) % p) ((c2 - a2) % p)
def atO (p col a1 a2 b1 b2 c1 c2 : Int) : Int := (1 - atD p col a1 a2 b1 b2 c1 c2 * atD p col a1 a2 b1 b2 c1 c2 % p * inv p (qdr p col a1 a2 b1 b2 * qdr p col a1 a2 c1 c2)) % p
def atT (p col a1 a2 b1 b2 c1 c2 : Int) : Int := if (qdr p col a1 a2 b1 b2 == 0 || qdr p col a1 a2 c1 c2 == 0) = true then 5 else 0
theorem atO_r {p : Int} (col a1 a2 b1 b2 c1 c2 : Int) (h : isP p = true) : 0 ≤ atO p col a1 a2 b1 b2 c1 c2 ∧ atO p col a1 a2 b1 b2 c1 c2 < p := modR _ h
theorem qdr_r {p : Int} (c a1 a2 b1 b2 : Int) (h : isP p = true) : 0 ≤ qdr p c a1 a2 b1 b2 ∧ qdr p c a1 a2 b1 b2 < p := modR _ h
theorem ne_of {a b c d : Int} (h : (a == c && b == d) = false) : ¬ (a = c ∧ b = d) := by
  rintro ⟨rfl, rfl⟩; simp at h

section
variable {n : Nat} [NeZero n]
/-- Products go with factors. -/
theorem K_raw {c : Int} (hc : colB c = true) {x1 x2 y1 y2 u1 u2 v1 v2 l m : Int} (e1 : K n x1 = K n l * K n u1) (e2 : K n x2 = K n l * K n u2) (f1 : K n y1 = K n m * K n v1) (f2 : K n y2 = K n m * K n v2) :
    K n (rawp c x1 x2 y1 y2) = K n l * K n m * K n (rawp c u1 u2 v1 v2) := by
  rcases colB_ways hc with rfl | rfl | rfl
  · show K n (x1 * y1 + x2 * y2) = K n l * K n m * K n (u1 * v1 + u2 * v2)
    simp only [K_add, K_mul, e1, e2, f1, f2]; grind
  · show K n (x1 * y1 - x2 * y2) = K n l * K n m * K n (u1 * v1 - u2 * v2)
    simp only [K_sub, K_mul, e1, e2, f1, f2]; grind
  · show K n (x1 * y2 + x2 * y1) = K n l * K n m * K n (u1 * v2 + u2 * v1)
    simp only [K_add, K_mul, e1, e2, f1, f2]; grind
/-- The direction of the line through two points. -/
theorem K_dir (hp : isP (n : Int) = true) {a1 a2 b1 b2 : Int} (ha1 : 0 ≤ a1 ∧ a1 < n) (ha2 : 0 ≤ a2 ∧ a2 < n) (hb1 : 0 ≤ b1 ∧ b1 < n) (hb2 : 0 ≤ b2 ∧ b2 < n) (hne : ¬ (a1 = b1 ∧ a2 = b2)) :
    ∃ l : Int, K n l ≠ 0 ∧ K n (-th2 n a1 a2 b1 b2 % n) = K n l * K n ((b1 - a1) % n) ∧ K n (th1 n a1 a2 b1 b2) = K n l * K n ((b2 - a2) % n) := by
  have h : ¬ (K n (a2 - b2) = 0 ∧ K n (b1 - a1) = 0) := by
    rintro ⟨h1, h2⟩
    rw [K_sub] at h1 h2
    exact hne ⟨K_inj ha1 hb1 (by grind), K_inj ha2 hb2 (by grind)⟩
  refine ⟨-nrm n (a2 - b2) (b1 - a1), ?_, ?_, ?_⟩
  · rw [K_neg]
    rcases K_nrm hp h with ⟨_, h2⟩ | ⟨_, _, h2⟩ <;> intro e <;> have e' : K n (nrm n (a2 - b2) (b1 - a1)) = 0 := by grind
    · rw [e'] at h2; exact absurd h2 (by have := K_small (n := n) (x := 1) ⟨by omega, by have := isP_ne hp; omega⟩ (by omega); rw [K_one] at this; grind)
    · rw [e'] at h2; exact absurd h2 (by have := K_small (n := n) (x := 1) ⟨by omega, by have := isP_ne hp; omega⟩ (by omega); rw [K_one] at this; grind)
  · unfold th2 mk2
    simp only [K_mod, K_neg, K_mul, K_sub]; grind
  · unfold th1 mk1
    simp only [K_mod, K_neg, K_mul, K_sub]; grind
end

theorem null_th {p c a1 a2 b1 b2 : Int} (hp : isP p = true) (hc : colB c = true) (ha1 : 0 ≤ a1 ∧ a1 < p) (ha2 : 0 ≤ a2 ∧ a2 < p) (hb1 : 0 ≤ b1 ∧ b1 < p) (hb2 : 0 ≤ b2 ∧ b2 < p) (hne : ¬ (a1 = b1 ∧ a2 = b2)) :
    nullB p c (th1 p a1 a2 b1 b2) (th2 p a1 a2 b1 b2) = (qdr p c a1 a2 b1 b2 == 0) := by
  obtain ⟨n, rfl⟩ := Int.eq_ofNat_of_zero_le (by have := isP_range hp; omega : 0 ≤ p)
  haveI := neZero_of hp
  obtain ⟨l, hl, e1, e2⟩ := K_dir hp ha1 ha2 hb1 hb2 hne
  have h := K_raw hc e1 e2 e1 e2
  unfold nullB qdr
  rw [prd_raw, prd_raw, Bool.eq_iff_iff]
  simp only [beq_iff_eq, ← K_eq_zero]
  rw [h]
  constructor
  · intro h0
    have : K n (l * l * rawp c ((b1 - a1) % n) ((b2 - a2) % n) ((b1 - a1) % n) ((b2 - a2) % n)) = 0 := by rw [K_mul, K_mul]; exact h0
    rw [K_mul] at this
    rcases K_noz hp this with h1 | h1
    · rw [K_mul] at h1
      have h2 : K n l * K n l = 0 := h1
      rcases K_noz hp h2 with h3 | h3 <;> exact absurd h3 hl
    · exact h1
  · intro h0; rw [h0]; grind
/-- A line with equal points is none, and the quadrance is 0. -/
theorem qdr_same (p c a1 a2 : Int) : qdr p c a1 a2 a1 a2 = 0 := by
  unfold qdr prd
  rw [Int.sub_self, Int.sub_self, Int.zero_emod]
  split
  · simp
  · split <;> simp
theorem spread_th {p col a1 a2 b1 b2 c1 c2 : Int} (hp : isP p = true) (hc : colB col = true) (ha1 : 0 ≤ a1 ∧ a1 < p) (ha2 : 0 ≤ a2 ∧ a2 < p) (hb1 : 0 ≤ b1 ∧ b1 < p) (hb2 : 0 ≤ b2 ∧ b2 < p) (hc1 : 0 ≤ c1 ∧ c1 < p) (hc2 : 0 ≤ c2 ∧ c2 < p)
    (hb : ¬ (a1 = b1 ∧ a2 = b2)) (hcc : ¬ (a1 = c1 ∧ a2 = c2)) (q1 : (qdr p col a1 a2 b1 b2 == 0) = false) (q2 : (qdr p col a1 a2 c1 c2 == 0) = false) :
    spO p col (th1 p a1 a2 b1 b2) (th2 p a1 a2 b1 b2) (th1 p a1 a2 c1 c2) (th2 p a1 a2 c1 c2) = atO p col a1 a2 b1 b2 c1 c2 := by
  obtain ⟨n, rfl⟩ := Int.eq_ofNat_of_zero_le (by have := isP_range hp; omega : 0 ≤ p)
  haveI := neZero_of hp
  obtain ⟨l, hl, e1, e2⟩ := K_dir hp ha1 ha2 hb1 hb2 hb
  obtain ⟨m, hm, f1, f2⟩ := K_dir hp ha1 ha2 hc1 hc2 hcc
  have n1 := null_th hp hc ha1 ha2 hb1 hb2 hb
  have n2 := null_th hp hc ha1 ha2 hc1 hc2 hcc
  rw [q1] at n1; rw [q2] at n2
  have k1 : K n (qdr n col a1 a2 b1 b2) ≠ 0 := K_small (qdr_r _ _ _ _ _ hp) (by simpa using q1)
  have k2 : K n (qdr n col a1 a2 c1 c2) ≠ 0 := K_small (qdr_r _ _ _ _ _ hp) (by simpa using q2)
  unfold nullB at n1 n2
  have k3 : K n (prd n col (-th2 n a1 a2 b1 b2 % n) (th1 n a1 a2 b1 b2) (-th2 n a1 a2 b1 b2 % n) (th1 n a1 a2 b1 b2)) ≠ 0 := K_small (prd_lt _ _ _ _ _ hp) (by simpa using n1)
  have k4 : K n (prd n col (-th2 n a1 a2 c1 c2 % n) (th1 n a1 a2 c1 c2) (-th2 n a1 a2 c1 c2 % n) (th1 n a1 a2 c1 c2)) ≠ 0 := K_small (prd_lt _ _ _ _ _ hp) (by simpa using n2)
  have i1 := K_inv hp (y := qdr n col a1 a2 b1 b2 * qdr n col a1 a2 c1 c2) (by rw [K_mul]; intro h; rcases K_noz hp h with h | h; exact k1 h; exact k2 h)
  have i2 := K_inv hp (y := prd n col (-th2 n a1 a2 b1 b2 % n) (th1 n a1 a2 b1 b2) (-th2 n a1 a2 b1 b2 % n) (th1 n a1 a2 b1 b2) * prd n col (-th2 n a1 a2 c1 c2 % n) (th1 n a1 a2 c1 c2) (-th2 n a1 a2 c1 c2 % n) (th1 n a1 a2 c1 c2)) (by rw [K_mul]; intro h; rcases K_noz hp h with h | h; exact k3 h; exact k4 h)
  have r1 := K_raw hc e1 e2 e1 e2
  have r2 := K_raw hc f1 f2 f1 f2
  have r3 := K_raw hc e1 e2 f1 f2
  unfold spO crO crD atO atD
  simp only [← K_ext (n := n), K_sub, K_mul, K_mod, K_one] at i1 i2 ⊢
  obtain ⟨I1, hI1⟩ : ∃ x, x = inv n (qdr n col a1 a2 b1 b2 * qdr n col a1 a2 c1 c2) := ⟨_, rfl⟩
  obtain ⟨I2, hI2⟩ : ∃ x, x = inv n (prd n col (-th2 n a1 a2 b1 b2 % n) (th1 n a1 a2 b1 b2) (-th2 n a1 a2 b1 b2 % n) (th1 n a1 a2 b1 b2) * prd n col (-th2 n a1 a2 c1 c2 % n) (th1 n a1 a2 c1 c2) (-th2 n a1 a2 c1 c2 % n) (th1 n a1 a2 c1 c2)) := ⟨_, rfl⟩
  rw [← hI1] at i1 ⊢
  rw [← hI2] at i2 ⊢
  unfold qdr at i1
  simp only [prd_raw, K_mod, r1, r2, r3] at i1 i2 ⊢
  grind

theorem qdr_comm {p : Int} (hp : isP p = true) {c : Int} (hc : colB c = true) (a1 a2 b1 b2 : Int) : qdr p c b1 b2 a1 a2 = qdr p c a1 a2 b1 b2 := by
  obtain ⟨n, rfl⟩ := Int.eq_ofNat_of_zero_le (by have := isP_range hp; omega : 0 ≤ p)
  haveI := neZero_of hp
  unfold qdr
  rw [prd_raw, prd_raw, ← K_ext (n := n)]
  have h := K_raw (n := n) hc (x1 := (a1 - b1) % n) (x2 := (a2 - b2) % n) (y1 := (a1 - b1) % n) (y2 := (a2 - b2) % n) (u1 := (b1 - a1) % n) (u2 := (b2 - a2) % n) (v1 := (b1 - a1) % n) (v2 := (b2 - a2) % n) (l := -1) (m := -1)
    (by simp only [K_mod, K_sub, K_neg, K_one]; grind) (by simp only [K_mod, K_sub, K_neg, K_one]; grind) (by simp only [K_mod, K_sub, K_neg, K_one]; grind) (by simp only [K_mod, K_sub, K_neg, K_one]; grind)
  rw [h]; simp only [K_neg, K_one]; grind
theorem th1_r {p : Int} (a1 a2 b1 b2 : Int) (h : isP p = true) : 0 ≤ th1 p a1 a2 b1 b2 ∧ th1 p a1 a2 b1 b2 < p := modR _ h
theorem th2_r {p : Int} (a1 a2 b1 b2 : Int) (h : isP p = true) : 0 ≤ th2 p a1 a2 b1 b2 ∧ th2 p a1 a2 b1 b2 < p := modR _ h
theorem th3_r {p : Int} (a1 a2 b1 b2 : Int) (h : isP p = true) : 0 ≤ th3 p a1 a2 b1 b2 ∧ th3 p a1 a2 b1 b2 < p := modR _ h
section
variable {p col a1 a2 b1 b2 c1 c2 : Int}
theorem atT_ab (h : (a1 == b1 && a2 == b2) = true) : atT p col a1 a2 b1 b2 c1 c2 = 5 := by
  simp only [Bool.and_eq_true, beq_iff_eq] at h
  obtain ⟨rfl, rfl⟩ := h
  simp [atT, qdr_same]
theorem atT_ac (h : (a1 == c1 && a2 == c2) = true) : atT p col a1 a2 b1 b2 c1 c2 = 5 := by
  simp only [Bool.and_eq_true, beq_iff_eq] at h
  obtain ⟨rfl, rfl⟩ := h
  simp [atT, qdr_same]
theorem atT_n1 (hp : isP p = true) (hc : colB col = true) (hb : (a1 == b1 && a2 == b2) = false) (h : nullB p col (th1 p a1 a2 b1 b2) (th2 p a1 a2 b1 b2) = true) (ha1 : 0 ≤ a1 ∧ a1 < p) (ha2 : 0 ≤ a2 ∧ a2 < p) (hb1 : 0 ≤ b1 ∧ b1 < p) (hb2 : 0 ≤ b2 ∧ b2 < p) : atT p col a1 a2 b1 b2 c1 c2 = 5 := by
  rw [null_th hp hc ha1 ha2 hb1 hb2 (ne_of hb)] at h
  simp only [atT, h, Bool.true_or, if_true]
theorem atT_n2 (hp : isP p = true) (hc : colB col = true) (hb : (a1 == c1 && a2 == c2) = false) (h : nullB p col (th1 p a1 a2 c1 c2) (th2 p a1 a2 c1 c2) = true) (ha1 : 0 ≤ a1 ∧ a1 < p) (ha2 : 0 ≤ a2 ∧ a2 < p) (hb1 : 0 ≤ c1 ∧ c1 < p) (hb2 : 0 ≤ c2 ∧ c2 < p) : atT p col a1 a2 b1 b2 c1 c2 = 5 := by
  rw [null_th hp hc ha1 ha2 hb1 hb2 (ne_of hb)] at h
  simp only [atT, h, Bool.or_true, if_true]
theorem atT_0 (hp : isP p = true) (hc : colB col = true) (hb : (a1 == b1 && a2 == b2) = false) (hcc : (a1 == c1 && a2 == c2) = false) (h1 : nullB p col (th1 p a1 a2 b1 b2) (th2 p a1 a2 b1 b2) = false) (h2 : nullB p col (th1 p a1 a2 c1 c2) (th2 p a1 a2 c1 c2) = false) (ha1 : 0 ≤ a1 ∧ a1 < p) (ha2 : 0 ≤ a2 ∧ a2 < p) (hb1 : 0 ≤ b1 ∧ b1 < p) (hb2 : 0 ≤ b2 ∧ b2 < p) (hc1 : 0 ≤ c1 ∧ c1 < p) (hc2 : 0 ≤ c2 ∧ c2 < p) : atT p col a1 a2 b1 b2 c1 c2 = 0 := by
  rw [null_th hp hc ha1 ha2 hb1 hb2 (ne_of hb)] at h1
  rw [null_th hp hc ha1 ha2 hc1 hc2 (ne_of hcc)] at h2
  simp [atT, h1, h2]
theorem atV_is (hp : isP p = true) (hc : colB col = true) (hb : (a1 == b1 && a2 == b2) = false) (hcc : (a1 == c1 && a2 == c2) = false) (h1 : nullB p col (th1 p a1 a2 b1 b2) (th2 p a1 a2 b1 b2) = false) (h2 : nullB p col (th1 p a1 a2 c1 c2) (th2 p a1 a2 c1 c2) = false) (ha1 : 0 ≤ a1 ∧ a1 < p) (ha2 : 0 ≤ a2 ∧ a2 < p) (hb1 : 0 ≤ b1 ∧ b1 < p) (hb2 : 0 ≤ b2 ∧ b2 < p) (hc1 : 0 ≤ c1 ∧ c1 < p) (hc2 : 0 ≤ c2 ∧ c2 < p) :
    atO p col a1 a2 b1 b2 c1 c2 = spO p col (th1 p a1 a2 b1 b2) (th2 p a1 a2 b1 b2) (th1 p a1 a2 c1 c2) (th2 p a1 a2 c1 c2) := by
  rw [null_th hp hc ha1 ha2 hb1 hb2 (ne_of hb)] at h1
  rw [null_th hp hc ha1 ha2 hc1 hc2 (ne_of hcc)] at h2
  exact (spread_th hp hc ha1 ha2 hb1 hb2 hc1 hc2 (ne_of hb) (ne_of hcc) h1 h2).symm
end

end Go.Proofs.Ytmpgpmcmhbpjeab

namespace Go.Proofs.Ytmpgpmcmhbpjeab
open Go.RowKit

theorem bundrew {B : Nat} {a W : World} (h : Below B a W.drew) : Below B a W := ⟨h.os, h.tape, h.output, h.size, h.block⟩
theorem bback {a W : World} {o : Obj} (hB : a.heap.size ≤ W.heap.size) (h : Below a.heap.size a (W.alloc o)) : Below a.heap.size a W :=
  ⟨h.os, h.tape, h.output, hB, fun k hk => by rw [← h.block k hk, Below.heap_alloc _ _ _ (by omega)]⟩
theorem brealloc {a W : World} {o o' : Obj} (hB : a.heap.size ≤ W.heap.size) (h : Below a.heap.size a (W.alloc o)) : Below a.heap.size a (W.alloc o') := (bback hB h).alloc hB o'
/-- What a cell below holds. -/
theorem bholds {a W : World} {b j : Nat} {v : Value} (h : a.cell? ⟨b, j, none⟩ = some v) (hB : Below a.heap.size a W) : W.cell? ⟨b, j, none⟩ = some v := kcall hB h

end Go.Proofs.Ytmpgpmcmhbpjeab

namespace Go.Proofs.Ytmpgpmcmhbpjeab
open Go.RowKit

section
variable {n : Nat} [NeZero n]
theorem uv_ratio {c d1 d2 e1 e2 u : Int} (hc : colB c = true) (h1 : K n e1 = K n u * K n d1) (h2 : K n e2 = K n u * K n d2) :
    K n (uOf c e1 e2) = K n u * K n (uOf c d1 d2) ∧ K n (vOf n c e1 e2) = K n u * K n (vOf n c d1 d2) := by
  rcases colB_ways hc with rfl | rfl | rfl
  · exact ⟨h1, h2⟩
  · refine ⟨h1, ?_⟩
    rw [show vOf n 1 e1 e2 = -e2 % (n : Int) from rfl, show vOf n 1 d1 d2 = -d2 % (n : Int) from rfl, K_mod, K_mod, K_neg, K_neg, h2]; grind
  · exact ⟨h2, h1⟩
theorem uv_zero {c d1 d2 : Int} (hc : colB c = true) (h : K n (uOf c d1 d2) = 0 ∧ K n (vOf n c d1 d2) = 0) : K n d1 = 0 ∧ K n d2 = 0 := by
  rcases colB_ways hc with rfl | rfl | rfl
  · exact h
  · refine ⟨h.1, ?_⟩
    have h2 := h.2
    rw [show vOf n 1 d1 d2 = -d2 % (n : Int) from rfl, K_mod, K_neg] at h2; grind
  · exact ⟨h.2, h.1⟩
/-- Directions in one ratio make one line. -/
theorem tl_ratio (hp : isP (n : Int) = true) {c d1 d2 e1 e2 u : Int} (hc : colB c = true) (a1 a2 : Int) (hu : K n u ≠ 0) (hd : ¬ (K n d1 = 0 ∧ K n d2 = 0)) (h1 : K n e1 = K n u * K n d1) (h2 : K n e2 = K n u * K n d2) :
    tl1 n c e1 e2 a1 a2 = tl1 n c d1 d2 a1 a2 ∧ tl2 n c e1 e2 a1 a2 = tl2 n c d1 d2 a1 a2 ∧ tl3 n c e1 e2 a1 a2 = tl3 n c d1 d2 a1 a2 := by
  obtain ⟨g1, g2⟩ := uv_ratio hc h1 h2
  exact mk_ratio hp hu (fun h => hd (uv_zero hc h)) g1 g2 (by unfold tw; simp only [K_mod, K_neg, K_add, K_mul, g1, g2]; grind)
theorem K_nrm_ne (hp : isP (n : Int) = true) {a b : Int} (h : ¬ (K n a = 0 ∧ K n b = 0)) : K n (nrm n a b) ≠ 0 := fun e => by
  rcases K_nrm hp h with ⟨_, h2⟩ | ⟨_, _, h2⟩ <;> exact K_one_ne hp (by rw [K_one, ← h2, e]; grind)
theorem K_det_tl {c d1 d2 e1 e2 a1 a2 b1 b2 : Int} (hc : colB c = true) :
    ∃ s : Fin n, (s = 1 ∨ s = -1) ∧ K n (detM (tl1 n c d1 d2 a1 a2) (tl2 n c d1 d2 a1 a2) (tl1 n c e1 e2 b1 b2) (tl2 n c e1 e2 b1 b2)) =
      s * (K n (nrm n (uOf c d1 d2) (vOf n c d1 d2)) * K n (nrm n (uOf c e1 e2) (vOf n c e1 e2)) * (K n d1 * K n e2 - K n d2 * K n e1)) := by
  unfold detM tl1 tl2 mk1 mk2
  simp only [K_sub, K_mul, K_mod]
  rcases colB_ways hc with rfl | rfl | rfl
  · refine ⟨1, .inl rfl, ?_⟩
    rw [show vOf n 0 d1 d2 = d2 from rfl, show vOf n 0 e1 e2 = e2 from rfl, show uOf 0 d1 d2 = d1 from rfl, show uOf 0 e1 e2 = e1 from rfl]; grind
  · refine ⟨-1, .inr rfl, ?_⟩
    have h1 : K n (vOf n 1 d1 d2) = - K n d2 := by rw [show vOf n 1 d1 d2 = -d2 % (n : Int) from rfl, K_mod, K_neg]
    have h2 : K n (vOf n 1 e1 e2) = - K n e2 := by rw [show vOf n 1 e1 e2 = -e2 % (n : Int) from rfl, K_mod, K_neg]
    rw [h1, h2, show uOf 1 d1 d2 = d1 from rfl, show uOf 1 e1 e2 = e1 from rfl]; grind
  · refine ⟨-1, .inr rfl, ?_⟩
    rw [show vOf n 2 d1 d2 = d1 from rfl, show vOf n 2 e1 e2 = e1 from rfl, show uOf 2 d1 d2 = d2 from rfl, show uOf 2 e1 e2 = e2 from rfl]; grind
theorem K_unit (s x : Fin n) (hs : s = 1 ∨ s = -1) (h : s * x = 0) : x = 0 := by
  rcases hs with rfl | rfl <;> grind
theorem K_mulz (hp : isP (n : Int) = true) {x y : Int} (hx : K n x ≠ 0) (hy : K n y ≠ 0) : K n x * K n y ≠ 0 := fun e => by
  rcases K_noz hp e with h | h
  · exact hx h
  · exact hy h
/-- Lines with directions that are not in one ratio are not parallel. -/
theorem K_det_ne (hp : isP (n : Int) = true) {c d1 d2 e1 e2 : Int} (a1 a2 b1 b2 : Int) (hc : colB c = true) (h : K n (d1 * e2 - d2 * e1) ≠ 0) :
    K n (detM (tl1 n c d1 d2 a1 a2) (tl2 n c d1 d2 a1 a2) (tl1 n c e1 e2 b1 b2) (tl2 n c e1 e2 b1 b2)) ≠ 0 := fun e => by
  obtain ⟨s, hs, hk⟩ := K_det_tl (n := n) (c := c) (d1 := d1) (d2 := d2) (e1 := e1) (e2 := e2) (a1 := a1) (a2 := a2) (b1 := b1) (b2 := b2) hc
  rw [e] at hk
  have hz := K_unit s _ hs hk.symm
  rw [← K_mul, ← K_mul d1, ← K_mul d2, ← K_sub] at hz
  have hd : ¬ (K n d1 = 0 ∧ K n d2 = 0) := fun q => h (by rw [K_sub, K_mul, K_mul, q.1, q.2]; grind)
  have he : ¬ (K n e1 = 0 ∧ K n e2 = 0) := fun q => h (by rw [K_sub, K_mul, K_mul, q.1, q.2]; grind)
  rcases K_noz hp hz with h1 | h1
  · rw [K_mul] at h1
    exact K_mulz hp (K_nrm_ne hp fun q => hd (uv_zero hc q)) (K_nrm_ne hp fun q => he (uv_zero hc q)) h1
  · exact h h1
end
section
variable {p c : Int}
theorem tl_flip {d1 d2 e1 e2 : Int} (a1 a2 : Int) (hp : isP p = true) (hc : colB c = true) (hd : ¬ (d1 % p = 0 ∧ d2 % p = 0)) (h1 : e1 % p = -d1 % p) (h2 : e2 % p = -d2 % p) :
    tl1 p c e1 e2 a1 a2 = tl1 p c d1 d2 a1 a2 ∧ tl2 p c e1 e2 a1 a2 = tl2 p c d1 d2 a1 a2 ∧ tl3 p c e1 e2 a1 a2 = tl3 p c d1 d2 a1 a2 := by
  obtain ⟨n, rfl⟩ := Int.eq_ofNat_of_zero_le (by have := isP_range hp; omega : 0 ≤ p)
  haveI := neZero_of hp
  rw [← K_ext, K_neg] at h1 h2
  refine tl_ratio hp hc a1 a2 (u := -1) (fun e => K_one_ne hp (by rw [K_neg, K_one] at e; rw [K_one]; grind)) (fun q => hd ⟨K_eq_zero.1 q.1, K_eq_zero.1 q.2⟩) ?_ ?_
  · rw [h1, K_neg, K_one]; grind
  · rw [h2, K_neg, K_one]; grind
/-- The altitude: the program's, by the side's line, and the model's, by its direction. -/
theorem alt_eq {b1 b2 c1 c2 : Int} (a1 a2 : Int) (hp : isP p = true) (hc : colB c = true) (hb1 : 0 ≤ b1 ∧ b1 < p) (hb2 : 0 ≤ b2 ∧ b2 < p) (hc1 : 0 ≤ c1 ∧ c1 < p) (hc2 : 0 ≤ c2 ∧ c2 < p) (hne : ¬ (b1 = c1 ∧ b2 = c2)) :
    pt1 p c (th1 p b1 b2 c1 c2) (th2 p b1 b2 c1 c2) a1 a2 = tl1 p c ((b1 - c1) % p) ((b2 - c2) % p) a1 a2 ∧
    pt2 p c (th1 p b1 b2 c1 c2) (th2 p b1 b2 c1 c2) a1 a2 = tl2 p c ((b1 - c1) % p) ((b2 - c2) % p) a1 a2 ∧
    pt3 p c (th1 p b1 b2 c1 c2) (th2 p b1 b2 c1 c2) a1 a2 = tl3 p c ((b1 - c1) % p) ((b2 - c2) % p) a1 a2 := by
  obtain ⟨n, rfl⟩ := Int.eq_ofNat_of_zero_le (by have := isP_range hp; omega : 0 ≤ p)
  haveI := neZero_of hp
  obtain ⟨l, hl, e1, e2⟩ := K_dir hp hb1 hb2 hc1 hc2 hne
  unfold pt1 pt2 pt3
  refine tl_ratio hp hc a1 a2 (u := -l) (fun e => hl (by rw [K_neg] at e; grind)) ?_ ?_ ?_
  · rintro ⟨h1, h2⟩
    rw [K_mod, K_sub] at h1 h2
    exact hne ⟨K_inj hb1 hc1 (by grind), K_inj hb2 hc2 (by grind)⟩
  · rw [e1]; simp only [K_mod, K_neg, K_sub]; grind
  · rw [e2]; simp only [K_mod, K_neg, K_sub]; grind
theorem tl_line {d1 d2 : Int} (a1 a2 : Int) (hp : isP p = true) (hc : colB c = true) (hd : ¬ (d1 % p = 0 ∧ d2 % p = 0)) : lineB p (tl1 p c d1 d2 a1 a2) (tl2 p c d1 d2 a1 a2) (tl3 p c d1 d2 a1 a2) = true := by
  obtain ⟨n, rfl⟩ := Int.eq_ofNat_of_zero_le (by have := isP_range hp; omega : 0 ≤ p)
  haveI := neZero_of hp
  exact mk_line hp _ (fun h => hd (by have := uv_zero hc h; exact ⟨K_eq_zero.1 this.1, K_eq_zero.1 this.2⟩))
theorem tl_det {d1 d2 e1 e2 : Int} (a1 a2 b1 b2 : Int) (hp : isP p = true) (hc : colB c = true) (h : (d1 * e2 - d2 * e1) % p ≠ 0) :
    detM (tl1 p c d1 d2 a1 a2) (tl2 p c d1 d2 a1 a2) (tl1 p c e1 e2 b1 b2) (tl2 p c e1 e2 b1 b2) % p ≠ 0 := by
  obtain ⟨n, rfl⟩ := Int.eq_ofNat_of_zero_le (by have := isP_range hp; omega : 0 ≤ p)
  haveI := neZero_of hp
  have := K_det_ne hp a1 a2 b1 b2 hc (fun e => h (K_eq_zero.1 e))
  exact fun e => this (K_eq_zero.2 e)
theorem tl_apart {d1 d2 e1 e2 : Int} (a1 a2 b1 b2 : Int) (hp : isP p = true) (hc : colB c = true) (h : (d1 * e2 - d2 * e1) % p ≠ 0) :
    ¬ (tl1 p c d1 d2 a1 a2 = tl1 p c e1 e2 b1 b2 ∧ tl2 p c d1 d2 a1 a2 = tl2 p c e1 e2 b1 b2) := fun q => by
  have hne := tl_det a1 a2 b1 b2 hp hc h
  rw [q.1, q.2] at hne
  apply hne
  rw [detM, Int.mul_comm, Int.sub_self, Int.zero_emod]
end

end Go.Proofs.Ytmpgpmcmhbpjeab

namespace Go.Proofs.Ytmpgpmcmhbpjeab
open Go.RowKit

/-- The altitude at a. -/
def al1 (p c a1 a2 b1 b2 c1 c2 : Int) : Int := tl1 p c ((b1 - c1) % p) ((b2 - c2) % p) a1 a2
def al2 (p c a1 a2 b1 b2 c1 c2 : Int) : Int := tl2 p c ((b1 - c1) % p) ((b2 - c2) % p) a1 a2
def al3 (p c a1 a2 b1 b2 c1 c2 : Int) : Int := tl3 p c ((b1 - c1) % p) ((b2 - c2) % p) a1 a2
/-- The orthocentre. -/
def orX (p c a1 a2 b1 b2 c1 c2 : Int) : Int := meX p (al1 p c a1 a2 b1 b2 c1 c2) (al2 p c a1 a2 b1 b2 c1 c2) (al3 p c a1 a2 b1 b2 c1 c2) (al1 p c b1 b2 a1 a2 c1 c2) (al2 p c b1 b2 a1 a2 c1 c2) (al3 p c b1 b2 a1 a2 c1 c2)
def orY (p c a1 a2 b1 b2 c1 c2 : Int) : Int := meY p (al1 p c a1 a2 b1 b2 c1 c2) (al2 p c a1 a2 b1 b2 c1 c2) (al3 p c a1 a2 b1 b2 c1 c2) (al1 p c b1 b2 a1 a2 c1 c2) (al2 p c b1 b2 a1 a2 c1 c2) (al3 p c b1 b2 a1 a2 c1 c2)
/-- The points with equal quadrances to two points. -/
def bi1 (p c a1 a2 b1 b2 : Int) : Int := tl1 p c ((a1 - b1) % p) ((a2 - b2) % p) (mid p a1 b1) (mid p a2 b2)
def bi2 (p c a1 a2 b1 b2 : Int) : Int := tl2 p c ((a1 - b1) % p) ((a2 - b2) % p) (mid p a1 b1) (mid p a2 b2)
def bi3 (p c a1 a2 b1 b2 : Int) : Int := tl3 p c ((a1 - b1) % p) ((a2 - b2) % p) (mid p a1 b1) (mid p a2 b2)
/-- The circumcentre. -/
def ccX (p c a1 a2 b1 b2 c1 c2 : Int) : Int := meX p (bi1 p c a1 a2 b1 b2) (bi2 p c a1 a2 b1 b2) (bi3 p c a1 a2 b1 b2) (bi1 p c a1 a2 c1 c2) (bi2 p c a1 a2 c1 c2) (bi3 p c a1 a2 c1 c2)
def ccY (p c a1 a2 b1 b2 c1 c2 : Int) : Int := meY p (bi1 p c a1 a2 b1 b2) (bi2 p c a1 a2 b1 b2) (bi3 p c a1 a2 b1 b2) (bi1 p c a1 a2 c1 c2) (bi2 p c a1 a2 c1 c2) (bi3 p c a1 a2 c1 c2)
section
variable {p c a1 a2 b1 b2 c1 c2 : Int}
theorem al1_r (p c a1 a2 b1 b2 c1 c2 : Int) (h : isP p = true) : 0 ≤ al1 p c a1 a2 b1 b2 c1 c2 ∧ al1 p c a1 a2 b1 b2 c1 c2 < p := modR _ h
theorem al2_r (p c a1 a2 b1 b2 c1 c2 : Int) (h : isP p = true) : 0 ≤ al2 p c a1 a2 b1 b2 c1 c2 ∧ al2 p c a1 a2 b1 b2 c1 c2 < p := modR _ h
theorem al3_r (p c a1 a2 b1 b2 c1 c2 : Int) (h : isP p = true) : 0 ≤ al3 p c a1 a2 b1 b2 c1 c2 ∧ al3 p c a1 a2 b1 b2 c1 c2 < p := modR _ h
theorem orX_r (p c a1 a2 b1 b2 c1 c2 : Int) (h : isP p = true) : 0 ≤ orX p c a1 a2 b1 b2 c1 c2 ∧ orX p c a1 a2 b1 b2 c1 c2 < p := modR _ h
theorem orY_r (p c a1 a2 b1 b2 c1 c2 : Int) (h : isP p = true) : 0 ≤ orY p c a1 a2 b1 b2 c1 c2 ∧ orY p c a1 a2 b1 b2 c1 c2 < p := modR _ h
theorem bi1_r (p c a1 a2 b1 b2 : Int) (h : isP p = true) : 0 ≤ bi1 p c a1 a2 b1 b2 ∧ bi1 p c a1 a2 b1 b2 < p := modR _ h
theorem bi2_r (p c a1 a2 b1 b2 : Int) (h : isP p = true) : 0 ≤ bi2 p c a1 a2 b1 b2 ∧ bi2 p c a1 a2 b1 b2 < p := modR _ h
theorem bi3_r (p c a1 a2 b1 b2 : Int) (h : isP p = true) : 0 ≤ bi3 p c a1 a2 b1 b2 ∧ bi3 p c a1 a2 b1 b2 < p := modR _ h
theorem ccX_r (p c a1 a2 b1 b2 c1 c2 : Int) (h : isP p = true) : 0 ≤ ccX p c a1 a2 b1 b2 c1 c2 ∧ ccX p c a1 a2 b1 b2 c1 c2 < p := modR _ h
theorem ccY_r (p c a1 a2 b1 b2 c1 c2 : Int) (h : isP p = true) : 0 ≤ ccY p c a1 a2 b1 b2 c1 c2 ∧ ccY p c a1 a2 b1 b2 c1 c2 < p := modR _ h
theorem mid_r (p a b : Int) (h : isP p = true) : 0 ≤ mid p a b ∧ mid p a b < p := modR _ h
theorem area_no (h : (area p a1 a2 b1 b2 c1 c2 == 0) = false) : ¬ (area p a1 a2 b1 b2 c1 c2 = 0) := by simpa using h
theorem tri_ab (h : (area p a1 a2 b1 b2 c1 c2 == 0) = false) : ¬ (a1 = b1 ∧ a2 = b2) := by
  rintro ⟨rfl, rfl⟩; exact area_no h (by simp [area])
theorem tri_ac (h : (area p a1 a2 b1 b2 c1 c2 == 0) = false) : ¬ (a1 = c1 ∧ a2 = c2) := by
  rintro ⟨rfl, rfl⟩; exact area_no h (by simp [area])
theorem tri_bc (h : (area p a1 a2 b1 b2 c1 c2 == 0) = false) : ¬ (b1 = c1 ∧ b2 = c2) := by
  rintro ⟨rfl, rfl⟩; exact area_no h (by rw [area, Int.mul_comm, Int.sub_self, Int.zero_emod])
theorem K_area {n : Nat} [NeZero n] (h : (area n a1 a2 b1 b2 c1 c2 == 0) = false) : (K n b1 - K n a1) * (K n c2 - K n a2) - (K n b2 - K n a2) * (K n c1 - K n a1) ≠ 0 := fun e => by
  refine area_no h ((K_eq_zero (n := n)).1 ?_)
  simp only [K_sub, K_mul]; exact e
theorem dir_ne {x1 x2 y1 y2 : Int} (hp : isP p = true) (hx1 : 0 ≤ x1 ∧ x1 < p) (hx2 : 0 ≤ x2 ∧ x2 < p) (hy1 : 0 ≤ y1 ∧ y1 < p) (hy2 : 0 ≤ y2 ∧ y2 < p) (h : ¬ (x1 = y1 ∧ x2 = y2)) : ¬ ((x1 - y1) % p % p = 0 ∧ (x2 - y2) % p % p = 0) := by
  obtain ⟨n, rfl⟩ := Int.eq_ofNat_of_zero_le (by have := isP_range hp; omega : 0 ≤ p)
  haveI := neZero_of hp
  rintro ⟨h1, h2⟩
  rw [← K_eq_zero, K_mod, K_sub] at h1 h2
  exact h ⟨K_inj hx1 hy1 (by grind), K_inj hx2 hy2 (by grind)⟩
/-- The altitudes at a and b are apart, and so are the bisectors of the sides at a. -/
theorem alt_cross (hp : isP p = true) (h : (area p a1 a2 b1 b2 c1 c2 == 0) = false) : ((b1 - c1) % p * ((a2 - c2) % p) - (b2 - c2) % p * ((a1 - c1) % p)) % p ≠ 0 := by
  obtain ⟨n, rfl⟩ := Int.eq_ofNat_of_zero_le (by have := isP_range hp; omega : 0 ≤ p)
  haveI := neZero_of hp
  have hk := K_area h
  intro e
  rw [← K_eq_zero] at e
  simp only [K_sub, K_mul, K_mod] at e
  apply hk; grind
theorem bi_cross (hp : isP p = true) (h : (area p a1 a2 b1 b2 c1 c2 == 0) = false) : ((a1 - b1) % p * ((a2 - c2) % p) - (a2 - b2) % p * ((a1 - c1) % p)) % p ≠ 0 := by
  obtain ⟨n, rfl⟩ := Int.eq_ofNat_of_zero_le (by have := isP_range hp; omega : 0 ≤ p)
  haveI := neZero_of hp
  have hk := K_area h
  intro e
  rw [← K_eq_zero] at e
  simp only [K_sub, K_mul, K_mod] at e
  apply hk; grind
/-- A point is not the midpoint of the two others. -/
theorem mid_ne (hp : isP p = true) (h : (area p a1 a2 b1 b2 c1 c2 == 0) = false) : ¬ (a1 = mid p b1 c1 ∧ a2 = mid p b2 c2) := by
  have h2 := half_two hp
  obtain ⟨n, rfl⟩ := Int.eq_ofNat_of_zero_le (by have := isP_range hp; omega : 0 ≤ p)
  haveI := neZero_of hp
  have hk := K_area h
  rintro ⟨e1, e2⟩
  have k2 := congrArg (K n) h2
  rw [K_mul, K_add, K_self, K_one, K_two] at k2
  have f1 := congrArg (K n) e1
  have f2 := congrArg (K n) e2
  rw [mid, K_mod, K_mul, K_mod, K_add] at f1 f2
  obtain ⟨H, hH⟩ : ∃ H, H = K n (((n : Int) + 1) / 2) := ⟨_, rfl⟩
  rw [← hH] at k2 f1 f2
  have g1 : 2 * K n a1 = K n b1 + K n c1 := by rw [f1]; grind
  have g2 : 2 * K n a2 = K n b2 + K n c2 := by rw [f2]; grind
  apply hk; grind
/-- The altitude at b by c and a is that by a and c. -/
theorem alt_flip (hp : isP p = true) (hc : colB c = true) (ha1 : 0 ≤ a1 ∧ a1 < p) (ha2 : 0 ≤ a2 ∧ a2 < p) (hc1 : 0 ≤ c1 ∧ c1 < p) (hc2 : 0 ≤ c2 ∧ c2 < p) (hne : ¬ (a1 = c1 ∧ a2 = c2)) :
    al1 p c b1 b2 c1 c2 a1 a2 = al1 p c b1 b2 a1 a2 c1 c2 ∧ al2 p c b1 b2 c1 c2 a1 a2 = al2 p c b1 b2 a1 a2 c1 c2 ∧ al3 p c b1 b2 c1 c2 a1 a2 = al3 p c b1 b2 a1 a2 c1 c2 := by
  refine tl_flip b1 b2 hp hc (dir_ne hp ha1 ha2 hc1 hc2 hne) ?_ ?_
  all_goals
    obtain ⟨n, rfl⟩ := Int.eq_ofNat_of_zero_le (by have := isP_range hp; omega : 0 ≤ p)
    haveI := neZero_of hp
    rw [← K_ext]; simp only [K_mod, K_neg, K_sub]; grind
/-- The line through two points, the other way round. -/
theorem th_comm (hp : isP p = true) (ha1 : 0 ≤ a1 ∧ a1 < p) (ha2 : 0 ≤ a2 ∧ a2 < p) (hb1 : 0 ≤ b1 ∧ b1 < p) (hb2 : 0 ≤ b2 ∧ b2 < p) (hne : ¬ (a1 = b1 ∧ a2 = b2)) :
    th1 p b1 b2 a1 a2 = th1 p a1 a2 b1 b2 ∧ th2 p b1 b2 a1 a2 = th2 p a1 a2 b1 b2 ∧ th3 p b1 b2 a1 a2 = th3 p a1 a2 b1 b2 := by
  obtain ⟨n, rfl⟩ := Int.eq_ofNat_of_zero_le (by have := isP_range hp; omega : 0 ≤ p)
  haveI := neZero_of hp
  unfold th1 th2 th3
  refine mk_ratio hp (u := -1) (fun e => K_one_ne hp (by rw [K_neg, K_one] at e; rw [K_one]; grind)) ?_ ?_ ?_ ?_
  · rintro ⟨h1, h2⟩
    rw [K_sub] at h1 h2
    exact hne ⟨K_inj ha1 hb1 (by grind), K_inj ha2 hb2 (by grind)⟩
  all_goals
    simp only [K_sub, K_neg, K_mul, K_one]
    grind
end

end Go.Proofs.Ytmpgpmcmhbpjeab

namespace Go.Proofs.Ytmpgpmcmhbpjeab
open Go.RowKit

def tcC (p : Int) (r : Bool) (a1 a2 b1 b2 c1 c2 : Int) : Int := if isP p = true then (if (r && numsIn p [a1, a2, b1, b2, c1, c2]) = true then (if (area p a1 a2 b1 b2 c1 c2 == 0) = true then 5 else 0) else 2) else 1
theorem colB0 : colB 0 = true := rfl

end Go.Proofs.Ytmpgpmcmhbpjeab

namespace Go.Proofs.Ytmpgpmcmhbpjeab
open Go.RowKit

/-- The power of a point. -/
def pw (p c k1 k2 k3 a1 a2 : Int) : Int := (qdr p c k1 k2 a1 a2 - k3) % p
theorem pw_r (c k1 k2 k3 a1 a2 : Int) {p : Int} (h : isP p = true) : 0 ≤ pw p c k1 k2 k3 a1 a2 ∧ pw p c k1 k2 k3 a1 a2 < p := modR _ h
/-- Whether a point is on a circle. -/
def onC (p c k1 k2 k3 a1 a2 : Int) : Bool := qdr p c k1 k2 a1 a2 == k3
/-- The quadrance of the circle through three points. -/
def ccQ (p c a1 a2 b1 b2 c1 c2 : Int) : Int := qdr p c (ccX p c a1 a2 b1 b2 c1 c2) (ccY p c a1 a2 b1 b2 c1 c2) a1 a2
theorem ccQ_r (p c a1 a2 b1 b2 c1 c2 : Int) (h : isP p = true) : 0 ≤ ccQ p c a1 a2 b1 b2 c1 c2 ∧ ccQ p c a1 a2 b1 b2 c1 c2 < p := qdr_r _ _ _ _ _ h
theorem neg_mod (x p : Int) : -(x % p) % p = -x % p := by rw [← Int.zero_sub, ← Int.zero_sub x, Int.sub_emod, Int.emod_emod, ← Int.sub_emod]
theorem sub_zero_iff {p x y : Int} (hx : 0 ≤ x ∧ x < p) (hy : 0 ≤ y ∧ y < p) : (x - y) % p = 0 ↔ x = y := by
  constructor
  · intro h
    have h1 := Int.emod_emod_of_dvd x (Int.dvd_refl p)
    have h2 : x % p = y % p := Int.emod_eq_emod_iff_emod_sub_eq_zero.2 h
    rwa [Int.emod_eq_of_lt hx.1 hx.2, Int.emod_eq_of_lt hy.1 hy.2] at h2
  · rintro rfl; simp
/-- A point is on a circle just where its power is 0. -/
theorem pw_on {p c k1 k2 k3 a1 a2 : Int} (hp : isP p = true) (hk : 0 ≤ k3 ∧ k3 < p) : (pw p c k1 k2 k3 a1 a2 == 0) = onC p c k1 k2 k3 a1 a2 := by
  rw [Bool.eq_iff_iff, beq_iff_eq, onC, beq_iff_eq, pw, sub_zero_iff (qdr_r c k1 k2 a1 a2 hp) hk]
theorem cmb_r (p a b t : Int) (h : isP p = true) : 0 ≤ cmb p a b t ∧ cmb p a b t < p := modR _ h
/-- The tangent. -/
def tn1 (p c k1 k2 a1 a2 : Int) : Int := tl1 p c ((a1 - k1) % p) ((a2 - k2) % p) a1 a2
def tn2 (p c k1 k2 a1 a2 : Int) : Int := tl2 p c ((a1 - k1) % p) ((a2 - k2) % p) a1 a2
def tn3 (p c k1 k2 a1 a2 : Int) : Int := tl3 p c ((a1 - k1) % p) ((a2 - k2) % p) a1 a2
theorem tn1_r (c k1 k2 a1 a2 : Int) {p : Int} (h : isP p = true) : 0 ≤ tn1 p c k1 k2 a1 a2 ∧ tn1 p c k1 k2 a1 a2 < p := modR _ h
theorem tn2_r (c k1 k2 a1 a2 : Int) {p : Int} (h : isP p = true) : 0 ≤ tn2 p c k1 k2 a1 a2 ∧ tn2 p c k1 k2 a1 a2 < p := modR _ h
theorem tn3_r (c k1 k2 a1 a2 : Int) {p : Int} (h : isP p = true) : 0 ≤ tn3 p c k1 k2 a1 a2 ∧ tn3 p c k1 k2 a1 a2 < p := modR _ h
theorem tn_line {p c k1 k2 a1 a2 : Int} (hp : isP p = true) (hc : colB c = true) (hk1 : 0 ≤ k1 ∧ k1 < p) (hk2 : 0 ≤ k2 ∧ k2 < p) (ha1 : 0 ≤ a1 ∧ a1 < p) (ha2 : 0 ≤ a2 ∧ a2 < p) (hne : ¬ (k1 = a1 ∧ k2 = a2)) :
    lineB p (tn1 p c k1 k2 a1 a2) (tn2 p c k1 k2 a1 a2) (tn3 p c k1 k2 a1 a2) = true :=
  tl_line a1 a2 hp hc (dir_ne hp ha1 ha2 hk1 hk2 fun h => hne ⟨h.1.symm, h.2.symm⟩)
/-- The perpendicular line to the line through the centre and the point. -/
theorem tn_eq {p c k1 k2 a1 a2 : Int} (hp : isP p = true) (hc : colB c = true) (hk1 : 0 ≤ k1 ∧ k1 < p) (hk2 : 0 ≤ k2 ∧ k2 < p) (ha1 : 0 ≤ a1 ∧ a1 < p) (ha2 : 0 ≤ a2 ∧ a2 < p) (hne : ¬ (k1 = a1 ∧ k2 = a2)) :
    pt1 p c (th1 p k1 k2 a1 a2) (th2 p k1 k2 a1 a2) a1 a2 = tn1 p c k1 k2 a1 a2 ∧ pt2 p c (th1 p k1 k2 a1 a2) (th2 p k1 k2 a1 a2) a1 a2 = tn2 p c k1 k2 a1 a2 ∧ pt3 p c (th1 p k1 k2 a1 a2) (th2 p k1 k2 a1 a2) a1 a2 = tn3 p c k1 k2 a1 a2 := by
  obtain ⟨e1, e2, e3⟩ := alt_eq a1 a2 hp hc hk1 hk2 ha1 ha2 hne
  obtain ⟨f1, f2, f3⟩ := tl_flip (d1 := (k1 - a1) % p) (d2 := (k2 - a2) % p) (e1 := (a1 - k1) % p) (e2 := (a2 - k2) % p) a1 a2 hp hc (dir_ne hp hk1 hk2 ha1 ha2 hne)
    (by rw [Int.emod_emod, neg_mod]; congr 1; omega) (by rw [Int.emod_emod, neg_mod]; congr 1; omega)
  exact ⟨e1.trans f1.symm, e2.trans f2.symm, e3.trans f3.symm⟩

end Go.Proofs.Ytmpgpmcmhbpjeab

namespace Go.Proofs.Ytmpgpmcmhbpjeab
open Go.RowKit

abbrev T3 := Int × Int × Int
/-- Whether a line comes ahead of another one. -/
def lt3 (x y : T3) : Prop := x.1 < y.1 ∨ x.1 = y.1 ∧ (x.2.1 < y.2.1 ∨ x.2.1 = y.2.1 ∧ x.2.2 < y.2.2)
instance (x y : T3) : Decidable (lt3 x y) := by unfold lt3; infer_instance
theorem lt3_trans {x y z : T3} (h : lt3 x y) (k : lt3 y z) : lt3 x z := by unfold lt3 at *; omega
theorem lt3_irr (x : T3) : ¬ lt3 x x := by unfold lt3; omega
theorem lt3_tri (x y : T3) : lt3 x y ∨ x = y ∨ lt3 y x := by
  obtain ⟨a, b, c⟩ := x
  obtain ⟨a', b', c'⟩ := y
  simp only [lt3, Prod.mk.injEq]; omega
theorem lt3_not {x y : T3} (h : ¬ lt3 x y) (hn : x ≠ y) : lt3 y x := by rcases lt3_tri x y with q | q | q; exact absurd q h; exact absurd q hn; exact q
/-- Strictly ordered lists with the same members are one. -/
theorem lt3_unique : ∀ {xs ys : List T3}, xs.Pairwise lt3 → ys.Pairwise lt3 → (∀ z, z ∈ xs ↔ z ∈ ys) → xs = ys
  | [], ys, _, _, h => by
    cases ys with
    | nil => rfl
    | cons y ys => exact absurd ((h y).2 (by simp)) (by simp)
  | x :: xs, [], _, _, h => absurd ((h x).1 (by simp)) (by simp)
  | x :: xs, y :: ys, hx, hy, h => by
    have hx' := List.pairwise_cons.1 hx
    have hy' := List.pairwise_cons.1 hy
    have e : x = y := by
      rcases List.mem_cons.1 ((h x).1 (by simp)) with e | e
      · exact e
      · rcases List.mem_cons.1 ((h y).2 (by simp)) with e' | e'
        · exact e'.symm
        · exact absurd (lt3_trans (hx'.1 _ e') (hy'.1 _ e)) (lt3_irr x)
    subst e
    refine congrArg _ (lt3_unique hx'.2 hy'.2 fun z => ?_)
    constructor
    · intro hz
      rcases List.mem_cons.1 ((h z).1 (by simp [hz])) with e | e
      · subst e; exact absurd (hx'.1 _ hz) (lt3_irr z)
      · exact e
    · intro hz
      rcases List.mem_cons.1 ((h z).2 (by simp [hz])) with e | e
      · subst e; exact absurd (hy'.1 _ hz) (lt3_irr z)
      · exact e
/-- A line put into a list. -/
def insL (ys : List T3) (l : T3) : List T3 := (ys.filter fun z => decide (lt3 z l)) ++ l :: ys.filter fun z => decide (lt3 l z)
theorem ins_mem {ys : List T3} {l z : T3} : z ∈ insL ys l ↔ z = l ∨ z ∈ ys := by
  simp only [insL, List.mem_append, List.mem_cons, List.mem_filter, decide_eq_true_eq]
  constructor
  · rintro (⟨h, _⟩ | rfl | ⟨h, _⟩)
    · exact .inr h
    · exact .inl rfl
    · exact .inr h
  · rintro (rfl | h)
    · exact .inr (.inl rfl)
    · rcases lt3_tri z l with q | q | q
      · exact .inl ⟨h, q⟩
      · exact .inr (.inl q)
      · exact .inr (.inr ⟨h, q⟩)
theorem ins_sorted {ys : List T3} {l : T3} (h : ys.Pairwise lt3) : (insL ys l).Pairwise lt3 := by
  rw [insL, List.pairwise_append]
  refine ⟨h.filter _, List.pairwise_cons.2 ⟨fun z hz => of_decide_eq_true (List.mem_filter.1 hz).2, h.filter _⟩, fun x hx y hy => ?_⟩
  have h1 := of_decide_eq_true (List.mem_filter.1 hx).2
  rcases List.mem_cons.1 hy with rfl | hy
  · exact h1
  · exact lt3_trans h1 (of_decide_eq_true (List.mem_filter.1 hy).2)
theorem ins_le (ys : List T3) (l : T3) : (insL ys l).length ≤ ys.length + 1 := by
  have h1 : (ys.filter fun z => decide (lt3 z l)).length + (ys.filter fun z => decide (lt3 l z)).length ≤ ys.length := by
    induction ys with
    | nil => simp
    | cons y ys ih =>
      simp only [List.filter_cons, List.length_cons]
      by_cases q : lt3 y l
      · have : ¬ lt3 l y := fun q' => lt3_irr _ (lt3_trans q q')
        simp [q, this]; omega
      · by_cases q' : lt3 l y <;> simp [q, q'] <;> omega
  simp only [insL, List.length_append, List.length_cons]; omega
/-- The lines of a list, each once, in order. -/
def srtL (ls : List T3) : List T3 := ls.foldl insL []
theorem srtL_snoc (ls : List T3) (l : T3) : srtL (ls ++ [l]) = insL (srtL ls) l := by simp [srtL]
theorem srtL_sorted (ls : List T3) : (srtL ls).Pairwise lt3 := by
  have : ∀ (ls acc : List T3), acc.Pairwise lt3 → (ls.foldl insL acc).Pairwise lt3 := by
    intro ls
    induction ls with
    | nil => exact fun acc h => h
    | cons l ls ih => exact fun acc h => ih _ (ins_sorted h)
  exact this ls [] List.Pairwise.nil
theorem srtL_mem {ls : List T3} {z : T3} : z ∈ srtL ls ↔ z ∈ ls := by
  have : ∀ (ls acc : List T3), z ∈ ls.foldl insL acc ↔ z ∈ acc ∨ z ∈ ls := by
    intro ls
    induction ls with
    | nil => intro acc; simp
    | cons l ls ih =>
      intro acc
      rw [List.foldl_cons, ih, ins_mem, List.mem_cons]
      constructor
      · rintro ((h | h) | h)
        · exact .inr (.inl h)
        · exact .inl h
        · exact .inr (.inr h)
      · rintro (h | h | h)
        · exact .inl (.inr h)
        · exact .inl (.inl h)
        · exact .inr h
  have := this ls []
  simpa [srtL] using this
theorem srtL_le (ls : List T3) : (srtL ls).length ≤ ls.length := by
  have : ∀ (ls acc : List T3), acc.Pairwise lt3 → (ls.foldl insL acc).length ≤ acc.length + ls.length := by
    intro ls
    induction ls with
    | nil => intro acc _; simp
    | cons l ls ih =>
      intro acc h
      have h1 := ih _ (ins_sorted (l := l) h)
      have h2 := ins_le acc l
      simp only [List.foldl_cons, List.length_cons]; omega
  have := this ls [] List.Pairwise.nil
  simpa [srtL] using this
/-- What the search finds: the line is there. -/
theorem put_there {xs : List T3} {l : T3} (hs : xs.Pairwise lt3) (h : l ∈ xs) : insL xs l = xs :=
  lt3_unique (ins_sorted hs) hs fun z => by rw [ins_mem]; exact ⟨fun q => q.elim (fun e => e ▸ h) id, .inr⟩
/-- .. or it goes to a place. -/
theorem put_at {xs : List T3} {l : T3} {k : Nat} (hs : xs.Pairwise lt3) (h1 : ∀ z ∈ xs.drop k, lt3 l z) (h2 : ∀ z ∈ xs.take k, lt3 z l) : insL xs l = xs.take k ++ l :: xs.drop k := by
  refine lt3_unique (ins_sorted hs) ?_ fun z => ?_
  · rw [List.pairwise_append]
    refine ⟨hs.sublist (List.take_sublist _ _), List.pairwise_cons.2 ⟨h1, hs.sublist (List.drop_sublist _ _)⟩, fun x hx y hy => ?_⟩
    rcases List.mem_cons.1 hy with rfl | hy
    · exact h2 x hx
    · exact lt3_trans (h2 x hx) (h1 y hy)
  · rw [ins_mem, List.mem_append, List.mem_cons]
    have := List.take_append_drop k xs
    constructor
    · rintro (h | h)
      · exact .inr (.inl h)
      · rw [← this, List.mem_append] at h
        exact h.elim .inl fun h => .inr (.inr h)
    · rintro (h | h | h)
      · exact .inr (List.mem_of_mem_take h)
      · exact .inl h
      · exact .inr (List.mem_of_mem_drop h)

end Go.Proofs.Ytmpgpmcmhbpjeab

namespace Go.Proofs.Ytmpgpmcmhbpjeab
open Go.RowKit

def ints (xs : List Int) : List Value := xs.map (Value.int .i64)
theorem ints_length (xs : List Int) : (ints xs).length = xs.length := List.length_map _
theorem ints_append (xs ys : List Int) : ints (xs ++ ys) = ints xs ++ ints ys := List.map_append

/-- What a slice owns stays while nothing below a bound turns, if its row lies below the bound. -/
theorem own_below {w w' : World} {base B : Nat} {e : TypeId} {k n : Nat} {v : Value} {xs : List Value} (h : w.ownsRow base e k v n xs) (hb : Below B w w') (hv : ∀ g, v.ownBlock = some g → g < B) : w'.ownsRow base e k v n xs := by
  obtain ⟨h1, h2⟩ := h
  refine ⟨h1, ?_⟩
  rcases h2 with h2 | ⟨g, cap, cur, rfl, hg, hh, r⟩
  · exact .inl h2
  · exact .inr ⟨g, cap, cur, rfl, hg, by rw [hb.block g (hv g rfl)]; exact hh, r⟩
/-- .. the bound: the heap's size. -/
theorem own_call {w w' : World} {base : Nat} {e : TypeId} {k n : Nat} {v : Value} {xs : List Value} (h : w.ownsRow base e k v n xs) (hb : Below w.heap.size w w') : w'.ownsRow base e k v n xs :=
  own_below h hb fun g hg => (h.lt g hg).2
theorem own_base {w : World} {base base' : Nat} {e : TypeId} {k n : Nat} {v : Value} {xs : List Value} (h : w.ownsRow base e k v n xs) (hb : base' ≤ base) : w.ownsRow base' e k v n xs := by
  obtain ⟨h1, h2⟩ := h
  refine ⟨h1, ?_⟩
  rcases h2 with h2 | ⟨g, cap, cur, rfl, hg, r⟩
  · exact .inl h2
  · exact .inr ⟨g, cap, cur, rfl, by omega, r⟩
/-- A slice's two shapes. -/
theorem own_ways {w : World} {base : Nat} {e : TypeId} {k n : Nat} {v : Value} {xs : List Value} (h : w.ownsRow base e k v n xs) :
    (n = 0 ∧ ∃ ao cap, v = .slice ao 0 cap) ∨ (0 < n ∧ ∃ g cap, v = .slice (some ⟨g, 0, none⟩) n cap ∧ base ≤ g ∧ g < w.heap.size ∧ n ≤ 9223372036854775807) := by
  rcases h.2 with ⟨rfl, rfl⟩ | ⟨g, cap, cur, rfl, hg, hh, hn, hm, r⟩
  · exact .inl ⟨rfl, _, _, rfl⟩
  · rcases Nat.eq_zero_or_pos n with rfl | h0
    · exact .inl ⟨rfl, _, _, rfl⟩
    · exact .inr ⟨h0, g, cap, rfl, hg, lt_of_block hh, by unfold maxLen at hm; omega⟩
/-- The number at a place. -/
theorem own_cell {w : World} {base : Nat} {e : TypeId} {k n g cap : Nat} {xs : List Int} (h : w.ownsRow base e k (.slice (some ⟨g, 0, none⟩) n cap) n (ints xs)) {j : Nat} (hj : j < n * k) : w.cell? ⟨g, j, none⟩ = some (.int .i64 (xs.getD j 0)) := by
  rw [h.cellAt j hj]
  have hl : xs.length = n * k := by have := h.1; rwa [ints_length] at this
  simp [ints, List.getElem?_eq_getElem (show j < xs.length by omega)]

/-- What a call leaves that returns a slice of its own and a code. -/
def SlicePost (T : TypeId) (k : Nat) (L : List Int) (C : Int) (w : World) (e : Ending) (w' : World) : Prop :=
  ∃ v n, e = .returned (.tuple #[v, .int .i64 C]) ∧ w'.ownsRow w.heap.size T k v n (ints L) ∧ Below w.heap.size w w'
theorem slicePost_mk {T : TypeId} {k n : Nat} {L : List Int} {C : Int} {v : Value} {w w' : World} (h : w'.ownsRow w.heap.size T k v n (ints L)) (hb : Below w.heap.size w w') :
    SlicePost T k L C w (.returned (.tuple #[v, .int .i64 C])) w' := ⟨v, n, rfl, h, hb⟩
theorem slicePost_nil {T : TypeId} {k : Nat} {L : List Int} {C : Int} {w w' : World} (h : L = []) (hb : Below w.heap.size w w') :
    SlicePost T k L C w (.returned (.tuple #[.slice none 0 0, .int .i64 C])) w' := ⟨_, 0, rfl, by rw [h]; exact World.ownsRow_nil _ _ _ _, hb⟩

theorem own_same {w w' : World} {b b' : Nat} {e : TypeId} {k n m : Nat} {v v' : Value} {xs : List Value} (h : w.ownsRow b e (k + 1) v n xs) (h' : w'.ownsRow b' e (k + 1) v' m xs) : n = m :=
  Nat.eq_of_mul_eq_mul_right (Nat.succ_pos k) (h.1.symm.trans h'.1)
theorem own_few {w : World} {b : Nat} {e : TypeId} {k n N : Nat} {v : Value} {xs : List Int} (h : w.ownsRow b e k v n (ints xs)) (hx : xs.length ≤ N) (hk : 0 < k) : n ≤ N := by
  have h1 := h.1
  rw [ints_length] at h1
  have := Nat.le_mul_of_pos_right n hk
  omega
theorem cell_old {B : Nat} {W w' : World} (h : Below B W w') {b : Nat} (hb : b < B) (j : Nat) : w'.cell? ⟨b, j, none⟩ = W.cell? ⟨b, j, none⟩ := World.cell?_of_block (a := ⟨b, j, none⟩) (h.block b hb)

theorem bcellB {B : Nat} {W w1 : World} (hb : Below B W w1) : (∀ b o, b < B → w1.cell? ⟨b, o, none⟩ = W.cell? ⟨b, o, none⟩) ∧ (∀ b o, b < B → w1.frozen? ⟨b, o, none⟩ = W.frozen? ⟨b, o, none⟩) :=
  ⟨fun b o h => World.cell?_of_block (a := ⟨b, o, none⟩) (hb.block b h), fun b o h => World.frozen?_of_block (a := ⟨b, o, none⟩) (hb.block b h)⟩
theorem own_lit {w : World} {base b : Nat} {e : TypeId} {k n : Nat} {cs : List Int} (hb : base ≤ w.heap.size) (hq : b = w.heap.size) (hn : n ≤ 1000000) (hl : cs.length = n * k) :
    (w.alloc (.cells (cs.map (Value.int .i64)).toArray e)).ownsRow base e k (.slice (some ⟨b, 0, none⟩) n n) n (ints cs) := by
  subst hq; exact World.ownsRow_lit w _ n hb (by unfold maxLen; omega) (by simpa using hl)

theorem own_list {w : World} {base n m : Nat} {e : TypeId} {v : Value} {xs : List Int} (h : w.ownsRow base e 1 v n (ints xs)) (hm : xs.length = m + 1) :
    n = m + 1 ∧ ∃ g cap, v = .slice (some ⟨g, 0, none⟩) (m + 1) cap ∧ base ≤ g ∧ g < w.heap.size ∧ ∀ j, j < m + 1 → w.cell? ⟨g, j, none⟩ = some (.int .i64 (xs.getD j 0)) := by
  have hn : n = m + 1 := by have := h.1; rw [ints_length] at this; omega
  subst hn
  rcases own_ways h with ⟨h0, _⟩ | ⟨_, g, cap, rfl, h1, h2, _⟩
  · omega
  · exact ⟨rfl, g, cap, rfl, h1, h2, fun j hj => own_cell h (by omega)⟩

/-- The marks m, m + 1, .. -/
def marks (m n : Nat) : List Int := (List.range n).map fun i => ((m + i : Nat) : Int)
theorem marks_length (m n : Nat) : (marks m n).length = n := by simp [marks]
theorem marks_getD {m n j : Nat} (h : j < n) : (marks m n).getD j 0 = ((m + j : Nat) : Int) := by
  simp [marks, List.getElem?_map, List.getElem?_range h]
theorem marks_succ (m n : Nat) : marks m (n + 1) = marks m n ++ [((m + n : Nat) : Int)] := by simp [marks, List.range_succ]
/-- One mark more. -/
theorem marks_set {m j : Nat} {xs : List Int} (h : j < xs.length) : (ints (marks m j ++ xs.drop j)).set j (.int .i64 ((m + j : Nat) : Int)) = ints (marks m (j + 1) ++ xs.drop (j + 1)) := by
  rw [ints_append, ints_append, marks_succ, ints_append, List.append_assoc]
  rw [List.set_append_right _ _ (by simp [ints_length, marks_length])]
  congr 1
  rw [ints_length, marks_length, Nat.sub_self]
  rw [List.drop_eq_getElem_cons h]
  simp only [ints, List.map_cons, List.set_cons_zero]
  rfl

end Go.Proofs.Ytmpgpmcmhbpjeab

namespace Go.Proofs.Ytmpgpmcmhbpjeab

/-- Whether the point is on the line. -/
def onB (p a1 a2 l1 l2 l3 : Int) : Bool := (l1 * a1 + l2 * a2 + l3) % p == 0

end Go.Proofs.Ytmpgpmcmhbpjeab

namespace Go.Proofs.Ytmpgpmcmhbpjeab
open Go.RowKit

/-- The first two points of a line, in order. -/
def sqS1 (p _l1 l2 l3 : Int) : Int := if (l2 == 0) = true then (-l3) % p else 0
def sqS2 (p _l1 l2 l3 : Int) : Int := if (l2 == 0) = true then 0 else (-l3 * inv p l2) % p
def sqN1 (p _l1 l2 l3 : Int) : Int := if (l2 == 0) = true then (-l3) % p else 1
def sqN2 (p l1 l2 l3 : Int) : Int := if (l2 == 0) = true then 1 else (-(l1 + l3) * inv p l2) % p
/-- What the maker of an iterator leaves: a function that has captured three boxes: the prime, two points. -/
def SeqMade (g : Nat) (p s1 s2 n1 n2 : Int) (w : World) (e : Ending) (w' : World) : Prop :=
  ∃ b0 b1 b2 : Nat, e = .returned (.func (.func g) #[] #[.pointer (some ⟨b0, 0, none⟩), .pointer (some ⟨b1, 0, none⟩), .pointer (some ⟨b2, 0, none⟩)]) ∧
    w'.cell? ⟨b1, 0, none⟩ = some (.int .i64 s1) ∧ w'.cell? ⟨b1, 1, none⟩ = some (.int .i64 s2) ∧ w'.cell? ⟨b2, 0, none⟩ = some (.int .i64 n1) ∧ w'.cell? ⟨b2, 1, none⟩ = some (.int .i64 n2) ∧
    w'.cell? ⟨b0, 0, none⟩ = some (.int .i64 p) ∧ w.heap.size ≤ b0 ∧ w.heap.size ≤ b1 ∧ w.heap.size ≤ b2 ∧ Below w.heap.size w w'
theorem seqMade_mk {g b0 b1 b2 : Nat} {p s1 s2 n1 n2 : Int} {w w' : World} (h1 : w'.cell? ⟨b1, 0, none⟩ = some (.int .i64 s1)) (h2 : w'.cell? ⟨b1, 1, none⟩ = some (.int .i64 s2)) (h3 : w'.cell? ⟨b2, 0, none⟩ = some (.int .i64 n1))
    (h4 : w'.cell? ⟨b2, 1, none⟩ = some (.int .i64 n2)) (h0 : w'.cell? ⟨b0, 0, none⟩ = some (.int .i64 p)) (g0 : w.heap.size ≤ b0) (g1 : w.heap.size ≤ b1) (g2 : w.heap.size ≤ b2) (hb : Below w.heap.size w w') :
    SeqMade g p s1 s2 n1 n2 w (.returned (.func (.func g) #[] #[.pointer (some ⟨b0, 0, none⟩), .pointer (some ⟨b1, 0, none⟩), .pointer (some ⟨b2, 0, none⟩)])) w' := ⟨b0, b1, b2, rfl, h1, h2, h3, h4, h0, g0, g1, g2, hb⟩
end Go.Proofs.Ytmpgpmcmhbpjeab

namespace Go.Proofs.Ytmpgpmcmhbpjeab
open Go.RowKit

/-- The numbers of points, one behind the other. -/
def flat (xs : List (Int × Int)) : List Int := xs.flatMap fun x => [x.1, x.2]
theorem flat_append (xs : List (Int × Int)) (x : Int × Int) : flat (xs ++ [x]) = flat xs ++ [x.1, x.2] := by simp [flat]
theorem flat_length (xs : List (Int × Int)) : (flat xs).length = xs.length * 2 := by
  induction xs with
  | nil => rfl
  | cons x xs ih => simp [flat] at ih ⊢; omega
/-- The combinations of two points with the numbers below k. -/
def cbs (p s1 s2 n1 n2 : Int) (k : Nat) : List (Int × Int) := (List.range k).map fun t : Nat => (cmb p s1 n1 (t : Int), cmb p s2 n2 (t : Int))
/-- A row of the grid, up to y; the rows below x. -/
def rowL (f : Int → Int → Bool) (x y : Nat) : List (Int × Int) := ((List.range y).filter fun b : Nat => f (x : Int) (b : Int)).map fun b : Nat => ((x : Int), (b : Int))
def gridL (f : Int → Int → Bool) (m x : Nat) : List (Int × Int) := (List.range x).flatMap fun a : Nat => rowL f a m
theorem rowL_yes {f : Int → Int → Bool} {x y : Nat} (h : f x y = true) : rowL f x (y + 1) = rowL f x y ++ [((x : Int), (y : Int))] := by simp [rowL, List.range_succ, List.filter_append, h]
theorem rowL_no {f : Int → Int → Bool} {x y : Nat} (h : f x y = false) : rowL f x (y + 1) = rowL f x y := by simp [rowL, List.range_succ, List.filter_append, h]
theorem rowL_le (f : Int → Int → Bool) (x y : Nat) : (rowL f x y).length ≤ y := by
  have := List.length_filter_le (fun b : Nat => f (x : Int) (b : Int)) (List.range y)
  simpa [rowL] using this
theorem gridL_succ (f : Int → Int → Bool) (m x : Nat) : gridL f m (x + 1) = gridL f m x ++ rowL f x m := by simp [gridL, List.range_succ]
theorem gridL_le (f : Int → Int → Bool) (m x : Nat) : (gridL f m x).length ≤ x * m := by
  induction x with
  | zero => simp [gridL]
  | succ x ih =>
    have := rowL_le f x m
    rw [gridL_succ, List.length_append, Nat.add_mul]; omega

/-- A test with one answer. -/
theorem filter_one {m y0 : Nat} {f : Nat → Bool} (h : ∀ b, b < m → f b = decide (b = y0)) : (List.range m).filter f = if y0 < m then [y0] else [] := by
  induction m with
  | zero => simp
  | succ m ih =>
    rw [List.range_succ, List.filter_append, ih fun b hb => h b (by omega)]
    have hm := h m (by omega)
    by_cases e : m = y0
    · subst e; simp [hm]
    · have hq : (y0 < m + 1) = (y0 < m) := propext ⟨fun _ => by omega, fun _ => by omega⟩
      simp only [hq]; simp [hm, e]
theorem filter_all {m : Nat} {f : Nat → Bool} (h : ∀ b, b < m → f b = true) : (List.range m).filter f = List.range m := by
  rw [List.filter_eq_self]; intro b hb; exact h b (List.mem_range.1 hb)
theorem filter_none {m : Nat} {f : Nat → Bool} (h : ∀ b, b < m → f b = false) : (List.range m).filter f = [] := by
  rw [List.filter_eq_nil_iff]; intro b hb; rw [h b (List.mem_range.1 hb)]; simp
/-- One point a row. -/
theorem grid_each {f : Int → Int → Bool} {m : Nat} {g : Nat → Nat} : ∀ x : Nat, (∀ a, a < x → g a < m ∧ ∀ b, b < m → f (a : Int) (b : Int) = decide (b = g a)) → gridL f m x = (List.range x).map fun a : Nat => ((a : Int), (g a : Int))
  | 0, _ => rfl
  | x + 1, h => by
    rw [gridL_succ, grid_each x fun a ha => h a (by omega), List.range_succ, List.map_append]
    congr 1
    rw [rowL, filter_one (h x (by omega)).2, if_pos (h x (by omega)).1]; rfl
/-- One row alone. -/
theorem grid_alone {f : Int → Int → Bool} {m x0 : Nat} : ∀ x : Nat, (∀ a, a < x → ∀ b, b < m → f (a : Int) (b : Int) = decide (a = x0)) → gridL f m x = if x0 < x then (List.range m).map fun b : Nat => ((x0 : Int), (b : Int)) else []
  | 0, _ => by simp [gridL]
  | x + 1, h => by
    rw [gridL_succ, grid_alone x fun a ha => h a (by omega)]
    by_cases e : x = x0
    · subst e
      rw [if_neg (by omega), if_pos (by omega), List.nil_append, rowL, filter_all fun b hb => by rw [h x (by omega) b hb]; simp]
    · rw [rowL, filter_none fun b hb => by rw [h x (by omega) b hb]; simp [e]]
      have hq : (x0 < x + 1) = (x0 < x) := propext ⟨fun _ => by omega, fun _ => by omega⟩
      simp only [hq]; simp

section
variable {n : Nat} [NeZero n]
theorem onB_iff {l1 l2 l3 x y : Int} : onB n x y l1 l2 l3 = true ↔ K n l1 * K n x + K n l2 * K n y + K n l3 = 0 := by
  rw [onB, beq_iff_eq, ← K_eq_zero, K_add, K_add, K_mul, K_mul]
end
/-- The points of a line by rows are the combinations of its first two. -/
theorem points_line {p l1 l2 l3 : Int} (hp : isP p = true) (hl : leadB l1 l2 = true) (h1 : 0 ≤ l1 ∧ l1 < p) (h2 : 0 ≤ l2 ∧ l2 < p) (h3 : 0 ≤ l3 ∧ l3 < p) :
    cbs p (sqS1 p l1 l2 l3) (sqS2 p l1 l2 l3) (sqN1 p l1 l2 l3) (sqN2 p l1 l2 l3) p.toNat = gridL (fun x y => onB p x y l1 l2 l3) p.toNat p.toNat := by
  have hr := isP_range hp
  obtain ⟨n, rfl⟩ := Int.eq_ofNat_of_zero_le (by omega : 0 ≤ p)
  haveI := neZero_of hp
  rw [Int.toNat_natCast]
  have cast0 : ∀ x : Int, 0 ≤ x % n ∧ x % n < n := fun x => ⟨Int.emod_nonneg _ (by omega), Int.emod_lt_of_pos _ (by omega)⟩
  by_cases hb : l2 = 0
  · subst hb
    have hl1 : l1 = 1 := by rcases lead_ways hl with h | ⟨_, h⟩ <;> omega
    subst hl1
    obtain ⟨x0, hx0⟩ := Int.eq_ofNat_of_zero_le (cast0 (-l3)).1
    have hx1 := (cast0 (-l3)).2
    rw [grid_alone (x0 := x0) n ?_, if_pos (by omega)]
    · unfold cbs
      refine List.map_congr_left fun t ht => ?_
      have ht' := List.mem_range.1 ht
      simp only [sqS1, sqS2, sqN1, sqN2, beq_self_eq_true, if_true, hx0, cmb, Prod.mk.injEq]
      constructor
      · rw [Int.sub_self, Int.mul_zero, Int.add_zero, Int.emod_eq_of_lt (by omega) (by omega)]
      · rw [Int.sub_zero, Int.mul_one, Int.zero_add, Int.emod_eq_of_lt (by omega) (by omega)]
    · intro a ha b hb
      rw [Bool.eq_iff_iff, onB_iff, decide_eq_true_iff]
      have hk : K n (x0 : Int) = - K n l3 := by rw [← hx0, K_mod, K_neg]
      rw [K_one, K_zero]
      constructor
      · intro h
        have : K n (a : Int) = K n (x0 : Int) := by rw [hk]; grind
        have := K_inj (n := n) ⟨by omega, by omega⟩ ⟨by omega, by omega⟩ this
        omega
      · rintro rfl
        rw [hk]; grind
  · have hk2 : K n l2 ≠ 0 := K_small h2 hb
    have hinv := K_inv hp hk2
    have hbe : (l2 == 0) = false := by simpa using hb
    have hy : ∀ a : Nat, ∃ y : Nat, y < n ∧ K n (y : Int) = -(K n l1 * K n (a : Int) + K n l3) * K n (inv n l2) := fun a => by
      obtain ⟨y, e⟩ := Int.eq_ofNat_of_zero_le (cast0 (-(l1 * a + l3) * inv n l2)).1
      have := (cast0 (-(l1 * a + l3) * inv n l2)).2
      exact ⟨y, by omega, by rw [← e, K_mod, K_mul, K_neg, K_add, K_mul]⟩
    rw [grid_each (g := fun a => Classical.choose (hy a)) n ?_]
    · unfold cbs
      refine List.map_congr_left fun t ht => ?_
      have ht' := List.mem_range.1 ht
      obtain ⟨c1, c2⟩ := Classical.choose_spec (hy t)
      simp only [sqS1, sqS2, sqN1, sqN2, hbe, Bool.false_eq_true, if_false, cmb, Prod.mk.injEq]
      constructor
      · rw [Int.sub_zero, Int.mul_one, Int.zero_add, Int.emod_eq_of_lt (by omega) (by omega)]
      · refine K_inj (n := n) (cast0 _) ⟨by omega, by omega⟩ ?_
        rw [c2]
        simp only [K_mod, K_add, K_mul, K_sub, K_neg]
        grind
    · intro a ha
      obtain ⟨c1, c2⟩ := Classical.choose_spec (hy a)
      refine ⟨c1, fun b hb' => ?_⟩
      rw [Bool.eq_iff_iff, onB_iff, decide_eq_true_iff]
      constructor
      · intro h
        have : K n (b : Int) = K n ((Classical.choose (hy a) : Nat) : Int) := by rw [c2]; grind
        have := K_inj (n := n) ⟨by omega, by omega⟩ ⟨by omega, by omega⟩ this
        omega
      · intro h
        rw [h, c2]; grind

end Go.Proofs.Ytmpgpmcmhbpjeab

namespace Go.Proofs.Ytmpgpmcmhbpjeab
open Go.RowKit Go.Shelf

attribute [local go_sem] Oper.semAt_some

/-- A point as a value. -/
def ptV (x : Int × Int) : Value := .agg #[.int .i64 x.1, .int .i64 x.2]
theorem below_grown {W w1 : World} (h : Below W.heap.size W w1) : W.grownBy w1 none := ⟨h.os, h.tape, h.output, h.size, fun k hk _ => h.block k hk⟩

/-- The blocks from lo to hi lie as they lay; none has gone. -/
def Btw (lo hi : Nat) (W W' : World) : Prop := W.heap.size ≤ W'.heap.size ∧ ∀ k, lo ≤ k → k < hi → W'.heap[k]? = W.heap[k]?
theorem btw_refl (lo hi : Nat) (W : World) : Btw lo hi W W := ⟨Nat.le_refl _, fun _ _ _ => rfl⟩
theorem btw_trans {lo hi : Nat} {A B C : World} (h : Btw lo hi A B) (k : Btw lo hi B C) : Btw lo hi A C := ⟨Nat.le_trans h.1 k.1, fun i h1 h2 => (k.2 i h1 h2).trans (h.2 i h1 h2)⟩
theorem btw_below {lo hi B : Nat} {W W' : World} (h : Below B W W') (hB : hi ≤ B) : Btw lo hi W W' := ⟨h.size, fun k _ hk => h.block k (by omega)⟩
theorem btw_alloc {lo hi : Nat} (W : World) (o : Obj) (h : hi ≤ W.heap.size) : Btw lo hi W (W.alloc o) := btw_below ((Below.refl hi W).alloc h o) (Nat.le_refl _)
theorem btw_grown {lo hi : Nat} {W W' : World} {row : Option Nat} (h : W.grownBy W' row) (hi' : hi ≤ W.heap.size) (hr : ∀ g, row = some g → g < lo ∨ hi ≤ g) : Btw lo hi W W' :=
  ⟨h.size, fun k h1 h2 => h.block k (by omega) (fun e => by have := hr k e.symm; omega)⟩
theorem btw_setCell {lo hi : Nat} (W : World) (a : Addr) (v : Value) (h : a.block < lo ∨ hi ≤ a.block) : Btw lo hi W (W.setCell a v) :=
  ⟨by simp [World.setCell], fun k h1 h2 => Below.heap_setCell W a v k (by omega)⟩
theorem btw_putObj {lo hi : Nat} {w : World} (h : hi ≤ w.heap.size) (W : World) (l : Nat) (o o' : Obj) (hl : w.heap.size ≤ l) (_ : W.heap[l]? = some o) (_ : o.isCells = false) (_ : o.isWalk = false) : Btw lo hi W (W.putObj l o') := by
  have hg := grownBy_putObj' W l o'
  exact ⟨hg.size, fun k h1 h2 => hg.block k (by
    rcases Nat.lt_or_ge k W.heap.size with h3 | h3
    · exact h3
    · have := (Array.getElem?_eq_some_iff.1 (by assumption : W.heap[l]? = some o)).1; omega) (fun e => by cases e; omega)⟩
theorem btw_cell {lo hi : Nat} {W W' : World} (h : Btw lo hi W W') {b : Nat} (h1 : lo ≤ b) (h2 : b < hi) (j : Nat) : W'.cell? ⟨b, j, none⟩ = W.cell? ⟨b, j, none⟩ := World.cell?_of_block (a := ⟨b, j, none⟩) (h.2 b h1 h2)

/-- A box that holds a point. -/
def Box2 (W : World) (B : Nat) (t : TypeId) (x : Int × Int) : Prop := W.heap[B]? = some (.cells #[.int .i64 x.1, .int .i64 x.2] t (0, 0))
theorem box2_cell1 {W : World} {B : Nat} {t : TypeId} {x : Int × Int} (h : Box2 W B t x) : W.cell? ⟨B, 0, none⟩ = some (.int .i64 x.1) := by simp [World.cell?, show W.heap[B]? = _ from h]
theorem box2_cell2 {W : World} {B : Nat} {t : TypeId} {x : Int × Int} (h : Box2 W B t x) : W.cell? ⟨B, 1, none⟩ = some (.int .i64 x.2) := by simp [World.cell?, show W.heap[B]? = _ from h]
theorem box2_own (B C : Nat) (t : TypeId) (x : Int × Int) : OwnFrom C (fun (_ : Unit) W => Box2 W B t x) := fun _ X Y row hs hg hrow =>
  (hg.block B (Array.getElem?_eq_some_iff.1 hs).1 (fun e' => by
    obtain ⟨_, o, ho, hc⟩ := hrow B e'.symm
    rw [show X.heap[B]? = _ from hs] at ho; cases ho; cases hc)).trans hs
theorem box2_new (W : World) (t : TypeId) (x : Int × Int) : Box2 (W.alloc (.cells #[.int .i64 x.1, .int .i64 x.2] t)) W.heap.size t x := World.alloc_heap_new W _
theorem row_own {β : Type} (n₀ : Nat) (e : TypeId) (size : Nat) (v : β → Value) (k : β → Nat) (f : β → List Value) : Own (fun s W => W.ownsRow n₀ e size (v s) (k s) (f s)) := by
  rintro s X Y row hr hg hrow
  refine hr.kept hg ?_
  rcases hr.2 with ⟨hv, _⟩ | ⟨g, cap, cur, hv, _, hgb, _⟩
  · rw [hv]; exact .inl rfl
  · rw [hv]; refine .inr fun e' => ?_
    obtain ⟨o, ho, hc⟩ := hrow g (by simpa [Value.ownBlock] using e'.symm)
    rw [hgb] at ho; cases ho; cases hc
theorem size_own {β : Type} (B n : Nat) : OwnFrom B (fun (_ : β) W => n ≤ W.heap.size) := fun _ _ _ _ hs hg _ => Nat.le_trans hs hg.size

theorem btw_own {β : Type} {lo hi : Nat} {W0 : World} (h : hi ≤ W0.heap.size) : OwnFrom W0.heap.size (fun (_ : β) W => Btw lo hi W0 W) := fun _ _ _ _ hs hg hr =>
  btw_trans hs (btw_grown hg (Nat.le_trans h hs.1) (fun g e => .inr (Nat.le_trans h (hr g e).1)))
theorem below_drew {W w' : World} (h : Below W.drew.heap.size W.drew w') : Below W.heap.size W w' := ⟨h.os, h.tape, h.output, h.size, h.block⟩

end Go.Proofs.Ytmpgpmcmhbpjeab

namespace Go.Proofs.Ytmpgpmcmhbpjeab
open Go.RowKit Go.Shelf

attribute [local go_sem] Oper.semAt_some

/-- All points: the rows below x, and of row x those below y. -/
def tt2 (_ _ : Int) : Bool := true
def allL (m x y : Nat) : List (Int × Int) := gridL tt2 m x ++ rowL tt2 x y
theorem rowT_len (x y : Nat) : (rowL tt2 x y).length = y := by rw [rowL, filter_all (f := fun b : Nat => tt2 (x : Int) (b : Int)) fun _ _ => rfl]; simp
theorem gridT_len (m x : Nat) : (gridL tt2 m x).length = x * m := by
  induction x with
  | zero => simp [gridL]
  | succ x ih => rw [gridL_succ, List.length_append, ih, rowT_len, Nat.add_mul, Nat.one_mul]
theorem allL_len (m x y : Nat) : (allL m x y).length = x * m + y := by rw [allL, List.length_append, gridT_len, rowT_len]
theorem allL_zero (m x : Nat) : allL m x 0 = gridL tt2 m x := by simp [allL, rowL]
theorem allL_next (m x y : Nat) : allL m x (y + 1) = allL m x y ++ [((x : Int), (y : Int))] := by
  rw [allL, rowL_yes (f := tt2) rfl, ← List.append_assoc]; rfl
theorem allL_row (m x : Nat) : allL m x m = allL m (x + 1) 0 := by rw [allL_zero, gridL_succ, allL]
theorem gridT_pre (m : Nat) {x n : Nat} (h : x ≤ n) : gridL tt2 m x <+: gridL tt2 m n := by
  induction n with
  | zero => rw [Nat.le_zero.1 h]; exact List.prefix_refl _
  | succ n ih =>
    by_cases e : x = n + 1
    · rw [e]; exact List.prefix_refl _
    · exact (ih (by omega)).trans ⟨_, (gridL_succ _ _ _).symm⟩
theorem rowT_pre (x : Nat) {y m : Nat} (h : y ≤ m) : rowL tt2 x y <+: rowL tt2 x m := by
  induction m with
  | zero => rw [Nat.le_zero.1 h]; exact List.prefix_refl _
  | succ m ih =>
    by_cases e : y = m + 1
    · rw [e]; exact List.prefix_refl _
    · exact (ih (by omega)).trans ⟨_, (rowL_yes (f := tt2) rfl).symm⟩
theorem allL_pre {m x y : Nat} (hx : x < m) (hy : y ≤ m) : allL m x y <+: gridL tt2 m m := by
  have h1 : allL m x y <+: gridL tt2 m (x + 1) := by
    rw [gridL_succ, allL]; exact (List.prefix_append_right_inj _).2 (rowT_pre x hy)
  exact h1.trans (gridT_pre m (by omega))

/-- A point whose numbers are small: what a loop over all points is handed. -/
abbrev Pt32 := Fin 32 × Fin 32
def toF (z : Int × Int) : Pt32 := (Fin.ofNat 32 z.1.toNat, Fin.ofNat 32 z.2.toNat)
def toP (x : Pt32) : Int × Int := ((x.1.val : Int), (x.2.val : Int))
def allF (m x y : Nat) : List Pt32 := (allL m x y).map toF
theorem allF_len (m x y : Nat) : (allF m x y).length = x * m + y := by rw [allF, List.length_map, allL_len]
theorem allF_next (m x y : Nat) : allF m x (y + 1) = allF m x y ++ [toF ((x : Int), (y : Int))] := by simp [allF, allL_next]
theorem allF_row (m x : Nat) : allF m x m = allF m (x + 1) 0 := by rw [allF, allL_row]; rfl
theorem toP_toF {x y : Nat} (hx : x < 32) (hy : y < 32) : toP (toF ((x : Int), (y : Int))) = ((x : Int), (y : Int)) := by
  simp [toP, toF, Fin.ofNat, Nat.mod_eq_of_lt hx, Nat.mod_eq_of_lt hy]
theorem allF_back {m x : Nat} (hm : m ≤ 32) (hx : x ≤ 32) : (allF m x 0).map toP = gridL tt2 m x := by
  rw [allF, allL_zero, List.map_map]
  have : ∀ z ∈ gridL tt2 m x, (toP ∘ toF) z = id z := by
    intro z hz
    rw [gridL, List.mem_flatMap] at hz
    obtain ⟨a, ha, hz⟩ := hz
    rw [rowL, List.mem_map] at hz
    obtain ⟨b, hb, rfl⟩ := hz
    have h1 := List.mem_range.1 ha
    have h2 := List.mem_range.1 (List.mem_filter.1 hb).1
    exact toP_toF (by omega) (by omega)
  rw [List.map_congr_left this, List.map_id]
theorem allF_pre {m x y : Nat} (hx : x < m) (hy : y ≤ m) : allF m x y <+: allF m m 0 := by
  have h := allL_pre hx hy
  obtain ⟨t, ht⟩ := h
  exact ⟨t.map toF, by rw [allF, allF, allL_zero, ← ht, List.map_append]⟩

set_option maxRecDepth 20000 in
set_option maxHeartbeats 400000 in
theorem allPoints_any (p : Int) (w : World) :
    Calls Try.prog 80 #[.int .i64 p] w fun e w' => e = .returned (.func (.func 106) #[] #[.pointer (some ⟨w.heap.size, 0, none⟩)]) ∧ w' = w.alloc (.cells #[.int .i64 p] 2) := by
  go_enter Try.func80, Try.ntmps80
  go_wp2
  go_ret
  exact ⟨rfl, rfl⟩

set_option maxRecDepth 100000 in
set_option maxRecDepth 20000 in
set_option maxHeartbeats 1000000 in
theorem seqAll_in (n l b0 lo hi : Nat) (p : Int) (hn : 1 ≤ n) (hp : isP p = true) (J Jx : List Pt32 → World → Prop)
    (W : World) (hY : ∀ pre x W1, J pre W1 → pre.length < p.toNat * p.toNat → YieldAt Fence.wide (n - 1) Try.prog l #[ptV (toP x)] W1 fun e W' =>
      (e = .returned (.bool true) ∧ J (pre ++ [x]) W' ∧ Btw lo hi W1 W') ∨ (e = .returned (.bool false) ∧ Jx (pre ++ [x]) W'))
    (h0 : W.cell? ⟨b0, 0, none⟩ = some (.int .i64 p)) (g0 : lo ≤ b0 ∧ b0 < hi) (hst : J [] W) :
    CallsIn Fence.wide n Try.prog 106 #[.func (.yield l) #[] #[], .pointer (some ⟨b0, 0, none⟩)] W fun e W' => (∃ v, e = .returned v) ∧
      ((∃ ys, ys = allF p.toNat p.toNat 0 ∧ J ys W') ∨ (∃ pre, pre <+: allF p.toNat p.toNat 0 ∧ Jx pre W')) := by
  have hr := isP_range hp
  have hc0 : (p.toNat : Int) = p := Int.toNat_of_nonneg (by omega)
  have HC0 := Lib.hid hc0
  clear hc0
  refine callsIn_of_wp Try.func106 rfl trivial ?_ rfl
  simp only [Try.ntmps106, List.size_toArray, List.length_cons, List.length_nil, Nat.reduceAdd, Nat.reduceSub, Array.replicate_succ, Array.replicate_zero, List.push_toArray, List.append_toArray, List.nil_append, List.cons_append]
  gi_wp2
  gi_loopw [3, 4, 6] (fun _ _ i wr => ∃ x : Nat, (x : Int) ≤ p ∧ i = .int .i64 x ∧ J (allF p.toNat x 0) wr ∧ Btw lo hi W wr) (fun _ _ i _ => p.toNat - (intOf i).toNat)
  case atStart => exact ⟨0, by omega, rfl, hst, btw_refl _ _ _⟩
  case round =>
    obtain ⟨x, hx, rfl, hJx', hbel⟩ := hrel
    obtain ⟨wo, rfl⟩ : ∃ wo : World, wo = wr := ⟨_, rfl⟩
    by_cases hlt : (x : Int) < p
    · have c0 : wo.cell? ⟨b0, 0, none⟩ = some (.int .i64 p) := (btw_cell hbel g0.1 g0.2 0).trans h0
      have HR := Lib.hid (allF_row p.toNat x)
      gi_wp2
      gi_loopw [4, 10] (fun _ j wr => ∃ y : Nat, (y : Int) ≤ p ∧ j = .int .i64 y ∧ J (allF p.toNat x y) wr ∧ Btw lo hi W wr) (fun _ j _ => p.toNat - (intOf j).toNat)
      case atStart => exact ⟨0, by omega, rfl, hJx', hbel⟩
      case round =>
        obtain ⟨y, hy, rfl, hJy, hbel⟩ := hrel
        by_cases hlty : (y : Int) < p
        · have HS := Lib.hid (allF_next p.toNat x y)
          have hxm : x < p.toNat ∧ y < p.toNat := by have := HC0.out; omega
          have hlen : (allF p.toNat x y).length < p.toNat * p.toNat := by
            rw [allF_len]
            have := Nat.mul_le_mul_right p.toNat (show x + 1 ≤ p.toNat by omega)
            rw [Nat.add_mul] at this; omega
          obtain ⟨fn, tmps, assign, body, hyy, hR⟩ := hY (allF p.toNat x y) (toF ((x : Int), (y : Int))) wr hJy hlen
          rw [toP_toF (by omega) (by omega)] at hyy
          dsimp only [ptV] at hyy
          clear hlen
          gi_wp2
          refine hR.mono ?_
          rintro e W3 (⟨rfl, hJ3, hk3⟩ | ⟨rfl, hJx3⟩)
          · gi_wp2
            go_roundw
            case rel => exact ⟨y + 1, by omega, by go_num, by rw [HS.out]; exact hJ3, btw_trans hbel hk3⟩
            case measure => have := HC0.out; simp [intOf]; omega
          · gi_wp2
            refine bodyPost_ret (results_none rfl _ _ _) rfl ?_
            exact ⟨⟨_, rfl⟩, .inr ⟨_, by rw [← HS.out]; exact allF_pre hxm.1 (by omega), hJx3⟩⟩
        · have e : y = p.toNat := by have := HC0.out; omega
          have HE := Lib.hid e
          clear e
          gi_wp2
          go_roundw
          case rel => exact ⟨x + 1, by omega, by go_num, by rw [← HR.out]; have h := hJy; rw [HE.out] at h; exact h, hbel⟩
          case measure => have := HC0.out; simp [intOf]; omega
    · have e : x = p.toNat := by have := HC0.out; omega
      have HE := Lib.hid e
      clear e
      gi_wp2
      go_end0
      exact ⟨⟨_, rfl⟩, .inl (by have := hJx'; rw [HE.out] at this; exact this)⟩

theorem seqAll_stops (n b0 lo hi : Nat) (p : Int) (hn : 1 ≤ n) (hp : isP p = true) (w : World)
    (h0 : w.cell? ⟨b0, 0, none⟩ = some (.int .i64 p)) (g0 : lo ≤ b0 ∧ b0 < hi) (hhi : hi ≤ w.heap.size) :
    SeqStopsK Fence.wide n Try.prog 106 #[.pointer (some ⟨b0, 0, none⟩)] (fun x => #[ptV (toP x)]) (Btw lo hi)
      (fun ys => ys = allF p.toNat p.toNat 0) (fun pre => pre <+: allF p.toNat p.toNat 0) (p.toNat * p.toNat) w := fun l J Jx W hW _ _ hY hst =>
  seqAll_in n l b0 lo hi p hn hp J Jx W hY ((cell_old hW (by omega) 0).trans h0) g0 hst

end Go.Proofs.Ytmpgpmcmhbpjeab

namespace Go.Proofs.Ytmpgpmcmhbpjeab
open Go.RowKit

set_option maxRecDepth 100000 in
theorem laidOut : laidOutB Try.prog = true := by kernel_rfl
set_option maxRecDepth 100000 in
theorem ptRow : (28 : TypeId) < Try.prog.types.size := of_decide_eq_true (by kernel_rfl)
theorem ptWide : (match Try.prog.underlying 28 with | some (.array _ _) | some (.struct _) => true | _ => false) = true := by rw [Try.underlying28]
set_option maxRecDepth 100000 in
theorem ptLaw : Go.Maps.Keyed Try.prog 28 := Go.Maps.Keyed.of_law (deep_law_laid laidOut (m := 2) (by omega) ptRow (by kernel_rfl) ptWide)
set_option maxRecDepth 100000 in
theorem ptArr : Go.WideMaps.ArrKey Try.prog 28 2 2 := ⟨Try.underlying28, by kernel_rfl, by kernel_rfl, by kernel_rfl⟩
theorem pred_of {n k : Nat} (h : k < n) : ∃ m, n = m + 1 := ⟨n - 1, by omega⟩
theorem typesSome : ∃ m, Try.prog.types.size = m + 1 := pred_of ptRow
/-- A point as a key. -/
def klP (x y : Int) : Lit := .string (Go.keyBytes [.int .i64 x, .int .i64 y])
theorem wf31 {x : Int} (h : 0 ≤ x ∧ x ≤ 31) : (Lit.int .i64 x).wf = true := WalkArith.wf_i64 (by omega)
theorem keyOf_pt {x y : Int} (hx : 0 ≤ x ∧ x ≤ 31) (hy : 0 ≤ y ∧ y ≤ 31) : keyOf Try.prog 28 (.agg #[.int .i64 x, .int .i64 y]) = some (klP x y) :=
  Go.WideMaps.keyOf_pair ptArr Try.underlying2 typesSome (wf31 hx) (wf31 hy)
theorem klP_inj {x y x' y' : Int} (hx : 0 ≤ x ∧ x ≤ 31) (hy : 0 ≤ y ∧ y ≤ 31) (hx' : 0 ≤ x' ∧ x' ≤ 31) (hy' : 0 ≤ y' ∧ y' ≤ 31) (h : klP x y = klP x' y') : x = x' ∧ y = y' := by
  have := ptLaw.inj (keyOf_pt hx hy) (by rw [h]; exact keyOf_pt hx' hy')
  simpa using this
theorem klP_key {x y : Int} (hx : 0 ≤ x ∧ x ≤ 31) (hy : 0 ≤ y ∧ y ≤ 31) : WideAt.IsKeyLit (klP x y) := ptLaw.key (keyOf_pt hx hy)

end Go.Proofs.Ytmpgpmcmhbpjeab

namespace Go.Proofs.Ytmpgpmcmhbpjeab
open Go.RowKit

/-- A set of points, put in one after the other. -/
def setD (xs : List (Int × Int)) : DataW Unit := xs.foldl (fun D x => D.put (klP x.1 x.2) (.lit (.bool true))) (.map [])
theorem setD_snoc (xs : List (Int × Int)) (x : Int × Int) : setD (xs ++ [x]) = (setD xs).put (klP x.1 x.2) (.lit (.bool true)) := by simp [setD]

/-- The points of the grid that a test takes. -/
theorem row_filter (f : Int → Int → Bool) (x y : Nat) : rowL f x y = (rowL tt2 x y).filter fun z => f z.1 z.2 := by
  induction y with
  | zero => rfl
  | succ y ih =>
    rw [rowL_yes (f := tt2) rfl, List.filter_append, ← ih]
    cases h : f x y
    · rw [rowL_no h]; simp [h]
    · rw [rowL_yes h]; simp [h]
theorem grid_filter (f : Int → Int → Bool) (m x : Nat) : gridL f m x = (gridL tt2 m x).filter fun z => f z.1 z.2 := by
  induction x with
  | zero => rfl
  | succ x ih => rw [gridL_succ, gridL_succ, List.filter_append, ← ih, ← row_filter]
theorem row_mem {f : Int → Int → Bool} {x y : Nat} {z : Int × Int} (h : z ∈ rowL f x y) : z.1 = x ∧ 0 ≤ z.2 ∧ z.2 < y := by
  rw [rowL, List.mem_map] at h
  obtain ⟨b, hb, rfl⟩ := h
  have := List.mem_range.1 (List.mem_filter.1 hb).1
  exact ⟨rfl, by simp, by simpa using this⟩
theorem grid_mem {f : Int → Int → Bool} {m x : Nat} {z : Int × Int} (h : z ∈ gridL f m x) : (0 ≤ z.1 ∧ z.1 < x) ∧ 0 ≤ z.2 ∧ z.2 < m := by
  rw [gridL, List.mem_flatMap] at h
  obtain ⟨a, ha, hz⟩ := h
  have h1 := List.mem_range.1 ha
  have h2 := row_mem hz
  omega
theorem row_nodup (f : Int → Int → Bool) (x y : Nat) : (rowL f x y).Nodup := by
  induction y with
  | zero => exact List.nodup_nil
  | succ y ih =>
    cases h : f x y
    · rw [rowL_no h]; exact ih
    · rw [rowL_yes h, List.nodup_append]
      refine ⟨ih, by simp, fun a ha b hb e => ?_⟩
      have h1 := row_mem ha
      simp only [List.mem_singleton] at hb
      rw [e, hb] at h1
      simp at h1
theorem grid_nodup (f : Int → Int → Bool) (m x : Nat) : (gridL f m x).Nodup := by
  induction x with
  | zero => exact List.nodup_nil
  | succ x ih =>
    rw [gridL_succ, List.nodup_append]
    refine ⟨ih, row_nodup f x m, fun a ha b hb e => ?_⟩
    have h1 := grid_mem ha
    have h2 := row_mem hb
    rw [e] at h1; omega
theorem size_nodup (u : DataW Unit) : ∀ (xs : List Lit) (m : DataW Unit), Maps.Tidy m → (∀ x ∈ xs, WideAt.IsKeyLit x) → xs.Nodup → (∀ x ∈ xs, Maps.has m x = false) →
    Maps.size (xs.foldl (fun m x => m.put x u) m) = Maps.size m + xs.length
  | [], _, _, _, _, _ => by simp
  | x :: r, m, hm, hk, hn, hh => by
    have hn' := List.nodup_cons.1 hn
    rw [List.foldl_cons, size_nodup u r (m.put x u) (hm.put (hk x (by simp)) u) (fun y hy => hk y (by simp [hy])) hn'.2 (fun y hy => by
      rw [Maps.has_put_other (fun e => by subst e; exact hn'.1 hy)]; exact hh y (by simp [hy])), Maps.size_put hm, hh x (by simp)]
    simp; omega
theorem setD_size {xs : List (Int × Int)} (hr : ∀ z ∈ xs, (0 ≤ z.1 ∧ z.1 ≤ 31) ∧ 0 ≤ z.2 ∧ z.2 ≤ 31) (hn : xs.Nodup) : Maps.size (setD xs) = xs.length := by
  have e : setD xs = (xs.map fun z => klP z.1 z.2).foldl (fun m x => m.put x (.lit (.bool true))) (.map []) := by rw [setD, List.foldl_map]
  rw [e, size_nodup _ _ _ Maps.tidy_empty]
  · simp [Maps.size_eq]
  · intro k hk
    obtain ⟨z, hz, rfl⟩ := List.mem_map.1 hk
    exact klP_key (hr z hz).1 (hr z hz).2
  · refine List.pairwise_map.2 (List.Pairwise.imp_of_mem ?_ hn)
    intro a b ha hb hne e
    have := klP_inj (hr a ha).1 (hr a ha).2 (hr b hb).1 (hr b hb).2 e
    exact hne (Prod.ext this.1 this.2)
  · intro k _; rfl

end Go.Proofs.Ytmpgpmcmhbpjeab

namespace Go.Proofs.Ytmpgpmcmhbpjeab
open Go.RowKit

theorem flat_getD (xs : List (Int × Int)) (j : Nat) (h : j < xs.length) : (flat xs).getD (j * 2) 0 = xs[j].1 ∧ (flat xs).getD (j * 2 + 1) 0 = xs[j].2 := by
  induction xs generalizing j with
  | nil => simp at h
  | cons x xs ih =>
    cases j with
    | zero => simp [flat]
    | succ j =>
      have := ih j (by simpa using h)
      have e : flat (x :: xs) = x.1 :: x.2 :: flat xs := rfl
      rw [e, Nat.succ_mul, show j * 2 + 2 = (j * 2 + 1) + 1 from rfl, show j * 2 + 1 + 1 + 1 = ((j * 2 + 1) + 1) + 1 from rfl]
      simpa using this
theorem take_succ_at {xs : List (Int × Int)} {j : Nat} (h : j < xs.length) : xs.take (j + 1) = xs.take j ++ [xs[j]] := by
  rw [List.take_succ_eq_append_getElem h]
theorem sift_yes {f : Int × Int → Bool} {xs : List (Int × Int)} {j : Nat} (h : j < xs.length) (hf : f xs[j] = true) : (xs.take (j + 1)).filter f = (xs.take j).filter f ++ [xs[j]] := by
  rw [take_succ_at h, List.filter_append]; simp [hf]
theorem sift_no {f : Int × Int → Bool} {xs : List (Int × Int)} {j : Nat} (h : j < xs.length) (hf : f xs[j] = false) : (xs.take (j + 1)).filter f = (xs.take j).filter f := by
  rw [take_succ_at h, List.filter_append]; simp [hf]
theorem sift_le (f : Int × Int → Bool) (xs : List (Int × Int)) (j : Nat) : ((xs.take j).filter f).length ≤ xs.length := by
  have h1 := List.length_filter_le f (xs.take j)
  have h2 : (xs.take j).length ≤ xs.length := by rw [List.length_take]; omega
  omega
/-- A slice's shape: its row, where it has one. -/
theorem own_shape {w : World} {base : Nat} {e : TypeId} {k n : Nat} {v : Value} {xs : List Value} (h : w.ownsRow base e k v n xs) : ∃ ao cap, v = .slice ao n cap ∧ n ≤ 9223372036854775807 ∧ (0 < n → ∃ g, ao = some ⟨g, 0, none⟩ ∧ base ≤ g ∧ g < w.heap.size) := by
  rcases own_ways h with ⟨rfl, ao, cap, rfl⟩ | ⟨h0, g, cap, rfl, h1, h2, h3⟩
  · exact ⟨_, _, rfl, by omega, fun h => by omega⟩
  · exact ⟨_, _, rfl, h3, fun _ => ⟨g, rfl, h1, h2⟩⟩

end Go.Proofs.Ytmpgpmcmhbpjeab

namespace Go.Proofs.Ytmpgpmcmhbpjeab
open Go.RowKit

/-- The tangent at a point. -/
def tnT (p c k1 k2 : Int) (x : Int × Int) : T3 := (tn1 p c k1 k2 x.1 x.2, tn2 p c k1 k2 x.1 x.2, tn3 p c k1 k2 x.1 x.2)
/-- Whether a point is not the centre and has a tangent through a1, a2. -/
def tgB (p c k1 k2 a1 a2 : Int) (x : Int × Int) : Bool := !(x.1 == k1 && x.2 == k2) && onB p a1 a2 (tn1 p c k1 k2 x.1 x.2) (tn2 p c k1 k2 x.1 x.2) (tn3 p c k1 k2 x.1 x.2)
def tgL (p c k1 k2 a1 a2 : Int) (L : List (Int × Int)) : List T3 := (L.filter (tgB p c k1 k2 a1 a2)).map (tnT p c k1 k2)
theorem tgL_nil (p c k1 k2 a1 a2 : Int) : tgL p c k1 k2 a1 a2 [] = [] := rfl
theorem tgL_yes {p c k1 k2 a1 a2 : Int} (L : List (Int × Int)) {x : Int × Int} (h : tgB p c k1 k2 a1 a2 x = true) : tgL p c k1 k2 a1 a2 (L ++ [x]) = tgL p c k1 k2 a1 a2 L ++ [tnT p c k1 k2 x] := by simp [tgL, h]
theorem tgL_no {p c k1 k2 a1 a2 : Int} (L : List (Int × Int)) {x : Int × Int} (h : tgB p c k1 k2 a1 a2 x = false) : tgL p c k1 k2 a1 a2 (L ++ [x]) = tgL p c k1 k2 a1 a2 L := by simp [tgL, h]
theorem tgL_le (p c k1 k2 a1 a2 : Int) (L : List (Int × Int)) : (tgL p c k1 k2 a1 a2 L).length ≤ L.length := by
  rw [tgL, List.length_map]; exact List.length_filter_le _ _
/-- The points of the circle. -/
def tcP (p c k1 k2 k3 : Int) : List (Int × Int) := gridL (fun x y => qdr p c k1 k2 x y == k3) p.toNat p.toNat
theorem tcP_le {p : Int} (c k1 k2 k3 : Int) (hp : isP p = true) : (tcP p c k1 k2 k3).length ≤ 961 := by
  have hr := isP_range hp
  exact Nat.le_trans (gridL_le _ _ _) (Nat.le_trans (Nat.mul_le_mul (by omega : p.toNat ≤ 31) (by omega : p.toNat ≤ 31)) (by decide))
theorem tcP_mem {p c k1 k2 k3 : Int} (hp : isP p = true) {z : Int × Int} (h : z ∈ tcP p c k1 k2 k3) : (0 ≤ z.1 ∧ z.1 < p) ∧ 0 ≤ z.2 ∧ z.2 < p := by
  have hr := isP_range hp
  have := grid_mem h
  omega
/-- The tangents in order. -/
def tfT (p c k1 k2 k3 a1 a2 : Int) : List T3 := srtL (tgL p c k1 k2 a1 a2 (tcP p c k1 k2 k3))
theorem tfT_le {p : Int} (c k1 k2 k3 a1 a2 : Int) (hp : isP p = true) : (tfT p c k1 k2 k3 a1 a2).length ≤ 961 :=
  Nat.le_trans (srtL_le _) (Nat.le_trans (tgL_le _ _ _ _ _ _ _) (tcP_le _ _ _ _ hp))

end Go.Proofs.Ytmpgpmcmhbpjeab

namespace Go.Proofs.Ytmpgpmcmhbpjeab
open Go.RowKit

/-- The order of lines. -/
def bfB (a1 a2 a3 b1 b2 b3 : Int) : Bool := decide (a1 < b1 ∨ a1 = b1 ∧ (a2 < b2 ∨ a2 = b2 ∧ a3 < b3))

set_option maxRecDepth 20000 in
set_option maxHeartbeats 2000000 in
theorem before_any (a1 a2 a3 b1 b2 b3 : Int) (w : World) :
    Calls Try.prog 45 #[.agg #[.int .i64 a1, .int .i64 a2, .int .i64 a3], .agg #[.int .i64 b1, .int .i64 b2, .int .i64 b3]] w fun e w' => e = .returned (.bool (bfB a1 a2 a3 b1 b2 b3)) ∧ Below w.heap.size w w' := by
  by_cases e1 : a1 = b1
  · subst e1
    by_cases e2 : a2 = b2
    · subst e2
      by_cases e3 : a3 = b3
      · subst e3
        have HV := Lib.hid (show bfB a1 a2 a3 a1 a2 a3 = false by simp [bfB])
        go_enter Try.func45, Try.ntmps45
        go_wp2
        refine wp_loop_rounds 4 ?_
        rw [rounds_succ]
        go_wp2
        go_quiet (fail)
        go_wp2
        rw [rounds_succ]
        go_wp2
        go_quiet (fail)
        go_wp2
        rw [rounds_succ]
        go_wp2
        go_quiet (fail)
        go_wp2
        rw [rounds_succ]
        go_wp2
        go_ret
        exact ⟨by rw [HV.out]; rfl, by (repeat (first | exact Below.refl _ _ | assumption | refine balloc ?_ _ | refine bdrewN ?_ _ | refine Below.drew ?_ | refine Below.setCell ?_ (by first | (simp; done) | (simp; omega)) _))⟩
      · have HV := Lib.hid (show bfB a1 a2 a3 a1 a2 b3 = decide (a3 < b3) by simp [bfB])
        have h3 : (a3 != b3) = true := by simpa using e3
        go_enter Try.func45, Try.ntmps45
        go_wp2
        refine wp_loop_rounds 4 ?_
        rw [rounds_succ]
        go_wp2
        go_quiet (fail)
        go_wp2
        rw [rounds_succ]
        go_wp2
        go_quiet (fail)
        go_wp2
        rw [rounds_succ]
        go_wp2
        go_quiet (fail)
        go_wp2
        go_quiet (fail)
        go_wp2
        go_ret
        exact ⟨by rw [HV.out]; rfl, by (repeat (first | exact Below.refl _ _ | assumption | refine balloc ?_ _ | refine bdrewN ?_ _ | refine Below.drew ?_ | refine Below.setCell ?_ (by first | (simp; done) | (simp; omega)) _))⟩
    · have HV := Lib.hid (show bfB a1 a2 a3 a1 b2 b3 = decide (a2 < b2) by simp [bfB, e2])
      have h3 : (a2 != b2) = true := by simpa using e2
      go_enter Try.func45, Try.ntmps45
      go_wp2
      refine wp_loop_rounds 4 ?_
      rw [rounds_succ]
      go_wp2
      go_quiet (fail)
      go_wp2
      rw [rounds_succ]
      go_wp2
      go_quiet (fail)
      go_wp2
      go_quiet (fail)
      go_wp2
      go_ret
      exact ⟨by rw [HV.out]; rfl, by (repeat (first | exact Below.refl _ _ | assumption | refine balloc ?_ _ | refine bdrewN ?_ _ | refine Below.drew ?_ | refine Below.setCell ?_ (by first | (simp; done) | (simp; omega)) _))⟩
  · have HV := Lib.hid (show bfB a1 a2 a3 b1 b2 b3 = decide (a1 < b1) by simp [bfB, e1])
    have h3 : (a1 != b1) = true := by simpa using e1
    go_enter Try.func45, Try.ntmps45
    go_wp2
    refine wp_loop_rounds 4 ?_
    rw [rounds_succ]
    go_wp2
    go_quiet (fail)
    go_wp2
    go_quiet (fail)
    go_wp2
    go_ret
    exact ⟨by rw [HV.out]; rfl, by (repeat (first | exact Below.refl _ _ | assumption | refine balloc ?_ _ | refine bdrewN ?_ _ | refine Below.drew ?_ | refine Below.setCell ?_ (by first | (simp; done) | (simp; omega)) _))⟩

end Go.Proofs.Ytmpgpmcmhbpjeab

namespace Go.Proofs.Ytmpgpmcmhbpjeab
open Go.RowKit

/-- D0's keys are just what xs holds. -/
structure KeysOf {α : Type} (k : TypeId) (enc : α → Value) (kf : α → Lit) (xs : List α) (D0 : DataW Unit) : Prop where
  has_of : ∀ x, x ∈ xs → Maps.has D0 (kf x) = true
  of_has : ∀ kl, Maps.has D0 kl = true → ∃ x, x ∈ xs ∧ kf x = kl
  key : ∀ x, x ∈ xs → keyOf Try.prog k (enc x) = some (kf x)
  inj : ∀ x y, x ∈ xs → y ∈ xs → kf x = kf y → x = y
  lit : ∀ x, x ∈ xs → WideAt.IsKeyLit (kf x)
def CollG {α : Type} (kf : α → Lit) (xs : List α) (left : Lit → Bool) (ss : List α) : Prop := ss.Nodup ∧ ∀ x, x ∈ ss ↔ (x ∈ xs ∧ left (kf x) = false)
section
variable {α : Type} {k : TypeId} {enc : α → Value} {kf : α → Lit} {xs ss : List α} {D0 : DataW Unit} {left : Lit → Bool}
theorem CollG.start (h : KeysOf k enc kf xs D0) : CollG kf xs (Maps.has D0) [] := ⟨List.nodup_nil, fun x => by
  constructor
  · intro hx; cases hx
  · rintro ⟨h1, h2⟩; rw [h.has_of x h1] at h2; cases h2⟩
theorem CollG.step (h : KeysOf k enc kf xs D0) (hC : CollG kf xs left ss) {x : α} (hx : x ∈ xs) (hl : left (kf x) = true) : CollG kf xs (fun z => left z && !z.sameKey (kf x)) (ss ++ [x]) := by
  have hnew : x ∉ ss := fun hm => by have := ((hC.2 x).1 hm).2; rw [hl] at this; cases this
  refine ⟨List.nodup_append.2 ⟨hC.1, by simp, fun a ha b hb => by simp at hb; subst hb; exact fun e => hnew (e ▸ ha)⟩, fun y => ?_⟩
  rw [List.mem_append, hC.2 y, List.mem_singleton]
  constructor
  · rintro (⟨h1, h2⟩ | rfl)
    · exact ⟨h1, by simp [h2]⟩
    · exact ⟨hx, by simp [WideAt.sameKey_self (h.lit _ hx)]⟩
  · rintro ⟨h1, h2⟩
    by_cases e : kf y = kf x
    · exact .inr (h.inj y x h1 hx e)
    · exact .inl ⟨h1, by simpa [Maps.sameKey_ne e] using h2⟩
theorem CollG.done (hC : CollG kf xs left ss) (hl : ∀ kl, left kl = false) : ss.Nodup ∧ ∀ x, x ∈ ss ↔ x ∈ xs := ⟨hC.1, fun x => by rw [hC.2 x, hl]; simp⟩
/-- What is left is a key of the set. -/
theorem KeysOf.from (h : KeysOf k enc kf xs D0) (K : Maps.Keyed Try.prog k) {key : Value} {kl : Lit} (hk : keyOf Try.prog k key = some kl) (hh : Maps.has D0 kl = true) : ∃ x, x ∈ xs ∧ key = enc x ∧ kl = kf x := by
  obtain ⟨x, hx, rfl⟩ := h.of_has kl hh
  exact ⟨x, hx, K.inj hk (h.key x hx), rfl⟩
end

theorem snoc_ind {α : Type} {C : List α → Prop} (h0 : C []) (hs : ∀ xs x, C xs → C (xs ++ [x])) (xs : List α) : C xs := by
  rw [← List.reverse_reverse xs]
  induction xs.reverse with
  | nil => exact h0
  | cons x r ih => rw [List.reverse_cons]; exact hs _ _ ih
/-- A set of points has the points as its keys. -/
theorem setD_isMap (xs : List (Int × Int)) : Maps.IsMap (setD xs) := by
  induction xs using snoc_ind with
  | h0 => exact Maps.isMap_empty
  | hs xs x ih => rw [setD_snoc]; exact ih.put _ _
theorem setD_has {xs : List (Int × Int)} (hr : ∀ z, z ∈ xs → (0 ≤ z.1 ∧ z.1 ≤ 31) ∧ 0 ≤ z.2 ∧ z.2 ≤ 31) (kl : Lit) : Maps.has (setD xs) kl = true ↔ ∃ x, x ∈ xs ∧ klP x.1 x.2 = kl := by
  induction xs using snoc_ind with
  | h0 => constructor
          · intro h; cases h
          · rintro ⟨x, hx, _⟩; cases hx
  | hs xs x ih =>
    have ih' := ih (fun z hz => hr z (by simp [hz]))
    have hx := hr x (by simp)
    rw [setD_snoc]
    by_cases e : kl = klP x.1 x.2
    · subst e
      rw [Maps.has_put_same (setD_isMap xs) (klP_key hx.1 hx.2)]
      exact ⟨fun _ => ⟨x, by simp, rfl⟩, fun _ => rfl⟩
    · rw [Maps.has_put_other e, ih']
      constructor
      · rintro ⟨y, hy, he⟩; exact ⟨y, by simp [hy], he⟩
      · rintro ⟨y, hy, he⟩
        rcases List.mem_append.1 hy with h | h
        · exact ⟨y, h, he⟩
        · simp at h; subst h; exact (e he.symm).elim
theorem setD_keys {xs : List (Int × Int)} (hr : ∀ z, z ∈ xs → (0 ≤ z.1 ∧ z.1 ≤ 31) ∧ 0 ≤ z.2 ∧ z.2 ≤ 31) : KeysOf 28 (fun x : Int × Int => Value.agg #[.int .i64 x.1, .int .i64 x.2]) (fun x => klP x.1 x.2) xs (setD xs) where
  has_of x hx := (setD_has hr _).2 ⟨x, hx, rfl⟩
  of_has kl h := (setD_has hr kl).1 h
  key x hx := keyOf_pt (hr x hx).1 (hr x hx).2
  inj x y hx hy e := by
    have := klP_inj (hr x hx).1 (hr x hx).2 (hr y hy).1 (hr y hy).2 e
    exact Prod.ext this.1 this.2
  lit x hx := klP_key (hr x hx).1 (hr x hx).2

end Go.Proofs.Ytmpgpmcmhbpjeab

namespace Go.Proofs.Ytmpgpmcmhbpjeab
open Go.RowKit Go.WideMaps

/-- A key of three integers. -/
theorem keyOf_triple {P : Program} {k e : TypeId} {q : IntKind} (A : ArrKey P k e 3) (he : P.underlying e = some (.int q)) (hsz : ∃ m, P.types.size = m + 1) {a b c : Int} (wa : (Lit.int q a).wf = true) (wb : (Lit.int q b).wf = true) (wc : (Lit.int q c).wf = true) :
    keyOf P k (.agg #[.int q a, .int q b, .int q c]) = some (.string (keyBytes [.int q a, .int q b, .int q c])) := by
  have hkt := A.keyType hsz
  obtain ⟨m, hm⟩ := hsz
  unfold keyOf
  simp only [A.hu]
  rw [if_pos (by simp [hkt, Value.formed, A.hu, A.size]), hm]
  unfold Program.keyLits
  simp only [A.hu, Value.cells]
  rw [if_pos (by rw [A.size]; rfl), show List.range 3 = [0, 1, 2] from rfl, List.mapM_cons, List.mapM_cons, List.mapM_cons, List.mapM_nil]
  simp [A.one, Program.keyLits, he, wa, wb, wc]

set_option maxRecDepth 100000 in
theorem lnRow : (49 : TypeId) < Try.prog.types.size := of_decide_eq_true (by kernel_rfl)
theorem lnWide : (match Try.prog.underlying 49 with | some (.array _ _) | some (.struct _) => true | _ => false) = true := by rw [Try.underlying49]
set_option maxRecDepth 100000 in
theorem lnLaw : Go.Maps.Keyed Try.prog 49 := Go.Maps.Keyed.of_law (deep_law_laid laidOut (m := 2) (by omega) lnRow (by kernel_rfl) lnWide)
set_option maxRecDepth 100000 in
theorem lnArr : ArrKey Try.prog 49 2 3 := ⟨Try.underlying49, by kernel_rfl, by kernel_rfl, by kernel_rfl⟩
/-- A line as a key, and as a value. -/
def klL (x y z : Int) : Lit := .string (Go.keyBytes [.int .i64 x, .int .i64 y, .int .i64 z])
def lnV (x : Int × Int × Int) : Value := .agg #[.int .i64 x.1, .int .i64 x.2.1, .int .i64 x.2.2]
def LnR (x : Int × Int × Int) : Prop := (0 ≤ x.1 ∧ x.1 ≤ 31) ∧ (0 ≤ x.2.1 ∧ x.2.1 ≤ 31) ∧ 0 ≤ x.2.2 ∧ x.2.2 ≤ 31
theorem keyOf_ln {x : Int × Int × Int} (h : LnR x) : keyOf Try.prog 49 (lnV x) = some (klL x.1 x.2.1 x.2.2) :=
  keyOf_triple lnArr Try.underlying2 typesSome (wf31 h.1) (wf31 h.2.1) (wf31 h.2.2)
theorem klL_inj {x y : Int × Int × Int} (hx : LnR x) (hy : LnR y) (h : klL x.1 x.2.1 x.2.2 = klL y.1 y.2.1 y.2.2) : x = y := by
  have := lnLaw.inj (keyOf_ln hx) (by rw [h]; exact keyOf_ln hy)
  obtain ⟨x1, x2, x3⟩ := x
  obtain ⟨y1, y2, y3⟩ := y
  simpa [lnV] using this
theorem klL_key {x : Int × Int × Int} (h : LnR x) : WideAt.IsKeyLit (klL x.1 x.2.1 x.2.2) := lnLaw.key (keyOf_ln h)

/-- A set of lines, put in one after the other. -/
def setL (xs : List (Int × Int × Int)) : DataW Unit := xs.foldl (fun D x => D.put (klL x.1 x.2.1 x.2.2) (.lit (.bool true))) (.map [])
theorem setL_snoc (xs : List (Int × Int × Int)) (x : Int × Int × Int) : setL (xs ++ [x]) = (setL xs).put (klL x.1 x.2.1 x.2.2) (.lit (.bool true)) := by simp [setL]
theorem setL_isMap (xs : List (Int × Int × Int)) : Maps.IsMap (setL xs) := by
  induction xs using snoc_ind with
  | h0 => exact Maps.isMap_empty
  | hs xs x ih => rw [setL_snoc]; exact ih.put _ _
theorem setL_has {xs : List (Int × Int × Int)} (hr : ∀ z, z ∈ xs → LnR z) (kl : Lit) : Maps.has (setL xs) kl = true ↔ ∃ x, x ∈ xs ∧ klL x.1 x.2.1 x.2.2 = kl := by
  induction xs using snoc_ind with
  | h0 => constructor
          · intro h; cases h
          · rintro ⟨x, hx, _⟩; cases hx
  | hs xs x ih =>
    have ih' := ih (fun z hz => hr z (by simp [hz]))
    have hx := hr x (by simp)
    rw [setL_snoc]
    by_cases e : kl = klL x.1 x.2.1 x.2.2
    · subst e
      rw [Maps.has_put_same (setL_isMap xs) (klL_key hx)]
      exact ⟨fun _ => ⟨x, by simp, rfl⟩, fun _ => rfl⟩
    · rw [Maps.has_put_other e, ih']
      constructor
      · rintro ⟨y, hy, he⟩; exact ⟨y, by simp [hy], he⟩
      · rintro ⟨y, hy, he⟩
        rcases List.mem_append.1 hy with h | h
        · exact ⟨y, h, he⟩
        · simp at h; subst h; exact (e he.symm).elim
theorem setL_keys {xs : List (Int × Int × Int)} (hr : ∀ z, z ∈ xs → LnR z) : KeysOf 49 lnV (fun x => klL x.1 x.2.1 x.2.2) xs (setL xs) where
  has_of x hx := (setL_has hr _).2 ⟨x, hx, rfl⟩
  of_has kl h := (setL_has hr kl).1 h
  key x hx := keyOf_ln (hr x hx)
  inj x y hx hy e := klL_inj (hr x hx) (hr y hy) e
  lit x hx := klL_key (hr x hx)
/-- The set has at most as many lines as were put in. -/
theorem setL_tidy {xs : List (Int × Int × Int)} (hr : ∀ z, z ∈ xs → LnR z) : Maps.Tidy (setL xs) := by
  induction xs using snoc_ind with
  | h0 => exact Maps.tidy_empty
  | hs xs x ih => rw [setL_snoc]; exact (ih (fun z hz => hr z (by simp [hz]))).put (klL_key (hr x (by simp))) _
theorem setL_size {xs : List (Int × Int × Int)} (hr : ∀ z, z ∈ xs → LnR z) : Maps.size (setL xs) ≤ xs.length := by
  induction xs using snoc_ind with
  | h0 => exact Nat.le_refl _
  | hs xs x ih =>
    have ih' := ih (fun z hz => hr z (by simp [hz]))
    rw [setL_snoc, Maps.size_put (setL_tidy (fun z hz => hr z (by simp [hz]))), List.length_append, List.length_singleton]
    split <;> omega

end Go.Proofs.Ytmpgpmcmhbpjeab

namespace Go.Proofs.Ytmpgpmcmhbpjeab
open Go.RowKit Go.Shelf

theorem infoLn : (Try.prog.info? 49).map (fun i => (i.zero, i.size, i.bytes)) = some (some (.agg #[.int .i64 0, .int .i64 0, .int .i64 0]), 3, 24) := by kernel_rfl
theorem ln_cells {w : World} {x y z : Int} {t : TypeId} {q : Nat} (hq : q = w.heap.size) : ∀ j u, [Value.int .i64 x, Value.int .i64 y, Value.int .i64 z][j]? = some u → (w.alloc (.cells #[.int .i64 x, .int .i64 y, .int .i64 z] t)).cell? ((⟨q, 0, none⟩ : Addr).add j) = some u := by
  intro j u hj
  subst hq
  match j, hj with
  | 0, hj => simp at hj; subst hj; exact kfresh (by simp) rfl
  | 1, hj => simp at hj; subst hj; exact kfresh (by simp) rfl
  | 2, hj => simp at hj; subst hj; exact kfresh (by simp) rfl
theorem ln_one (x y z : Int) : ∀ u ∈ [Value.int .i64 x, Value.int .i64 y, Value.int .i64 z], u.oneCell' = true := by
  intro u hu; simp at hu; rcases hu with rfl | rfl | rfl <;> rfl
/-- The numbers of lines, one after the other. -/
def flat3 (xs : List (Int × Int × Int)) : List Int := xs.flatMap fun x => [x.1, x.2.1, x.2.2]
theorem flat3_append (xs : List (Int × Int × Int)) (x : Int × Int × Int) : flat3 (xs ++ [x]) = flat3 xs ++ [x.1, x.2.1, x.2.2] := by simp [flat3]
theorem flat3_length (xs : List (Int × Int × Int)) : (flat3 xs).length = xs.length * 3 := by
  induction xs with
  | nil => rfl
  | cons x xs ih => simp [flat3] at ih ⊢; omega
def Box3 (W : World) (B : Nat) (t : TypeId) (x : Int × Int × Int) : Prop := W.heap[B]? = some (.cells #[.int .i64 x.1, .int .i64 x.2.1, .int .i64 x.2.2] t (0, 0))
theorem box3_cell1 {W : World} {B : Nat} {t : TypeId} {x : Int × Int × Int} (h : Box3 W B t x) : W.cell? ⟨B, 0, none⟩ = some (.int .i64 x.1) := by simp [World.cell?, show W.heap[B]? = _ from h]
theorem box3_cell2 {W : World} {B : Nat} {t : TypeId} {x : Int × Int × Int} (h : Box3 W B t x) : W.cell? ⟨B, 1, none⟩ = some (.int .i64 x.2.1) := by simp [World.cell?, show W.heap[B]? = _ from h]
theorem box3_cell3 {W : World} {B : Nat} {t : TypeId} {x : Int × Int × Int} (h : Box3 W B t x) : W.cell? ⟨B, 2, none⟩ = some (.int .i64 x.2.2) := by simp [World.cell?, show W.heap[B]? = _ from h]
theorem box3_own (B C : Nat) (t : TypeId) (x : Int × Int × Int) : OwnFrom C (fun (_ : Unit) W => Box3 W B t x) := fun _ X Y row hs hg hrow =>
  (hg.block B (Array.getElem?_eq_some_iff.1 hs).1 (fun e' => by
    obtain ⟨_, o, ho, hc⟩ := hrow B e'.symm
    rw [show X.heap[B]? = _ from hs] at ho; cases ho; cases hc)).trans hs
theorem box3_new (W : World) (t : TypeId) (x : Int × Int × Int) : Box3 (W.alloc (.cells #[.int .i64 x.1, .int .i64 x.2.1, .int .i64 x.2.2] t)) W.heap.size t x := World.alloc_heap_new W _

end Go.Proofs.Ytmpgpmcmhbpjeab

namespace Go.Proofs.Ytmpgpmcmhbpjeab
open Go.RowKit

/-- The numbers below k that a test takes. -/
def upTo (f : Int → Bool) (k : Nat) : List Int := ((List.range k).filter fun t : Nat => f (t : Int)).map fun t : Nat => (t : Int)
theorem upTo_yes {f : Int → Bool} {k : Nat} (h : f k = true) : upTo f (k + 1) = upTo f k ++ [(k : Int)] := by simp [upTo, List.range_succ, List.filter_append, h]
theorem upTo_no {f : Int → Bool} {k : Nat} (h : f k = false) : upTo f (k + 1) = upTo f k := by simp [upTo, List.range_succ, List.filter_append, h]
theorem upTo_le (f : Int → Bool) (k : Nat) : (upTo f k).length ≤ k := by
  have := List.length_filter_le (fun t : Nat => f (t : Int)) (List.range k)
  simpa [upTo] using this
theorem infoInt1 : (Try.prog.info? 2).map (fun i => (i.zero, i.size, i.bytes)) = some (some (.int .i64 0), 1, 8) := by kernel_rfl
/-- A slice of numbers to which a number is appended. -/
theorem own_snoc {w : World} {base : Nat} {e : TypeId} {v : Value} {n m : Nat} {xs : List Int} {y : Int} (h : w.ownsRow base e 1 v n (ints xs ++ [.int .i64 y])) (hm : n = m) : w.ownsRow base e 1 v m (ints (xs ++ [y])) := by
  subst hm; rw [ints_append]; exact h
theorem own_lit0 (w : World) {base b : Nat} (e : TypeId) (k : Nat) (hb : base ≤ w.heap.size) (hq : b = w.heap.size) : (w.alloc (.cells #[] e)).ownsRow base e k (.slice (some ⟨b, 0, none⟩) 0 0) 0 (ints []) := by
  subst hq; exact World.ownsRow_lit w #[] 0 hb (by decide) (by simp)
theorem int_oneCell (y : Int) : ∀ u ∈ [Value.int .i64 y], u.oneCell' = true := by
  intro u hu; simp at hu; subst hu; rfl
end Go.Proofs.Ytmpgpmcmhbpjeab

namespace Go.Proofs.Ytmpgpmcmhbpjeab
open Go.RowKit

section
variable {P : Program} (w : World)
theorem run_isAgg_int {e : TypeId} (he : P.underlying e = some (.int .i64)) : (isAgg e).run P w = .ok false w := by
  simp [isAgg, run_underlying he]
theorem equal_arr2 {t e : TypeId} {i : TypeInfo} (hu : P.underlying t = some (.array 2 e)) (he : P.underlying e = some (.int .i64)) (hi : P.info? e = some i) (hc : P.cellsOf e = 1) (a b c d : Int) :
    (Op.equalIn 10000 t (.agg #[.int .i64 a, .int .i64 b]) (.agg #[.int .i64 c, .int .i64 d])).run P w = .ok (a == c && b == d) w := by
  rw [show (10000 : Nat) = 9998 + 1 + 1 from rfl, run_equalIn_array w _ _ _ hu hi]
  have r2 : List.range 2 = [0, 1] := rfl
  simp [r2, Op.eqItems, hc, part, go_sem, he, run_isAgg_int _ he]
  by_cases h1 : a = c <;> by_cases h2 : b = d <;> simp [h1, h2]
theorem equal_arr3 {t e : TypeId} {i : TypeInfo} (hu : P.underlying t = some (.array 3 e)) (he : P.underlying e = some (.int .i64)) (hi : P.info? e = some i) (hc : P.cellsOf e = 1) (a b c a' b' c' : Int) :
    (Op.equalIn 10000 t (.agg #[.int .i64 a, .int .i64 b, .int .i64 c]) (.agg #[.int .i64 a', .int .i64 b', .int .i64 c'])).run P w = .ok (a == a' && b == b' && c == c') w := by
  rw [show (10000 : Nat) = 9998 + 1 + 1 from rfl, run_equalIn_array w _ _ _ hu hi]
  have r3 : List.range 3 = [0, 1, 2] := rfl
  simp [r3, Op.eqItems, hc, part, go_sem, he, run_isAgg_int _ he]
  by_cases h1 : a = a' <;> by_cases h2 : b = b' <;> by_cases h3 : c = c' <;> simp [h1, h2, h3]
end
theorem infoInt : (Try.prog.info? 2).map (fun i => i.size) = some 1 := by kernel_rfl
theorem equalPoint (w : World) (a b c d : Int) : (Op.equalIn 10000 28 (.agg #[.int .i64 a, .int .i64 b]) (.agg #[.int .i64 c, .int .i64 d])).run Try.prog w = .ok (a == c && b == d) w := by
  obtain ⟨i, hi, _⟩ := Option.map_eq_some_iff.1 infoInt
  exact equal_arr2 w (by kernel_rfl) Try.underlying2 hi (by kernel_rfl) a b c d
end Go.Proofs.Ytmpgpmcmhbpjeab

namespace Go.Proofs.Ytmpgpmcmhbpjeab
open Go.RowKit

/-- append to an own slice, as one step of a region that draws. -/
theorem step_append_own {P : Program} {ops : Array Oper} {o : Oper} {a : Act} {w : World} {K : Act → World → Prop} {Q : Exit → Act → World → Prop} {E : Prop}
    (hg : o.guard = none) (s x : Operand) (t : TypeId) (hop : o.op = Op.call { callee := Callee.builtin Builtin.append, args := #[s, x], argTypes := #[t, t] })
    (base : Nat) (e : TypeId) (i : TypeInfo) (z : Value) (size bytes : Nat) (ht : P.underlying t = some (.slice e)) (hi : P.info? e = some i) (hz : i.zero = some z) (hsize : i.size = size) (hby : i.bytes = bytes) (hzs : z.cells.size = size) (hsz : 0 < size)
    (v : Value) (n : Nat) (xs : List Value) (hs : a.eval s = v) (hown : w.ownsRow base e size v n xs)
    (ad : Addr) (m c : Nat) (news : List Value) (hx : a.eval x = .slice (some ad) m c) (hl : news.length = m * size) (hnews : ∀ j u, news[j]? = some u → w.cell? (ad.add j) = some u) (h1 : ∀ u ∈ news, u.oneCell' = true)
    (h63 : n + m ≤ maxLen) (hbytes : (n + m) * bytes ≤ 140737488355328) (hbase : base ≤ w.heap.size)
    (h : ∀ v' w', w'.ownsRow base e size v' (n + m) (xs ++ news) → w.grownBy w' v.ownBlock → K (a.put o.dst v') w') :
    if Region.wanted o (yielded ops a.tmps) = true then Oper.wp P o a w K Q else E := by
  have hw : Region.wanted o (yielded ops a.tmps) = true := by simp [Region.wanted, hg]
  rw [if_pos hw]
  exact wp_append_own w s x t hop base e i z size bytes ht hi hz hsize hby hzs hsz v n xs hs hown ad m c news hx hl hnews h1 h63 hbytes hbase fun v' w' h2 h3 _ => h v' w' h2 h3
theorem own_drew {w : World} {base n k : Nat} {e : TypeId} {v : Value} {xs : List Value} (h : w.ownsRow base e k v n xs) : w.drew.ownsRow base e k v n xs := h

end Go.Proofs.Ytmpgpmcmhbpjeab

namespace Go.Proofs.Ytmpgpmcmhbpjeab
open Go.RowKit

set_option maxRecDepth 20000 in
set_option maxHeartbeats 400000 in
theorem in_any (n lo hi : Int) (w : World) :
    Calls Try.prog 55 #[.int .i64 n, .int .i64 lo, .int .i64 hi] w fun e w' => e = .returned (.bool (inB n lo hi)) ∧ w = w' := by
  by_cases h1 : lo ≤ n
  · by_cases h2 : n ≤ hi
    · rw [inB_true ⟨h1, h2⟩]
      go_enter Try.func55, Try.ntmps55
      go_wp2
      go_ret
      exact ⟨rfl, rfl⟩
    · rw [inB_false (by omega)]
      go_enter Try.func55, Try.ntmps55
      go_wp2
      go_ret
      exact ⟨rfl, rfl⟩
  · rw [inB_false (by omega)]
    go_enter Try.func55, Try.ntmps55
    go_wp2
    go_ret
    exact ⟨rfl, rfl⟩

set_option maxRecDepth 20000 in
set_option maxHeartbeats 400000 in
theorem field_out (p : Int) (w : World) (h : ¬ (3 ≤ p ∧ p ≤ 31)) :
    Calls Try.prog 72 #[.int .i64 p] w fun e w' => e = .returned (.bool false) ∧ w = w' := by
  have hb := inB_false h
  go_enter Try.func72, Try.ntmps72
  go_wp2_with (go_at_call 55; refine Calls.mono (in_any _ _ _ _) ?_; rintro e w' ⟨rfl, rfl⟩)
  go_ret
  exact ⟨rfl, rfl⟩

theorem ret_bool {a b : Bool} (h : a = b) : Ending.returned (.bool a) = .returned (.bool b) := by rw [h]
theorem ret_int {k : IntKind} {a b : Int} (h : a = b) : Ending.returned (.int k a) = .returned (.int k b) := by rw [h]

theorem ret_ib {a a' : Int} {b b' : Bool} (h : a = a') (g : b = b') : Ending.returned (.tuple #[.int .i64 a, .bool b]) = .returned (.tuple #[.int .i64 a', .bool b']) := by rw [h, g]
theorem ret_ii {a a' b b' : Int} (h : a = a') (g : b = b') : Ending.returned (.tuple #[.int .i64 a, .int .i64 b]) = .returned (.tuple #[.int .i64 a', .int .i64 b']) := by rw [h, g]
theorem ret_bi {a a' : Int} {b b' : Bool} (g : b = b') (h : a = a') : Ending.returned (.tuple #[.bool b, .int .i64 a]) = .returned (.tuple #[.bool b', .int .i64 a']) := by rw [h, g]

def NoDiv (n k : Nat) : Prop := ∀ d, d < k → 2 ≤ d → n % d ≠ 0
theorem NoDiv.start (n : Nat) : NoDiv n 2 := fun d h1 h2 => absurd h1 (by omega)
theorem NoDiv.next {n k : Nat} (h : NoDiv n k) (hk : n % k ≠ 0) : NoDiv n (k + 1) := fun d h1 h2 => by
  by_cases e : d = k
  · rw [e]; exact hk
  · exact h d (by omega) h2

theorem sq_small {k : Nat} (h2 : 2 ≤ k) (h : k * k ≤ 31) : k ≤ 5 := by
  rcases Nat.lt_or_ge k 6 with h6 | h6
  · omega
  · have := Nat.mul_le_mul h6 h6; omega

set_option maxRecDepth 20000 in
set_option maxHeartbeats 400000 in
theorem field_in (n : Nat) (w : World) (h3 : 3 ≤ n) (h31 : n ≤ 31) :
    Calls Try.prog 72 #[.int .i64 (n : Int)] w fun e w' => e = .returned (.bool (isP n)) ∧ w = w' := by
  have hb := inB_true (n := n) (lo := 3) (hi := 31) (by omega)
  go_enter Try.func72, Try.ntmps72
  go_wp2_with (go_at_call 55; refine Calls.mono (in_any _ _ _ _) ?_; rintro e w' ⟨rfl, rfl⟩)
  clear hb
  go_loop [3] (fun d => ∃ k : Nat, 2 ≤ k ∧ k ≤ 6 ∧ d = .int .i64 k ∧ NoDiv n k) (fun d => 32 - (intOf d).toNat)
  case atStart => exact ⟨2, by omega, by omega, rfl, NoDiv.start n⟩
  case round =>
    obtain ⟨k, hk2, hk6, rfl, hd⟩ := hrel
    have hkk : 0 ≤ (k : Int) * k ∧ (k : Int) * k ≤ 36 := by
      have : k * k ≤ 6 * 6 := Nat.mul_le_mul hk6 hk6
      have e : ((k * k : Nat) : Int) = (k : Int) * k := by simp
      omega
    by_cases hq : k * k ≤ n
    · have hq' : (k : Int) * k ≤ n := by rw [← Int.natCast_mul]; omega
      have hk5 := sq_small hk2 (by omega)
      by_cases hm : n % k = 0
      · have hm' : ((n : Int) % k == 0) = true := by rw [beq_iff_eq]; omega
        have H := Lib.hid (isP_divs n k (by omega) h3 (by omega) hk2 hm hq)
        go_wp2
        go_ret
        exact ⟨ret_bool H.out.symm, rfl⟩
      · have hm' : ((n : Int) % k == 0) = false := by rw [beq_eq_false_iff_ne]; omega
        have H := Lib.hid (hd.next hm)
        go_wp2
        go_round
        case rel => exact ⟨k + 1, by omega, by omega, by go_num, H.out⟩
        case measure => simp [intOf]; omega
    · have hq' : (n : Int) < (k : Int) * k := by rw [← Int.natCast_mul]; omega
      have H := Lib.hid (isP_nodivs n k (by omega) h3 (by omega) (by omega) hd)
      go_wp2
      go_ret
      exact ⟨ret_bool H.out.symm, rfl⟩

theorem field_any (p : Int) (w : World) :
    Calls Try.prog 72 #[.int .i64 p] w fun e w' => e = .returned (.bool (isP p)) ∧ w = w' := by
  by_cases h : 3 ≤ p ∧ p ≤ 31
  · obtain ⟨n, rfl⟩ := Int.eq_ofNat_of_zero_le (by omega : 0 ≤ p)
    exact field_in n w (by omega) (by omega)
  · rw [isP_none h]
    exact field_out p w h

end Go.Proofs.Ytmpgpmcmhbpjeab

namespace Go.Proofs.Ytmpgpmcmhbpjeab
open Go.RowKit

set_option maxRecDepth 20000 in
set_option maxHeartbeats 400000 in
theorem mod_any (x p : Int) (w : World) (h1 : 1 ≤ p) (h2 : p ≤ 2147483648) (h3 : -1099511627776 ≤ x) (h4 : x ≤ 1099511627776) :
    Calls Try.prog 57 #[.int .i64 x, .int .i64 p] w fun e w' => e = .returned (.int .i64 (x % p)) ∧ w = w' := by
  have hb := tmod_bounds x p h1
  have hb1 : -p < x.tmod p := hb.1
  have hb2 : x.tmod p < p := hb.2
  clear hb
  have H := Lib.hid (by rw [← mod_twice x p, Int.add_emod_right] : x.tmod p % p = x % p)
  by_cases hx : 0 ≤ x
  · have hx1 : 0 ≤ x % p := Int.emod_nonneg _ (by omega)
    have hx2 : x % p < p := Int.emod_lt_of_pos _ (by omega)
    clear H hb1 hb2
    go_enter Try.func57, Try.ntmps57
    go_wp2
    go_ret
    exact ⟨ret_int (by simp), rfl⟩
  · go_enter Try.func57, Try.ntmps57
    go_wp2
    go_ret
    exact ⟨ret_int H.out, rfl⟩

end Go.Proofs.Ytmpgpmcmhbpjeab

namespace Go.Proofs.Ytmpgpmcmhbpjeab
open Go.RowKit

set_option maxRecDepth 20000 in
set_option maxHeartbeats 400000 in
theorem specMinus_any (p a1 a2 b1 b2 : Int) (w : World) (hp : isP p = true) (ha1 : 0 ≤ a1 ∧ a1 ≤ 31) (ha2 : 0 ≤ a2 ∧ a2 ≤ 31) (hb1 : 0 ≤ b1 ∧ b1 ≤ 31) (hb2 : 0 ≤ b2 ∧ b2 ≤ 31) :
    Calls Try.prog 44 #[.int .i64 p, .agg #[.int .i64 a1, .int .i64 a2], .agg #[.int .i64 b1, .int .i64 b2]] w fun e w' =>
      e = .returned (.agg #[.int .i64 ((a1 - b1) % p), .int .i64 ((a2 - b2) % p)]) ∧ Below w.heap.size w w' := by
  have hr := isP_range hp
  have e1 : IntKind.i64.wrap (a1 - b1) = a1 - b1 := wrapI _ (by omega)
  have e2 : IntKind.i64.wrap (a2 - b2) = a2 - b2 := wrapI _ (by omega)
  go_enter Try.func44, Try.ntmps44
  go_wp2_with fail
  (refine region_tail 15 (by kernel_rfl) (by kernel_rfl) ?_; simp only [List.take_succ_cons, List.take_zero, List.drop_succ_cons, List.drop_zero]; repeat still_step)
  (still_call (stillOf (mod_any _ _ _ (by omega) (by omega) (by omega) (by omega))); repeat still_step)
  (still_call (stillOf (mod_any _ _ _ (by omega) (by omega) (by omega) (by omega))); repeat still_step)
  refine wpStill_nil ?_
  go_wp2
  (refine bodyPost_ret (v := .agg #[.int .i64 ((a1 - b1) % p), .int .i64 ((a2 - b2) % p)]) (by simp [results, Try.results44, go_sem]) rfl ⟨?_, ?_⟩)
  · rfl
  · (repeat (first | exact Below.refl _ _ | assumption | refine balloc ?_ _ | refine bdrewN ?_ _ | refine Below.drew ?_ | refine Below.setCell ?_ (by first | (simp; done) | (simp; omega)) _))

end Go.Proofs.Ytmpgpmcmhbpjeab

namespace Go.Proofs.Ytmpgpmcmhbpjeab
open Go.RowKit

def PowRel (n r out base k : Nat) : Prop := out < n ∧ base < n ∧ out * base ^ k % n = r
theorem PowRel.bounds {n a b : Nat} (h : n ≤ 31) (ha : a < n) (hb : b < n) : 0 ≤ (a : Int) * b ∧ (a : Int) * b ≤ 961 := by
  have : a * b ≤ 31 * 31 := Nat.mul_le_mul (by omega) (by omega)
  have e : ((a * b : Nat) : Int) = (a : Int) * b := by simp
  omega
theorem PowRel.odd {n r out base k : Nat} (h : PowRel n r out base k) (hk : k % 2 = 1) : PowRel n r (out * base % n) (base * base % n) (k / 2) :=
  ⟨Nat.mod_lt _ (by have := h.1; omega), Nat.mod_lt _ (by have := h.1; omega), pow_step_odd hk h.2.2⟩
theorem PowRel.even {n r out base k : Nat} (h : PowRel n r out base k) (hk : k % 2 = 0) : PowRel n r out (base * base % n) (k / 2) :=
  ⟨h.1, Nat.mod_lt _ (by have := h.1; omega), pow_step_even hk h.2.2⟩
theorem PowRel.ends {n r out base : Nat} (h : PowRel n r out base 0) : out = r := by
  have h3 := h.2.2
  rw [Nat.pow_zero, Nat.mul_one, Nat.mod_eq_of_lt h.1] at h3
  exact h3

set_option maxRecDepth 20000 in
set_option maxHeartbeats 800000 in
theorem inverse_any (a p : Int) (w : World) (hp : isP p = true) (h3 : -1099511627776 ≤ a) (h4 : a ≤ 1099511627776) :
    Calls Try.prog 56 #[.int .i64 a, .int .i64 p] w fun e w' => e = .returned (.int .i64 (inv p a)) ∧ w = w' := by
  have hr := isP_range hp
  obtain ⟨n, rfl⟩ := Int.eq_ofNat_of_zero_le (by omega : 0 ≤ p)
  have hn := isP_ne hp
  have hm0 : 0 ≤ a % (n : Int) := Int.emod_nonneg _ (by omega)
  have hm1 : a % (n : Int) < n := Int.emod_lt_of_pos _ (by omega)
  obtain ⟨m, hm⟩ := Int.eq_ofNat_of_zero_le hm0
  have hmn : m < n := by omega
  have hpw := pow_inv hp hmn
  have hend : inv (n : Int) a = (invN n m : Int) := by
    unfold inv; rw [hm, Int.toNat_natCast, Int.toNat_natCast]
  have HE := Lib.hid hend
  have HS := Lib.hid (show PowRel n (invN n m) 1 m (n - 2) from ⟨by omega, hmn, by rw [Nat.one_mul]; exact hpw⟩)
  have HM := Lib.hid hm
  clear hend hm hpw hm0 hm1 hp hr
  go_enter Try.func56, Try.ntmps56
  go_wp2_with (go_at_call 57; refine (mod_any _ _ _ (by omega) (by omega) h3 h4).mono ?_; rw [HM.out]; rintro e w' ⟨rfl, rfl⟩)
  go_loop [5, 6, 7] (fun o b d => ∃ out base k : Nat, k ≤ 29 ∧ o = .int .i64 out ∧ b = .int .i64 base ∧ d = .int .i64 k ∧ PowRel n (invN n m) out base k) (fun _ _ d => (intOf d).toNat)
  case atStart => exact ⟨1, m, n - 2, by omega, rfl, rfl, by congr 1; omega, HS.out⟩
  case round =>
    obtain ⟨out, base, k, hk, rfl, rfl, rfl, hd⟩ := hrel
    have hb1 := PowRel.bounds hn.2 hd.1 hd.2.1
    have hb2 := PowRel.bounds hn.2 hd.2.1 hd.2.1
    by_cases hk0 : k = 0
    · subst hk0
      have H := Lib.hid hd.ends
      go_wp2
      go_ret
      exact ⟨ret_int (by rw [HE.out, H.out]), rfl⟩
    · have hk1 : (0 : Int) < k := by omega
      by_cases hk2 : k % 2 = 1
      · have hk2' : ((k : Int) % 2 == 1) = true := by rw [beq_iff_eq]; omega
        have H := Lib.hid (hd.odd hk2)
        have HK := Lib.hid hk0
        clear hk0 hk2
        go_wp2
        go_round
        case rel => exact ⟨out * base % n, base * base % n, k / 2, by omega, by simp, by simp, by simp, H.out⟩
        case measure => have := HK.out; simp [intOf]; omega
      · have hk2' : ((k : Int) % 2 == 1) = false := by rw [beq_eq_false_iff_ne]; omega
        have H := Lib.hid (hd.even (by omega))
        have HK := Lib.hid hk0
        clear hk0 hk2
        go_wp2
        go_round
        case rel => exact ⟨out, base * base % n, k / 2, by omega, rfl, by simp, by simp, H.out⟩
        case measure => have := HK.out; simp [intOf]; omega

end Go.Proofs.Ytmpgpmcmhbpjeab

namespace Go.Proofs.Ytmpgpmcmhbpjeab
open Go.RowKit

set_option maxRecDepth 20000 in
set_option maxHeartbeats 1000000 in
theorem normal_any (p a b c : Int) (w : World) (hp : isP p = true) (ha : -8192 ≤ a ∧ a ≤ 8192) (hb : -8192 ≤ b ∧ b ≤ 8192) (hc : -8192 ≤ c ∧ c ≤ 8192) :
    Calls Try.prog 75 #[.int .i64 p, .int .i64 a, .int .i64 b, .int .i64 c] w fun e w' =>
      e = .returned (.agg #[.int .i64 (mk1 p a b c), .int .i64 (mk2 p a b c), .int .i64 (mk3 p a b c)]) ∧ Below w.heap.size w w' := by
  have hr := isP_range hp
  obtain ⟨d, hd⟩ : ∃ d, d = nrm p a b := ⟨_, rfl⟩
  have hd31 : 0 ≤ d ∧ d ≤ 31 := by rw [hd]; exact nrm_range a b hp
  have m1 := mulB (a := a) (b := d) ha (by omega)
  have m2 := mulB (a := b) (b := d) hb (by omega)
  have m3 := mulB (a := c) (b := d) hc (by omega)
  have HV := Lib.hid (show mk1 p a b c = a * d % p ∧ mk2 p a b c = b * d % p ∧ mk3 p a b c = c * d % p by rw [hd]; exact ⟨rfl, rfl, rfl⟩)
  by_cases h : a % p = 0
  · have HD := Lib.hid (show inv p (b % p) = d by rw [hd, nrm, if_pos h, inv_mod])
    have hz : (a % p == 0) = true := by rw [beq_iff_eq]; exact h
    have hb2 := modR31 b hp
    clear hd h
    go_enter Try.func75, Try.ntmps75
    (go_wp2_with fail; refine Calls.mono (mod_any _ _ _ (by omega) (by omega) (by omega) (by omega)) ?_; rintro e w' ⟨rfl, rfl⟩)
    (go_wp2_with fail; refine Calls.mono (mod_any _ _ _ (by omega) (by omega) (by omega) (by omega)) ?_; rintro e w' ⟨rfl, rfl⟩)
    go_wp2_with fail
    refine Calls.mono (inverse_any _ _ _ hp (by omega) (by omega)) ?_
    rw [HD.out]
    rintro e w' ⟨rfl, rfl⟩
    (go_wp2_with fail; refine Calls.mono (mod_any _ _ _ (by omega) (by omega) (by omega) (by omega)) ?_; rintro e w' ⟨rfl, rfl⟩)
    (go_wp2_with fail; refine Calls.mono (mod_any _ _ _ (by omega) (by omega) (by omega) (by omega)) ?_; rintro e w' ⟨rfl, rfl⟩)
    (go_wp2_with fail; refine Calls.mono (mod_any _ _ _ (by omega) (by omega) (by omega) (by omega)) ?_; rintro e w' ⟨rfl, rfl⟩)
    go_wp2
    (refine bodyPost_ret (v := .agg #[.int .i64 (mk1 p a b c), .int .i64 (mk2 p a b c), .int .i64 (mk3 p a b c)]) (by simp [results, Try.results75, go_sem, HV.out.1, HV.out.2.1, HV.out.2.2]) rfl ⟨?_, ?_⟩)
    · rfl
    · (repeat (first | exact Below.refl _ _ | assumption | refine balloc ?_ _ | refine bdrewN ?_ _ | refine Below.drew ?_ | refine Below.setCell ?_ (by first | (simp; done) | (simp; omega)) _))
  · have HD := Lib.hid (show inv p (a % p) = d by rw [hd, nrm, if_neg h, inv_mod])
    have hz : (a % p == 0) = false := by rw [beq_eq_false_iff_ne]; exact h
    have ha2 := modR31 a hp
    clear hd h
    go_enter Try.func75, Try.ntmps75
    (go_wp2_with fail; refine Calls.mono (mod_any _ _ _ (by omega) (by omega) (by omega) (by omega)) ?_; rintro e w' ⟨rfl, rfl⟩)
    go_wp2_with fail
    refine Calls.mono (inverse_any _ _ _ hp (by omega) (by omega)) ?_
    rw [HD.out]
    rintro e w' ⟨rfl, rfl⟩
    (go_wp2_with fail; refine Calls.mono (mod_any _ _ _ (by omega) (by omega) (by omega) (by omega)) ?_; rintro e w' ⟨rfl, rfl⟩)
    (go_wp2_with fail; refine Calls.mono (mod_any _ _ _ (by omega) (by omega) (by omega) (by omega)) ?_; rintro e w' ⟨rfl, rfl⟩)
    (go_wp2_with fail; refine Calls.mono (mod_any _ _ _ (by omega) (by omega) (by omega) (by omega)) ?_; rintro e w' ⟨rfl, rfl⟩)
    go_wp2
    (refine bodyPost_ret (v := .agg #[.int .i64 (mk1 p a b c), .int .i64 (mk2 p a b c), .int .i64 (mk3 p a b c)]) (by simp [results, Try.results75, go_sem, HV.out.1, HV.out.2.1, HV.out.2.2]) rfl ⟨?_, ?_⟩)
    · rfl
    · (repeat (first | exact Below.refl _ _ | assumption | refine balloc ?_ _ | refine bdrewN ?_ _ | refine Below.drew ?_ | refine Below.setCell ?_ (by first | (simp; done) | (simp; omega)) _))

end Go.Proofs.Ytmpgpmcmhbpjeab

namespace Go.Proofs.Ytmpgpmcmhbpjeab
open Go.RowKit

set_option maxRecDepth 20000 in
set_option maxHeartbeats 1000000 in
theorem specTL_any (p c d1 d2 a1 a2 : Int) (w : World) (hp : isP p = true) (hc : colB c = true) (h1 : 0 ≤ d1 ∧ d1 < p) (h2 : 0 ≤ d2 ∧ d2 < p) (ha1 : 0 ≤ a1 ∧ a1 < p) (ha2 : 0 ≤ a2 ∧ a2 < p) :
    Calls Try.prog 43 #[.int .i64 p, .int .i64 c, .agg #[.int .i64 d1, .int .i64 d2], .agg #[.int .i64 a1, .int .i64 a2]] w fun e w' =>
      e = .returned (.agg #[.int .i64 (tl1 p c d1 d2 a1 a2), .int .i64 (tl2 p c d1 d2 a1 a2), .int .i64 (tl3 p c d1 d2 a1 a2)]) ∧ Below w.heap.size w w' := by
  have hr := isP_range hp
  obtain ⟨u, hu⟩ : ∃ u, u = uOf c d1 d2 := ⟨_, rfl⟩
  obtain ⟨v, hv⟩ : ∃ v, v = vOf p c d1 d2 := ⟨_, rfl⟩
  have uv := uv_r (c := c) hp h1 h2
  rw [← hu, ← hv] at uv
  have m1 := mulP (a := u) (b := a1) (by omega) (by omega)
  have m2 := mulP (a := v) (b := a2) (by omega) (by omega)
  have mw := modR31 (-(u * a1 + v * a2)) hp
  have HV := Lib.hid (show tl1 p c d1 d2 a1 a2 = mk1 p u v (-(u * a1 + v * a2) % p) ∧ tl2 p c d1 d2 a1 a2 = mk2 p u v (-(u * a1 + v * a2) % p) ∧ tl3 p c d1 d2 a1 a2 = mk3 p u v (-(u * a1 + v * a2) % p) by
    rw [tl1, tl2, tl3, tw, ← hu, ← hv]; exact ⟨rfl, rfl, rfl⟩)
  rcases colB_ways hc with rfl | rfl | rfl
  · obtain rfl : u = d1 := hu
    obtain rfl : v = d2 := hv
    go_enter Try.func43, Try.ntmps43
    go_wp2
    go_quiet (fail)
    (go_wp2_with fail; refine Calls.mono (mod_any _ _ _ (by omega) (by omega) (by omega) (by omega)) ?_; rintro e w' ⟨rfl, rfl⟩)
    (go_wp2_with fail; refine Calls.mono (normal_any _ _ _ _ _ hp (by omega) (by omega) (by omega)) ?_; rintro e w1 ⟨rfl, hB1⟩; obtain ⟨hB1c, hB1f⟩ := bcell hB1; have hB1s := hB1.size; (try simp at hB1s); (try have hB1q1 := Nat.lt_of_succ_le hB1s); (try have hB1q2 := Nat.lt_of_succ_lt hB1q1); (try have hB1q3 := Nat.lt_of_succ_lt hB1q2); (try have hB1zw0 : w.heap.size < w1.heap.size := (by omega)); (try have hB1zw1 : w.heap.size + 1 < w1.heap.size := (by omega)); (try have hB1zw2 : w.heap.size + 1 + 1 < w1.heap.size := (by omega)); (try have hB1zw3 : w.heap.size + 1 + 1 + 1 < w1.heap.size := (by omega)); (try have hB1zw4 : w.heap.size + 1 + 1 + 1 + 1 < w1.heap.size := (by omega)))
    go_wp2
    (refine bodyPost_ret (v := .agg #[.int .i64 (tl1 p 0 u v a1 a2), .int .i64 (tl2 p 0 u v a1 a2), .int .i64 (tl3 p 0 u v a1 a2)]) (by simp [results, Try.results43, go_sem, HV.out.1, HV.out.2.1, HV.out.2.2, *]) rfl ⟨?_, ?_⟩)
    · rfl
    · (repeat (first | exact Below.refl _ _ | refine balloc ?_ _ | refine bdrewN ?_ _ | refine Below.drew ?_ | refine bthen ?_ hB1 | refine Below.setCell ?_ (by first | (simp; done) | (simp; omega)) _))
  · obtain rfl : u = d1 := hu
    have HU := Lib.hid (show -d2 % p = v from hv.symm)
    clear hv
    go_enter Try.func43, Try.ntmps43
    go_wp2
    go_quiet (fail)
    go_wp2_with fail
    refine Calls.mono (mod_any _ _ _ (by omega) (by omega) (by omega) (by omega)) ?_
    rw [HU.out]
    rintro e w' ⟨rfl, rfl⟩
    (go_wp2_with fail; refine Calls.mono (mod_any _ _ _ (by omega) (by omega) (by omega) (by omega)) ?_; rintro e w' ⟨rfl, rfl⟩)
    (go_wp2_with fail; refine Calls.mono (normal_any _ _ _ _ _ hp (by omega) (by omega) (by omega)) ?_; rintro e w1 ⟨rfl, hB1⟩; obtain ⟨hB1c, hB1f⟩ := bcell hB1; have hB1s := hB1.size; (try simp at hB1s); (try have hB1q1 := Nat.lt_of_succ_le hB1s); (try have hB1q2 := Nat.lt_of_succ_lt hB1q1); (try have hB1q3 := Nat.lt_of_succ_lt hB1q2); (try have hB1zw0 : w.heap.size < w1.heap.size := (by omega)); (try have hB1zw1 : w.heap.size + 1 < w1.heap.size := (by omega)); (try have hB1zw2 : w.heap.size + 1 + 1 < w1.heap.size := (by omega)); (try have hB1zw3 : w.heap.size + 1 + 1 + 1 < w1.heap.size := (by omega)); (try have hB1zw4 : w.heap.size + 1 + 1 + 1 + 1 < w1.heap.size := (by omega)))
    go_wp2
    (refine bodyPost_ret (v := .agg #[.int .i64 (tl1 p 1 u d2 a1 a2), .int .i64 (tl2 p 1 u d2 a1 a2), .int .i64 (tl3 p 1 u d2 a1 a2)]) (by simp [results, Try.results43, go_sem, HV.out.1, HV.out.2.1, HV.out.2.2, *]) rfl ⟨?_, ?_⟩)
    · rfl
    · (repeat (first | exact Below.refl _ _ | refine balloc ?_ _ | refine bdrewN ?_ _ | refine Below.drew ?_ | refine bthen ?_ hB1 | refine Below.setCell ?_ (by first | (simp; done) | (simp; omega)) _))
  · obtain rfl : u = d2 := hu
    obtain rfl : v = d1 := hv
    go_enter Try.func43, Try.ntmps43
    go_wp2
    go_quiet (fail)
    (go_wp2_with fail; refine Calls.mono (mod_any _ _ _ (by omega) (by omega) (by omega) (by omega)) ?_; rintro e w' ⟨rfl, rfl⟩)
    (go_wp2_with fail; refine Calls.mono (normal_any _ _ _ _ _ hp (by omega) (by omega) (by omega)) ?_; rintro e w1 ⟨rfl, hB1⟩; obtain ⟨hB1c, hB1f⟩ := bcell hB1; have hB1s := hB1.size; (try simp at hB1s); (try have hB1q1 := Nat.lt_of_succ_le hB1s); (try have hB1q2 := Nat.lt_of_succ_lt hB1q1); (try have hB1q3 := Nat.lt_of_succ_lt hB1q2); (try have hB1zw0 : w.heap.size < w1.heap.size := (by omega)); (try have hB1zw1 : w.heap.size + 1 < w1.heap.size := (by omega)); (try have hB1zw2 : w.heap.size + 1 + 1 < w1.heap.size := (by omega)); (try have hB1zw3 : w.heap.size + 1 + 1 + 1 < w1.heap.size := (by omega)); (try have hB1zw4 : w.heap.size + 1 + 1 + 1 + 1 < w1.heap.size := (by omega)))
    go_wp2
    (refine bodyPost_ret (v := .agg #[.int .i64 (tl1 p 2 v u a1 a2), .int .i64 (tl2 p 2 v u a1 a2), .int .i64 (tl3 p 2 v u a1 a2)]) (by simp [results, Try.results43, go_sem, HV.out.1, HV.out.2.1, HV.out.2.2, *]) rfl ⟨?_, ?_⟩)
    · rfl
    · (repeat (first | exact Below.refl _ _ | refine balloc ?_ _ | refine bdrewN ?_ _ | refine Below.drew ?_ | refine bthen ?_ hB1 | refine Below.setCell ?_ (by first | (simp; done) | (simp; omega)) _))

end Go.Proofs.Ytmpgpmcmhbpjeab

namespace Go.Proofs.Ytmpgpmcmhbpjeab
open Go.RowKit

set_option linter.unusedSimpArgs false in
set_option maxRecDepth 20000 in
set_option maxHeartbeats 4000000 in
theorem specTangent_any (p c k1 k2 k3 a1 a2 : Int) (w : World) (hp : isP p = true) (hc : colB c = true) (hk1 : 0 ≤ k1 ∧ k1 < p) (hk2 : 0 ≤ k2 ∧ k2 < p) (ha1 : 0 ≤ a1 ∧ a1 < p) (ha2 : 0 ≤ a2 ∧ a2 < p) :
    Calls Try.prog 22 #[.int .i64 p, .int .i64 c, .agg #[.int .i64 k1, .int .i64 k2, .int .i64 k3], .agg #[.int .i64 a1, .int .i64 a2]] w fun e w' =>
      e = .returned (.agg #[.int .i64 (tn1 p c k1 k2 a1 a2), .int .i64 (tn2 p c k1 k2 a1 a2), .int .i64 (tn3 p c k1 k2 a1 a2)]) ∧ Below w.heap.size w w' := by
  have hr := isP_range hp
  obtain ⟨v1, hv1⟩ : ∃ v : Int, v = (a1 - k1) % p := ⟨_, rfl⟩
  have rv1 := modR (a1 - k1) hp
  rw [← hv1] at rv1
  have Hv1 := Lib.hid hv1
  clear hv1
  obtain ⟨v2, hv2⟩ : ∃ v : Int, v = (a2 - k2) % p := ⟨_, rfl⟩
  have rv2 := modR (a2 - k2) hp
  rw [← hv2] at rv2
  have Hv2 := Lib.hid hv2
  clear hv2
  obtain ⟨v3, hv3⟩ : ∃ v : Int, v = tl1 p c v1 v2 a1 a2 := ⟨_, rfl⟩
  have rv3 := tl1_r c v1 v2 a1 a2 hp
  rw [← hv3] at rv3
  have Hv3 := Lib.hid hv3
  clear hv3
  obtain ⟨v4, hv4⟩ : ∃ v : Int, v = tl2 p c v1 v2 a1 a2 := ⟨_, rfl⟩
  have rv4 := tl2_r c v1 v2 a1 a2 hp
  rw [← hv4] at rv4
  have Hv4 := Lib.hid hv4
  clear hv4
  obtain ⟨v5, hv5⟩ : ∃ v : Int, v = tl3 p c v1 v2 a1 a2 := ⟨_, rfl⟩
  have rv5 := tl3_r c v1 v2 a1 a2 hp
  rw [← hv5] at rv5
  have Hv5 := Lib.hid hv5
  clear hv5
  go_enter Try.func22, Try.ntmps22
  go_upto_region 1 with fail
  go_cut [] (fun  wx => wx.cell? ⟨w.heap.size + 1 + 1, 0, none⟩ = some (.int .i64 v3) ∧ wx.cell? ⟨w.heap.size + 1 + 1, 1, none⟩ = some (.int .i64 v4) ∧ wx.cell? ⟨w.heap.size + 1 + 1, 2, none⟩ = some (.int .i64 v5) ∧ (wx.cell? ⟨w.heap.size, 0, none⟩ = some (.int .i64 k1) ∧ wx.cell? ⟨w.heap.size, 1, none⟩ = some (.int .i64 k2) ∧ wx.cell? ⟨w.heap.size, 2, none⟩ = some (.int .i64 k3) ∧ wx.cell? ⟨w.heap.size + 1, 0, none⟩ = some (.int .i64 a1) ∧ wx.cell? ⟨w.heap.size + 1, 1, none⟩ = some (.int .i64 a2)) ∧ Below w.heap.size w wx)
  case first =>
    go_region_held3 (fun W => W.cell? ⟨w.heap.size, 0, none⟩ = some (.int .i64 k1) ∧ W.cell? ⟨w.heap.size, 1, none⟩ = some (.int .i64 k2) ∧ W.cell? ⟨w.heap.size, 2, none⟩ = some (.int .i64 k3) ∧ W.cell? ⟨w.heap.size + 1, 0, none⟩ = some (.int .i64 a1) ∧ W.cell? ⟨w.heap.size + 1, 1, none⟩ = some (.int .i64 a2)) ((first | with_reducible assumption | with_reducible exact (And.imp (kcall hB) (And.imp (kcall hB) (And.imp (kcall hB) (And.imp (kcall hB) ((kcall hB)))))) (by with_reducible assumption) | with_reducible exact (And.imp (kalloc _) (And.imp (kalloc _) (And.imp (kalloc _) (And.imp (kalloc _) ((kalloc _)))))) (by with_reducible assumption) | with_reducible exact (And.imp (krealloc (by first | omega | (simp; done) | (simp; omega))) (And.imp (krealloc (by first | omega | (simp; done) | (simp; omega))) (And.imp (krealloc (by first | omega | (simp; done) | (simp; omega))) (And.imp (krealloc (by first | omega | (simp; done) | (simp; omega))) ((krealloc (by first | omega | (simp; done) | (simp; omega)))))))) (by with_reducible assumption) | with_reducible exact (And.imp (fun h => kdrew (kalloc _ (kundrew h))) (And.imp (fun h => kdrew (kalloc _ (kundrew h))) (And.imp (fun h => kdrew (kalloc _ (kundrew h))) (And.imp (fun h => kdrew (kalloc _ (kundrew h))) ((fun h => kdrew (kalloc _ (kundrew h)))))))) (by with_reducible assumption) | with_reducible exact (And.imp (fun h => kdrew (krealloc (by first | omega | (simp; done) | (simp; omega)) (kundrew h))) (And.imp (fun h => kdrew (krealloc (by first | omega | (simp; done) | (simp; omega)) (kundrew h))) (And.imp (fun h => kdrew (krealloc (by first | omega | (simp; done) | (simp; omega)) (kundrew h))) (And.imp (fun h => kdrew (krealloc (by first | omega | (simp; done) | (simp; omega)) (kundrew h))) ((fun h => kdrew (krealloc (by first | omega | (simp; done) | (simp; omega)) (kundrew h)))))))) (by with_reducible assumption) | with_reducible exact (And.imp (fun h => kset (by first | omega | (simp; done) | (simp; omega)) (kset (by first | omega | (simp; done) | (simp; omega)) (kset (by first | omega | (simp; done) | (simp; omega)) h))) (And.imp (fun h => kset (by first | omega | (simp; done) | (simp; omega)) (kset (by first | omega | (simp; done) | (simp; omega)) (kset (by first | omega | (simp; done) | (simp; omega)) h))) (And.imp (fun h => kset (by first | omega | (simp; done) | (simp; omega)) (kset (by first | omega | (simp; done) | (simp; omega)) (kset (by first | omega | (simp; done) | (simp; omega)) h))) (And.imp (fun h => kset (by first | omega | (simp; done) | (simp; omega)) (kset (by first | omega | (simp; done) | (simp; omega)) (kset (by first | omega | (simp; done) | (simp; omega)) h))) ((fun h => kset (by first | omega | (simp; done) | (simp; omega)) (kset (by first | omega | (simp; done) | (simp; omega)) (kset (by first | omega | (simp; done) | (simp; omega)) h)))))))) (by with_reducible assumption) | with_reducible exact (And.imp (fun h => kset (by first | omega | (simp; done) | (simp; omega)) (kset (by first | omega | (simp; done) | (simp; omega)) h)) (And.imp (fun h => kset (by first | omega | (simp; done) | (simp; omega)) (kset (by first | omega | (simp; done) | (simp; omega)) h)) (And.imp (fun h => kset (by first | omega | (simp; done) | (simp; omega)) (kset (by first | omega | (simp; done) | (simp; omega)) h)) (And.imp (fun h => kset (by first | omega | (simp; done) | (simp; omega)) (kset (by first | omega | (simp; done) | (simp; omega)) h)) ((fun h => kset (by first | omega | (simp; done) | (simp; omega)) (kset (by first | omega | (simp; done) | (simp; omega)) h))))))) (by with_reducible assumption) | with_reducible exact (And.imp (fun h => kset (by first | omega | (simp; done) | (simp; omega)) h) (And.imp (fun h => kset (by first | omega | (simp; done) | (simp; omega)) h) (And.imp (fun h => kset (by first | omega | (simp; done) | (simp; omega)) h) (And.imp (fun h => kset (by first | omega | (simp; done) | (simp; omega)) h) ((fun h => kset (by first | omega | (simp; done) | (simp; omega)) h)))))) (by with_reducible assumption) | with_reducible exact (And.imp (fun h => kalloc _ (kset (by first | omega | (simp; done) | (simp; omega)) (kset (by first | omega | (simp; done) | (simp; omega)) (kback (by first | omega | (simp; done) | (simp; omega)) h)))) (And.imp (fun h => kalloc _ (kset (by first | omega | (simp; done) | (simp; omega)) (kset (by first | omega | (simp; done) | (simp; omega)) (kback (by first | omega | (simp; done) | (simp; omega)) h)))) (And.imp (fun h => kalloc _ (kset (by first | omega | (simp; done) | (simp; omega)) (kset (by first | omega | (simp; done) | (simp; omega)) (kback (by first | omega | (simp; done) | (simp; omega)) h)))) (And.imp (fun h => kalloc _ (kset (by first | omega | (simp; done) | (simp; omega)) (kset (by first | omega | (simp; done) | (simp; omega)) (kback (by first | omega | (simp; done) | (simp; omega)) h)))) ((fun h => kalloc _ (kset (by first | omega | (simp; done) | (simp; omega)) (kset (by first | omega | (simp; done) | (simp; omega)) (kback (by first | omega | (simp; done) | (simp; omega)) h))))))))) (by with_reducible assumption) | with_reducible exact (And.imp (fun h => kalloc _ (kset (by first | omega | (simp; done) | (simp; omega)) (kset (by first | omega | (simp; done) | (simp; omega)) (kset (by first | omega | (simp; done) | (simp; omega)) (kback (by first | omega | (simp; done) | (simp; omega)) h))))) (And.imp (fun h => kalloc _ (kset (by first | omega | (simp; done) | (simp; omega)) (kset (by first | omega | (simp; done) | (simp; omega)) (kset (by first | omega | (simp; done) | (simp; omega)) (kback (by first | omega | (simp; done) | (simp; omega)) h))))) (And.imp (fun h => kalloc _ (kset (by first | omega | (simp; done) | (simp; omega)) (kset (by first | omega | (simp; done) | (simp; omega)) (kset (by first | omega | (simp; done) | (simp; omega)) (kback (by first | omega | (simp; done) | (simp; omega)) h))))) (And.imp (fun h => kalloc _ (kset (by first | omega | (simp; done) | (simp; omega)) (kset (by first | omega | (simp; done) | (simp; omega)) (kset (by first | omega | (simp; done) | (simp; omega)) (kback (by first | omega | (simp; done) | (simp; omega)) h))))) ((fun h => kalloc _ (kset (by first | omega | (simp; done) | (simp; omega)) (kset (by first | omega | (simp; done) | (simp; omega)) (kset (by first | omega | (simp; done) | (simp; omega)) (kback (by first | omega | (simp; done) | (simp; omega)) h)))))))))) (by with_reducible assumption) | with_reducible exact (And.imp (fun h => kalloc _ (kalloc _ (kback (by first | omega | (simp; done) | (simp; omega)) (kback (by first | omega | (simp; done) | (simp; omega)) h)))) (And.imp (fun h => kalloc _ (kalloc _ (kback (by first | omega | (simp; done) | (simp; omega)) (kback (by first | omega | (simp; done) | (simp; omega)) h)))) (And.imp (fun h => kalloc _ (kalloc _ (kback (by first | omega | (simp; done) | (simp; omega)) (kback (by first | omega | (simp; done) | (simp; omega)) h)))) (And.imp (fun h => kalloc _ (kalloc _ (kback (by first | omega | (simp; done) | (simp; omega)) (kback (by first | omega | (simp; done) | (simp; omega)) h)))) ((fun h => kalloc _ (kalloc _ (kback (by first | omega | (simp; done) | (simp; omega)) (kback (by first | omega | (simp; done) | (simp; omega)) h))))))))) (by with_reducible assumption) | with_reducible exact (And.imp (fun h => kdrew (kalloc _ (kalloc _ (kback (by first | omega | (simp; done) | (simp; omega)) (kback (by first | omega | (simp; done) | (simp; omega)) (kundrew h)))))) (And.imp (fun h => kdrew (kalloc _ (kalloc _ (kback (by first | omega | (simp; done) | (simp; omega)) (kback (by first | omega | (simp; done) | (simp; omega)) (kundrew h)))))) (And.imp (fun h => kdrew (kalloc _ (kalloc _ (kback (by first | omega | (simp; done) | (simp; omega)) (kback (by first | omega | (simp; done) | (simp; omega)) (kundrew h)))))) (And.imp (fun h => kdrew (kalloc _ (kalloc _ (kback (by first | omega | (simp; done) | (simp; omega)) (kback (by first | omega | (simp; done) | (simp; omega)) (kundrew h)))))) ((fun h => kdrew (kalloc _ (kalloc _ (kback (by first | omega | (simp; done) | (simp; omega)) (kback (by first | omega | (simp; done) | (simp; omega)) (kundrew h))))))))))) (by with_reducible assumption) | (simp; done) | (refine ⟨?_, ?_, ?_, ?_, ?_⟩ <;> (refine kdrew ?_; repeat (first | exact kfresh (by first | rfl | (simp; done)) (by rfl) | refine kalloc _ ?_)); done))) (first | (go_at_call 44; refine Calls.mono (specMinus_any _ _ _ _ _ _ hp (by omega) (by omega) (by omega) (by omega)) ?_; rw [← Hv1.out, ← Hv2.out]; rintro e wq ⟨rfl, hB⟩; (obtain ⟨hBc, hBf⟩ := bcell hB; have hBs := hB.size; (try simp at hBs); (try have hBq1 := Nat.lt_of_succ_le hBs); (try have hBq2 := Nat.lt_of_succ_lt hBq1); (try have hBq3 := Nat.lt_of_succ_lt hBq2); (try have hBzw0 : w.heap.size < wq.heap.size := (by omega)); (try have hBzw1 : w.heap.size + 1 < wq.heap.size := (by omega)); (try have hBzw2 : w.heap.size + 1 + 1 < wq.heap.size := (by omega)); (try have hBzw3 : w.heap.size + 1 + 1 + 1 < wq.heap.size := (by omega)); (try have hBzw4 : w.heap.size + 1 + 1 + 1 + 1 < wq.heap.size := (by omega))); have rb0_0 : wq.cell? ⟨w.heap.size + 1 + 1, 0, none⟩ = some (.int .i64 0) := (by (first | with_reducible assumption | (repeat (first | with_reducible assumption | ((with_reducible refine kfresh ?_ ?_) <;> (first | with_reducible rfl | (simp; done))) | ((with_reducible refine ksameS ?_); focus ((repeat (first | with_reducible exact kis_of (by with_reducible assumption) | with_reducible refine kis_set ?_ | ((with_reducible refine kis_new ?_ ?_) <;> (first | with_reducible rfl | rfl | (simp; done))) | with_reducible refine kis_alloc _ ?_ | with_reducible refine kis_drew ?_ | with_reducible refine kis_call (by with_reducible assumption) ?_ | with_reducible exact kis_of (kcall (by with_reducible assumption) (by with_reducible assumption)))); done)) | with_reducible refine kother (by decide) ?_ | with_reducible refine kset (by first | omega | (simp; done) | (simp; omega)) ?_ | with_reducible refine kalloc _ ?_ | with_reducible refine kdrew ?_ | with_reducible refine kdrewN ?_ | with_reducible refine kcall (by with_reducible assumption) ?_)))); have rf0_0 : wq.frozen? ⟨w.heap.size + 1 + 1, 0, none⟩ = false := (by (first | with_reducible assumption | (repeat (first | with_reducible assumption | with_reducible refine fdrew ?_ | with_reducible refine fdrewN ?_ | with_reducible refine fset ?_ | ((with_reducible refine fallocNew ?_) <;> (first | with_reducible rfl | (simp; done))) | ((with_reducible refine kfro (by with_reducible assumption) ?_ ?_); focus (first | with_reducible assumption | omega | (simp; done) | (simp; omega))) | ((with_reducible refine falloc ?_ ?_); focus (first | with_reducible assumption | omega | (simp; done) | (simp; omega))))))); have rb0_1 : wq.cell? ⟨w.heap.size + 1 + 1, 1, none⟩ = some (.int .i64 0) := (by (first | with_reducible assumption | (repeat (first | with_reducible assumption | ((with_reducible refine kfresh ?_ ?_) <;> (first | with_reducible rfl | (simp; done))) | ((with_reducible refine ksameS ?_); focus ((repeat (first | with_reducible exact kis_of (by with_reducible assumption) | with_reducible refine kis_set ?_ | ((with_reducible refine kis_new ?_ ?_) <;> (first | with_reducible rfl | rfl | (simp; done))) | with_reducible refine kis_alloc _ ?_ | with_reducible refine kis_drew ?_ | with_reducible refine kis_call (by with_reducible assumption) ?_ | with_reducible exact kis_of (kcall (by with_reducible assumption) (by with_reducible assumption)))); done)) | with_reducible refine kother (by decide) ?_ | with_reducible refine kset (by first | omega | (simp; done) | (simp; omega)) ?_ | with_reducible refine kalloc _ ?_ | with_reducible refine kdrew ?_ | with_reducible refine kdrewN ?_ | with_reducible refine kcall (by with_reducible assumption) ?_)))); have rf0_1 : wq.frozen? ⟨w.heap.size + 1 + 1, 1, none⟩ = false := (by (first | with_reducible assumption | (repeat (first | with_reducible assumption | with_reducible refine fdrew ?_ | with_reducible refine fdrewN ?_ | with_reducible refine fset ?_ | ((with_reducible refine fallocNew ?_) <;> (first | with_reducible rfl | (simp; done))) | ((with_reducible refine kfro (by with_reducible assumption) ?_ ?_); focus (first | with_reducible assumption | omega | (simp; done) | (simp; omega))) | ((with_reducible refine falloc ?_ ?_); focus (first | with_reducible assumption | omega | (simp; done) | (simp; omega))))))); have rb0_2 : wq.cell? ⟨w.heap.size + 1 + 1, 2, none⟩ = some (.int .i64 0) := (by (first | with_reducible assumption | (repeat (first | with_reducible assumption | ((with_reducible refine kfresh ?_ ?_) <;> (first | with_reducible rfl | (simp; done))) | ((with_reducible refine ksameS ?_); focus ((repeat (first | with_reducible exact kis_of (by with_reducible assumption) | with_reducible refine kis_set ?_ | ((with_reducible refine kis_new ?_ ?_) <;> (first | with_reducible rfl | rfl | (simp; done))) | with_reducible refine kis_alloc _ ?_ | with_reducible refine kis_drew ?_ | with_reducible refine kis_call (by with_reducible assumption) ?_ | with_reducible exact kis_of (kcall (by with_reducible assumption) (by with_reducible assumption)))); done)) | with_reducible refine kother (by decide) ?_ | with_reducible refine kset (by first | omega | (simp; done) | (simp; omega)) ?_ | with_reducible refine kalloc _ ?_ | with_reducible refine kdrew ?_ | with_reducible refine kdrewN ?_ | with_reducible refine kcall (by with_reducible assumption) ?_)))); have rf0_2 : wq.frozen? ⟨w.heap.size + 1 + 1, 2, none⟩ = false := (by (first | with_reducible assumption | (repeat (first | with_reducible assumption | with_reducible refine fdrew ?_ | with_reducible refine fdrewN ?_ | with_reducible refine fset ?_ | ((with_reducible refine fallocNew ?_) <;> (first | with_reducible rfl | (simp; done))) | ((with_reducible refine kfro (by with_reducible assumption) ?_ ?_); focus (first | with_reducible assumption | omega | (simp; done) | (simp; omega))) | ((with_reducible refine falloc ?_ ?_); focus (first | with_reducible assumption | omega | (simp; done) | (simp; omega))))))); clear hBc hBf) | (go_at_call 43; refine Calls.mono (specTL_any _ _ _ _ _ _ _ hp hc (by omega) (by omega) (by omega) (by omega)) ?_; rw [← Hv3.out, ← Hv4.out, ← Hv5.out]; rintro e wq ⟨rfl, hB⟩; (obtain ⟨hBc, hBf⟩ := bcell hB; have hBs := hB.size; (try simp at hBs); (try have hBq1 := Nat.lt_of_succ_le hBs); (try have hBq2 := Nat.lt_of_succ_lt hBq1); (try have hBq3 := Nat.lt_of_succ_lt hBq2); (try have hBzw0 : w.heap.size < wq.heap.size := (by omega)); (try have hBzw1 : w.heap.size + 1 < wq.heap.size := (by omega)); (try have hBzw2 : w.heap.size + 1 + 1 < wq.heap.size := (by omega)); (try have hBzw3 : w.heap.size + 1 + 1 + 1 < wq.heap.size := (by omega)); (try have hBzw4 : w.heap.size + 1 + 1 + 1 + 1 < wq.heap.size := (by omega))); have rb0_0 : wq.cell? ⟨w.heap.size + 1 + 1, 0, none⟩ = some (.int .i64 0) := (by (first | with_reducible assumption | (repeat (first | with_reducible assumption | ((with_reducible refine kfresh ?_ ?_) <;> (first | with_reducible rfl | (simp; done))) | ((with_reducible refine ksameS ?_); focus ((repeat (first | with_reducible exact kis_of (by with_reducible assumption) | with_reducible refine kis_set ?_ | ((with_reducible refine kis_new ?_ ?_) <;> (first | with_reducible rfl | rfl | (simp; done))) | with_reducible refine kis_alloc _ ?_ | with_reducible refine kis_drew ?_ | with_reducible refine kis_call (by with_reducible assumption) ?_ | with_reducible exact kis_of (kcall (by with_reducible assumption) (by with_reducible assumption)))); done)) | with_reducible refine kother (by decide) ?_ | with_reducible refine kset (by first | omega | (simp; done) | (simp; omega)) ?_ | with_reducible refine kalloc _ ?_ | with_reducible refine kdrew ?_ | with_reducible refine kdrewN ?_ | with_reducible refine kcall (by with_reducible assumption) ?_)))); have rf0_0 : wq.frozen? ⟨w.heap.size + 1 + 1, 0, none⟩ = false := (by (first | with_reducible assumption | (repeat (first | with_reducible assumption | with_reducible refine fdrew ?_ | with_reducible refine fdrewN ?_ | with_reducible refine fset ?_ | ((with_reducible refine fallocNew ?_) <;> (first | with_reducible rfl | (simp; done))) | ((with_reducible refine kfro (by with_reducible assumption) ?_ ?_); focus (first | with_reducible assumption | omega | (simp; done) | (simp; omega))) | ((with_reducible refine falloc ?_ ?_); focus (first | with_reducible assumption | omega | (simp; done) | (simp; omega))))))); have rb0_1 : wq.cell? ⟨w.heap.size + 1 + 1, 1, none⟩ = some (.int .i64 0) := (by (first | with_reducible assumption | (repeat (first | with_reducible assumption | ((with_reducible refine kfresh ?_ ?_) <;> (first | with_reducible rfl | (simp; done))) | ((with_reducible refine ksameS ?_); focus ((repeat (first | with_reducible exact kis_of (by with_reducible assumption) | with_reducible refine kis_set ?_ | ((with_reducible refine kis_new ?_ ?_) <;> (first | with_reducible rfl | rfl | (simp; done))) | with_reducible refine kis_alloc _ ?_ | with_reducible refine kis_drew ?_ | with_reducible refine kis_call (by with_reducible assumption) ?_ | with_reducible exact kis_of (kcall (by with_reducible assumption) (by with_reducible assumption)))); done)) | with_reducible refine kother (by decide) ?_ | with_reducible refine kset (by first | omega | (simp; done) | (simp; omega)) ?_ | with_reducible refine kalloc _ ?_ | with_reducible refine kdrew ?_ | with_reducible refine kdrewN ?_ | with_reducible refine kcall (by with_reducible assumption) ?_)))); have rf0_1 : wq.frozen? ⟨w.heap.size + 1 + 1, 1, none⟩ = false := (by (first | with_reducible assumption | (repeat (first | with_reducible assumption | with_reducible refine fdrew ?_ | with_reducible refine fdrewN ?_ | with_reducible refine fset ?_ | ((with_reducible refine fallocNew ?_) <;> (first | with_reducible rfl | (simp; done))) | ((with_reducible refine kfro (by with_reducible assumption) ?_ ?_); focus (first | with_reducible assumption | omega | (simp; done) | (simp; omega))) | ((with_reducible refine falloc ?_ ?_); focus (first | with_reducible assumption | omega | (simp; done) | (simp; omega))))))); have rb0_2 : wq.cell? ⟨w.heap.size + 1 + 1, 2, none⟩ = some (.int .i64 0) := (by (first | with_reducible assumption | (repeat (first | with_reducible assumption | ((with_reducible refine kfresh ?_ ?_) <;> (first | with_reducible rfl | (simp; done))) | ((with_reducible refine ksameS ?_); focus ((repeat (first | with_reducible exact kis_of (by with_reducible assumption) | with_reducible refine kis_set ?_ | ((with_reducible refine kis_new ?_ ?_) <;> (first | with_reducible rfl | rfl | (simp; done))) | with_reducible refine kis_alloc _ ?_ | with_reducible refine kis_drew ?_ | with_reducible refine kis_call (by with_reducible assumption) ?_ | with_reducible exact kis_of (kcall (by with_reducible assumption) (by with_reducible assumption)))); done)) | with_reducible refine kother (by decide) ?_ | with_reducible refine kset (by first | omega | (simp; done) | (simp; omega)) ?_ | with_reducible refine kalloc _ ?_ | with_reducible refine kdrew ?_ | with_reducible refine kdrewN ?_ | with_reducible refine kcall (by with_reducible assumption) ?_)))); have rf0_2 : wq.frozen? ⟨w.heap.size + 1 + 1, 2, none⟩ = false := (by (first | with_reducible assumption | (repeat (first | with_reducible assumption | with_reducible refine fdrew ?_ | with_reducible refine fdrewN ?_ | with_reducible refine fset ?_ | ((with_reducible refine fallocNew ?_) <;> (first | with_reducible rfl | (simp; done))) | ((with_reducible refine kfro (by with_reducible assumption) ?_ ?_); focus (first | with_reducible assumption | omega | (simp; done) | (simp; omega))) | ((with_reducible refine falloc ?_ ?_); focus (first | with_reducible assumption | omega | (simp; done) | (simp; omega))))))); clear hBc hBf))
    all_goals
      go_wp2_with fail
      go_meet
      refine ⟨?_, ?_, ?_, by with_reducible assumption, ?_⟩
      · (repeat (first | with_reducible assumption | ((with_reducible refine kfresh ?_ ?_) <;> (first | with_reducible rfl | (simp; done))) | ((with_reducible refine ksameS ?_); focus ((repeat (first | with_reducible exact kis_of (by with_reducible assumption) | with_reducible refine kis_set ?_ | ((with_reducible refine kis_new ?_ ?_) <;> (first | with_reducible rfl | rfl | (simp; done))) | with_reducible refine kis_alloc _ ?_ | with_reducible refine kis_drew ?_ | with_reducible refine kis_call (by with_reducible assumption) ?_ | with_reducible exact kis_of (kcall (by with_reducible assumption) (by with_reducible assumption)))); done)) | with_reducible refine kother (by decide) ?_ | with_reducible refine kset (by first | omega | (simp; done) | (simp; omega)) ?_ | with_reducible refine kalloc _ ?_ | with_reducible refine kdrew ?_ | with_reducible refine kdrewN ?_ | with_reducible refine kcall (by with_reducible assumption) ?_))
      · (repeat (first | with_reducible assumption | ((with_reducible refine kfresh ?_ ?_) <;> (first | with_reducible rfl | (simp; done))) | ((with_reducible refine ksameS ?_); focus ((repeat (first | with_reducible exact kis_of (by with_reducible assumption) | with_reducible refine kis_set ?_ | ((with_reducible refine kis_new ?_ ?_) <;> (first | with_reducible rfl | rfl | (simp; done))) | with_reducible refine kis_alloc _ ?_ | with_reducible refine kis_drew ?_ | with_reducible refine kis_call (by with_reducible assumption) ?_ | with_reducible exact kis_of (kcall (by with_reducible assumption) (by with_reducible assumption)))); done)) | with_reducible refine kother (by decide) ?_ | with_reducible refine kset (by first | omega | (simp; done) | (simp; omega)) ?_ | with_reducible refine kalloc _ ?_ | with_reducible refine kdrew ?_ | with_reducible refine kdrewN ?_ | with_reducible refine kcall (by with_reducible assumption) ?_))
      · (repeat (first | with_reducible assumption | ((with_reducible refine kfresh ?_ ?_) <;> (first | with_reducible rfl | (simp; done))) | ((with_reducible refine ksameS ?_); focus ((repeat (first | with_reducible exact kis_of (by with_reducible assumption) | with_reducible refine kis_set ?_ | ((with_reducible refine kis_new ?_ ?_) <;> (first | with_reducible rfl | rfl | (simp; done))) | with_reducible refine kis_alloc _ ?_ | with_reducible refine kis_drew ?_ | with_reducible refine kis_call (by with_reducible assumption) ?_ | with_reducible exact kis_of (kcall (by with_reducible assumption) (by with_reducible assumption)))); done)) | with_reducible refine kother (by decide) ?_ | with_reducible refine kset (by first | omega | (simp; done) | (simp; omega)) ?_ | with_reducible refine kalloc _ ?_ | with_reducible refine kdrew ?_ | with_reducible refine kdrewN ?_ | with_reducible refine kcall (by with_reducible assumption) ?_))
      · (repeat (first | with_reducible exact Below.refl _ _ | with_reducible refine balloc ?_ _ | with_reducible refine bdrewN ?_ _ | with_reducible refine Below.drew ?_ | with_reducible refine bthen ?_ (by with_reducible assumption) | with_reducible refine Below.setCell ?_ (by first | (simp; done) | (simp; omega)) _))
  case' rest => obtain ⟨qA0, qA1, qA2, ⟨bA0, bA1, bA2, bA3, bA4⟩, hxA⟩ := hcut
  obtain ⟨wA, rfl⟩ : ∃ wA : World, wA = wc := ⟨_, rfl⟩
  have lA_1 : w.heap.size + 1 + 1 < wA.heap.size := World.block_lt_of_cell? wA ⟨w.heap.size + 1 + 1, 0, none⟩ qA0
  have lA_2 : w.heap.size < wA.heap.size := World.block_lt_of_cell? wA ⟨w.heap.size, 0, none⟩ bA0
  have lA_3 : w.heap.size + 1 < wA.heap.size := World.block_lt_of_cell? wA ⟨w.heap.size + 1, 0, none⟩ bA3
  have HV := Lib.hid (show tn1 p c k1 k2 a1 a2 = v3 ∧ tn2 p c k1 k2 a1 a2 = v4 ∧ tn3 p c k1 k2 a1 a2 = v5 from by
    try rw [Hv5.out]
    try rw [Hv4.out]
    try rw [Hv3.out]
    try rw [Hv2.out]
    try rw [Hv1.out]
    all_goals (exact ⟨rfl, rfl, rfl⟩))
  go_wp2
  (refine bodyPost_ret (v := .agg #[.int .i64 (tn1 p c k1 k2 a1 a2), .int .i64 (tn2 p c k1 k2 a1 a2), .int .i64 (tn3 p c k1 k2 a1 a2)]) (by simp [results, Try.results22, go_sem, HV.out.1, HV.out.2.1, HV.out.2.2, *]) rfl ⟨?_, ?_⟩)
  · rfl
  · (repeat (first | with_reducible exact Below.refl _ _ | with_reducible exact hxA | with_reducible refine balloc ?_ _ | with_reducible refine bdrewN ?_ _ | with_reducible refine Below.drew ?_ | with_reducible refine bthen ?_ (by with_reducible assumption) | with_reducible refine Below.setCell ?_ (by first | (simp; done) | (simp; omega)) _))

end Go.Proofs.Ytmpgpmcmhbpjeab

namespace Go.Proofs.Ytmpgpmcmhbpjeab
open Go.RowKit

set_option maxRecDepth 20000 in
set_option maxHeartbeats 400000 in
theorem specOn_any (p a1 a2 l1 l2 l3 : Int) (w : World) (hp : isP p = true) (ha1 : 0 ≤ a1 ∧ a1 ≤ 31) (ha2 : 0 ≤ a2 ∧ a2 ≤ 31) (hl1 : 0 ≤ l1 ∧ l1 ≤ 31) (hl2 : 0 ≤ l2 ∧ l2 ≤ 31) (hl3 : 0 ≤ l3 ∧ l3 ≤ 31) :
    Calls Try.prog 23 #[.int .i64 p, .agg #[.int .i64 a1, .int .i64 a2], .agg #[.int .i64 l1, .int .i64 l2, .int .i64 l3]] w fun e w' =>
      e = .returned (.bool (onB p a1 a2 l1 l2 l3)) ∧ Below w.heap.size w w' := by
  have hr := isP_range hp
  have m1 := mulP hl1 ha1
  have m2 := mulP hl2 ha2
  cases hb : ((l1 * a1 + l2 * a2 + l3) % p == 0)
  all_goals
    have HV := Lib.hid (show onB p a1 a2 l1 l2 l3 = _ from hb)
    go_enter Try.func23, Try.ntmps23
    go_wp2
    go_ret
    exact ⟨ret_bool HV.out.symm, by (repeat (first | exact Below.refl _ _ | assumption | refine balloc ?_ _ | refine bdrewN ?_ _ | refine Below.drew ?_ | refine Below.setCell ?_ (by first | (simp; done) | (simp; omega)) _))⟩

end Go.Proofs.Ytmpgpmcmhbpjeab

namespace Go.Proofs.Ytmpgpmcmhbpjeab
open Go.RowKit

/-- What a call leaves that returns a slice of its own alone. -/
def OnePost (T : TypeId) (k : Nat) (L : List Int) (n : Nat) (w : World) (e : Ending) (w' : World) : Prop :=
  ∃ v, e = .returned v ∧ w'.ownsRow w.heap.size T k v n (ints L) ∧ Below w.heap.size w w'

end Go.Proofs.Ytmpgpmcmhbpjeab

namespace Go.Proofs.Ytmpgpmcmhbpjeab
open Go.RowKit

set_option maxRecDepth 20000 in
set_option maxHeartbeats 1000000 in
theorem specProduct_any (p c a1 a2 b1 b2 : Int) (w : World) (hp : isP p = true) (hc : colB c = true) (ha1 : 0 ≤ a1 ∧ a1 ≤ 31) (ha2 : 0 ≤ a2 ∧ a2 ≤ 31) (hb1 : 0 ≤ b1 ∧ b1 ≤ 31) (hb2 : 0 ≤ b2 ∧ b2 ≤ 31) :
    Calls Try.prog 74 #[.int .i64 p, .int .i64 c, .agg #[.int .i64 a1, .int .i64 a2], .agg #[.int .i64 b1, .int .i64 b2]] w fun e w' =>
      e = .returned (.int .i64 (prd p c a1 a2 b1 b2)) ∧ Below w.heap.size w w' := by
  have hr := isP_range hp
  have m1 := mulP ha1 hb1
  have m2 := mulP ha2 hb2
  have m3 := mulP ha1 hb2
  have m4 := mulP ha2 hb1
  rcases colB_ways hc with rfl | rfl | rfl
  · have HV := Lib.hid (prd_0 p a1 a2 b1 b2)
    go_enter Try.func74, Try.ntmps74
    (go_wp2_with fail; refine Calls.mono (mod_any _ _ _ (by omega) (by omega) (by omega) (by omega)) ?_; rintro e w' ⟨rfl, rfl⟩)
    go_wp2
    go_ret
    exact ⟨ret_int HV.out.symm, by (repeat (first | exact Below.refl _ _ | assumption | refine balloc ?_ _ | refine bdrewN ?_ _ | refine Below.drew ?_ | refine Below.setCell ?_ (by first | (simp; done) | (simp; omega)) _))⟩
  · have HV := Lib.hid (prd_1 p a1 a2 b1 b2)
    go_enter Try.func74, Try.ntmps74
    (go_wp2_with fail; refine Calls.mono (mod_any _ _ _ (by omega) (by omega) (by omega) (by omega)) ?_; rintro e w' ⟨rfl, rfl⟩)
    go_wp2
    go_ret
    exact ⟨ret_int HV.out.symm, by (repeat (first | exact Below.refl _ _ | assumption | refine balloc ?_ _ | refine bdrewN ?_ _ | refine Below.drew ?_ | refine Below.setCell ?_ (by first | (simp; done) | (simp; omega)) _))⟩
  · have HV := Lib.hid (prd_2 p a1 a2 b1 b2)
    go_enter Try.func74, Try.ntmps74
    (go_wp2_with fail; refine Calls.mono (mod_any _ _ _ (by omega) (by omega) (by omega) (by omega)) ?_; rintro e w' ⟨rfl, rfl⟩)
    go_wp2
    go_ret
    exact ⟨ret_int HV.out.symm, by (repeat (first | exact Below.refl _ _ | assumption | refine balloc ?_ _ | refine bdrewN ?_ _ | refine Below.drew ?_ | refine Below.setCell ?_ (by first | (simp; done) | (simp; omega)) _))⟩

end Go.Proofs.Ytmpgpmcmhbpjeab

namespace Go.Proofs.Ytmpgpmcmhbpjeab
open Go.RowKit

set_option maxRecDepth 20000 in
set_option maxHeartbeats 1000000 in
theorem specQuad_any (p c a1 a2 b1 b2 : Int) (w : World) (hp : isP p = true) (hc : colB c = true) (ha1 : 0 ≤ a1 ∧ a1 ≤ 31) (ha2 : 0 ≤ a2 ∧ a2 ≤ 31) (hb1 : 0 ≤ b1 ∧ b1 ≤ 31) (hb2 : 0 ≤ b2 ∧ b2 ≤ 31) :
    Calls Try.prog 42 #[.int .i64 p, .int .i64 c, .agg #[.int .i64 a1, .int .i64 a2], .agg #[.int .i64 b1, .int .i64 b2]] w fun e w' =>
      e = .returned (.int .i64 (qdr p c a1 a2 b1 b2)) ∧ Below w.heap.size w w' := by
  have hr := isP_range hp
  have r1 := modR31 (b1 - a1) hp
  have r2 := modR31 (b2 - a2) hp
  have HV := Lib.hid (show qdr p c a1 a2 b1 b2 = prd p c ((b1 - a1) % p) ((b2 - a2) % p) ((b1 - a1) % p) ((b2 - a2) % p) from rfl)
  go_enter Try.func42, Try.ntmps42
  (go_wp2_with fail; refine Calls.mono (specMinus_any _ _ _ _ _ _ hp (by omega) (by omega) (by omega) (by omega)) ?_; rintro e w1 ⟨rfl, hB1⟩; obtain ⟨hB1c, hB1f⟩ := bcell hB1; have hB1s := hB1.size; (try simp at hB1s); (try have hB1q1 := Nat.lt_of_succ_le hB1s); (try have hB1q2 := Nat.lt_of_succ_lt hB1q1); (try have hB1q3 := Nat.lt_of_succ_lt hB1q2); (try have hB1zw0 : w.heap.size < w1.heap.size := (by omega)); (try have hB1zw1 : w.heap.size + 1 < w1.heap.size := (by omega)); (try have hB1zw2 : w.heap.size + 1 + 1 < w1.heap.size := (by omega)); (try have hB1zw3 : w.heap.size + 1 + 1 + 1 < w1.heap.size := (by omega)); (try have hB1zw4 : w.heap.size + 1 + 1 + 1 + 1 < w1.heap.size := (by omega)))
  (go_wp2_with fail; refine Calls.mono (specProduct_any _ _ _ _ _ _ _ hp hc (by omega) (by omega) (by omega) (by omega)) ?_; rintro e w2 ⟨rfl, hB2⟩; obtain ⟨hB2c, hB2f⟩ := bcell hB2; have hB2s := hB2.size; (try simp at hB2s); (try have hB2q1 := Nat.lt_of_succ_le hB2s); (try have hB2q2 := Nat.lt_of_succ_lt hB2q1); (try have hB2q3 := Nat.lt_of_succ_lt hB2q2); (try have hB2zw0 : w.heap.size < w2.heap.size := (by omega)); (try have hB2zw1 : w.heap.size + 1 < w2.heap.size := (by omega)); (try have hB2zw2 : w.heap.size + 1 + 1 < w2.heap.size := (by omega)); (try have hB2zw3 : w.heap.size + 1 + 1 + 1 < w2.heap.size := (by omega)); (try have hB2zw4 : w.heap.size + 1 + 1 + 1 + 1 < w2.heap.size := (by omega)); (try have hB2zw10 : w1.heap.size < w2.heap.size := (by omega)); (try have hB2zw11 : w1.heap.size + 1 < w2.heap.size := (by omega)); (try have hB2zw12 : w1.heap.size + 1 + 1 < w2.heap.size := (by omega)); (try have hB2zw13 : w1.heap.size + 1 + 1 + 1 < w2.heap.size := (by omega)); (try have hB2zw14 : w1.heap.size + 1 + 1 + 1 + 1 < w2.heap.size := (by omega)))
  go_wp2
  go_ret
  exact ⟨ret_int HV.out.symm, by (repeat (first | exact Below.refl _ _ | refine balloc ?_ _ | refine bdrewN ?_ _ | refine Below.drew ?_ | refine bthen ?_ hB1 | refine bthen ?_ hB2 | refine Below.setCell ?_ (by first | (simp; done) | (simp; omega)) _))⟩

end Go.Proofs.Ytmpgpmcmhbpjeab

namespace Go.Proofs.Ytmpgpmcmhbpjeab
open Go.RowKit

theorem infoPt : (Try.prog.info? 28).map (fun i => (i.zero, i.size, i.bytes)) = some (some (.agg #[.int .i64 0, .int .i64 0]), 2, 16) := by kernel_rfl
/-- What is appended: a point's two numbers, each one cell. -/
theorem pt_cells {w : World} {x y : Int} {t : TypeId} {q : Nat} (hq : q = w.heap.size) : ∀ j u, [Value.int .i64 x, Value.int .i64 y][j]? = some u → (w.alloc (.cells #[.int .i64 x, .int .i64 y] t)).cell? ((⟨q, 0, none⟩ : Addr).add j) = some u := by
  intro j u hj
  subst hq
  match j, hj with
  | 0, hj => simp at hj; subst hj; exact kfresh (by simp) rfl
  | 1, hj => simp at hj; subst hj; exact kfresh (by simp) rfl
theorem pt_one (x y : Int) : ∀ u ∈ [Value.int .i64 x, Value.int .i64 y], u.oneCell' = true := by
  intro u hu; simp at hu; rcases hu with rfl | rfl <;> rfl

end Go.Proofs.Ytmpgpmcmhbpjeab

namespace Go.Proofs.Ytmpgpmcmhbpjeab
open Go.RowKit

set_option maxRecDepth 20000 in
set_option maxHeartbeats 4000000 in
theorem specAt02_any (p col a1 a2 q : Int) (w : World) (hp : isP p = true) (hc : colB col = true) (ha1 : 0 ≤ a1 ∧ a1 ≤ 31) (ha2 : 0 ≤ a2 ∧ a2 ≤ 31) :
    Calls Try.prog 21 #[.int .i64 p, .int .i64 col, .agg #[.int .i64 a1, .int .i64 a2], .int .i64 q] w fun e w' =>
      OnePost 28 2 (flat (gridL (fun x y => qdr p col a1 a2 x y == q) p.toNat p.toNat)) (gridL (fun x y => qdr p col a1 a2 x y == q) p.toNat p.toNat).length w e w' := by
  have hr := isP_range hp
  have hcr := colB_range hc
  have hc0 : (p.toNat : Int) = p := Int.toNat_of_nonneg (by omega)
  have HC0 := Lib.hid hc0
  clear hc0
  obtain ⟨g, hg⟩ : ∃ g : Int → Int → Int, g = fun x y => qdr p col a1 a2 x y := ⟨_, rfl⟩
  have hon : ∀ (x y : Int) (w : World), 0 ≤ x ∧ x ≤ 31 → 0 ≤ y ∧ y ≤ 31 → Calls Try.prog 42 #[.int .i64 p, .int .i64 col, .agg #[.int .i64 a1, .int .i64 a2], .agg #[.int .i64 x, .int .i64 y]] w fun e w' => e = .returned (.int .i64 (g x y)) ∧ Below w.heap.size w w' := fun x y w hx hy => by
    rw [hg]; exact specQuad_any p col a1 a2 x y w hp hc ha1 ha2 hx hy
  obtain ⟨f, hf⟩ : ∃ f : Int → Int → Bool, f = fun x y => g x y == q := ⟨_, rfl⟩
  have hfe : (fun x y => qdr p col a1 a2 x y == q) = f := by rw [hf, hg]
  rw [hfe]
  have HFE := Lib.hid (show ∀ x y, (g x y == q) = f x y from fun x y => by rw [hf])
  clear hf hg hfe
  have HON := Lib.hid hon
  clear hon
  obtain ⟨i0, hi, hz0, hz1, hz2⟩ := info_parts infoPt
  go_enter Try.func21, Try.ntmps21
  go_wp2_with fail
  have l0 : (w.alloc (.cells #[.int .i64 a1, .int .i64 a2] 28)).cell? ⟨w.heap.size, 0, none⟩ = some (.int .i64 a1) := kfresh rfl rfl
  have l1' : (w.alloc (.cells #[.int .i64 a1, .int .i64 a2] 28)).cell? ⟨w.heap.size, 1, none⟩ = some (.int .i64 a2) := kfresh rfl rfl
  have hbw : Below w.heap.size w (w.alloc (.cells #[.int .i64 a1, .int .i64 a2] 28)) := (Below.refl _ _).alloc (Nat.le_refl _) _
  have hsw : (w.alloc (.cells #[.int .i64 a1, .int .i64 a2] 28)).heap.size = w.heap.size + 1 := by simp
  obtain ⟨w0, hw0⟩ : ∃ w0, w0 = (w.alloc (.cells #[.int .i64 a1, .int .i64 a2] 28)) := ⟨_, rfl⟩
  rw [← hw0] at l0 l1' hbw hsw ⊢
  clear hw0
  have H0 := Lib.hid (And.intro l0 l1')
  clear l0 l1'
  go_loopw [9, 10, 11] (fun v i _ wr => ∃ x : Nat, (x : Int) ≤ p ∧ i = .int .i64 x ∧ wr.ownsRow (w.heap.size + 1) 28 2 v (gridL f p.toNat x).length (ints (flat (gridL f p.toNat x))) ∧ Below (w.heap.size + 1) w0 wr) (fun _ i _ _ => p.toNat - (intOf i).toNat)
  case atStart => exact ⟨0, by omega, rfl, (own_lit0 (base := w.heap.size + 1) (b := w.heap.size + 1) w0 28 2 (by omega) hsw.symm), (Below.refl _ _).alloc (by omega) _⟩
  case round =>
    obtain ⟨x, hx, rfl, hown, hbel⟩ := hrel
    have hgl := gridL_le f p.toNat x
    by_cases hlt : (x : Int) < p
    · have HG := Lib.hid (gridL_succ f p.toNat x)
      have hxm : x * p.toNat ≤ 961 := Nat.le_trans (Nat.mul_le_mul (by omega : x ≤ 31) (by omega : p.toNat ≤ 31)) (by decide)
      obtain ⟨wo, rfl⟩ : ∃ wo : World, wo = wr := ⟨_, rfl⟩
      go_wp2_with fail
      go_loopw [9, 11] (fun v i wr => ∃ y : Nat, (y : Int) ≤ p ∧ i = .int .i64 y ∧ wr.ownsRow (w.heap.size + 1) 28 2 v (gridL f p.toNat x ++ rowL f x y).length (ints (flat (gridL f p.toNat x ++ rowL f x y))) ∧ Below (w.heap.size + 1) w0 wr) (fun _ i _ => p.toNat - (intOf i).toNat)
      case atStart => exact ⟨0, by omega, rfl, by simpa [rowL] using hown, hbel⟩
      case round =>
        obtain ⟨y, hy, rfl, hown, hbel⟩ := hrel
        have hrl := rowL_le f x y
        by_cases hlty : (y : Int) < p
        · have k0 : wr.cell? ⟨w.heap.size, 0, none⟩ = some (.int .i64 a1) := (cell_old hbel (by omega) 0).trans H0.out.1
          have k1 : wr.cell? ⟨w.heap.size, 1, none⟩ = some (.int .i64 a2) := (cell_old hbel (by omega) 1).trans H0.out.2
          have hsr := hbel.size
          have hlw : w.heap.size < wr.heap.size := by omega
          obtain ⟨z, hz⟩ : ∃ z, z = g (x : Int) (y : Int) := ⟨_, rfl⟩
          have hfz : (z == q) = f x y := by rw [hz]; exact HFE.out _ _
          have hcall := fun w' => HON.out (x : Int) (y : Int) w' (by omega) (by omega)
          rw [← hz] at hcall
          clear hz
          rcases bool_ways (f x y) with ht | ht
          · have HU := Lib.hid (rowL_no ht)
            rw [ht] at hfz
            go_wp2_with fail
            refine Calls.mono (hcall _) ?_
            rintro e w2 ⟨rfl, hB2⟩
            (obtain ⟨hB2c, hB2f⟩ := bcell hB2; have hB2s := hB2.size; (try simp at hB2s); (try have hB2q1 := Nat.lt_of_succ_le hB2s); (try have hB2q2 := Nat.lt_of_succ_lt hB2q1); (try have hB2q3 := Nat.lt_of_succ_lt hB2q2); (try have hB2zw0 : w.heap.size < w2.heap.size := (by omega)); (try have hB2zw1 : w.heap.size + 1 < w2.heap.size := (by omega)); (try have hB2zw2 : w.heap.size + 1 + 1 < w2.heap.size := (by omega)); (try have hB2zw3 : w.heap.size + 1 + 1 + 1 < w2.heap.size := (by omega)); (try have hB2zw4 : w.heap.size + 1 + 1 + 1 + 1 < w2.heap.size := (by omega)); (try have hB2zwr0 : wr.heap.size < w2.heap.size := (by omega)); (try have hB2zwr1 : wr.heap.size + 1 < w2.heap.size := (by omega)); (try have hB2zwr2 : wr.heap.size + 1 + 1 < w2.heap.size := (by omega)); (try have hB2zwr3 : wr.heap.size + 1 + 1 + 1 < w2.heap.size := (by omega)); (try have hB2zwr4 : wr.heap.size + 1 + 1 + 1 + 1 < w2.heap.size := (by omega)))
            have ho1 := own_call (hown.alloc _) hB2
            go_wp2
            go_roundw
            case rel => exact ⟨y + 1, by omega, by go_num, by rw [HU.out]; exact ho1, (hbel.alloc (by omega) _).trans (hB2.mono (by simp; omega))⟩
            case measure => have := HC0.out; simp [intOf]; omega
          · have HU := Lib.hid (rowL_yes ht)
            rw [ht] at hfz
            go_wp2_with fail
            refine Calls.mono (hcall _) ?_
            rintro e w2 ⟨rfl, hB2⟩
            (obtain ⟨hB2c, hB2f⟩ := bcell hB2; have hB2s := hB2.size; (try simp at hB2s); (try have hB2q1 := Nat.lt_of_succ_le hB2s); (try have hB2q2 := Nat.lt_of_succ_lt hB2q1); (try have hB2q3 := Nat.lt_of_succ_lt hB2q2); (try have hB2zw0 : w.heap.size < w2.heap.size := (by omega)); (try have hB2zw1 : w.heap.size + 1 < w2.heap.size := (by omega)); (try have hB2zw2 : w.heap.size + 1 + 1 < w2.heap.size := (by omega)); (try have hB2zw3 : w.heap.size + 1 + 1 + 1 < w2.heap.size := (by omega)); (try have hB2zw4 : w.heap.size + 1 + 1 + 1 + 1 < w2.heap.size := (by omega)); (try have hB2zwr0 : wr.heap.size < w2.heap.size := (by omega)); (try have hB2zwr1 : wr.heap.size + 1 < w2.heap.size := (by omega)); (try have hB2zwr2 : wr.heap.size + 1 + 1 < w2.heap.size := (by omega)); (try have hB2zwr3 : wr.heap.size + 1 + 1 + 1 < w2.heap.size := (by omega)); (try have hB2zwr4 : wr.heap.size + 1 + 1 + 1 + 1 < w2.heap.size := (by omega)))
            have ho1 := own_call (hown.alloc _) hB2
            have hb2 : Below (w.heap.size + 1) w0 w2 := (hbel.alloc (by omega) _).trans (hB2.mono (by simp; omega))
            have hs2 := hb2.size
            go_wp2_with (at_builtin; refine wpList_append_own _ rfl _ _ 46 rfl (w.heap.size + 1) 28 i0 _ 2 16 Try.underlying46 hi hz0 hz1 hz2 rfl (by decide) _ _ _ rfl (ho1.alloc _) ⟨w2.heap.size, 0, none⟩ 1 1 [.int .i64 x, .int .i64 y] rfl rfl (pt_cells rfl) (pt_one _ _) ?c3 ?c4 ?c5 ?_)
            case c3 => rw [List.length_append]; unfold maxLen; omega
            case c4 => rw [List.length_append]; omega
            case c5 => simp; omega
            intro v' w3 hown' hgrow _
            have hb3 : Below (w.heap.size + 1) w0 w3 := (hb2.alloc (by omega) _).grown hgrow (by simp; omega) (fun g hg => (ho1.lt g hg).1)
            have HN := Lib.hid (show w3.ownsRow (w.heap.size + 1) 28 2 v' (gridL f p.toNat x ++ rowL f x (y + 1)).length (ints (flat (gridL f p.toNat x ++ rowL f x (y + 1)))) from by
              rw [HU.out, ← List.append_assoc, flat_append, ints_append, List.length_append, List.length_append]; exact hown')
            clear hown' hgrow ho1 hown hbel
            go_wp2
            go_roundw
            case rel => exact ⟨y + 1, by omega, by go_num, HN.out, hb3⟩
            case measure => have := HC0.out; simp [intOf]; omega
        · have hy' : y = p.toNat := by have := HC0.out; omega
          subst hy'
          have HN := Lib.hid (show wr.ownsRow (w.heap.size + 1) 28 2 _ (gridL f p.toNat (x + 1)).length (ints (flat (gridL f p.toNat (x + 1)))) from by rw [HG.out]; exact hown)
          clear hown
          go_wp2
          go_roundw
          case rel => exact ⟨x + 1, by omega, by go_num, HN.out, hbel⟩
          case measure => have := HC0.out; simp [intOf]; omega
    · have hx' : x = p.toNat := by have := HC0.out; omega
      subst hx'
      have HO := Lib.hid hown
      clear hown
      go_wp2
      (refine bodyPost_ret (v := u9) (by simp [results, Try.results21, go_sem]) rfl ⟨_, rfl, own_base HO.out (by omega), hbw.trans (hbel.mono (by omega))⟩)

end Go.Proofs.Ytmpgpmcmhbpjeab

namespace Go.Proofs.Ytmpgpmcmhbpjeab
open Go.RowKit

set_option maxRecDepth 20000 in
set_option maxHeartbeats 400000 in
theorem specPoint_any (p a1 a2 : Int) (w : World) (hp : isP p = true) :
    Calls Try.prog 73 #[.int .i64 p, .agg #[.int .i64 a1, .int .i64 a2]] w fun e w' => e = .returned (.bool (numsIn p [a1, a2])) ∧ Below w.heap.size w w' := by
  have hr := isP_range hp
  cases h1 : inB a1 0 (p - 1) <;> cases h2 : inB a2 0 (p - 1)
  all_goals
    have HV := Lib.hid (numsIn2 p a1 a2)
    rw [h1, h2] at HV
    go_enter Try.func73, Try.ntmps73
    go_wp2_with (go_at_call 55; refine Calls.mono (in_any _ _ _ _) ?_; rintro e w' ⟨rfl, rfl⟩)
    go_ret
    exact ⟨ret_bool (by rw [HV.out]; rfl), balloc (Below.refl _ _) _⟩

set_option maxRecDepth 20000 in
set_option maxHeartbeats 1000000 in
theorem specCode1 (p a1 a2 : Int) (b : Nat) (w : World) (hb : b = w.heap.size) :
    Calls Try.prog 41 #[.int .i64 p, .slice (some ⟨b, 0, none⟩) 1 1] (w.alloc (.cells #[.int .i64 a1, .int .i64 a2] 28)) fun e w' => e = .returned (.int .i64 (codeOf p (numsIn p [a1, a2]))) ∧ Below w.heap.size w w' := by
  subst hb
  cases hp : isP p
  · go_enter Try.func41, Try.ntmps41
    go_wp2_with (go_at_call 72; refine Calls.mono (field_any _ _) ?_; rintro e w' ⟨rfl, rfl⟩)
    go_ret
    exact ⟨ret_int (by rw [codeOf_no hp]), by (repeat (first | exact Below.refl _ _ | assumption | refine balloc ?_ _ | refine bdrewN ?_ _ | refine Below.drew ?_ | refine Below.setCell ?_ (by first | (simp; done) | (simp; omega)) _))⟩
  · cases h0 : numsIn p [a1, a2]
    · have HV := Lib.hid (show codeOf p (numsIn p [a1, a2]) = 2 by rw [codeOf_out hp (by simp [h0])])
      go_enter Try.func41, Try.ntmps41
      go_wp2_with (go_at_call 72; refine Calls.mono (field_any _ _) ?_; rintro e w' ⟨rfl, rfl⟩)
      refine wp_loop_rounds 2 ?_
      rw [rounds_succ]
      (go_wp2_with fail; refine Calls.mono (specPoint_any _ _ _ _ hp) ?_; rintro e w1 ⟨rfl, hB1⟩)
      have hs1 : w.heap.size < w1.heap.size := by have := hB1.size; simp at this; omega
      have hc1 : ∀ j, w1.cell? ⟨w.heap.size, j, none⟩ = (w.alloc (.cells #[.int .i64 a1, .int .i64 a2] 28)).cell? ⟨w.heap.size, j, none⟩ := fun j => cell_back hB1 (by simp) j
      go_wp2
      go_ret
      exact ⟨ret_int (by first | exact HV.out.symm | exact (codeOf_out hp (by simp)).symm | exact (codeOf_in hp (by simp)).symm), bthen (balloc (Below.refl _ _) _) hB1⟩
    · have HV := Lib.hid (show codeOf p (numsIn p [a1, a2]) = 0 by rw [codeOf_in hp (by simp [h0])])
      go_enter Try.func41, Try.ntmps41
      go_wp2_with (go_at_call 72; refine Calls.mono (field_any _ _) ?_; rintro e w' ⟨rfl, rfl⟩)
      refine wp_loop_rounds 2 ?_
      rw [rounds_succ]
      (go_wp2_with fail; refine Calls.mono (specPoint_any _ _ _ _ hp) ?_; rintro e w1 ⟨rfl, hB1⟩)
      have hs1 : w.heap.size < w1.heap.size := by have := hB1.size; simp at this; omega
      have hc1 : ∀ j, w1.cell? ⟨w.heap.size, j, none⟩ = (w.alloc (.cells #[.int .i64 a1, .int .i64 a2] 28)).cell? ⟨w.heap.size, j, none⟩ := fun j => cell_back hB1 (by simp) j
      go_wp2
      rw [rounds_succ]
      go_wp2
      go_ret
      exact ⟨ret_int (by first | exact HV.out.symm | exact (codeOf_out hp (by simp)).symm | exact (codeOf_in hp (by simp)).symm), bthen (balloc (Below.refl _ _) _) hB1⟩

set_option maxRecDepth 20000 in
set_option maxHeartbeats 1000000 in
theorem specCode2 (p a1 a2 b1 b2 : Int) (b : Nat) (w : World) (hb : b = w.heap.size) :
    Calls Try.prog 41 #[.int .i64 p, .slice (some ⟨b, 0, none⟩) 2 2] (w.alloc (.cells #[.int .i64 a1, .int .i64 a2, .int .i64 b1, .int .i64 b2] 28)) fun e w' => e = .returned (.int .i64 (codeOf p (numsIn p [a1, a2, b1, b2]))) ∧ Below w.heap.size w w' := by
  subst hb
  cases hp : isP p
  · go_enter Try.func41, Try.ntmps41
    go_wp2_with (go_at_call 72; refine Calls.mono (field_any _ _) ?_; rintro e w' ⟨rfl, rfl⟩)
    go_ret
    exact ⟨ret_int (by rw [codeOf_no hp]), by (repeat (first | exact Below.refl _ _ | assumption | refine balloc ?_ _ | refine bdrewN ?_ _ | refine Below.drew ?_ | refine Below.setCell ?_ (by first | (simp; done) | (simp; omega)) _))⟩
  · cases h0 : numsIn p [a1, a2]
    · have HV := Lib.hid (show codeOf p (numsIn p [a1, a2, b1, b2]) = 2 by rw [numsApp2, codeOf_out hp (by simp [h0])])
      go_enter Try.func41, Try.ntmps41
      go_wp2_with (go_at_call 72; refine Calls.mono (field_any _ _) ?_; rintro e w' ⟨rfl, rfl⟩)
      refine wp_loop_rounds 3 ?_
      rw [rounds_succ]
      (go_wp2_with fail; refine Calls.mono (specPoint_any _ _ _ _ hp) ?_; rintro e w1 ⟨rfl, hB1⟩)
      have hs1 : w.heap.size < w1.heap.size := by have := hB1.size; simp at this; omega
      have hc1 : ∀ j, w1.cell? ⟨w.heap.size, j, none⟩ = (w.alloc (.cells #[.int .i64 a1, .int .i64 a2, .int .i64 b1, .int .i64 b2] 28)).cell? ⟨w.heap.size, j, none⟩ := fun j => cell_back hB1 (by simp) j
      go_wp2
      go_ret
      exact ⟨ret_int (by first | exact HV.out.symm | exact (codeOf_out hp (by simp)).symm | exact (codeOf_in hp (by simp)).symm), bthen (balloc (Below.refl _ _) _) hB1⟩
    · cases h1 : numsIn p [b1, b2]
      · have HV := Lib.hid (show codeOf p (numsIn p [a1, a2, b1, b2]) = 2 by rw [numsApp2, codeOf_out hp (by simp [h0, h1])])
        go_enter Try.func41, Try.ntmps41
        go_wp2_with (go_at_call 72; refine Calls.mono (field_any _ _) ?_; rintro e w' ⟨rfl, rfl⟩)
        refine wp_loop_rounds 3 ?_
        rw [rounds_succ]
        (go_wp2_with fail; refine Calls.mono (specPoint_any _ _ _ _ hp) ?_; rintro e w1 ⟨rfl, hB1⟩)
        have hs1 : w.heap.size < w1.heap.size := by have := hB1.size; simp at this; omega
        have hc1 : ∀ j, w1.cell? ⟨w.heap.size, j, none⟩ = (w.alloc (.cells #[.int .i64 a1, .int .i64 a2, .int .i64 b1, .int .i64 b2] 28)).cell? ⟨w.heap.size, j, none⟩ := fun j => cell_back hB1 (by simp) j
        go_wp2
        rw [rounds_succ]
        (go_wp2_with fail; refine Calls.mono (specPoint_any _ _ _ _ hp) ?_; rintro e w2 ⟨rfl, hB2⟩)
        have hs2 : w.heap.size < w2.heap.size := Nat.lt_of_lt_of_le hs1 hB2.size
        have hc2 : ∀ j, w2.cell? ⟨w.heap.size, j, none⟩ = (w.alloc (.cells #[.int .i64 a1, .int .i64 a2, .int .i64 b1, .int .i64 b2] 28)).cell? ⟨w.heap.size, j, none⟩ := fun j => (cell_back hB2 hs1 j).trans (hc1 j)
        go_wp2
        go_ret
        exact ⟨ret_int (by first | exact HV.out.symm | exact (codeOf_out hp (by simp)).symm | exact (codeOf_in hp (by simp)).symm), bthen (bthen (balloc (Below.refl _ _) _) hB1) hB2⟩
      · have HV := Lib.hid (show codeOf p (numsIn p [a1, a2, b1, b2]) = 0 by rw [numsApp2, codeOf_in hp (by simp [h0, h1])])
        go_enter Try.func41, Try.ntmps41
        go_wp2_with (go_at_call 72; refine Calls.mono (field_any _ _) ?_; rintro e w' ⟨rfl, rfl⟩)
        refine wp_loop_rounds 3 ?_
        rw [rounds_succ]
        (go_wp2_with fail; refine Calls.mono (specPoint_any _ _ _ _ hp) ?_; rintro e w1 ⟨rfl, hB1⟩)
        have hs1 : w.heap.size < w1.heap.size := by have := hB1.size; simp at this; omega
        have hc1 : ∀ j, w1.cell? ⟨w.heap.size, j, none⟩ = (w.alloc (.cells #[.int .i64 a1, .int .i64 a2, .int .i64 b1, .int .i64 b2] 28)).cell? ⟨w.heap.size, j, none⟩ := fun j => cell_back hB1 (by simp) j
        go_wp2
        rw [rounds_succ]
        (go_wp2_with fail; refine Calls.mono (specPoint_any _ _ _ _ hp) ?_; rintro e w2 ⟨rfl, hB2⟩)
        have hs2 : w.heap.size < w2.heap.size := Nat.lt_of_lt_of_le hs1 hB2.size
        have hc2 : ∀ j, w2.cell? ⟨w.heap.size, j, none⟩ = (w.alloc (.cells #[.int .i64 a1, .int .i64 a2, .int .i64 b1, .int .i64 b2] 28)).cell? ⟨w.heap.size, j, none⟩ := fun j => (cell_back hB2 hs1 j).trans (hc1 j)
        go_wp2
        rw [rounds_succ]
        go_wp2
        go_ret
        exact ⟨ret_int (by first | exact HV.out.symm | exact (codeOf_out hp (by simp)).symm | exact (codeOf_in hp (by simp)).symm), bthen (bthen (balloc (Below.refl _ _) _) hB1) hB2⟩

set_option maxRecDepth 20000 in
set_option maxHeartbeats 1000000 in
theorem specCode3 (p a1 a2 b1 b2 c1 c2 : Int) (b : Nat) (w : World) (hb : b = w.heap.size) :
    Calls Try.prog 41 #[.int .i64 p, .slice (some ⟨b, 0, none⟩) 3 3] (w.alloc (.cells #[.int .i64 a1, .int .i64 a2, .int .i64 b1, .int .i64 b2, .int .i64 c1, .int .i64 c2] 28)) fun e w' => e = .returned (.int .i64 (codeOf p (numsIn p [a1, a2, b1, b2, c1, c2]))) ∧ Below w.heap.size w w' := by
  subst hb
  cases hp : isP p
  · go_enter Try.func41, Try.ntmps41
    go_wp2_with (go_at_call 72; refine Calls.mono (field_any _ _) ?_; rintro e w' ⟨rfl, rfl⟩)
    go_ret
    exact ⟨ret_int (by rw [codeOf_no hp]), by (repeat (first | exact Below.refl _ _ | assumption | refine balloc ?_ _ | refine bdrewN ?_ _ | refine Below.drew ?_ | refine Below.setCell ?_ (by first | (simp; done) | (simp; omega)) _))⟩
  · cases h0 : numsIn p [a1, a2]
    · have HV := Lib.hid (show codeOf p (numsIn p [a1, a2, b1, b2, c1, c2]) = 2 by rw [numsApp3, codeOf_out hp (by simp [h0])])
      go_enter Try.func41, Try.ntmps41
      go_wp2_with (go_at_call 72; refine Calls.mono (field_any _ _) ?_; rintro e w' ⟨rfl, rfl⟩)
      refine wp_loop_rounds 4 ?_
      rw [rounds_succ]
      (go_wp2_with fail; refine Calls.mono (specPoint_any _ _ _ _ hp) ?_; rintro e w1 ⟨rfl, hB1⟩)
      have hs1 : w.heap.size < w1.heap.size := by have := hB1.size; simp at this; omega
      have hc1 : ∀ j, w1.cell? ⟨w.heap.size, j, none⟩ = (w.alloc (.cells #[.int .i64 a1, .int .i64 a2, .int .i64 b1, .int .i64 b2, .int .i64 c1, .int .i64 c2] 28)).cell? ⟨w.heap.size, j, none⟩ := fun j => cell_back hB1 (by simp) j
      go_wp2
      go_ret
      exact ⟨ret_int (by first | exact HV.out.symm | exact (codeOf_out hp (by simp)).symm | exact (codeOf_in hp (by simp)).symm), bthen (balloc (Below.refl _ _) _) hB1⟩
    · cases h1 : numsIn p [b1, b2]
      · have HV := Lib.hid (show codeOf p (numsIn p [a1, a2, b1, b2, c1, c2]) = 2 by rw [numsApp3, codeOf_out hp (by simp [h0, h1])])
        go_enter Try.func41, Try.ntmps41
        go_wp2_with (go_at_call 72; refine Calls.mono (field_any _ _) ?_; rintro e w' ⟨rfl, rfl⟩)
        refine wp_loop_rounds 4 ?_
        rw [rounds_succ]
        (go_wp2_with fail; refine Calls.mono (specPoint_any _ _ _ _ hp) ?_; rintro e w1 ⟨rfl, hB1⟩)
        have hs1 : w.heap.size < w1.heap.size := by have := hB1.size; simp at this; omega
        have hc1 : ∀ j, w1.cell? ⟨w.heap.size, j, none⟩ = (w.alloc (.cells #[.int .i64 a1, .int .i64 a2, .int .i64 b1, .int .i64 b2, .int .i64 c1, .int .i64 c2] 28)).cell? ⟨w.heap.size, j, none⟩ := fun j => cell_back hB1 (by simp) j
        go_wp2
        rw [rounds_succ]
        (go_wp2_with fail; refine Calls.mono (specPoint_any _ _ _ _ hp) ?_; rintro e w2 ⟨rfl, hB2⟩)
        have hs2 : w.heap.size < w2.heap.size := Nat.lt_of_lt_of_le hs1 hB2.size
        have hc2 : ∀ j, w2.cell? ⟨w.heap.size, j, none⟩ = (w.alloc (.cells #[.int .i64 a1, .int .i64 a2, .int .i64 b1, .int .i64 b2, .int .i64 c1, .int .i64 c2] 28)).cell? ⟨w.heap.size, j, none⟩ := fun j => (cell_back hB2 hs1 j).trans (hc1 j)
        go_wp2
        go_ret
        exact ⟨ret_int (by first | exact HV.out.symm | exact (codeOf_out hp (by simp)).symm | exact (codeOf_in hp (by simp)).symm), bthen (bthen (balloc (Below.refl _ _) _) hB1) hB2⟩
      · cases h2 : numsIn p [c1, c2]
        · have HV := Lib.hid (show codeOf p (numsIn p [a1, a2, b1, b2, c1, c2]) = 2 by rw [numsApp3, codeOf_out hp (by simp [h0, h1, h2])])
          go_enter Try.func41, Try.ntmps41
          go_wp2_with (go_at_call 72; refine Calls.mono (field_any _ _) ?_; rintro e w' ⟨rfl, rfl⟩)
          refine wp_loop_rounds 4 ?_
          rw [rounds_succ]
          (go_wp2_with fail; refine Calls.mono (specPoint_any _ _ _ _ hp) ?_; rintro e w1 ⟨rfl, hB1⟩)
          have hs1 : w.heap.size < w1.heap.size := by have := hB1.size; simp at this; omega
          have hc1 : ∀ j, w1.cell? ⟨w.heap.size, j, none⟩ = (w.alloc (.cells #[.int .i64 a1, .int .i64 a2, .int .i64 b1, .int .i64 b2, .int .i64 c1, .int .i64 c2] 28)).cell? ⟨w.heap.size, j, none⟩ := fun j => cell_back hB1 (by simp) j
          go_wp2
          rw [rounds_succ]
          (go_wp2_with fail; refine Calls.mono (specPoint_any _ _ _ _ hp) ?_; rintro e w2 ⟨rfl, hB2⟩)
          have hs2 : w.heap.size < w2.heap.size := Nat.lt_of_lt_of_le hs1 hB2.size
          have hc2 : ∀ j, w2.cell? ⟨w.heap.size, j, none⟩ = (w.alloc (.cells #[.int .i64 a1, .int .i64 a2, .int .i64 b1, .int .i64 b2, .int .i64 c1, .int .i64 c2] 28)).cell? ⟨w.heap.size, j, none⟩ := fun j => (cell_back hB2 hs1 j).trans (hc1 j)
          go_wp2
          rw [rounds_succ]
          (go_wp2_with fail; refine Calls.mono (specPoint_any _ _ _ _ hp) ?_; rintro e w3 ⟨rfl, hB3⟩)
          have hs3 : w.heap.size < w3.heap.size := Nat.lt_of_lt_of_le hs2 hB3.size
          have hc3 : ∀ j, w3.cell? ⟨w.heap.size, j, none⟩ = (w.alloc (.cells #[.int .i64 a1, .int .i64 a2, .int .i64 b1, .int .i64 b2, .int .i64 c1, .int .i64 c2] 28)).cell? ⟨w.heap.size, j, none⟩ := fun j => (cell_back hB3 hs2 j).trans (hc2 j)
          go_wp2
          go_ret
          exact ⟨ret_int (by first | exact HV.out.symm | exact (codeOf_out hp (by simp)).symm | exact (codeOf_in hp (by simp)).symm), bthen (bthen (bthen (balloc (Below.refl _ _) _) hB1) hB2) hB3⟩
        · have HV := Lib.hid (show codeOf p (numsIn p [a1, a2, b1, b2, c1, c2]) = 0 by rw [numsApp3, codeOf_in hp (by simp [h0, h1, h2])])
          go_enter Try.func41, Try.ntmps41
          go_wp2_with (go_at_call 72; refine Calls.mono (field_any _ _) ?_; rintro e w' ⟨rfl, rfl⟩)
          refine wp_loop_rounds 4 ?_
          rw [rounds_succ]
          (go_wp2_with fail; refine Calls.mono (specPoint_any _ _ _ _ hp) ?_; rintro e w1 ⟨rfl, hB1⟩)
          have hs1 : w.heap.size < w1.heap.size := by have := hB1.size; simp at this; omega
          have hc1 : ∀ j, w1.cell? ⟨w.heap.size, j, none⟩ = (w.alloc (.cells #[.int .i64 a1, .int .i64 a2, .int .i64 b1, .int .i64 b2, .int .i64 c1, .int .i64 c2] 28)).cell? ⟨w.heap.size, j, none⟩ := fun j => cell_back hB1 (by simp) j
          go_wp2
          rw [rounds_succ]
          (go_wp2_with fail; refine Calls.mono (specPoint_any _ _ _ _ hp) ?_; rintro e w2 ⟨rfl, hB2⟩)
          have hs2 : w.heap.size < w2.heap.size := Nat.lt_of_lt_of_le hs1 hB2.size
          have hc2 : ∀ j, w2.cell? ⟨w.heap.size, j, none⟩ = (w.alloc (.cells #[.int .i64 a1, .int .i64 a2, .int .i64 b1, .int .i64 b2, .int .i64 c1, .int .i64 c2] 28)).cell? ⟨w.heap.size, j, none⟩ := fun j => (cell_back hB2 hs1 j).trans (hc1 j)
          go_wp2
          rw [rounds_succ]
          (go_wp2_with fail; refine Calls.mono (specPoint_any _ _ _ _ hp) ?_; rintro e w3 ⟨rfl, hB3⟩)
          have hs3 : w.heap.size < w3.heap.size := Nat.lt_of_lt_of_le hs2 hB3.size
          have hc3 : ∀ j, w3.cell? ⟨w.heap.size, j, none⟩ = (w.alloc (.cells #[.int .i64 a1, .int .i64 a2, .int .i64 b1, .int .i64 b2, .int .i64 c1, .int .i64 c2] 28)).cell? ⟨w.heap.size, j, none⟩ := fun j => (cell_back hB3 hs2 j).trans (hc2 j)
          go_wp2
          rw [rounds_succ]
          go_wp2
          go_ret
          exact ⟨ret_int (by first | exact HV.out.symm | exact (codeOf_out hp (by simp)).symm | exact (codeOf_in hp (by simp)).symm), bthen (bthen (bthen (balloc (Below.refl _ _) _) hB1) hB2) hB3⟩

end Go.Proofs.Ytmpgpmcmhbpjeab

namespace Go.Proofs.Ytmpgpmcmhbpjeab
open Go.RowKit

theorem calloc {W : World} {b j : Nat} (o : Obj) (h : b < W.heap.size) : (W.alloc o).cell? ⟨b, j, none⟩ = W.cell? ⟨b, j, none⟩ := World.cell?_of_block (Below.heap_alloc W o b h)
theorem numsIn1 (p c : Int) : numsIn p [c] = inB c 0 (p - 1) := by simp [numsIn]
theorem numsApp21 (p a b c : Int) : numsIn p [a, b, c] = (numsIn p [a, b] && numsIn p [c]) := by
  simp [numsIn, Bool.and_assoc]

end Go.Proofs.Ytmpgpmcmhbpjeab

namespace Go.Proofs.Ytmpgpmcmhbpjeab
open Go.RowKit

set_option linter.unusedSimpArgs false in
set_option maxRecDepth 20000 in
set_option maxHeartbeats 4000000 in
theorem specIs_any (p a1 a2 a3 : Int) (w : World) (hp : isP p = true) :
    Calls Try.prog 71 #[.int .i64 p, .agg #[.int .i64 a1, .int .i64 a2, .int .i64 a3]] w fun e w' =>
      e = .returned (.bool (numsIn p [a1, a2, a3])) ∧ Below w.heap.size w w' := by
  have hr := isP_range hp
  go_enter Try.func71, Try.ntmps71
  rcases bool_ways (numsIn p [a1, a2]) with hd1 | hd1
  · skip
    go_wp2_with fail
    refine Calls.mono (specPoint_any _ _ _ _ hp) ?_
    rintro e w1 ⟨rfl, hB1⟩
    (obtain ⟨hB1c, hB1f⟩ := bcell hB1; have hB1s := hB1.size; (try simp at hB1s); (try have hB1q1 := Nat.lt_of_succ_le hB1s); (try have hB1q2 := Nat.lt_of_succ_lt hB1q1); (try have hB1q3 := Nat.lt_of_succ_lt hB1q2); (try have hB1zw0 : w.heap.size < w1.heap.size := (by omega)); (try have hB1zw1 : w.heap.size + 1 < w1.heap.size := (by omega)); (try have hB1zw2 : w.heap.size + 1 + 1 < w1.heap.size := (by omega)); (try have hB1zw3 : w.heap.size + 1 + 1 + 1 < w1.heap.size := (by omega)); (try have hB1zw4 : w.heap.size + 1 + 1 + 1 + 1 < w1.heap.size := (by omega)))
    have HV := Lib.hid (show numsIn p [a1, a2, a3] = false from by simp [numsApp21, numsIn1, hd1])
    go_wp2
    (refine bodyPost_ret (v := .bool (numsIn p [a1, a2, a3])) (by simp [results, Try.results71, go_sem, HV.out, *]) rfl ⟨?_, ?_⟩)
    · rfl
    · (repeat (first | with_reducible exact Below.refl _ _ | with_reducible refine balloc ?_ _ | with_reducible refine bdrewN ?_ _ | with_reducible refine Below.drew ?_ | with_reducible refine bthen ?_ (by with_reducible assumption) | with_reducible refine Below.setCell ?_ (by first | (simp; done) | (simp; omega)) _))
  · have hd1q := nums2 hd1
    go_wp2_with fail
    refine Calls.mono (specPoint_any _ _ _ _ hp) ?_
    rintro e w1 ⟨rfl, hB1⟩
    (obtain ⟨hB1c, hB1f⟩ := bcell hB1; have hB1s := hB1.size; (try simp at hB1s); (try have hB1q1 := Nat.lt_of_succ_le hB1s); (try have hB1q2 := Nat.lt_of_succ_lt hB1q1); (try have hB1q3 := Nat.lt_of_succ_lt hB1q2); (try have hB1zw0 : w.heap.size < w1.heap.size := (by omega)); (try have hB1zw1 : w.heap.size + 1 < w1.heap.size := (by omega)); (try have hB1zw2 : w.heap.size + 1 + 1 < w1.heap.size := (by omega)); (try have hB1zw3 : w.heap.size + 1 + 1 + 1 < w1.heap.size := (by omega)); (try have hB1zw4 : w.heap.size + 1 + 1 + 1 + 1 < w1.heap.size := (by omega)))
    go_wp2_with fail
    refine Calls.mono (in_any _ _ _ _) ?_
    rintro e w' ⟨rfl, rfl⟩
    have HV := Lib.hid (show numsIn p [a1, a2, a3] = inB a3 0 (p - 1) from by simp [numsApp21, numsIn1, hd1])
    go_wp2
    (refine bodyPost_ret (v := .bool (numsIn p [a1, a2, a3])) (by simp [results, Try.results71, go_sem, HV.out, *]) rfl ⟨?_, ?_⟩)
    · rfl
    · (repeat (first | with_reducible exact Below.refl _ _ | with_reducible refine balloc ?_ _ | with_reducible refine bdrewN ?_ _ | with_reducible refine Below.drew ?_ | with_reducible refine bthen ?_ (by with_reducible assumption) | with_reducible refine Below.setCell ?_ (by first | (simp; done) | (simp; omega)) _))

end Go.Proofs.Ytmpgpmcmhbpjeab

namespace Go.Proofs.Ytmpgpmcmhbpjeab
open Go.RowKit

set_option maxRecDepth 20000 in
set_option maxHeartbeats 400000 in
theorem specColour_any (c : Int) (w : World) :
    Calls Try.prog 95 #[.int .i64 c] w fun e w' => e = .returned (.bool (colB c)) ∧ w = w' := by
  have HV := Lib.hid (show inB c 0 2 = colB c from rfl)
  go_enter Try.func95, Try.ntmps95
  go_wp2_with (go_at_call 55; refine Calls.mono (in_any _ _ _ _) ?_; rintro e w' ⟨rfl, rfl⟩)
  go_ret
  exact ⟨ret_bool HV.out, rfl⟩

end Go.Proofs.Ytmpgpmcmhbpjeab
