/-
  Plain mathematics of inverses and roots modulo the ten primes; no program.
-/
import Derived.Test.YtjjeekmhpcllaaaMath
namespace Go.Proofs.Ytjjeekmhpcllaaa
open Go.RowKit

/-- No number before k answers yes. -/
def NoYes (f : Nat → Bool) (k : Nat) : Prop := ∀ c, c < k → f c = false
theorem NoYes.start (f : Nat → Bool) : NoYes f 0 := fun _ h => absurd h (by omega)
theorem NoYes.next {f : Nat → Bool} {k : Nat} (h : NoYes f k) (hk : f k = false) : NoYes f (k + 1) := fun c hc => by
  by_cases e : c = k
  · rw [e]; exact hk
  · exact h c (by omega)
theorem find_some {f : Nat → Bool} {n k : Nat} (h : NoYes f k) (hk : k < n) (hy : f k = true) : (List.range n).find? f = some k := by
  rw [List.find?_eq_some_iff_append]
  refine ⟨hy, List.range k, (List.range' (k + 1) (n - k - 1)), ?_, ?_⟩
  · rw [List.range_eq_range', List.range_eq_range', show (k :: List.range' (k + 1) (n - k - 1)) = List.range' k (n - k) by
      rw [show n - k = (n - k - 1) + 1 by omega, List.range'_succ]; rfl]
    have := @List.range'_append_1 0 k (n - k)
    rw [Nat.zero_add, show k + (n - k) = n by omega] at this
    exact this.symm
  · intro a ha
    have := h a (by simpa using ha)
    simp [this]
theorem find_none {f : Nat → Bool} {n k : Nat} (h : NoYes f k) (hk : n ≤ k) : (List.range n).find? f = none := by
  rw [List.find?_eq_none]
  intro x hx
  have := h x (by have := List.mem_range.1 hx; omega)
  simp [this]

/-- The inverse of m modulo n, or 0. -/
def invN (n m : Nat) : Nat := ((List.range n).find? fun b => m * b % n == 1).getD 0
/-- The inverse of a modulo p, or 0. -/
def inv (p a : Int) : Int := (invN p.toNat (a % p).toNat : Int)
theorem isP_ne {n : Nat} (h : isP (n : Int) = true) : 3 ≤ n ∧ n ≤ 31 := by have := isP_range h; omega
theorem pow_inv_fin : ∀ n : Fin 32, isP (n.val : Int) = true → ∀ m : Fin 32, m.val < n.val → m.val ^ (n.val - 2) % n.val = invN n.val m.val := by decide +kernel
theorem pow_inv {n m : Nat} (h : isP (n : Int) = true) (hm : m < n) : m ^ (n - 2) % n = invN n m :=
  have := isP_ne h
  pow_inv_fin ⟨n, by omega⟩ h ⟨m, by omega⟩ hm
theorem invN_mod (n m : Nat) : invN n (m % n) = invN n m := by
  unfold invN
  congr 2
  funext b
  rw [Nat.mod_mul_mod]
theorem inv_cast (n m : Nat) : inv (n : Int) (m : Int) = (invN n m : Int) := by
  unfold inv
  rw [show ((m : Int) % (n : Int)).toNat = m % n by omega, Int.toNat_natCast, invN_mod]
theorem invN_lt_fin : ∀ n : Fin 32, isP (n.val : Int) = true → ∀ m : Fin 32, m.val < n.val → invN n.val m.val < n.val ∧ (0 < m.val → m.val * invN n.val m.val % n.val = 1) := by decide +kernel
theorem inv_range {p : Int} (a : Int) (h : isP p = true) : 0 ≤ inv p a ∧ inv p a < p := by
  obtain ⟨n, rfl⟩ := Int.eq_ofNat_of_zero_le (by have := isP_range h; omega : 0 ≤ p)
  have h2 := isP_ne h
  have h3 : 0 ≤ a % (n : Int) := Int.emod_nonneg _ (by omega)
  have h4 : a % (n : Int) < n := Int.emod_lt_of_pos _ (by omega)
  have := (invN_lt_fin ⟨n, by omega⟩ h ⟨(a % (n : Int)).toNat, by omega⟩ (by show (a % (n : Int)).toNat < n; omega)).1
  unfold inv
  rw [Int.toNat_natCast]
  simp only at this
  omega

/-- One step of the power by squares: the exponent halves. -/
theorem pow_step_odd {n out base k r : Nat} (hk : k % 2 = 1) (h : out * base ^ k % n = r) : (out * base % n) * (base * base % n) ^ (k / 2) % n = r := by
  have e : k = k / 2 * 2 + 1 := by omega
  rw [← h, Nat.mul_mod, Nat.mod_mod, Nat.pow_mod, Nat.mod_mod, ← Nat.pow_mod, ← Nat.mul_mod]
  conv => rhs; rw [e, Nat.pow_succ, Nat.mul_comm (k / 2) 2, Nat.pow_mul, Nat.pow_two, Nat.mul_comm _ base, ← Nat.mul_assoc]
theorem pow_step_even {n out base k r : Nat} (hk : k % 2 = 0) (h : out * base ^ k % n = r) : out * (base * base % n) ^ (k / 2) % n = r := by
  have e : k = k / 2 * 2 := by omega
  rw [← h, Nat.mul_mod, Nat.pow_mod, Nat.mod_mod, ← Nat.pow_mod, ← Nat.mul_mod]
  conv => rhs; rw [e, Nat.mul_comm (k / 2) 2, Nat.pow_mul, Nat.pow_two]

/-- Whether r is a root of a. -/
def isRoot (n : Nat) (a : Int) (r : Nat) : Bool := ((r : Int) * r % n == a)
/-- The least root of a, if there is one. -/
def rootO (p a : Int) : Option Nat := (List.range p.toNat).find? (isRoot p.toNat a)
def rootV (p a : Int) : Int := ((rootO p a).getD 0 : Nat)
def rootB (p a : Int) : Bool := (rootO p a).isSome
theorem root_some {n k : Nat} {a : Int} (h : NoYes (isRoot n a) k) (hk : k < n) (hy : isRoot n a k = true) : rootV (n : Int) a = k ∧ rootB (n : Int) a = true := by
  have := find_some h hk hy
  simp [rootV, rootB, rootO, this]
theorem root_none {n k : Nat} {a : Int} (h : NoYes (isRoot n a) k) (hk : n ≤ k) : rootV (n : Int) a = 0 ∧ rootB (n : Int) a = false := by
  have := find_none h hk
  simp only [rootV, rootB, rootO, Int.toNat_natCast, this]
  exact ⟨rfl, rfl⟩

/-- Go's remainder twice is the rest. -/
theorem mod_twice (x p : Int) : (x.tmod p + p) % p = x % p := by
  rw [Int.add_emod_right]
  rw [Int.tmod_def, Int.sub_mul_emod_self_left]
theorem tmod_bounds (x p : Int) (h : 1 ≤ p) : -p < x.tmod p ∧ x.tmod p < p := by
  have h1 := Int.tmod_lt_of_pos x (by omega : 0 < p)
  have h2 := Int.lt_tmod_of_pos x (by omega : 0 < p)
  omega

end Go.Proofs.Ytjjeekmhpcllaaa
