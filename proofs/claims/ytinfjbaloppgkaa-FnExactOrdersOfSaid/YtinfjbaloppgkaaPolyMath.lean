/-
  Spread polynomials: the values one behind the other; they come round; no program.
-/
import Derived.Test.YtinfjbaloppgkaaBaseMath
namespace Go.Proofs.Ytinfjbaloppgkaa
open Go.RowKit

/-- From the values of n and n + 1 to those of n + 1 and n + 2. -/
def stp (p s : Int) (q : Int × Int) : Int × Int := (q.2, (2 * (1 - 2 * s) * q.2 - q.1 + 2 * s) % p)
/-- The values of n and n + 1. -/
def svp (p s : Int) : Nat → Int × Int
  | 0 => (0, s)
  | n + 1 => stp p s (svp p s n)
/-- S(n). -/
def sv (p s : Int) (n : Nat) : Int := (svp p s n).1
theorem svp_zero (p s : Int) : svp p s 0 = (0, s) := rfl
theorem svp_succ (p s : Int) (n : Nat) : svp p s (n + 1) = stp p s (svp p s n) := rfl
theorem svp_snd (p s : Int) (n : Nat) : (svp p s n).2 = sv p s (n + 1) := rfl
theorem sv_zero (p s : Int) : sv p s 0 = 0 := rfl
theorem sv_one (p s : Int) : sv p s 1 = s := rfl
theorem sv_two (p s : Int) (n : Nat) : sv p s (n + 2) = (2 * (1 - 2 * s) * sv p s (n + 1) - sv p s n + 2 * s) % p := rfl
theorem svp_r {p s : Int} (hp : isP p = true) (h0 : 0 ≤ s) (h1 : s < p) (n : Nat) : (0 ≤ (svp p s n).1 ∧ (svp p s n).1 < p) ∧ (0 ≤ (svp p s n).2 ∧ (svp p s n).2 < p) := by
  have hr := isP_range hp
  induction n with
  | zero => exact ⟨⟨Int.le_refl _, by show (0 : Int) < p; omega⟩, h0, h1⟩
  | succ n ih => exact ⟨ih.2, Int.emod_nonneg _ (by omega), Int.emod_lt_of_pos _ (by omega)⟩
theorem sv_r {p s : Int} (hp : isP p = true) (h0 : 0 ≤ s) (h1 : s < p) (n : Nat) : 0 ≤ sv p s n ∧ sv p s n < p := (svp_r hp h0 h1 n).1
/-- The model's step: it takes a rest of the factor first. -/
theorem sv_spec (p s a b : Int) : ((2 * (1 - 2 * s)).tmod p * b - a + 2 * s) % p = (2 * (1 - 2 * s) * b - a + 2 * s) % p := by
  have e : (2 * (1 - 2 * s)).tmod p * b - a + 2 * s = (2 * (1 - 2 * s) * b - a + 2 * s) - p * ((2 * (1 - 2 * s)).tdiv p * b) := by
    rw [Int.tmod_def]
    generalize (2 * (1 - 2 * s)).tdiv p = q
    generalize 2 * (1 - 2 * s) = x
    rw [Int.sub_mul, Int.mul_assoc]
    omega
  rw [e]
  exact Int.sub_mul_emod_self_left _ _ _

/-- Whether the two first values come again within so many steps. -/
def comesBack (p s : Int) : Nat → Int × Int → Bool
  | 0, _ => false
  | k + 1, q => (q.1 == 0 && q.2 == s) || comesBack p s k (stp p s q)
theorem comesBack_at {p s : Int} : ∀ {k n : Nat}, comesBack p s k (svp p s n) = true → ∃ m, n ≤ m ∧ m < n + k ∧ svp p s m = (0, s)
  | 0, _, h => by cases h
  | k + 1, n, h => by
    rw [comesBack, Bool.or_eq_true] at h
    rcases h with h | h
    · rw [Bool.and_eq_true, beq_iff_eq, beq_iff_eq] at h
      exact ⟨n, Nat.le_refl _, by omega, Prod.ext h.1 h.2⟩
    · obtain ⟨m, h1, h2, h3⟩ := comesBack_at (n := n + 1) h
      exact ⟨m, by omega, by omega, h3⟩
theorem back_fin : ∀ n : Fin 32, isP (n.val : Int) = true → ∀ s : Fin 32, s.val < n.val → comesBack (n.val : Int) (s.val : Int) 32 (stp (n.val : Int) (s.val : Int) (0, (s.val : Int))) = true := by decide +kernel
theorem back {p s : Int} (hp : isP p = true) (h0 : 0 ≤ s) (h1 : s < p) : ∃ m, 1 ≤ m ∧ m ≤ 32 ∧ svp p s m = (0, s) := by
  have hr := isP_range hp
  obtain ⟨n, rfl⟩ := Int.eq_ofNat_of_zero_le (by omega : 0 ≤ p)
  obtain ⟨k, rfl⟩ := Int.eq_ofNat_of_zero_le h0
  obtain ⟨m, a, b, c⟩ := comesBack_at (n := 1) (back_fin ⟨n, by omega⟩ hp ⟨k, by omega⟩ (by show k < n; omega))
  exact ⟨m, a, by omega, c⟩

/-- S(n) is 0, n at least 1. -/
def isOrd (p s : Int) (n : Nat) : Bool := decide (1 ≤ n) && (sv p s n == 0)
/-- S(n), S(n + 1) are those of 0. -/
def isPer (p s : Int) (n : Nat) : Bool := decide (1 ≤ n) && (sv p s n == 0 && sv p s (n + 1) == s)
def ordN (p s : Int) : Nat := ((List.range 33).find? (isOrd p s)).getD 0
def perN (p s : Int) : Nat := ((List.range 33).find? (isPer p s)).getD 0
theorem per_some {p s : Int} (hp : isP p = true) (h0 : 0 ≤ s) (h1 : s < p) : ∃ m, m < 33 ∧ isPer p s m = true := by
  obtain ⟨m, a, b, c⟩ := back hp h0 h1
  refine ⟨m, by omega, ?_⟩
  have e1 : sv p s m = 0 := by rw [sv, c]
  have e2 : sv p s (m + 1) = s := by rw [← svp_snd, c]
  simp [isPer, e1, e2, a]
theorem isPer_ord {p s : Int} {n : Nat} (h : isPer p s n = true) : isOrd p s n = true := by
  simp only [isPer, isOrd, Bool.and_eq_true] at h ⊢
  exact ⟨h.1, h.2.1⟩
/-- The least number below n that answers yes, where one does. -/
theorem find_least {f : Nat → Bool} {n m : Nat} (hm : m < n) (h : f m = true) : ∃ k, (List.range n).find? f = some k ∧ k < n ∧ f k = true ∧ NoYes f k := by
  cases e : (List.range n).find? f with
  | none =>
    rw [List.find?_eq_none] at e
    exact absurd h (e m (List.mem_range.2 hm))
  | some k =>
    refine ⟨k, rfl, List.mem_range.1 (List.mem_of_find?_eq_some e), List.find?_some e, ?_⟩
    obtain ⟨_, as, bs, e1, e2⟩ := List.find?_eq_some_iff_append.1 e
    intro c hc
    have hl : k = as.length := by
      have h1 : (List.range n)[as.length]? = some k := by rw [e1]; simp
      have h2 := (List.getElem?_eq_some_iff.1 h1).2
      simpa using h2.symm
    have hc2 : as[c]? = some c := by
      have h1 : (List.range n)[c]? = some c := List.getElem?_range (by have := List.mem_range.1 (List.mem_of_find?_eq_some e); omega)
      rw [e1, List.getElem?_append_left (by omega)] at h1
      exact h1
    have := e2 c (List.mem_of_getElem? hc2)
    simpa using this
theorem ord_is {p s : Int} (hp : isP p = true) (h0 : 0 ≤ s) (h1 : s < p) : isOrd p s (ordN p s) = true ∧ NoYes (isOrd p s) (ordN p s) ∧ ordN p s < 33 := by
  obtain ⟨m, h, e⟩ := per_some hp h0 h1
  obtain ⟨k, h2, h3, h4, h5⟩ := find_least h (isPer_ord e)
  have : ordN p s = k := by rw [ordN, h2]; rfl
  rw [this]; exact ⟨h4, h5, h3⟩
theorem per_is {p s : Int} (hp : isP p = true) (h0 : 0 ≤ s) (h1 : s < p) : isPer p s (perN p s) = true ∧ NoYes (isPer p s) (perN p s) ∧ perN p s < 33 := by
  obtain ⟨m, h, e⟩ := per_some hp h0 h1
  obtain ⟨k, h2, h3, h4, h5⟩ := find_least h e
  have : perN p s = k := by rw [perN, h2]; rfl
  rw [this]; exact ⟨h4, h5, h3⟩
theorem isOrd_pos {p s : Int} {n : Nat} (h : isOrd p s n = true) : 1 ≤ n ∧ sv p s n = 0 := by
  simp only [isOrd, Bool.and_eq_true, decide_eq_true_eq, beq_iff_eq] at h
  exact h
theorem isPer_pos {p s : Int} {n : Nat} (h : isPer p s n = true) : 1 ≤ n ∧ sv p s n = 0 ∧ sv p s (n + 1) = s := by
  simp only [isPer, Bool.and_eq_true, decide_eq_true_eq, beq_iff_eq] at h
  exact h

end Go.Proofs.Ytinfjbaloppgkaa
