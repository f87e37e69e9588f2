/-
  Coefficients of spread polynomials; lists told by a function; no program.
-/
import Derived.Test.YtmpgpmcmhbpjeaaMgc0

namespace Go.Proofs.Ytmpgpmcmhbpjeaa
open Go.RowKit

/-- The list of n numbers that a function tells. -/
def tab (n : Nat) (f : Nat → Int) : List Int := (List.range n).map f
theorem tab_length (n : Nat) (f : Nat → Int) : (tab n f).length = n := by simp [tab]
theorem tab_congr {n : Nat} {f g : Nat → Int} (h : ∀ i, i < n → f i = g i) : tab n f = tab n g := List.map_congr_left fun i hi => h i (List.mem_range.1 hi)
theorem tab_getD {n i : Nat} (f : Nat → Int) (h : i < n) : (tab n f).getD i 0 = f i := by
  simp [tab, List.getD_eq_getElem?_getD, List.getElem?_map, List.getElem?_range h]
theorem tab_set {n k : Nat} (f : Nat → Int) (x : Int) : (tab n f).set k x = tab n (fun i => if i = k then x else f i) := by
  apply List.ext_getElem
  · simp [tab]
  · intro i h1 h2
    rw [List.getElem_set]
    by_cases e : k = i
    · subst e; simp [tab]
    · have e2 : ¬ i = k := fun h => e h.symm
      simp [tab, e, e2]
theorem ints_set' (L : List Int) (i : Nat) (x : Int) : (ints L).set i (.int .i64 x) = ints (L.set i x) := by simp [ints, List.map_set]
/-- A list told by a function, one place turned: told by another function that agrees. -/
theorem tab_step {n k : Nat} {f g : Nat → Int} {x : Int} (h : ∀ i, i < n → g i = if i = k then x else f i) : (ints (tab n f)).set k (.int .i64 x) = ints (tab n g) := by
  rw [ints_set', tab_set, ← tab_congr h]

/-- The coefficients of S(j) and S(j + 1). -/
def cfp (p : Int) : Nat → (Nat → Int) × (Nat → Int)
  | 0 => (fun _ => 0, fun i => if i = 1 then 1 else 0)
  | j + 1 => ((cfp p j).2, fun i => (2 * (cfp p j).2 i - (cfp p j).1 i + (if i = 1 then 2 else 0) - (if i = 0 then 0 else 4 * (cfp p j).2 (i - 1))) % p)
theorem cfp_r {p : Int} (hp : isP p = true) (j i : Nat) : (0 ≤ (cfp p j).1 i ∧ (cfp p j).1 i < p) ∧ (0 ≤ (cfp p j).2 i ∧ (cfp p j).2 i < p) := by
  have hr := isP_range hp
  induction j generalizing i with
  | zero =>
    refine ⟨⟨Int.le_refl _, by show (0 : Int) < p; omega⟩, ?_⟩
    show 0 ≤ (if i = 1 then (1 : Int) else 0) ∧ (if i = 1 then (1 : Int) else 0) < p
    split <;> omega
  | succ j ih => exact ⟨(ih i).2, Int.emod_nonneg _ (by omega), Int.emod_lt_of_pos _ (by omega)⟩
theorem cfp_out (p : Int) (j : Nat) : (∀ i, j < i → (cfp p j).1 i = 0) ∧ (∀ i, j + 1 < i → (cfp p j).2 i = 0) := by
  induction j with
  | zero => exact ⟨fun _ _ => rfl, fun i hi => if_neg (by omega)⟩
  | succ j ih =>
    refine ⟨fun i hi => ih.2 i (by omega), fun i hi => ?_⟩
    show (2 * (cfp p j).2 i - (cfp p j).1 i + (if i = 1 then 2 else 0) - (if i = 0 then 0 else 4 * (cfp p j).2 (i - 1))) % p = 0
    rw [ih.2 i (by omega), ih.1 i (by omega), ih.2 (i - 1) (by omega), if_neg (by omega), if_neg (by omega)]
    simp
/-- The program's list behind its first loop's k-th round. -/
def s1 (g : Nat → Int) (k i : Nat) : Int := (if i = 1 then 2 else 0) + (if i < k then 2 * g i else 0) - (if 1 ≤ i ∧ i < k + 1 then 4 * g (i - 1) else 0)
theorem s1_r {g : Nat → Int} (h : ∀ i, 0 ≤ g i ∧ g i ≤ 31) (k i : Nat) : -124 ≤ s1 g k i ∧ s1 g k i ≤ 64 := by
  have h1 := h i
  have h2 := h (i - 1)
  unfold s1
  split <;> split <;> split <;> omega
theorem s1_zero (g : Nat → Int) (i : Nat) : s1 g 0 i = if i = 1 then 2 else 0 := by
  unfold s1
  rw [if_neg (show ¬ i < 0 by omega), if_neg (show ¬ (1 ≤ i ∧ i < 0 + 1) by omega)]
  omega
theorem s1_step (g : Nat → Int) (k i : Nat) : s1 g (k + 1) i = if i = k + 1 then (if k + 1 = k then 0 else s1 g k (k + 1)) - 4 * g k else (if i = k then s1 g k k + 2 * g k else s1 g k i) := by
  by_cases h1 : i = k + 1
  · subst h1
    rw [if_pos rfl, if_neg (by omega)]
    unfold s1
    rw [if_neg (show ¬ k + 1 < k + 1 by omega), if_neg (show ¬ k + 1 < k by omega), if_pos (show 1 ≤ k + 1 ∧ k + 1 < k + 1 + 1 by omega), if_neg (show ¬ (1 ≤ k + 1 ∧ k + 1 < k + 1) by omega), show k + 1 - 1 = k by omega]
    omega
  · rw [if_neg h1]
    by_cases h2 : i = k
    · subst h2
      rw [if_pos rfl]
      unfold s1
      rw [if_pos (show i < i + 1 by omega), if_neg (show ¬ i < i by omega)]
      by_cases h3 : 1 ≤ i
      · rw [if_pos (show 1 ≤ i ∧ i < i + 1 + 1 by omega), if_pos (show 1 ≤ i ∧ i < i + 1 by omega)]; omega
      · rw [if_neg (show ¬ (1 ≤ i ∧ i < i + 1 + 1) by omega), if_neg (show ¬ (1 ≤ i ∧ i < i + 1) by omega)]; omega
    · rw [if_neg h2]
      unfold s1
      have e1 : (i < k + 1) = (i < k) := by simp; omega
      have e2 : (1 ≤ i ∧ i < k + 1 + 1) = (1 ≤ i ∧ i < k + 1) := by simp; omega
      simp only [e1, e2]
/-- .. its second loop's. -/
def s2 (g f : Nat → Int) (la k i : Nat) : Int := s1 g la i - (if i < k then f i else 0)
theorem s2_r {g f : Nat → Int} (h : ∀ i, 0 ≤ g i ∧ g i ≤ 31) (hf : ∀ i, 0 ≤ f i ∧ f i ≤ 31) (la k i : Nat) : -155 ≤ s2 g f la k i ∧ s2 g f la k i ≤ 64 := by
  have h1 := s1_r h la i
  have h2 := hf i
  unfold s2
  split <;> omega
theorem s2_step (g f : Nat → Int) (la k i : Nat) : s2 g f la (k + 1) i = if i = k then s2 g f la k k - f k else s2 g f la k i := by
  unfold s2
  by_cases h : i = k
  · subst h; rw [if_pos rfl, if_pos (by omega), if_neg (by omega)]; omega
  · rw [if_neg h]
    have e1 : (i < k + 1) = (i < k) := by simp; omega
    simp only [e1]
/-- .. its third loop's. -/
def s3 (p : Int) (h : Nat → Int) (k i : Nat) : Int := if i < k then h i % p else h i
theorem s3_step (p : Int) (h : Nat → Int) (k i : Nat) : s3 p h (k + 1) i = if i = k then h k % p else s3 p h k i := by
  unfold s3
  by_cases e : i = k
  · subst e; rw [if_pos (by omega), if_pos rfl]
  · rw [if_neg e]
    have e1 : (i < k + 1) = (i < k) := by simp; omega
    simp only [e1]
/-- What the three loops make of S(j) and S(j + 1). -/
theorem s2_next (p : Int) (j i : Nat) : s2 (cfp p j).2 (cfp p j).1 (j + 2) (j + 1) i % p = (cfp p (j + 1)).2 i := by
  have ho := cfp_out p j
  show _ = (2 * (cfp p j).2 i - (cfp p j).1 i + (if i = 1 then 2 else 0) - (if i = 0 then 0 else 4 * (cfp p j).2 (i - 1))) % p
  congr 1
  unfold s2 s1
  have e1 : (if i < j + 1 then (cfp p j).1 i else 0) = (cfp p j).1 i := by
    split
    · rfl
    · exact (ho.1 i (by omega)).symm
  have e2 : (if i < j + 2 then 2 * (cfp p j).2 i else 0) = 2 * (cfp p j).2 i := by
    split
    · rfl
    · rw [ho.2 i (by omega)]; rfl
  have e3 : (if 1 ≤ i ∧ i < j + 2 + 1 then 4 * (cfp p j).2 (i - 1) else 0) = (if i = 0 then 0 else 4 * (cfp p j).2 (i - 1)) := by
    by_cases h0 : i = 0
    · rw [if_pos h0, if_neg (by omega)]
    · rw [if_neg h0]
      by_cases h1 : i < j + 2 + 1
      · rw [if_pos (by omega)]
      · rw [if_neg (by omega), ho.2 (i - 1) (by omega)]; rfl
  rw [e1, e2, e3]
  omega
/-- The coefficients of S(n). -/
def coL (p : Int) (n : Nat) : List Int := tab (n + 1) (cfp p n).1

end Go.Proofs.Ytmpgpmcmhbpjeaa
