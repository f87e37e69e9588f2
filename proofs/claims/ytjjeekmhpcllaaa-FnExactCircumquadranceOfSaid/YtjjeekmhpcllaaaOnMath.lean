/-
  The points of a line: those of the grid that are on it, row by row, are the combinations of the first two; no program.
-/
import Derived.Test.YtjjeekmhpcllaaaSeqMath
import Derived.Test.YtjjeekmhpcllaaaBaseMath
import Derived.Test.YtjjeekmhpcllaaaOnVal
namespace Go.Proofs.Ytjjeekmhpcllaaa
open Go.RowKit

/-- The numbers of points, one behind the other. -/
def flat (xs : List (Int × Int)) : List Int := xs.flatMap fun x => [x.1, x.2]
theorem flat_append (xs : List (Int × Int)) (x : Int × Int) : flat (xs ++ [x]) = flat xs ++ [x.1, x.2] := by simp [flat]
theorem flat_length (xs : List (Int × Int)) : (flat xs).length = xs.length * 2 := by
  induction xs with
  | nil => rfl
  | cons x xs ih => simp [flat] at ih ⊢; omega
/-- The combinations of two points with the numbers below k. -/
def cbs (p s1 s2 n1 n2 : Int) (k : Nat) : List (Int × Int) := (List.range k).map fun t : Nat => (cmb p s1 n1 (t : Int), cmb p s2 n2 (t : Int))
/-- A row of the grid, up to y; the rows below x. -/
def rowL (f : Int → Int → Bool) (x y : Nat) : List (Int × Int) := ((List.range y).filter fun b : Nat => f (x : Int) (b : Int)).map fun b : Nat => ((x : Int), (b : Int))
def gridL (f : Int → Int → Bool) (m x : Nat) : List (Int × Int) := (List.range x).flatMap fun a : Nat => rowL f a m
theorem rowL_yes {f : Int → Int → Bool} {x y : Nat} (h : f x y = true) : rowL f x (y + 1) = rowL f x y ++ [((x : Int), (y : Int))] := by simp [rowL, List.range_succ, List.filter_append, h]
theorem rowL_no {f : Int → Int → Bool} {x y : Nat} (h : f x y = false) : rowL f x (y + 1) = rowL f x y := by simp [rowL, List.range_succ, List.filter_append, h]
theorem rowL_le (f : Int → Int → Bool) (x y : Nat) : (rowL f x y).length ≤ y := by
  have := List.length_filter_le (fun b : Nat => f (x : Int) (b : Int)) (List.range y)
  simpa [rowL] using this
theorem gridL_succ (f : Int → Int → Bool) (m x : Nat) : gridL f m (x + 1) = gridL f m x ++ rowL f x m := by simp [gridL, List.range_succ]
theorem gridL_le (f : Int → Int → Bool) (m x : Nat) : (gridL f m x).length ≤ x * m := by
  induction x with
  | zero => simp [gridL]
  | succ x ih =>
    have := rowL_le f x m
    rw [gridL_succ, List.length_append, Nat.add_mul]; omega

/-- A test with one answer. -/
theorem filter_one {m y0 : Nat} {f : Nat → Bool} (h : ∀ b, b < m → f b = decide (b = y0)) : (List.range m).filter f = if y0 < m then [y0] else [] := by
  induction m with
  | zero => simp
  | succ m ih =>
    rw [List.range_succ, List.filter_append, ih fun b hb => h b (by omega)]
    have hm := h m (by omega)
    by_cases e : m = y0
    · subst e; simp [hm]
    · have hq : (y0 < m + 1) = (y0 < m) := propext ⟨fun _ => by omega, fun _ => by omega⟩
      simp only [hq]; simp [hm, e]
theorem filter_all {m : Nat} {f : Nat → Bool} (h : ∀ b, b < m → f b = true) : (List.range m).filter f = List.range m := by
  rw [List.filter_eq_self]; intro b hb; exact h b (List.mem_range.1 hb)
theorem filter_none {m : Nat} {f : Nat → Bool} (h : ∀ b, b < m → f b = false) : (List.range m).filter f = [] := by
  rw [List.filter_eq_nil_iff]; intro b hb; rw [h b (List.mem_range.1 hb)]; simp
/-- One point a row. -/
theorem grid_each {f : Int → Int → Bool} {m : Nat} {g : Nat → Nat} : ∀ x : Nat, (∀ a, a < x → g a < m ∧ ∀ b, b < m → f (a : Int) (b : Int) = decide (b = g a)) → gridL f m x = (List.range x).map fun a : Nat => ((a : Int), (g a : Int))
  | 0, _ => rfl
  | x + 1, h => by
    rw [gridL_succ, grid_each x fun a ha => h a (by omega), List.range_succ, List.map_append]
    congr 1
    rw [rowL, filter_one (h x (by omega)).2, if_pos (h x (by omega)).1]; rfl
/-- One row alone. -/
theorem grid_alone {f : Int → Int → Bool} {m x0 : Nat} : ∀ x : Nat, (∀ a, a < x → ∀ b, b < m → f (a : Int) (b : Int) = decide (a = x0)) → gridL f m x = if x0 < x then (List.range m).map fun b : Nat => ((x0 : Int), (b : Int)) else []
  | 0, _ => by simp [gridL]
  | x + 1, h => by
    rw [gridL_succ, grid_alone x fun a ha => h a (by omega)]
    by_cases e : x = x0
    · subst e
      rw [if_neg (by omega), if_pos (by omega), List.nil_append, rowL, filter_all fun b hb => by rw [h x (by omega) b hb]; simp]
    · rw [rowL, filter_none fun b hb => by rw [h x (by omega) b hb]; simp [e]]
      have hq : (x0 < x + 1) = (x0 < x) := propext ⟨fun _ => by omega, fun _ => by omega⟩
      simp only [hq]; simp

section
variable {n : Nat} [NeZero n]
theorem onB_iff {l1 l2 l3 x y : Int} : onB n x y l1 l2 l3 = true ↔ K n l1 * K n x + K n l2 * K n y + K n l3 = 0 := by
  rw [onB, beq_iff_eq, ← K_eq_zero, K_add, K_add, K_mul, K_mul]
end
/-- The points of a line by rows are the combinations of its first two. -/
theorem points_line {p l1 l2 l3 : Int} (hp : isP p = true) (hl : leadB l1 l2 = true) (h1 : 0 ≤ l1 ∧ l1 < p) (h2 : 0 ≤ l2 ∧ l2 < p) (h3 : 0 ≤ l3 ∧ l3 < p) :
    cbs p (sqS1 p l1 l2 l3) (sqS2 p l1 l2 l3) (sqN1 p l1 l2 l3) (sqN2 p l1 l2 l3) p.toNat = gridL (fun x y => onB p x y l1 l2 l3) p.toNat p.toNat := by
  have hr := isP_range hp
  obtain ⟨n, rfl⟩ := Int.eq_ofNat_of_zero_le (by omega : 0 ≤ p)
  haveI := neZero_of hp
  rw [Int.toNat_natCast]
  have cast0 : ∀ x : Int, 0 ≤ x % n ∧ x % n < n := fun x => ⟨Int.emod_nonneg _ (by omega), Int.emod_lt_of_pos _ (by omega)⟩
  by_cases hb : l2 = 0
  · subst hb
    have hl1 : l1 = 1 := by rcases lead_ways hl with h | ⟨_, h⟩ <;> omega
    subst hl1
    obtain ⟨x0, hx0⟩ := Int.eq_ofNat_of_zero_le (cast0 (-l3)).1
    have hx1 := (cast0 (-l3)).2
    rw [grid_alone (x0 := x0) n ?_, if_pos (by omega)]
    · unfold cbs
      refine List.map_congr_left fun t ht => ?_
      have ht' := List.mem_range.1 ht
      simp only [sqS1, sqS2, sqN1, sqN2, beq_self_eq_true, if_true, hx0, cmb, Prod.mk.injEq]
      constructor
      · rw [Int.sub_self, Int.mul_zero, Int.add_zero, Int.emod_eq_of_lt (by omega) (by omega)]
      · rw [Int.sub_zero, Int.mul_one, Int.zero_add, Int.emod_eq_of_lt (by omega) (by omega)]
    · intro a ha b hb
      rw [Bool.eq_iff_iff, onB_iff, decide_eq_true_iff]
      have hk : K n (x0 : Int) = - K n l3 := by rw [← hx0, K_mod, K_neg]
      rw [K_one, K_zero]
      constructor
      · intro h
        have : K n (a : Int) = K n (x0 : Int) := by rw [hk]; grind
        have := K_inj (n := n) ⟨by omega, by omega⟩ ⟨by omega, by omega⟩ this
        omega
      · rintro rfl
        rw [hk]; grind
  · have hk2 : K n l2 ≠ 0 := K_small h2 hb
    have hinv := K_inv hp hk2
    have hbe : (l2 == 0) = false := by simpa using hb
    have hy : ∀ a : Nat, ∃ y : Nat, y < n ∧ K n (y : Int) = -(K n l1 * K n (a : Int) + K n l3) * K n (inv n l2) := fun a => by
      obtain ⟨y, e⟩ := Int.eq_ofNat_of_zero_le (cast0 (-(l1 * a + l3) * inv n l2)).1
      have := (cast0 (-(l1 * a + l3) * inv n l2)).2
      exact ⟨y, by omega, by rw [← e, K_mod, K_mul, K_neg, K_add, K_mul]⟩
    rw [grid_each (g := fun a => Classical.choose (hy a)) n ?_]
    · unfold cbs
      refine List.map_congr_left fun t ht => ?_
      have ht' := List.mem_range.1 ht
      obtain ⟨c1, c2⟩ := Classical.choose_spec (hy t)
      simp only [sqS1, sqS2, sqN1, sqN2, hbe, Bool.false_eq_true, if_false, cmb, Prod.mk.injEq]
      constructor
      · rw [Int.sub_zero, Int.mul_one, Int.zero_add, Int.emod_eq_of_lt (by omega) (by omega)]
      · refine K_inj (n := n) (cast0 _) ⟨by omega, by omega⟩ ?_
        rw [c2]
        simp only [K_mod, K_add, K_mul, K_sub, K_neg]
        grind
    · intro a ha
      obtain ⟨c1, c2⟩ := Classical.choose_spec (hy a)
      refine ⟨c1, fun b hb' => ?_⟩
      rw [Bool.eq_iff_iff, onB_iff, decide_eq_true_iff]
      constructor
      · intro h
        have : K n (b : Int) = K n ((Classical.choose (hy a) : Nat) : Int) := by rw [c2]; grind
        have := K_inj (n := n) ⟨by omega, by omega⟩ ⟨by omega, by omega⟩ this
        omega
      · intro h
        rw [h, c2]; grind

end Go.Proofs.Ytjjeekmhpcllaaa
