/-
  Sets of points: how many there are; no walk.
-/
import Derived.Test.YtibfbdgenamlkaaSeqAll
import Derived.Test.YtibfbdgenamlkaaPtKey
namespace Go.Proofs.Ytibfbdgenamlkaa
open Go.RowKit

/-- A set of points, put in one after the other. -/
def setD (xs : List (Int × Int)) : DataW Unit := xs.foldl (fun D x => D.put (klP x.1 x.2) (.lit (.bool true))) (.map [])
theorem setD_snoc (xs : List (Int × Int)) (x : Int × Int) : setD (xs ++ [x]) = (setD xs).put (klP x.1 x.2) (.lit (.bool true)) := by simp [setD]

/-- The points of the grid that a test takes. -/
theorem row_filter (f : Int → Int → Bool) (x y : Nat) : rowL f x y = (rowL tt2 x y).filter fun z => f z.1 z.2 := by
  induction y with
  | zero => rfl
  | succ y ih =>
    rw [rowL_yes (f := tt2) rfl, List.filter_append, ← ih]
    cases h : f x y
    · rw [rowL_no h]; simp [h]
    · rw [rowL_yes h]; simp [h]
theorem grid_filter (f : Int → Int → Bool) (m x : Nat) : gridL f m x = (gridL tt2 m x).filter fun z => f z.1 z.2 := by
  induction x with
  | zero => rfl
  | succ x ih => rw [gridL_succ, gridL_succ, List.filter_append, ← ih, ← row_filter]
theorem row_mem {f : Int → Int → Bool} {x y : Nat} {z : Int × Int} (h : z ∈ rowL f x y) : z.1 = x ∧ 0 ≤ z.2 ∧ z.2 < y := by
  rw [rowL, List.mem_map] at h
  obtain ⟨b, hb, rfl⟩ := h
  have := List.mem_range.1 (List.mem_filter.1 hb).1
  exact ⟨rfl, by simp, by simpa using this⟩
theorem grid_mem {f : Int → Int → Bool} {m x : Nat} {z : Int × Int} (h : z ∈ gridL f m x) : (0 ≤ z.1 ∧ z.1 < x) ∧ 0 ≤ z.2 ∧ z.2 < m := by
  rw [gridL, List.mem_flatMap] at h
  obtain ⟨a, ha, hz⟩ := h
  have h1 := List.mem_range.1 ha
  have h2 := row_mem hz
  omega
theorem row_nodup (f : Int → Int → Bool) (x y : Nat) : (rowL f x y).Nodup := by
  induction y with
  | zero => exact List.nodup_nil
  | succ y ih =>
    cases h : f x y
    · rw [rowL_no h]; exact ih
    · rw [rowL_yes h, List.nodup_append]
      refine ⟨ih, by simp, fun a ha b hb e => ?_⟩
      have h1 := row_mem ha
      simp only [List.mem_singleton] at hb
      rw [e, hb] at h1
      simp at h1
theorem grid_nodup (f : Int → Int → Bool) (m x : Nat) : (gridL f m x).Nodup := by
  induction x with
  | zero => exact List.nodup_nil
  | succ x ih =>
    rw [gridL_succ, List.nodup_append]
    refine ⟨ih, row_nodup f x m, fun a ha b hb e => ?_⟩
    have h1 := grid_mem ha
    have h2 := row_mem hb
    rw [e] at h1; omega
theorem size_nodup (u : DataW Unit) : ∀ (xs : List Lit) (m : DataW Unit), Maps.Tidy m → (∀ x ∈ xs, WideAt.IsKeyLit x) → xs.Nodup → (∀ x ∈ xs, Maps.has m x = false) →
    Maps.size (xs.foldl (fun m x => m.put x u) m) = Maps.size m + xs.length
  | [], _, _, _, _, _ => by simp
  | x :: r, m, hm, hk, hn, hh => by
    have hn' := List.nodup_cons.1 hn
    rw [List.foldl_cons, size_nodup u r (m.put x u) (hm.put (hk x (by simp)) u) (fun y hy => hk y (by simp [hy])) hn'.2 (fun y hy => by
      rw [Maps.has_put_other (fun e => by subst e; exact hn'.1 hy)]; exact hh y (by simp [hy])), Maps.size_put hm, hh x (by simp)]
    simp; omega
theorem setD_size {xs : List (Int × Int)} (hr : ∀ z ∈ xs, (0 ≤ z.1 ∧ z.1 ≤ 31) ∧ 0 ≤ z.2 ∧ z.2 ≤ 31) (hn : xs.Nodup) : Maps.size (setD xs) = xs.length := by
  have e : setD xs = (xs.map fun z => klP z.1 z.2).foldl (fun m x => m.put x (.lit (.bool true))) (.map []) := by rw [setD, List.foldl_map]
  rw [e, size_nodup _ _ _ Maps.tidy_empty]
  · simp [Maps.size_eq]
  · intro k hk
    obtain ⟨z, hz, rfl⟩ := List.mem_map.1 hk
    exact klP_key (hr z hz).1 (hr z hz).2
  · refine List.pairwise_map.2 (List.Pairwise.imp_of_mem ?_ hn)
    intro a b ha hb hne e
    have := klP_inj (hr a ha).1 (hr a ha).2 (hr b hb).1 (hr b hb).2 e
    exact hne (Prod.ext this.1 this.2)
  · intro k _; rfl

end Go.Proofs.Ytibfbdgenamlkaa
