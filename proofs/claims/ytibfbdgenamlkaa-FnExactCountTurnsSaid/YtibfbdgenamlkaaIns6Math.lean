/-
  Moves put into a list that is strictly in order; no program.
-/
import Derived.Test.YtibfbdgenamlkaaBaseMath
namespace Go.Proofs.Ytibfbdgenamlkaa
open Go.RowKit

abbrev T6 := Int × Int × Int × Int × Int × Int
/-- Whether a move comes ahead of another one. -/
def lt6 (x y : T6) : Prop := x.1 < y.1 ∨ x.1 = y.1 ∧ (x.2.1 < y.2.1 ∨ x.2.1 = y.2.1 ∧ (x.2.2.1 < y.2.2.1 ∨ x.2.2.1 = y.2.2.1 ∧ (x.2.2.2.1 < y.2.2.2.1 ∨ x.2.2.2.1 = y.2.2.2.1 ∧ (x.2.2.2.2.1 < y.2.2.2.2.1 ∨ x.2.2.2.2.1 = y.2.2.2.2.1 ∧ x.2.2.2.2.2 < y.2.2.2.2.2))))
instance (x y : T6) : Decidable (lt6 x y) := by unfold lt6; infer_instance
theorem lt6_trans {x y z : T6} (h : lt6 x y) (k : lt6 y z) : lt6 x z := by unfold lt6 at *; omega
theorem lt6_irr (x : T6) : ¬ lt6 x x := by unfold lt6; omega
theorem lt6_tri (x y : T6) : lt6 x y ∨ x = y ∨ lt6 y x := by
  obtain ⟨a, b, c, d, e, f⟩ := x
  obtain ⟨a', b', c', d', e', f'⟩ := y
  simp only [lt6, Prod.mk.injEq]; omega
theorem lt6_not {x y : T6} (h : ¬ lt6 x y) (hn : x ≠ y) : lt6 y x := by rcases lt6_tri x y with q | q | q; exact absurd q h; exact absurd q hn; exact q
/-- Strictly ordered lists with the same members are one. -/
theorem lt6_unique : ∀ {xs ys : List T6}, xs.Pairwise lt6 → ys.Pairwise lt6 → (∀ z, z ∈ xs ↔ z ∈ ys) → xs = ys
  | [], ys, _, _, h => by
    cases ys with
    | nil => rfl
    | cons y ys => exact absurd ((h y).2 (by simp)) (by simp)
  | x :: xs, [], _, _, h => absurd ((h x).1 (by simp)) (by simp)
  | x :: xs, y :: ys, hx, hy, h => by
    have hx' := List.pairwise_cons.1 hx
    have hy' := List.pairwise_cons.1 hy
    have e : x = y := by
      rcases List.mem_cons.1 ((h x).1 (by simp)) with e | e
      · exact e
      · rcases List.mem_cons.1 ((h y).2 (by simp)) with e' | e'
        · exact e'.symm
        · exact absurd (lt6_trans (hx'.1 _ e') (hy'.1 _ e)) (lt6_irr x)
    subst e
    refine congrArg _ (lt6_unique hx'.2 hy'.2 fun z => ?_)
    constructor
    · intro hz
      rcases List.mem_cons.1 ((h z).1 (by simp [hz])) with e | e
      · subst e; exact absurd (hx'.1 _ hz) (lt6_irr z)
      · exact e
    · intro hz
      rcases List.mem_cons.1 ((h z).2 (by simp [hz])) with e | e
      · subst e; exact absurd (hy'.1 _ hz) (lt6_irr z)
      · exact e
/-- A move put into a list. -/
def insM (ys : List T6) (l : T6) : List T6 := (ys.filter fun z => decide (lt6 z l)) ++ l :: ys.filter fun z => decide (lt6 l z)
theorem ins6_mem {ys : List T6} {l z : T6} : z ∈ insM ys l ↔ z = l ∨ z ∈ ys := by
  simp only [insM, List.mem_append, List.mem_cons, List.mem_filter, decide_eq_true_eq]
  constructor
  · rintro (⟨h, _⟩ | rfl | ⟨h, _⟩)
    · exact .inr h
    · exact .inl rfl
    · exact .inr h
  · rintro (rfl | h)
    · exact .inr (.inl rfl)
    · rcases lt6_tri z l with q | q | q
      · exact .inl ⟨h, q⟩
      · exact .inr (.inl q)
      · exact .inr (.inr ⟨h, q⟩)
theorem ins6_sorted {ys : List T6} {l : T6} (h : ys.Pairwise lt6) : (insM ys l).Pairwise lt6 := by
  rw [insM, List.pairwise_append]
  refine ⟨h.filter _, List.pairwise_cons.2 ⟨fun z hz => of_decide_eq_true (List.mem_filter.1 hz).2, h.filter _⟩, fun x hx y hy => ?_⟩
  have h1 := of_decide_eq_true (List.mem_filter.1 hx).2
  rcases List.mem_cons.1 hy with rfl | hy
  · exact h1
  · exact lt6_trans h1 (of_decide_eq_true (List.mem_filter.1 hy).2)
theorem ins6_le (ys : List T6) (l : T6) : (insM ys l).length ≤ ys.length + 1 := by
  have h1 : (ys.filter fun z => decide (lt6 z l)).length + (ys.filter fun z => decide (lt6 l z)).length ≤ ys.length := by
    induction ys with
    | nil => simp
    | cons y ys ih =>
      simp only [List.filter_cons, List.length_cons]
      by_cases q : lt6 y l
      · have : ¬ lt6 l y := fun q' => lt6_irr _ (lt6_trans q q')
        simp [q, this]; omega
      · by_cases q' : lt6 l y <;> simp [q, q'] <;> omega
  simp only [insM, List.length_append, List.length_cons]; omega
/-- The moves of a list, each once, in order. -/
def srtM (ls : List T6) : List T6 := ls.foldl insM []
theorem srtM_snoc (ls : List T6) (l : T6) : srtM (ls ++ [l]) = insM (srtM ls) l := by simp [srtM]
theorem srtM_sorted (ls : List T6) : (srtM ls).Pairwise lt6 := by
  have : ∀ (ls acc : List T6), acc.Pairwise lt6 → (ls.foldl insM acc).Pairwise lt6 := by
    intro ls
    induction ls with
    | nil => exact fun acc h => h
    | cons l ls ih => exact fun acc h => ih _ (ins6_sorted h)
  exact this ls [] List.Pairwise.nil
theorem srtM_mem {ls : List T6} {z : T6} : z ∈ srtM ls ↔ z ∈ ls := by
  have : ∀ (ls acc : List T6), z ∈ ls.foldl insM acc ↔ z ∈ acc ∨ z ∈ ls := by
    intro ls
    induction ls with
    | nil => intro acc; simp
    | cons l ls ih =>
      intro acc
      rw [List.foldl_cons, ih, ins6_mem, List.mem_cons]
      constructor
      · rintro ((h | h) | h)
        · exact .inr (.inl h)
        · exact .inl h
        · exact .inr (.inr h)
      · rintro (h | h | h)
        · exact .inl (.inr h)
        · exact .inl (.inl h)
        · exact .inr h
  have := this ls []
  simpa [srtM] using this
theorem srtM_le (ls : List T6) : (srtM ls).length ≤ ls.length := by
  have : ∀ (ls acc : List T6), acc.Pairwise lt6 → (ls.foldl insM acc).length ≤ acc.length + ls.length := by
    intro ls
    induction ls with
    | nil => intro acc _; simp
    | cons l ls ih =>
      intro acc h
      have h1 := ih _ (ins6_sorted (l := l) h)
      have h2 := ins6_le acc l
      simp only [List.foldl_cons, List.length_cons]; omega
  have := this ls [] List.Pairwise.nil
  simpa [srtM] using this
/-- What the search finds: the line is there. -/
theorem put6_there {xs : List T6} {l : T6} (hs : xs.Pairwise lt6) (h : l ∈ xs) : insM xs l = xs :=
  lt6_unique (ins6_sorted hs) hs fun z => by rw [ins6_mem]; exact ⟨fun q => q.elim (fun e => e ▸ h) id, .inr⟩
/-- .. or it goes to a place. -/
theorem put6_at {xs : List T6} {l : T6} {k : Nat} (hs : xs.Pairwise lt6) (h1 : ∀ z ∈ xs.drop k, lt6 l z) (h2 : ∀ z ∈ xs.take k, lt6 z l) : insM xs l = xs.take k ++ l :: xs.drop k := by
  refine lt6_unique (ins6_sorted hs) ?_ fun z => ?_
  · rw [List.pairwise_append]
    refine ⟨hs.sublist (List.take_sublist _ _), List.pairwise_cons.2 ⟨h1, hs.sublist (List.drop_sublist _ _)⟩, fun x hx y hy => ?_⟩
    rcases List.mem_cons.1 hy with rfl | hy
    · exact h2 x hx
    · exact lt6_trans (h2 x hx) (h1 y hy)
  · rw [ins6_mem, List.mem_append, List.mem_cons]
    have := List.take_append_drop k xs
    constructor
    · rintro (h | h)
      · exact .inr (.inl h)
      · rw [← this, List.mem_append] at h
        exact h.elim .inl fun h => .inr (.inr h)
    · rintro (h | h | h)
      · exact .inr (List.mem_of_mem_take h)
      · exact .inl h
      · exact .inr (List.mem_of_mem_drop h)

end Go.Proofs.Ytibfbdgenamlkaa
