/-
  Walks come round: the first number that comes for the second time; no program.
-/
import Derived.Test.YtinfjbaloppgkaaWalkMath
import Derived.Maps.OwnSet
import Derived.Maps.OwnOps
namespace Go.Proofs.Ytinfjbaloppgkaa
open Go.RowKit

/-- Different numbers below m: at most m. -/
theorem nodup_below : ∀ (m : Nat) (l : List Nat), l.Nodup → (∀ x ∈ l, x < m) → l.length ≤ m
  | 0, l, _, h => by
    cases l with
    | nil => exact Nat.le_refl _
    | cons a l => exact absurd (h a (by simp)) (by omega)
  | m + 1, l, hn, h => by
    by_cases hm : m ∈ l
    · have h1 := nodup_below m (l.erase m) (hn.erase m) (fun x hx => by
        have h2 := (List.Nodup.mem_erase_iff hn).1 hx
        have := h x h2.2
        have := h2.1
        omega)
      rw [List.length_erase_of_mem hm] at h1
      omega
    · have h1 := nodup_below m l hn (fun x hx => by
        have := h x hx
        have : x ≠ m := fun e => hm (e ▸ hx)
        omega)
      omega

/-- Whether the j-th number of the walk came before. -/
def isRep (p n s : Int) (j : Nat) : Bool := (List.range j).any fun i => wk p n s i == wk p n s j
theorem isRep_no {p n s : Int} {j : Nat} (h : isRep p n s j = false) {i : Nat} (hi : i < j) : wk p n s i ≠ wk p n s j := by
  simp only [isRep, List.any_eq_false, List.mem_range] at h
  have := h i hi
  simpa using this
theorem isRep_yes {p n s : Int} {j : Nat} (h : isRep p n s j = true) : ∃ i, i < j ∧ wk p n s i = wk p n s j := by
  simp only [isRep, List.any_eq_true, List.mem_range, beq_iff_eq] at h
  exact h
theorem rep_some {p n s : Int} (hp : isP p = true) (h0 : 0 ≤ s) (h1 : s < p) : ∃ j, j < p.toNat + 1 ∧ isRep p n s j = true := by
  have hr := isP_range hp
  by_cases he : ∃ j, j < p.toNat + 1 ∧ isRep p n s j = true
  · exact he
  · have hall : ∀ j, j < p.toNat + 1 → isRep p n s j = false := fun j hj => by
      cases hh : isRep p n s j with
      | false => rfl
      | true => exact absurd ⟨j, hj, hh⟩ he
    have hn : ((List.range (p.toNat + 1)).map fun j => (wk p n s j).toNat).Nodup := by
      rw [List.Nodup, List.pairwise_map]
      refine List.Pairwise.imp_of_mem ?_ List.pairwise_lt_range
      intro a b ha hb hab
      have h2 := isRep_no (hall b (List.mem_range.1 hb)) hab
      have r1 := wk_r (n := n) hp h0 h1 a
      have r2 := wk_r (n := n) hp h0 h1 b
      omega
    have h2 := nodup_below p.toNat _ hn (fun x hx => by
      obtain ⟨j, _, rfl⟩ := List.mem_map.1 hx
      have := wk_r (n := n) hp h0 h1 j
      omega)
    rw [List.length_map, List.length_range] at h2
    omega
/-- The step with which a number comes for the second time; the step with which it came first. -/
def rpN (p n s : Int) : Nat := ((List.range (p.toNat + 1)).find? (isRep p n s)).getD 0
def tlN (p n s : Int) : Nat := ((List.range (rpN p n s)).find? fun i => wk p n s i == wk p n s (rpN p n s)).getD 0
theorem rp_is {p n s : Int} (hp : isP p = true) (h0 : 0 ≤ s) (h1 : s < p) : isRep p n s (rpN p n s) = true ∧ NoYes (isRep p n s) (rpN p n s) ∧ rpN p n s ≤ p.toNat := by
  obtain ⟨m, h, e⟩ := rep_some (n := n) hp h0 h1
  obtain ⟨k, h2, h3, h4, h5⟩ := find_least h e
  have : rpN p n s = k := by rw [rpN, h2]; rfl
  rw [this]; exact ⟨h4, h5, by omega⟩
theorem tl_is {p n s : Int} (hp : isP p = true) (h0 : 0 ≤ s) (h1 : s < p) : tlN p n s < rpN p n s ∧ wk p n s (tlN p n s) = wk p n s (rpN p n s) := by
  obtain ⟨i, hi, he⟩ := isRep_yes (rp_is (n := n) hp h0 h1).1
  obtain ⟨k, h2, h3, h4, _⟩ := find_least (f := fun i => wk p n s i == wk p n s (rpN p n s)) hi (by simpa using he)
  have : tlN p n s = k := by rw [tlN, h2]; rfl
  rw [this]; exact ⟨h3, by simpa using h4⟩
/-- Before the second time all numbers differ. -/
theorem rp_differ {p n s : Int} {J i j : Nat} (hJ : NoYes (isRep p n s) J) (hi : i < j) (hj : j < J) : wk p n s i ≠ wk p n s j := isRep_no (hJ j hj) hi
theorem tl_only {p n s : Int} {J t i : Nat} (hJ : NoYes (isRep p n s) J) (ht : t < J) (he : wk p n s t = wk p n s J) (hi : i < J) (h : wk p n s i = wk p n s J) : i = t := by
  rcases Nat.lt_trichotomy i t with h1 | h1 | h1
  · exact absurd (h.trans he.symm) (rp_differ hJ h1 ht)
  · exact h1
  · exact absurd (he.trans h.symm) (rp_differ hJ h1 hi)

/-- The program's map behind j steps. -/
def rdD (p n s : Int) : Nat → DataW Unit
  | 0 => .map []
  | j + 1 => (rdD p n s j).put (.int .i64 (wk p n s j)) (.lit (.int .i64 (j : Int)))
theorem rdD_map (p n s : Int) : ∀ j, Maps.IsMap (rdD p n s j)
  | 0 => ⟨_, rfl⟩
  | j + 1 => (rdD_map p n s j).put _ _
theorem rd_none {p n s x : Int} : ∀ k : Nat, (∀ i, i < k → wk p n s i ≠ x) → Maps.has (rdD p n s k) (.int .i64 x) = false ∧ ∀ z, (rdD p n s k).atKey (.int .i64 x) z = z
  | 0, _ => ⟨rfl, fun _ => rfl⟩
  | k + 1, h => by
    have ih := rd_none k fun i hi => h i (by omega)
    have hne : (Lit.int .i64 x) ≠ .int .i64 (wk p n s k) := fun e => by
      injection e with _ e2
      exact h k (by omega) e2.symm
    exact ⟨(Maps.has_put_other hne _).trans ih.1, fun z => (Maps.atKey_put_other hne _ z).trans (ih.2 z)⟩
theorem rd_hit {p n s x : Int} (hk : WideAt.IsKeyLit (.int .i64 x)) {t : Nat} (ht : wk p n s t = x) : ∀ k : Nat, t < k → (∀ i, i < k → wk p n s i = x → i = t) →
    Maps.has (rdD p n s k) (.int .i64 x) = true ∧ ∀ z, (rdD p n s k).atKey (.int .i64 x) z = .lit (.int .i64 (t : Int))
  | 0, h, _ => absurd h (by omega)
  | k + 1, h, hu => by
    by_cases e : t = k
    · subst e
      unfold rdD
      rw [ht]
      exact ⟨Maps.has_put_same (rdD_map _ _ _ _) hk _, fun z => Maps.atKey_put_same (rdD_map _ _ _ _) hk _ z⟩
    · have ih := rd_hit hk ht k (by omega) fun i hi => hu i (by omega)
      have hne : (Lit.int .i64 x) ≠ .int .i64 (wk p n s k) := fun e' => by
        injection e' with _ e2
        exact e (hu k (by omega) e2.symm).symm
      exact ⟨(Maps.has_put_other hne _).trans ih.1, fun z => (Maps.atKey_put_other hne _ z).trans (ih.2 z)⟩

/-- The model's list behind j steps. -/
def metL (p n s : Int) : Nat → List Int
  | 0 => List.replicate p.toNat (-1)
  | j + 1 => (metL p n s j).set (wk p n s j).toNat (j : Int)
theorem metL_length (p n s : Int) : ∀ j, (metL p n s j).length = p.toNat
  | 0 => by simp [metL]
  | j + 1 => by rw [metL, List.length_set, metL_length p n s j]
theorem met_none {p n s x : Int} (hp : isP p = true) (h0 : 0 ≤ s) (h1 : s < p) (hx0 : 0 ≤ x) (hx1 : x < p) : ∀ k : Nat, (∀ i, i < k → wk p n s i ≠ x) → (metL p n s k).getD x.toNat 0 = -1
  | 0, _ => by simp [metL, List.getD_eq_getElem?_getD, show x.toNat < p.toNat by omega]
  | k + 1, h => by
    have ih := met_none hp h0 h1 hx0 hx1 k fun i hi => h i (by omega)
    have hr := wk_r (n := n) hp h0 h1 k
    have hne : (wk p n s k).toNat ≠ x.toNat := fun e => h k (by omega) (by omega)
    rw [metL, List.getD_eq_getElem?_getD, List.getElem?_set_ne hne, ← List.getD_eq_getElem?_getD]; exact ih
theorem met_hit {p n s x : Int} (hp : isP p = true) (h0 : 0 ≤ s) (h1 : s < p) (hx0 : 0 ≤ x) (hx1 : x < p) {t : Nat} (ht : wk p n s t = x) : ∀ k : Nat, t < k → (∀ i, i < k → wk p n s i = x → i = t) → (metL p n s k).getD x.toNat 0 = (t : Int)
  | 0, h, _ => absurd h (by omega)
  | k + 1, h, hu => by
    have hr := wk_r (n := n) hp h0 h1 k
    by_cases e : t = k
    · subst e
      rw [metL, ht, List.getD_eq_getElem?_getD, List.getElem?_set_self (by rw [metL_length]; omega)]; rfl
    · have ih := met_hit hp h0 h1 hx0 hx1 ht k (by omega) fun i hi => hu i (by omega)
      have hne : (wk p n s k).toNat ≠ x.toNat := fun e' => e (hu k (by omega) (by omega)).symm
      rw [metL, List.getD_eq_getElem?_getD, List.getElem?_set_ne hne, ← List.getD_eq_getElem?_getD]; exact ih

end Go.Proofs.Ytinfjbaloppgkaa
