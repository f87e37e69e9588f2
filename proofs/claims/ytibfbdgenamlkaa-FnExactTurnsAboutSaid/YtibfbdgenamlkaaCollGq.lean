/-
  What a range over a set's keys has given.
-/
import Derived.Test.YtibfbdgenamlkaaMgq0
import Derived.Sort.MapsRangeIn

namespace Go.Proofs.Ytibfbdgenamlkaa
open Go.RowKit

/-- D0's keys are just what xs holds. -/
structure KeysOf {α : Type} (k : TypeId) (enc : α → Value) (kf : α → Lit) (xs : List α) (D0 : DataW Unit) : Prop where
  has_of : ∀ x, x ∈ xs → Maps.has D0 (kf x) = true
  of_has : ∀ kl, Maps.has D0 kl = true → ∃ x, x ∈ xs ∧ kf x = kl
  key : ∀ x, x ∈ xs → keyOf Try.prog k (enc x) = some (kf x)
  inj : ∀ x y, x ∈ xs → y ∈ xs → kf x = kf y → x = y
  lit : ∀ x, x ∈ xs → WideAt.IsKeyLit (kf x)
def CollG {α : Type} (kf : α → Lit) (xs : List α) (left : Lit → Bool) (ss : List α) : Prop := ss.Nodup ∧ ∀ x, x ∈ ss ↔ (x ∈ xs ∧ left (kf x) = false)
section
variable {α : Type} {k : TypeId} {enc : α → Value} {kf : α → Lit} {xs ss : List α} {D0 : DataW Unit} {left : Lit → Bool}
theorem CollG.start (h : KeysOf k enc kf xs D0) : CollG kf xs (Maps.has D0) [] := ⟨List.nodup_nil, fun x => by
  constructor
  · intro hx; cases hx
  · rintro ⟨h1, h2⟩; rw [h.has_of x h1] at h2; cases h2⟩
theorem CollG.step (h : KeysOf k enc kf xs D0) (hC : CollG kf xs left ss) {x : α} (hx : x ∈ xs) (hl : left (kf x) = true) : CollG kf xs (fun z => left z && !z.sameKey (kf x)) (ss ++ [x]) := by
  have hnew : x ∉ ss := fun hm => by have := ((hC.2 x).1 hm).2; rw [hl] at this; cases this
  refine ⟨List.nodup_append.2 ⟨hC.1, by simp, fun a ha b hb => by simp at hb; subst hb; exact fun e => hnew (e ▸ ha)⟩, fun y => ?_⟩
  rw [List.mem_append, hC.2 y, List.mem_singleton]
  constructor
  · rintro (⟨h1, h2⟩ | rfl)
    · exact ⟨h1, by simp [h2]⟩
    · exact ⟨hx, by simp [WideAt.sameKey_self (h.lit _ hx)]⟩
  · rintro ⟨h1, h2⟩
    by_cases e : kf y = kf x
    · exact .inr (h.inj y x h1 hx e)
    · exact .inl ⟨h1, by simpa [Maps.sameKey_ne e] using h2⟩
theorem CollG.done (hC : CollG kf xs left ss) (hl : ∀ kl, left kl = false) : ss.Nodup ∧ ∀ x, x ∈ ss ↔ x ∈ xs := ⟨hC.1, fun x => by rw [hC.2 x, hl]; simp⟩
/-- What is left is a key of the set. -/
theorem KeysOf.from (h : KeysOf k enc kf xs D0) (K : Maps.Keyed Try.prog k) {key : Value} {kl : Lit} (hk : keyOf Try.prog k key = some kl) (hh : Maps.has D0 kl = true) : ∃ x, x ∈ xs ∧ key = enc x ∧ kl = kf x := by
  obtain ⟨x, hx, rfl⟩ := h.of_has kl hh
  exact ⟨x, hx, K.inj hk (h.key x hx), rfl⟩
end

theorem snoc_ind {α : Type} {C : List α → Prop} (h0 : C []) (hs : ∀ xs x, C xs → C (xs ++ [x])) (xs : List α) : C xs := by
  rw [← List.reverse_reverse xs]
  induction xs.reverse with
  | nil => exact h0
  | cons x r ih => rw [List.reverse_cons]; exact hs _ _ ih
/-- A set of points has the points as its keys. -/
theorem setD_isMap (xs : List (Int × Int)) : Maps.IsMap (setD xs) := by
  induction xs using snoc_ind with
  | h0 => exact Maps.isMap_empty
  | hs xs x ih => rw [setD_snoc]; exact ih.put _ _
theorem setD_has {xs : List (Int × Int)} (hr : ∀ z, z ∈ xs → (0 ≤ z.1 ∧ z.1 ≤ 31) ∧ 0 ≤ z.2 ∧ z.2 ≤ 31) (kl : Lit) : Maps.has (setD xs) kl = true ↔ ∃ x, x ∈ xs ∧ klP x.1 x.2 = kl := by
  induction xs using snoc_ind with
  | h0 => constructor
          · intro h; cases h
          · rintro ⟨x, hx, _⟩; cases hx
  | hs xs x ih =>
    have ih' := ih (fun z hz => hr z (by simp [hz]))
    have hx := hr x (by simp)
    rw [setD_snoc]
    by_cases e : kl = klP x.1 x.2
    · subst e
      rw [Maps.has_put_same (setD_isMap xs) (klP_key hx.1 hx.2)]
      exact ⟨fun _ => ⟨x, by simp, rfl⟩, fun _ => rfl⟩
    · rw [Maps.has_put_other e, ih']
      constructor
      · rintro ⟨y, hy, he⟩; exact ⟨y, by simp [hy], he⟩
      · rintro ⟨y, hy, he⟩
        rcases List.mem_append.1 hy with h | h
        · exact ⟨y, h, he⟩
        · simp at h; subst h; exact (e he.symm).elim
theorem setD_keys {xs : List (Int × Int)} (hr : ∀ z, z ∈ xs → (0 ≤ z.1 ∧ z.1 ≤ 31) ∧ 0 ≤ z.2 ∧ z.2 ≤ 31) : KeysOf 26 (fun x : Int × Int => Value.agg #[.int .i64 x.1, .int .i64 x.2]) (fun x => klP x.1 x.2) xs (setD xs) where
  has_of x hx := (setD_has hr _).2 ⟨x, hx, rfl⟩
  of_has kl h := (setD_has hr kl).1 h
  key x hx := keyOf_pt (hr x hx).1 (hr x hx).2
  inj x y hx hy e := by
    have := klP_inj (hr x hx).1 (hr x hx).2 (hr y hy).1 (hr y hy).2 e
    exact Prod.ext this.1 this.2
  lit x hx := klP_key (hr x hx).1 (hr x hx).2

end Go.Proofs.Ytibfbdgenamlkaa
