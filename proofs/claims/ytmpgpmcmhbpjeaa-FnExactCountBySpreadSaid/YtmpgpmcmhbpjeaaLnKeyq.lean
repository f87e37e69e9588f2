/-
  Lines as keys of maps.
-/
import Derived.Test.YtmpgpmcmhbpjeaaMgq0
import Derived.Test.YtmpgpmcmhbpjeaaRows
import Derived.Test.YtmpgpmcmhbpjeaaCollGq

namespace Go.Proofs.Ytmpgpmcmhbpjeaa
open Go.RowKit Go.WideMaps

/-- A key of three integers. -/
theorem keyOf_triple {P : Program} {k e : TypeId} {q : IntKind} (A : ArrKey P k e 3) (he : P.underlying e = some (.int q)) (hsz : ∃ m, P.types.size = m + 1) {a b c : Int} (wa : (Lit.int q a).wf = true) (wb : (Lit.int q b).wf = true) (wc : (Lit.int q c).wf = true) :
    keyOf P k (.agg #[.int q a, .int q b, .int q c]) = some (.string (keyBytes [.int q a, .int q b, .int q c])) := by
  have hkt := A.keyType hsz
  obtain ⟨m, hm⟩ := hsz
  unfold keyOf
  simp only [A.hu]
  rw [if_pos (by simp [hkt, Value.formed, A.hu, A.size]), hm]
  unfold Program.keyLits
  simp only [A.hu, Value.cells]
  rw [if_pos (by rw [A.size]; rfl), show List.range 3 = [0, 1, 2] from rfl, List.mapM_cons, List.mapM_cons, List.mapM_cons, List.mapM_nil]
  simp [A.one, Program.keyLits, he, wa, wb, wc]

set_option maxRecDepth 100000 in
theorem lnRow : (30 : TypeId) < Try.prog.types.size := of_decide_eq_true (by kernel_rfl)
theorem lnWide : (match Try.prog.underlying 30 with | some (.array _ _) | some (.struct _) => true | _ => false) = true := by rw [Try.underlying30]
set_option maxRecDepth 100000 in
theorem lnLaw : Go.Maps.Keyed Try.prog 30 := Go.Maps.Keyed.of_law (deep_law_laid laidOut (m := 2) (by omega) lnRow (by kernel_rfl) lnWide)
set_option maxRecDepth 100000 in
theorem lnArr : ArrKey Try.prog 30 2 3 := ⟨Try.underlying30, by kernel_rfl, by kernel_rfl, by kernel_rfl⟩
/-- A line as a key, and as a value. -/
def klL (x y z : Int) : Lit := .string (Go.keyBytes [.int .i64 x, .int .i64 y, .int .i64 z])
def lnV (x : Int × Int × Int) : Value := .agg #[.int .i64 x.1, .int .i64 x.2.1, .int .i64 x.2.2]
def LnR (x : Int × Int × Int) : Prop := (0 ≤ x.1 ∧ x.1 ≤ 31) ∧ (0 ≤ x.2.1 ∧ x.2.1 ≤ 31) ∧ 0 ≤ x.2.2 ∧ x.2.2 ≤ 31
theorem keyOf_ln {x : Int × Int × Int} (h : LnR x) : keyOf Try.prog 30 (lnV x) = some (klL x.1 x.2.1 x.2.2) :=
  keyOf_triple lnArr Try.underlying2 typesSome (wf31 h.1) (wf31 h.2.1) (wf31 h.2.2)
theorem klL_inj {x y : Int × Int × Int} (hx : LnR x) (hy : LnR y) (h : klL x.1 x.2.1 x.2.2 = klL y.1 y.2.1 y.2.2) : x = y := by
  have := lnLaw.inj (keyOf_ln hx) (by rw [h]; exact keyOf_ln hy)
  obtain ⟨x1, x2, x3⟩ := x
  obtain ⟨y1, y2, y3⟩ := y
  simpa [lnV] using this
theorem klL_key {x : Int × Int × Int} (h : LnR x) : WideAt.IsKeyLit (klL x.1 x.2.1 x.2.2) := lnLaw.key (keyOf_ln h)

/-- A set of lines, put in one after the other. -/
def setL (xs : List (Int × Int × Int)) : DataW Unit := xs.foldl (fun D x => D.put (klL x.1 x.2.1 x.2.2) (.lit (.bool true))) (.map [])
theorem setL_snoc (xs : List (Int × Int × Int)) (x : Int × Int × Int) : setL (xs ++ [x]) = (setL xs).put (klL x.1 x.2.1 x.2.2) (.lit (.bool true)) := by simp [setL]
theorem setL_isMap (xs : List (Int × Int × Int)) : Maps.IsMap (setL xs) := by
  induction xs using snoc_ind with
  | h0 => exact Maps.isMap_empty
  | hs xs x ih => rw [setL_snoc]; exact ih.put _ _
theorem setL_has {xs : List (Int × Int × Int)} (hr : ∀ z, z ∈ xs → LnR z) (kl : Lit) : Maps.has (setL xs) kl = true ↔ ∃ x, x ∈ xs ∧ klL x.1 x.2.1 x.2.2 = kl := by
  induction xs using snoc_ind with
  | h0 => constructor
          · intro h; cases h
          · rintro ⟨x, hx, _⟩; cases hx
  | hs xs x ih =>
    have ih' := ih (fun z hz => hr z (by simp [hz]))
    have hx := hr x (by simp)
    rw [setL_snoc]
    by_cases e : kl = klL x.1 x.2.1 x.2.2
    · subst e
      rw [Maps.has_put_same (setL_isMap xs) (klL_key hx)]
      exact ⟨fun _ => ⟨x, by simp, rfl⟩, fun _ => rfl⟩
    · rw [Maps.has_put_other e, ih']
      constructor
      · rintro ⟨y, hy, he⟩; exact ⟨y, by simp [hy], he⟩
      · rintro ⟨y, hy, he⟩
        rcases List.mem_append.1 hy with h | h
        · exact ⟨y, h, he⟩
        · simp at h; subst h; exact (e he.symm).elim
theorem setL_keys {xs : List (Int × Int × Int)} (hr : ∀ z, z ∈ xs → LnR z) : KeysOf 30 lnV (fun x => klL x.1 x.2.1 x.2.2) xs (setL xs) where
  has_of x hx := (setL_has hr _).2 ⟨x, hx, rfl⟩
  of_has kl h := (setL_has hr kl).1 h
  key x hx := keyOf_ln (hr x hx)
  inj x y hx hy e := klL_inj (hr x hx) (hr y hy) e
  lit x hx := klL_key (hr x hx)
/-- The set has at most as many lines as were put in. -/
theorem setL_tidy {xs : List (Int × Int × Int)} (hr : ∀ z, z ∈ xs → LnR z) : Maps.Tidy (setL xs) := by
  induction xs using snoc_ind with
  | h0 => exact Maps.tidy_empty
  | hs xs x ih => rw [setL_snoc]; exact (ih (fun z hz => hr z (by simp [hz]))).put (klL_key (hr x (by simp))) _
theorem setL_size {xs : List (Int × Int × Int)} (hr : ∀ z, z ∈ xs → LnR z) : Maps.size (setL xs) ≤ xs.length := by
  induction xs using snoc_ind with
  | h0 => exact Nat.le_refl _
  | hs xs x ih =>
    have ih' := ih (fun z hz => hr z (by simp [hz]))
    rw [setL_snoc, Maps.size_put (setL_tidy (fun z hz => hr z (by simp [hz]))), List.length_append, List.length_singleton]
    split <;> omega

end Go.Proofs.Ytmpgpmcmhbpjeaa
