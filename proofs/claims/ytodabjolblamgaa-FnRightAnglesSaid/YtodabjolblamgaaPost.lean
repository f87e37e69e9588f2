/-
  The row's last step behind 'Below', and arguments that are arrays of int64.
-/
import Derived.Test.YtodabjolblamgaaRows
import Derived.WalkKit
import Derived.ProofKit
import Derived.OpenShut
import Derived.Below
import Derived.ChangeSame
namespace Go.Proofs.Ytodabjolblamgaa
open Go.RowKit Go.WideShapes Go.ChangeShapes Go.ChangeAt

section
variable {H : Type} {enc : TypeId × Value → H} {P : Program}
/-- The row's last step where of the world behind the call 'Below' alone is known. -/
theorem post_below {f : Func} {s : ChangeSpec} {apart fresh handsOn again : Bool} {W W' : World} {args : Array Value} {v : Value} {ds gs : List (DataW H)} {before pa pv : List MemPlace}
    (hW : DataW.Whole enc P f.params.toList s.vars apart W args.toList ds gs before)
    (hres : ∀ (b : Nat) (sp : Nat → Bool) (hd : Bool), DataW.TrodAll enc P W' b sp hd f.resultTypes.toList (v.resultList f.resultTypes.size) (s.fn H (ds ++ gs)).results [])
    (hargs : ∀ sp : Nat → Bool, (∀ p ∈ before, sp p.block = true) → DataW.TrodAll enc P W' 0 sp true f.params.toList args.toList (s.fn H (ds ++ gs)).args pa)
    (hvars : ∀ sp : Nat → Bool, (∀ p ∈ before, sp p.block = true) → DataW.TrodVars enc P W' sp s.vars (s.fn H (ds ++ gs)).vars pv)
    (hps : before = pa ++ pv) (hb : Below W.heap.size W W')
    (hok : ∀ (j : Nat) (t : TypeId) (r : Value), f.resultTypes[j]? = some t → (v.resultList f.resultTypes.size)[j]? = some r → Value.okWide P W' .any 0 t r) :
    s.post enc P f apart fresh handsOn again W args v W' := by
  have hlt : ∀ p ∈ before, p.block < W.heap.size := fun p hp => hW.lt p hp
  have hold : ∀ p ∈ before, (fun b => decide (b < W.heap.size)) p.block = true := fun p hp => by simpa using hlt p hp
  refine ⟨ds, gs, before, [], pa, pv, hW, hres _ _ _, hargs _ hold, hvars _ hold, World.keptBut_mono (fun p hp => ⟨hp, ?_⟩) (hb.frame (· ∈ before)), fun _ => ?_⟩
  · rw [hps, List.mem_append] at hp
    exact Or.inr hp
  · obtain ⟨_, _, _, _, _, hz, hn⟩ := hW
    refine ⟨hok, _, _, ([] ++ pa) ++ pv, ⟨[] ++ pa, pv, trodAll_append (hargs _ (fun _ _ => rfl)) (hres _ _ _), hvars _ (fun _ _ => rfl), rfl, ?_, ?_⟩, ?_⟩
    · intro b off hp
      have hin : MemPlace.cell b off ∈ before := by rw [hps]; simpa using hp
      rw [hb.frozen (hlt _ hin)]
      exact hz b off hin
    · intro ha
      have := hn ha
      rw [hps] at this
      simpa using this
    · intro p hp _
      rw [hps]
      simpa using hp

variable {w : World} {base : Nat} {spare : Nat → Bool} {held : Bool}
def vals (xs : List Int) : Array Value := (xs.map (Value.int .i64)).toArray
def lits (H : Type) (xs : List Int) : List (DataW H) := xs.map fun x => .lit (.int .i64 x)
def Wfs (xs : List Int) : Prop := ∀ x ∈ xs, (Lit.int .i64 x).wf = true

theorem read_each {e : TypeId} (he : P.underlying e = some (.int .i64)) {m : Nat} : ∀ (cs : List Value) (ys : List (DataW H × List MemPlace)), ys.length = cs.length →
    (∀ i, i < cs.length → DataW.trod enc P w base spare held m e ((cs.drop i).take 1) = ys[i]?) →
    ∃ xs : List Int, xs.length = cs.length ∧ cs = xs.map (Value.int .i64) ∧ ys.map (·.1) = lits H xs ∧ ys.flatMap (·.2) = [] ∧ Wfs xs
  | [], ys, hl, _ => by
    have : ys = [] := List.length_eq_zero_iff.1 (by simpa using hl)
    subst this
    exact ⟨[], rfl, rfl, rfl, rfl, fun x hx => absurd hx (by simp)⟩
  | c :: cs, [], hl, _ => absurd hl (by simp)
  | c :: cs, y :: ys, hl, h => by
    have h0 := h 0 (by simp)
    simp only [List.drop_zero, List.take_succ_cons, List.take_zero, List.getElem?_cons_zero] at h0
    obtain ⟨a, ec, ey, wa⟩ := DataW.trod_int he h0
    have hr : ∀ i, i < cs.length → DataW.trod enc P w base spare held m e ((cs.drop i).take 1) = ys[i]? := fun i hi => by
      have := h (i + 1) (by simpa using hi)
      simpa using this
    obtain ⟨xs, h1, h2, h3, h4, h5⟩ := read_each he cs ys (by simpa using hl) hr
    simp only [List.cons.injEq] at ec
    refine ⟨a :: xs, by simp [h1], by rw [h2, ec.1]; rfl, by simp [lits, ey, h3], by simp [ey, h4], fun x hx => ?_⟩
    rcases List.mem_cons.1 hx with rfl | hx
    · exact wa
    · exact h5 x hx

theorem okWide_arr {t e : TypeId} {n : Nat} (ht : P.underlying t = some (.array n e)) {r : Reach} {b0 : Nat} {v : Value} (h : Value.okWide P w r b0 t v) : ∃ xs : Array Value, v = .agg xs ∧ xs.size = P.cellsOf t := by
  simp only [Value.okWide, ht] at h
  obtain ⟨cs, h1, h2, _⟩ := h
  exact ⟨cs, h1, h2⟩

/-- An argument that is an array of int64, opened. -/
theorem open_arr {r : Reach} {b0 : Nat} {t e : TypeId} {n : Nat} {v : Value} {d : DataW H} {p : List MemPlace} (ht : P.underlying t = some (.array n e)) (he : P.underlying e = some (.int .i64)) (hC : P.cellsOf t = n) (hc : P.cellsOf e = 1)
    (hv : Value.okWide P w r b0 t v) (h : DataW.Trod enc P w base spare held t v d p) :
    ∃ xs : List Int, xs.length = n ∧ v = .agg (vals xs) ∧ d = .agg (lits H xs) ∧ p = [] ∧ Wfs xs := by
  obtain ⟨cs, rfl, hsz⟩ := okWide_arr ht hv
  obtain ⟨fuel, hf⟩ := h
  obtain ⟨ys, m, _, hx, hl, hlen, hg⟩ := DataW.trod_array ht hf
  simp only [Prod.mk.injEq] at hx
  simp only [hc, Nat.mul_one] at hg
  have hcl : cs.toList.length = n := by rw [Array.length_toList, hsz, hC]
  obtain ⟨xs, h1, h2, h3, h4, h5⟩ := read_each he cs.toList ys (by rw [hlen, hcl]) (fun i hi => hg i (by omega))
  refine ⟨xs, by omega, ?_, by rw [hx.1, h3], by rw [hx.2, h4], h5⟩
  rw [vals, ← h2]

theorem mapM_each {α β : Type} {f : α → Option β} {g : α → β} : ∀ l : List α, (∀ a ∈ l, f a = some (g a)) → l.mapM f = some (l.map g)
  | [], _ => rfl
  | a :: l, h => by
    rw [List.mapM_cons, h a (by simp), mapM_each l (fun b hb => h b (by simp [hb]))]
    rfl

/-- An array of int64 reads as its numbers, in whatever world. -/
theorem shut_arr {t e : TypeId} {n : Nat} {xs : List Int} (ht : P.underlying t = some (.array n e)) (he : P.underlying e = some (.int .i64)) (hC : P.cellsOf t = n) (hc : P.cellsOf e = 1) (hn : xs.length = n) (hw : Wfs xs) :
    DataW.Trod enc P w base spare held t (.agg (vals xs)) (.agg (lits H xs)) [] := by
  refine ⟨2, ?_⟩
  unfold DataW.trod
  rw [ht]
  have hl : (vals xs).toList.length = P.cellsOf t := by rw [hC, ← hn]; simp [vals]
  simp only [Value.cells, hc, Nat.mul_one]
  rw [if_pos hl]
  have hm : (List.range n).mapM (fun i => DataW.trod enc P w base spare held 1 e (((vals xs).toList.drop i).take 1)) = some ((List.range n).map fun i => ((.lit (.int .i64 (xs.getD i 0)) : DataW H), ([] : List MemPlace))) := by
    refine mapM_each _ fun i hi => ?_
    have hi' : i < xs.length := by rw [hn]; exact List.mem_range.1 hi
    have e1 : ((vals xs).toList.drop i).take 1 = [.int .i64 (xs.getD i 0)] := by
      rw [List.drop_eq_getElem_cons (by simpa [vals] using hi')]
      simp [vals, List.getD_eq_getElem?_getD, List.getElem?_eq_getElem hi']
    rw [e1]
    exact trod_int_mk 0 he (hw _ (by rw [List.getD_eq_getElem?_getD, List.getElem?_eq_getElem hi']; simp))
  rw [hm]
  have e2 : (List.range n).map (fun i => xs.getD i 0) = xs := by
    apply List.ext_getElem
    · simp [hn]
    · intro i h1 h2
      simp [List.getElem?_eq_getElem h2]
  simp only [Option.map_some, List.map_map, Function.comp_def, Option.some.injEq, Prod.mk.injEq]
  refine ⟨?_, by simp⟩
  conv => rhs; rw [lits, ← e2, List.map_map]
  rfl
end
theorem len2 {xs : List Int} (h : xs.length = 2) : ∃ a b, xs = [a, b] := match xs, h with | [a, b], _ => ⟨a, b, rfl⟩
theorem len3 {xs : List Int} (h : xs.length = 3) : ∃ a b c, xs = [a, b, c] := match xs, h with | [a, b, c], _ => ⟨a, b, c, rfl⟩
theorem len4 {xs : List Int} (h : xs.length = 4) : ∃ a b c d, xs = [a, b, c, d] := match xs, h with | [a, b, c, d], _ => ⟨a, b, c, d, rfl⟩
theorem len6 {xs : List Int} (h : xs.length = 6) : ∃ a b c d e f, xs = [a, b, c, d, e, f] := match xs, h with | [a, b, c, d, e, f], _ => ⟨a, b, c, d, e, f, rfl⟩
end Go.Proofs.Ytodabjolblamgaa
