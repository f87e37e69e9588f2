/-
  Arguments that are structs of an array of two int64 and an int64 (circles).
-/
import Derived.Test.YtibfbdgenamlkaaPost
namespace Go.Proofs.Ytibfbdgenamlkaa
open Go.RowKit Go.WideShapes Go.ChangeShapes Go.ChangeAt

theorem len2g {α : Type} {xs : List α} (h : xs.length = 2) : ∃ a b, xs = [a, b] := match xs, h with | [a, b], _ => ⟨a, b, rfl⟩
theorem len3g {α : Type} {xs : List α} (h : xs.length = 3) : ∃ a b c, xs = [a, b, c] := match xs, h with | [a, b, c], _ => ⟨a, b, c, rfl⟩

section
variable {H : Type} {enc : TypeId × Value → H} {P : Program} {w : World} {base : Nat} {spare : Nat → Bool} {held : Bool}

/-- A struct's fields, one behind the other: an array of two and a number. -/
theorem open_circ {r : Reach} {b0 : Nat} {t a e : TypeId} {f0 f1 : Field} {v : Value} {d : DataW H} {p : List MemPlace} (ht : P.underlying t = some (.struct #[f0, f1])) (ha : P.underlying a = some (.array 2 e)) (he : P.underlying e = some (.int .i64))
    (t0 : f0.type = a) (o0 : f0.offset = 0) (t1 : f1.type = e) (o1 : f1.offset = 2) (hC : P.cellsOf t = 3) (hA : P.cellsOf a = 2) (hc : P.cellsOf e = 1)
    (hv : Value.okWide P w r b0 t v) (h : DataW.Trod enc P w base spare held t v d p) :
    ∃ x y q : Int, v = .agg #[.int .i64 x, .int .i64 y, .int .i64 q] ∧ d = .agg [.agg (lits H [x, y]), .lit (.int .i64 q)] ∧ p = [] ∧ Wfs [x, y] ∧ Wfs [q] := by
  obtain ⟨cs, rfl, hsz⟩ := okWide_struct ht hv
  obtain ⟨fuel, hf⟩ := h
  obtain ⟨ys, m, _, hx, hl, hlen, hg⟩ := DataW.trod_struct ht hf
  simp only [Prod.mk.injEq] at hx
  have h0 := hg 0 f0 rfl
  have h1 := hg 1 f1 rfl
  rw [t0, o0, hA] at h0
  rw [t1, o1, hc] at h1
  have hcl : cs.toList.length = 3 := by rw [Array.length_toList, hsz, hC]
  obtain ⟨c0, c1, c2, hcs⟩ : ∃ c0 c1 c2, cs.toList = [c0, c1, c2] := len3g hcl
  obtain ⟨y0, y1, hys⟩ : ∃ y0 y1, ys = [y0, y1] := len2g (by simpa using hlen)
  have hcv : (Value.agg cs).cells.toList = cs.toList := rfl
  rw [hcv, hcs, hys] at h0 h1
  simp only [List.drop_zero, List.take_succ_cons, List.take_zero, List.drop_succ_cons, List.getElem?_cons_zero, List.getElem?_cons_succ] at h0 h1
  obtain ⟨zs, k, _, hz, _, zlen, zg⟩ := DataW.trod_array ha h0
  simp only [hc, Nat.mul_one] at zg
  obtain ⟨xs, g1, g2, g3, g4, g5⟩ := read_each he [c0, c1] zs (by simpa using zlen) (fun i hi => zg i (by simpa using hi))
  obtain ⟨x, y, rfl⟩ := len2 (by simpa using g1)
  obtain ⟨q, ec, ey, wq⟩ := DataW.trod_int he h1
  simp only [List.map_cons, List.map_nil, List.cons.injEq, and_true] at g2 ec
  refine ⟨x, y, q, ?_, ?_, ?_, g5, fun z hz' => by rw [List.mem_singleton] at hz'; rw [hz']; exact wq⟩
  · have : cs = #[c0, c1, c2] := by rw [← Array.toList_inj, hcs]
    rw [this, g2.1, g2.2, ec]
  · rw [hx.1, hys]
    simp [hz, g3, ey]
  · rw [hx.2, hys]
    simp [hz, g4, ey]

theorem trod_arr {t e : TypeId} {n : Nat} {xs : List Int} (ht : P.underlying t = some (.array n e)) (he : P.underlying e = some (.int .i64)) (hC : P.cellsOf t = n) (hc : P.cellsOf e = 1) (hn : xs.length = n) (hw : Wfs xs) :
    DataW.trod enc P w base spare held 2 t (vals xs).toList = some (.agg (lits H xs), []) := by
  unfold DataW.trod
  rw [ht]
  have hl : (vals xs).toList.length = P.cellsOf t := by rw [hC, ← hn]; simp [vals]
  simp only [hc, Nat.mul_one]
  rw [if_pos hl]
  have hm : (List.range n).mapM (fun i => DataW.trod enc P w base spare held 1 e (((vals xs).toList.drop i).take 1)) = some ((List.range n).map fun i => ((.lit (.int .i64 (xs.getD i 0)) : DataW H), ([] : List MemPlace))) := by
    refine mapM_each _ fun i hi => ?_
    have hi' : i < xs.length := by rw [hn]; exact List.mem_range.1 hi
    have e1 : ((vals xs).toList.drop i).take 1 = [.int .i64 (xs.getD i 0)] := by
      rw [List.drop_eq_getElem_cons (by simpa [vals] using hi')]
      simp [vals, List.getD_eq_getElem?_getD, List.getElem?_eq_getElem hi']
    rw [e1]
    exact trod_int_mk 0 he (hw _ (by rw [List.getD_eq_getElem?_getD, List.getElem?_eq_getElem hi']; simp))
  rw [hm]
  have e2 : (List.range n).map (fun i => xs.getD i 0) = xs := by
    apply List.ext_getElem
    · simp [hn]
    · intro i h1 h2
      simp [List.getElem?_eq_getElem h2]
  simp only [Option.map_some, List.map_map, Function.comp_def, Option.some.injEq, Prod.mk.injEq]
  refine ⟨?_, by simp⟩
  conv => rhs; rw [lits, ← e2, List.map_map]
  rfl

theorem shut_circ {t a e : TypeId} {f0 f1 : Field} {x y q : Int} (ht : P.underlying t = some (.struct #[f0, f1])) (ha : P.underlying a = some (.array 2 e)) (he : P.underlying e = some (.int .i64))
    (t0 : f0.type = a) (o0 : f0.offset = 0) (t1 : f1.type = e) (o1 : f1.offset = 2) (hC : P.cellsOf t = 3) (hA : P.cellsOf a = 2) (hc : P.cellsOf e = 1) (hw : Wfs [x, y]) (hq : Wfs [q]) :
    DataW.Trod enc P w base spare held t (.agg #[.int .i64 x, .int .i64 y, .int .i64 q]) (.agg [.agg (lits H [x, y]), .lit (.int .i64 q)]) [] := by
  refine ⟨3, ?_⟩
  have h0 : DataW.trod enc P w base spare held 2 a [.int .i64 x, .int .i64 y] = some (.agg (lits H [x, y]), []) := trod_arr ha he hA hc rfl hw
  have h1 : DataW.trod enc P w base spare held 2 e [.int .i64 q] = some (.lit (.int .i64 q), []) := trod_int_mk 1 he (hq _ (by simp))
  unfold DataW.trod
  rw [ht]
  simp [Value.cells, hC, t0, o0, t1, o1, hA, hc, h0, h1]
end
end Go.Proofs.Ytibfbdgenamlkaa
