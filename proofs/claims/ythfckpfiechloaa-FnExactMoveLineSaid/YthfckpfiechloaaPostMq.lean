/-
  Arguments that are structs of an array of four int64 and an array of two int64 (moves).
-/
import Derived.Test.YthfckpfiechloaaPostSq

namespace Go.Proofs.Ythfckpfiechloaa
open Go.RowKit Go.WideShapes Go.ChangeShapes Go.ChangeAt

theorem len6g {α : Type} {xs : List α} (h : xs.length = 6) : ∃ a b c d e f, xs = [a, b, c, d, e, f] := match xs, h with | [a, b, c, d, e, f], _ => ⟨a, b, c, d, e, f, rfl⟩
theorem len4g {α : Type} {xs : List α} (h : xs.length = 4) : ∃ a b c d, xs = [a, b, c, d] := match xs, h with | [a, b, c, d], _ => ⟨a, b, c, d, rfl⟩

section
variable {H : Type} {enc : TypeId × Value → H} {P : Program} {w : World} {base : Nat} {spare : Nat → Bool} {held : Bool}

/-- A struct's fields, one behind the other: an array of four and an array of two. -/
theorem open_mov {r : Reach} {b0 : Nat} {t a a2 e : TypeId} {f0 f1 : Field} {v : Value} {d : DataW H} {p : List MemPlace} (ht : P.underlying t = some (.struct #[f0, f1])) (ha : P.underlying a = some (.array 4 e)) (ha2 : P.underlying a2 = some (.array 2 e)) (he : P.underlying e = some (.int .i64))
    (t0 : f0.type = a) (o0 : f0.offset = 0) (t1 : f1.type = a2) (o1 : f1.offset = 4) (hC : P.cellsOf t = 6) (hA : P.cellsOf a = 4) (hA2 : P.cellsOf a2 = 2) (hc : P.cellsOf e = 1)
    (hv : Value.okWide P w r b0 t v) (h : DataW.Trod enc P w base spare held t v d p) :
    ∃ x y z u q s : Int, v = .agg #[.int .i64 x, .int .i64 y, .int .i64 z, .int .i64 u, .int .i64 q, .int .i64 s] ∧ d = .agg [.agg (lits H [x, y, z, u]), .agg (lits H [q, s])] ∧ p = [] ∧ Wfs [x, y, z, u] ∧ Wfs [q, s] := by
  obtain ⟨cs, rfl, hsz⟩ := okWide_struct ht hv
  obtain ⟨fuel, hf⟩ := h
  obtain ⟨ys, m, _, hx, hl, hlen, hg⟩ := DataW.trod_struct ht hf
  simp only [Prod.mk.injEq] at hx
  have h0 := hg 0 f0 rfl
  have h1 := hg 1 f1 rfl
  rw [t0, o0, hA] at h0
  rw [t1, o1, hA2] at h1
  have hcl : cs.toList.length = 6 := by rw [Array.length_toList, hsz, hC]
  obtain ⟨c0, c1, c2, c3, c4, c5, hcs⟩ : ∃ c0 c1 c2 c3 c4 c5, cs.toList = [c0, c1, c2, c3, c4, c5] := len6g hcl
  obtain ⟨y0, y1, hys⟩ : ∃ y0 y1, ys = [y0, y1] := len2g (by simpa using hlen)
  have hcv : (Value.agg cs).cells.toList = cs.toList := rfl
  rw [hcv, hcs, hys] at h0 h1
  simp only [List.drop_zero, List.take_succ_cons, List.take_zero, List.drop_succ_cons, List.getElem?_cons_zero, List.getElem?_cons_succ] at h0 h1
  obtain ⟨zs, k, _, hz, _, zlen, zg⟩ := DataW.trod_array ha h0
  simp only [hc, Nat.mul_one] at zg
  obtain ⟨xs, g1, g2, g3, g4, g5⟩ := read_each he [c0, c1, c2, c3] zs (by simpa using zlen) (fun i hi => zg i (by simpa using hi))
  obtain ⟨x, y, z, u, rfl⟩ := len4g (by simpa using g1)
  obtain ⟨zs', k', _, hz', _, zlen', zg'⟩ := DataW.trod_array ha2 h1
  simp only [hc, Nat.mul_one] at zg'
  obtain ⟨xs', g1', g2', g3', g4', g5'⟩ := read_each he [c4, c5] zs' (by simpa using zlen') (fun i hi => zg' i (by simpa using hi))
  obtain ⟨q, s, rfl⟩ := len2g (by simpa using g1')
  simp only [List.map_cons, List.map_nil, List.cons.injEq, and_true] at g2 g2'
  refine ⟨x, y, z, u, q, s, ?_, ?_, ?_, g5, g5'⟩
  · have : cs = #[c0, c1, c2, c3, c4, c5] := by rw [← Array.toList_inj, hcs]
    rw [this, g2.1, g2.2.1, g2.2.2.1, g2.2.2.2, g2'.1, g2'.2]
  · rw [hx.1, hys]
    simp [hz, g3, hz', g3']
  · rw [hx.2, hys]
    simp [hz, g4, hz', g4']

theorem shut_mov {t a a2 e : TypeId} {f0 f1 : Field} {x y z u q s : Int} (ht : P.underlying t = some (.struct #[f0, f1])) (ha : P.underlying a = some (.array 4 e)) (ha2 : P.underlying a2 = some (.array 2 e)) (he : P.underlying e = some (.int .i64))
    (t0 : f0.type = a) (o0 : f0.offset = 0) (t1 : f1.type = a2) (o1 : f1.offset = 4) (hC : P.cellsOf t = 6) (hA : P.cellsOf a = 4) (hA2 : P.cellsOf a2 = 2) (hc : P.cellsOf e = 1) (hw : Wfs [x, y, z, u]) (hq : Wfs [q, s]) :
    DataW.Trod enc P w base spare held t (.agg #[.int .i64 x, .int .i64 y, .int .i64 z, .int .i64 u, .int .i64 q, .int .i64 s]) (.agg [.agg (lits H [x, y, z, u]), .agg (lits H [q, s])]) [] := by
  refine ⟨3, ?_⟩
  have h0 : DataW.trod enc P w base spare held 2 a [.int .i64 x, .int .i64 y, .int .i64 z, .int .i64 u] = some (.agg (lits H [x, y, z, u]), []) := trod_arr ha he hA hc rfl hw
  have h1 : DataW.trod enc P w base spare held 2 a2 [.int .i64 q, .int .i64 s] = some (.agg (lits H [q, s]), []) := trod_arr ha2 he hA2 hc rfl hq
  unfold DataW.trod
  rw [ht]
  simp [Value.cells, hC, t0, o0, t1, o1, hA, hA2, h0, h1]
end
end Go.Proofs.Ythfckpfiechloaa
