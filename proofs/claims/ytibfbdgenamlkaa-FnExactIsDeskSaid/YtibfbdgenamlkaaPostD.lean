/-
  Arguments that are structs of two int64 and an array of three arrays of two int64 (desks).
-/
import Derived.Test.YtibfbdgenamlkaaPostS
namespace Go.Proofs.Ytibfbdgenamlkaa
open Go.RowKit Go.WideShapes Go.ChangeShapes Go.ChangeAt

theorem len8g {α : Type} {xs : List α} (h : xs.length = 8) : ∃ a b c d e f g k, xs = [a, b, c, d, e, f, g, k] := match xs, h with | [a, b, c, d, e, f, g, k], _ => ⟨a, b, c, d, e, f, g, k, rfl⟩

section
variable {H : Type} {enc : TypeId × Value → H} {P : Program} {w : World} {base : Nat} {spare : Nat → Bool} {held : Bool}

/-- An array of two numbers, read. -/
theorem read_two {a e : TypeId} (ha : P.underlying a = some (.array 2 e)) (he : P.underlying e = some (.int .i64)) (hc : P.cellsOf e = 1) {fuel : Nat} {c0 c1 : Value} {y : DataW H × List MemPlace}
    (h : DataW.trod enc P w base spare held fuel a [c0, c1] = some y) : ∃ x z : Int, c0 = .int .i64 x ∧ c1 = .int .i64 z ∧ y = (.agg (lits H [x, z]), []) ∧ Wfs [x, z] := by
  obtain ⟨zs, k, _, hz, _, zlen, zg⟩ := DataW.trod_array ha h
  simp only [hc, Nat.mul_one] at zg
  obtain ⟨xs, g1, g2, g3, g4, g5⟩ := read_each he [c0, c1] zs (by simpa using zlen) (fun i hi => zg i (by simpa using hi))
  obtain ⟨x, z, rfl⟩ := len2g (by simpa using g1)
  simp only [List.map_cons, List.map_nil, List.cons.injEq, and_true] at g2
  exact ⟨x, z, g2.1, g2.2, by rw [hz, g3, g4], g5⟩
theorem open_desk {r : Reach} {b0 : Nat} {t a3 a2 e : TypeId} {f0 f1 f2 : Field} {v : Value} {d : DataW H} {p : List MemPlace} (ht : P.underlying t = some (.struct #[f0, f1, f2])) (ha3 : P.underlying a3 = some (.array 3 a2)) (ha2 : P.underlying a2 = some (.array 2 e)) (he : P.underlying e = some (.int .i64))
    (t0 : f0.type = e) (o0 : f0.offset = 0) (t1 : f1.type = e) (o1 : f1.offset = 1) (t2 : f2.type = a3) (o2 : f2.offset = 2) (hC : P.cellsOf t = 8) (hA3 : P.cellsOf a3 = 6) (hA2 : P.cellsOf a2 = 2) (hc : P.cellsOf e = 1)
    (hv : Value.okWide P w r b0 t v) (h : DataW.Trod enc P w base spare held t v d p) :
    ∃ q k x0 y0 x1 y1 x2 y2 : Int, v = .agg #[.int .i64 q, .int .i64 k, .int .i64 x0, .int .i64 y0, .int .i64 x1, .int .i64 y1, .int .i64 x2, .int .i64 y2] ∧
      d = .agg [.lit (.int .i64 q), .lit (.int .i64 k), .agg [.agg (lits H [x0, y0]), .agg (lits H [x1, y1]), .agg (lits H [x2, y2])]] ∧ p = [] ∧ Wfs [q] ∧ Wfs [k] ∧ Wfs [x0, y0] ∧ Wfs [x1, y1] ∧ Wfs [x2, y2] := by
  obtain ⟨cs, rfl, hsz⟩ := okWide_struct ht hv
  obtain ⟨fuel, hf⟩ := h
  obtain ⟨ys, m, _, hx, hl, hlen, hg⟩ := DataW.trod_struct ht hf
  simp only [Prod.mk.injEq] at hx
  have h0 := hg 0 f0 rfl
  have h1 := hg 1 f1 rfl
  have h2 := hg 2 f2 rfl
  rw [t0, o0, hc] at h0
  rw [t1, o1, hc] at h1
  rw [t2, o2, hA3] at h2
  have hcl : cs.toList.length = 8 := by rw [Array.length_toList, hsz, hC]
  obtain ⟨c0, c1, c2, c3, c4, c5, c6, c7, hcs⟩ : ∃ c0 c1 c2 c3 c4 c5 c6 c7, cs.toList = [c0, c1, c2, c3, c4, c5, c6, c7] := len8g hcl
  obtain ⟨y0, y1, y2, hys⟩ : ∃ y0 y1 y2, ys = [y0, y1, y2] := len3g (by simpa using hlen)
  have hcv : (Value.agg cs).cells.toList = cs.toList := rfl
  rw [hcv, hcs, hys] at h0 h1 h2
  simp only [List.drop_zero, List.take_succ_cons, List.take_zero, List.drop_succ_cons, List.getElem?_cons_zero, List.getElem?_cons_succ] at h0 h1 h2
  obtain ⟨q, e0, z0, w0⟩ := DataW.trod_int he h0
  obtain ⟨k, e1, z1, w1⟩ := DataW.trod_int he h1
  obtain ⟨zs, m2, _, hz, _, zlen, zg⟩ := DataW.trod_array ha3 h2
  obtain ⟨u0, u1, u2, hus⟩ : ∃ u0 u1 u2, zs = [u0, u1, u2] := len3g zlen
  have g0 := zg 0 (by decide)
  have g1 := zg 1 (by decide)
  have g2 := zg 2 (by decide)
  rw [hA2, hus] at g0 g1 g2
  simp only [Nat.zero_mul, Nat.one_mul, show 2 * 2 = 4 from rfl, List.drop_zero, List.take_succ_cons, List.take_zero, List.drop_succ_cons, List.getElem?_cons_zero, List.getElem?_cons_succ] at g0 g1 g2
  obtain ⟨xa, ya, ra, sa, va, wa⟩ := read_two ha2 he hc g0
  obtain ⟨xb, yb, rb, sb, vb, wb⟩ := read_two ha2 he hc g1
  obtain ⟨xc, yc, rc, sc, vc, wc⟩ := read_two ha2 he hc g2
  simp only [List.cons.injEq, and_true] at e0 e1
  refine ⟨q, k, xa, ya, xb, yb, xc, yc, ?_, ?_, ?_, fun z hz' => by rw [List.mem_singleton] at hz'; rw [hz']; exact w0, fun z hz' => by rw [List.mem_singleton] at hz'; rw [hz']; exact w1, wa, wb, wc⟩
  · have : cs = #[c0, c1, c2, c3, c4, c5, c6, c7] := by rw [← Array.toList_inj, hcs]
    rw [this, e0, e1, ra, sa, rb, sb, rc, sc]
  · rw [hx.1, hys]
    simp [hz, z0, z1, hus, va, vb, vc]
  · rw [hx.2, hys]
    simp [hz, z0, z1, hus, va, vb, vc]

theorem shut_desk {t a3 a2 e : TypeId} {f0 f1 f2 : Field} {q k x0 y0 x1 y1 x2 y2 : Int} (ht : P.underlying t = some (.struct #[f0, f1, f2])) (ha3 : P.underlying a3 = some (.array 3 a2)) (ha2 : P.underlying a2 = some (.array 2 e)) (he : P.underlying e = some (.int .i64))
    (t0 : f0.type = e) (o0 : f0.offset = 0) (t1 : f1.type = e) (o1 : f1.offset = 1) (t2 : f2.type = a3) (o2 : f2.offset = 2) (hC : P.cellsOf t = 8) (hA3 : P.cellsOf a3 = 6) (hA2 : P.cellsOf a2 = 2) (hc : P.cellsOf e = 1)
    (hq : Wfs [q]) (hk : Wfs [k]) (w0 : Wfs [x0, y0]) (w1 : Wfs [x1, y1]) (w2 : Wfs [x2, y2]) :
    DataW.Trod enc P w base spare held t (.agg #[.int .i64 q, .int .i64 k, .int .i64 x0, .int .i64 y0, .int .i64 x1, .int .i64 y1, .int .i64 x2, .int .i64 y2])
      (.agg [.lit (.int .i64 q), .lit (.int .i64 k), .agg [.agg (lits H [x0, y0]), .agg (lits H [x1, y1]), .agg (lits H [x2, y2])]]) [] := by
  refine ⟨4, ?_⟩
  have h0 : DataW.trod enc P w base spare held 3 e [.int .i64 q] = some (.lit (.int .i64 q), []) := trod_int_mk 2 he (hq _ (by simp))
  have h1 : DataW.trod enc P w base spare held 3 e [.int .i64 k] = some (.lit (.int .i64 k), []) := trod_int_mk 2 he (hk _ (by simp))
  have i0 : DataW.trod enc P w base spare held 2 a2 [.int .i64 x0, .int .i64 y0] = some (.agg (lits H [x0, y0]), []) := trod_arr ha2 he hA2 hc rfl w0
  have i1 : DataW.trod enc P w base spare held 2 a2 [.int .i64 x1, .int .i64 y1] = some (.agg (lits H [x1, y1]), []) := trod_arr ha2 he hA2 hc rfl w1
  have i2 : DataW.trod enc P w base spare held 2 a2 [.int .i64 x2, .int .i64 y2] = some (.agg (lits H [x2, y2]), []) := trod_arr ha2 he hA2 hc rfl w2
  have h2 : DataW.trod enc P w base spare held 3 a3 [.int .i64 x0, .int .i64 y0, .int .i64 x1, .int .i64 y1, .int .i64 x2, .int .i64 y2] = some (.agg [.agg (lits H [x0, y0]), .agg (lits H [x1, y1]), .agg (lits H [x2, y2])], []) := by
    unfold DataW.trod
    rw [ha3]
    simp [hA3, hA2, List.range_succ, i0, i1, i2]
  unfold DataW.trod
  rw [ht]
  simp [Value.cells, hC, t0, o0, t1, o1, t2, o2, hA3, hc, h0, h1, h2]
end
end Go.Proofs.Ytibfbdgenamlkaa
