/-
  The program's PointsOn: a range over a function that appends.
-/
import Derived.Test.YtklfgelmieecmabSeqPts
import Derived.Test.YtklfgelmieecmabPointsOf
import Derived.Test.YtklfgelmieecmabPtCells
import Derived.Test.YtklfgelmieecmabCode
import Derived.Test.YtklfgelmieecmabImplLins
import Derived.Maps.AppendAt
namespace Go.Proofs.Ytklfgelmieecmab
open Go.RowKit Go.Shelf

attribute [local go_sem] Oper.semAt_some

/-- The iterator's contract. -/
theorem seqPts_stops (n b0 b1 b2 lo hi : Nat) (p s1 s2 n1 n2 : Int) (hn : 1 ≤ n) (hp : isP p = true) (hs1 : 0 ≤ s1 ∧ s1 ≤ 31) (hs2 : 0 ≤ s2 ∧ s2 ≤ 31) (hn1 : 0 ≤ n1 ∧ n1 ≤ 31) (hn2 : 0 ≤ n2 ∧ n2 ≤ 31) (w : World)
    (h0 : w.cell? ⟨b0, 0, none⟩ = some (.int .i64 p)) (h1 : w.cell? ⟨b1, 0, none⟩ = some (.int .i64 s1)) (h2 : w.cell? ⟨b1, 1, none⟩ = some (.int .i64 s2)) (h3 : w.cell? ⟨b2, 0, none⟩ = some (.int .i64 n1)) (h4 : w.cell? ⟨b2, 1, none⟩ = some (.int .i64 n2))
    (g0 : lo ≤ b0 ∧ b0 < hi) (g1 : lo ≤ b1 ∧ b1 < hi) (g2 : lo ≤ b2 ∧ b2 < hi) (hhi : hi ≤ w.heap.size) :
    SeqStopsK Fence.wide n Try.prog 83 #[.pointer (some ⟨b0, 0, none⟩), .pointer (some ⟨b1, 0, none⟩), .pointer (some ⟨b2, 0, none⟩)] (fun x => #[ptV x]) (Btw lo hi)
      (fun ys => ys = cbs p s1 s2 n1 n2 p.toNat) (fun pre => pre <+: cbs p s1 s2 n1 n2 p.toNat) p.toNat w := fun l J Jx W hW hJ _ hY hst => by
  have hs := hW.size
  have c : ∀ b j, b < hi → W.cell? ⟨b, j, none⟩ = w.cell? ⟨b, j, none⟩ := fun b j hb => cell_old hW (by omega) j
  exact seqPts_in n l b0 b1 b2 lo hi p s1 s2 n1 n2 hn hp hs1 hs2 hn1 hn2 J Jx W hJ hY ((c _ _ g0.2).trans h0) ((c _ _ g1.2).trans h1) ((c _ _ g1.2).trans h2) ((c _ _ g2.2).trans h3) ((c _ _ g2.2).trans h4) g0 g1 g2 (by omega) hst
theorem sq_r {p l1 l2 l3 : Int} (hp : isP p = true) : (0 ≤ sqS1 p l1 l2 l3 ∧ sqS1 p l1 l2 l3 ≤ 31) ∧ (0 ≤ sqS2 p l1 l2 l3 ∧ sqS2 p l1 l2 l3 ≤ 31) ∧ (0 ≤ sqN1 p l1 l2 l3 ∧ sqN1 p l1 l2 l3 ≤ 31) ∧ (0 ≤ sqN2 p l1 l2 l3 ∧ sqN2 p l1 l2 l3 ≤ 31) := by
  have h1 := modR31 (-l3) hp
  have h2 := modR31 (-l3 * inv p l2) hp
  have h3 := modR31 (-(l1 + l3) * inv p l2) hp
  unfold sqS1 sqS2 sqN1 sqN2
  cases h : (l2 == 0) <;> simp <;> omega

/-- A box that holds a point. -/
def Box2 (W : World) (B : Nat) (t : TypeId) (x : Int × Int) : Prop := W.heap[B]? = some (.cells #[.int .i64 x.1, .int .i64 x.2] t (0, 0))
theorem box2_cell1 {W : World} {B : Nat} {t : TypeId} {x : Int × Int} (h : Box2 W B t x) : W.cell? ⟨B, 0, none⟩ = some (.int .i64 x.1) := by simp [World.cell?, show W.heap[B]? = _ from h]
theorem box2_cell2 {W : World} {B : Nat} {t : TypeId} {x : Int × Int} (h : Box2 W B t x) : W.cell? ⟨B, 1, none⟩ = some (.int .i64 x.2) := by simp [World.cell?, show W.heap[B]? = _ from h]
theorem box2_own (B C : Nat) (t : TypeId) (x : Int × Int) : OwnFrom C (fun (_ : Unit) W => Box2 W B t x) := fun _ X Y row hs hg hrow =>
  (hg.block B (Array.getElem?_eq_some_iff.1 hs).1 (fun e' => by
    obtain ⟨_, o, ho, hc⟩ := hrow B e'.symm
    rw [show X.heap[B]? = _ from hs] at ho; cases ho; cases hc)).trans hs
theorem box2_new (W : World) (t : TypeId) (x : Int × Int) : Box2 (W.alloc (.cells #[.int .i64 x.1, .int .i64 x.2] t)) W.heap.size t x := World.alloc_heap_new W _
theorem row_own {β : Type} (n₀ : Nat) (e : TypeId) (size : Nat) (v : β → Value) (k : β → Nat) (f : β → List Value) : Own (fun s W => W.ownsRow n₀ e size (v s) (k s) (f s)) := by
  rintro s X Y row hr hg hrow
  refine hr.kept hg ?_
  rcases hr.2 with ⟨hv, _⟩ | ⟨g, cap, cur, hv, _, hgb, _⟩
  · rw [hv]; exact .inl rfl
  · rw [hv]; refine .inr fun e' => ?_
    obtain ⟨o, ho, hc⟩ := hrow g (by simpa [Value.ownBlock] using e'.symm)
    rw [hgb] at ho; cases ho; cases hc
theorem size_own {β : Type} (B n : Nat) : OwnFrom B (fun (_ : β) W => n ≤ W.heap.size) := fun _ _ _ _ hs hg _ => Nat.le_trans hs hg.size

set_option maxRecDepth 100000 in
set_option maxRecDepth 20000 in
set_option maxHeartbeats 4000000 in
theorem implPointsOn_good (p l1 l2 l3 : Int) (w : World) (hp : isP p = true) (hl : lineB p l1 l2 l3 = true) :
    Calls Try.prog 13 #[.int .i64 p, .agg #[.int .i64 l1, .int .i64 l2, .int .i64 l3]] w fun e w' =>
      SlicePost 35 2 (flat (cbs p (sqS1 p l1 l2 l3) (sqS2 p l1 l2 l3) (sqN1 p l1 l2 l3) (sqN2 p l1 l2 l3) p.toNat)) 0 w e w' := by
  have hr := isP_range hp
  have hq := nums3 (lineB_in hl).2
  have c1 : codeOf p true = 0 := codeOf_in hp rfl
  have hc0 : p = (p.toNat : Int) := (Int.toNat_of_nonneg (by omega)).symm
  have HC0 := Lib.hid hc0
  clear hc0
  have HL := Lib.hid hl
  obtain ⟨⟨rs1, rs1'⟩, ⟨rs2, rs2'⟩, ⟨rn1, rn1'⟩, ⟨rn2, rn2'⟩⟩ := sq_r (l1 := l1) (l2 := l2) (l3 := l3) hp
  have hpo := fun w' => pointsOf_any p l1 l2 l3 w' hp hq.1 hq.2.1 hq.2.2
  obtain ⟨s1, e1⟩ : ∃ x, x = sqS1 p l1 l2 l3 := ⟨_, rfl⟩
  obtain ⟨s2, e2⟩ : ∃ x, x = sqS2 p l1 l2 l3 := ⟨_, rfl⟩
  obtain ⟨n1, e3⟩ : ∃ x, x = sqN1 p l1 l2 l3 := ⟨_, rfl⟩
  obtain ⟨n2, e4⟩ : ∃ x, x = sqN2 p l1 l2 l3 := ⟨_, rfl⟩
  rw [← e1, ← e2, ← e3, ← e4] at hpo ⊢
  rw [← e1] at rs1 rs1'
  rw [← e2] at rs2 rs2'
  rw [← e3] at rn1 rn1'
  rw [← e4] at rn2 rn2'
  clear e1 e2 e3 e4
  have HPO := Lib.hid hpo
  clear hpo
  obtain ⟨i0, hi, hz0, hz1, hz2⟩ := info_parts infoPt
  refine (callsIn_wide (n := 9)).1 ?_
  refine callsIn_of_wp_marks Try.func13 rfl trivial ?_ rfl
  simp only [Try.ntmps13, List.size_toArray, List.length_cons, List.length_nil, Nat.reduceAdd, Nat.reduceSub, Array.replicate_succ, Array.replicate_zero, List.push_toArray, List.append_toArray, List.nil_append, List.cons_append]
  gi_wp2_with fail
  refine ⟨trivial, CallsIn.mono (callsIn_wide.2 (implLines1 _ _ _ _ _ _ (by first | rfl | (simp; done)))) ?_⟩
  rintro e w1 ⟨rfl, hB1⟩
  (obtain ⟨hB1c, hB1f⟩ := bcell hB1; have hB1s := hB1.size; (try simp at hB1s); (try have hB1q1 := Nat.lt_of_succ_le hB1s); (try have hB1q2 := Nat.lt_of_succ_lt hB1q1); (try have hB1q3 := Nat.lt_of_succ_lt hB1q2); (try have hB1zw0 : w.heap.size < w1.heap.size := (by omega)); (try have hB1zw1 : w.heap.size + 1 < w1.heap.size := (by omega)); (try have hB1zw2 : w.heap.size + 1 + 1 < w1.heap.size := (by omega)); (try have hB1zw3 : w.heap.size + 1 + 1 + 1 < w1.heap.size := (by omega)); (try have hB1zw4 : w.heap.size + 1 + 1 + 1 + 1 < w1.heap.size := (by omega)))
  gi_wp2_with fail
  refine ⟨trivial, CallsIn.mono (callsIn_wide.2 (codeFor_any _ _ _)) ?_⟩
  rintro e w' ⟨rfl, rfl⟩
  gi_wp2_with (gi_at_make; refine wpListIn_make_own _ rfl _ _ 23 rfl w.heap.size 35 i0 _ 2 Try.underlying23 hi hz0 hz1 .i64 .i64 p p.toNat rfl rfl HC0.out (by rw [hz2]; omega) (by unfold maxLen; omega) (by omega) ?_)
  intro w2 hown2 hgrow2
  have hB2 : Below w1.heap.size w1 w2 := (Below.refl _ w1).grown hgrow2 (Nat.le_refl _) (fun k e => by cases e)
  (obtain ⟨hB2c, hB2f⟩ := bcell hB2; have hB2s := hB2.size; (try simp at hB2s); (try have hB2q1 := Nat.lt_of_succ_le hB2s); (try have hB2q2 := Nat.lt_of_succ_lt hB2q1); (try have hB2q3 := Nat.lt_of_succ_lt hB2q2); (try have hB2zw0 : w.heap.size < w2.heap.size := (by omega)); (try have hB2zw1 : w.heap.size + 1 < w2.heap.size := (by omega)); (try have hB2zw2 : w.heap.size + 1 + 1 < w2.heap.size := (by omega)); (try have hB2zw3 : w.heap.size + 1 + 1 + 1 < w2.heap.size := (by omega)); (try have hB2zw4 : w.heap.size + 1 + 1 + 1 + 1 < w2.heap.size := (by omega)); (try have hB2zw10 : w1.heap.size < w2.heap.size := (by omega)); (try have hB2zw11 : w1.heap.size + 1 < w2.heap.size := (by omega)); (try have hB2zw12 : w1.heap.size + 1 + 1 < w2.heap.size := (by omega)); (try have hB2zw13 : w1.heap.size + 1 + 1 + 1 < w2.heap.size := (by omega)); (try have hB2zw14 : w1.heap.size + 1 + 1 + 1 + 1 < w2.heap.size := (by omega)))
  have hG : w1.heap.size < w2.heap.size := (hown2.lt w1.heap.size rfl).2
  clear hgrow2
  have hlo : w2.heap.size < w2.heap.size + 1 := Nat.lt_succ_self _
  have bP := Boxed.new w2 23 (.slice (some ⟨w1.heap.size, 0, none⟩) 0 p.toNat)
  have hB3 : Below w.heap.size w (w2.alloc (.cells #[.slice (some ⟨w1.heap.size, 0, none⟩) 0 p.toNat] 23)) := by (repeat (first | exact Below.refl _ _ | refine balloc ?_ _ | refine bdrewN ?_ _ | refine Below.drew ?_ | refine bthen ?_ hB1 | refine bthen ?_ hB2 | refine Below.setCell ?_ (by first | (simp; done) | (simp; omega)) _))
  have hown3 := hown2.alloc (.cells #[.slice (some ⟨w1.heap.size, 0, none⟩) 0 p.toNat] 23)
  clear hown2
  gi_wp2_with fail
  refine ⟨trivial, CallsIn.mono (callsIn_wide.2 (HPO.out _)) ?_⟩
  rintro e w4 ⟨b0, b1, b2, rfl, k1, k2, k3, k4, k0, g0, g1, g2, hB4⟩
  (obtain ⟨hB4c, hB4f⟩ := bcell hB4; have hB4s := hB4.size; (try simp at hB4s); (try have hB4q1 := Nat.lt_of_succ_le hB4s); (try have hB4q2 := Nat.lt_of_succ_lt hB4q1); (try have hB4q3 := Nat.lt_of_succ_lt hB4q2); (try have hB4zw0 : w.heap.size < w4.heap.size := (by omega)); (try have hB4zw1 : w.heap.size + 1 < w4.heap.size := (by omega)); (try have hB4zw2 : w.heap.size + 1 + 1 < w4.heap.size := (by omega)); (try have hB4zw3 : w.heap.size + 1 + 1 + 1 < w4.heap.size := (by omega)); (try have hB4zw4 : w.heap.size + 1 + 1 + 1 + 1 < w4.heap.size := (by omega)); (try have hB4zw20 : w2.heap.size < w4.heap.size := (by omega)); (try have hB4zw21 : w2.heap.size + 1 < w4.heap.size := (by omega)); (try have hB4zw22 : w2.heap.size + 1 + 1 < w4.heap.size := (by omega)); (try have hB4zw23 : w2.heap.size + 1 + 1 + 1 < w4.heap.size := (by omega)); (try have hB4zw24 : w2.heap.size + 1 + 1 + 1 + 1 < w4.heap.size := (by omega)); (try have hB4zw10 : w1.heap.size < w4.heap.size := (by omega)); (try have hB4zw11 : w1.heap.size + 1 < w4.heap.size := (by omega)); (try have hB4zw12 : w1.heap.size + 1 + 1 < w4.heap.size := (by omega)); (try have hB4zw13 : w1.heap.size + 1 + 1 + 1 < w4.heap.size := (by omega)); (try have hB4zw14 : w1.heap.size + 1 + 1 + 1 + 1 < w4.heap.size := (by omega)))
  have hl0 := World.block_lt_of_cell? w4 ⟨b0, 0, none⟩ k0
  have hl1 := World.block_lt_of_cell? w4 ⟨b1, 0, none⟩ k1
  have hl2 := World.block_lt_of_cell? w4 ⟨b2, 0, none⟩ k3
  simp only at hl0 hl1 hl2
  rw [World.size_alloc] at g0 g1 g2
  have bP4 : Boxed w4 w2.heap.size 23 (.slice (some ⟨w1.heap.size, 0, none⟩) 0 p.toNat) := (hB4.block _ (by simp)).trans bP
  have hown4 := own_call hown3 hB4
  have hB5 : Below w.heap.size w w4 := bthen hB3 hB4
  clear bP hown3 hB3
  gi_wp2_with fail
  refine wpIn_rangeFunc_ownH rfl (by decide) (gf := 83) (lb := #[.pointer (some ⟨b0, 0, none⟩), .pointer (some ⟨b1, 0, none⟩), .pointer (some ⟨b2, 0, none⟩)]) rfl trivial (enters_of Try.func83 (by kernel_rfl) rfl)
    (seqPts_stops 8 b0 b1 b2 (w2.heap.size + 1) w4.heap.size p s1 s2 n1 n2 (by decide) hp ⟨rs1, rs1'⟩ ⟨rs2, rs2'⟩ ⟨rn1, rn1'⟩ ⟨rn2, rn2'⟩ w4 k0 k1 k2 k3 k4 ⟨g0, hl0⟩ ⟨g1, hl1⟩ ⟨g2, hl2⟩ (Nat.le_refl _)) btw_trans (btw_putObj (Nat.le_refl _)) (Below.refl _ _) (fun _ => rfl)
    (fun pre W => (Boxed W w2.heap.size 23 (.slice (some ⟨w1.heap.size, 0, none⟩) pre.length p.toNat) ∧ W.ownsRow w.heap.size 35 2 (.slice (some ⟨w1.heap.size, 0, none⟩) pre.length p.toNat) pre.length (ints (flat pre))) ∧ (Below w.heap.size w W ∧ w4.heap.size ≤ W.heap.size))
    (fun _ _ _ => False)
    (OwnFrom.and (OwnFrom.and (Own.from (boxed_own _ _ _) _) (Own.from (row_own _ _ _ _ _ _) _)) (OwnFrom.and (ownFrom_below (Nat.le_refl _) hB5.size) (size_own _ _)))
    (fun _ _ _ _ _ hs _ _ => hs)
    ⟨⟨bP4, hown4⟩, hB5, Nat.le_refl _⟩
    (fun x a' W => ∃ Bx, w4.heap.size ≤ Bx ∧ Box2 W Bx 35 x ∧ a' = { tmps := #[.int .i64 p, .agg #[.int .i64 l1, .int .i64 l2, .int .i64 l3], undef, .pointer (some ⟨w.heap.size, 0, none⟩), .slice none 0 0, .int .i64 0, .int .i64 0, .pointer (some ⟨w2.heap.size, 0, none⟩), .pointer (some ⟨Bx, 0, none⟩), .int .i64 p, .int .i64 p, .agg #[.int .i64 l1, .int .i64 l2, .int .i64 l3], .slice (some ⟨w.heap.size + 1, 0, none⟩) 1 1, .bool true, .int .i64 0, .int .i64 0, .bool false, undef, .int .i64 p, .slice (some ⟨w1.heap.size, 0, none⟩) 0 p.toNat, .int .i64 p, .agg #[.int .i64 l1, .int .i64 l2, .int .i64 l3], .func (.func 83) #[] #[.pointer (some ⟨b0, 0, none⟩), .pointer (some ⟨b1, 0, none⟩), .pointer (some ⟨b2, 0, none⟩)], .agg #[.int .i64 x.1, .int .i64 x.2], undef, undef, undef, undef, undef], defers := [] })
    (fun x a' _ X Y row hs hg hr => by obtain ⟨Bx, h1, h2, h3⟩ := hs; exact ⟨Bx, h1, box2_own Bx w4.heap.size 35 x () X Y row h2 hg hr, h3⟩)
    ?assign ?body ?done ?stop
  case assign =>
    rintro l pre x W K ⟨⟨bx, hrow⟩, hB, hsz⟩ hK
    simp only [ptV]
    gi_wp2
    exact hK _ _ ((KeepsOthers.alloc _ _).from _) (btw_alloc _ _ hsz) ⟨⟨bx.alloc _, hrow.alloc _⟩, hB.alloc hB.size _, by simp; omega⟩ ⟨W.heap.size, hsz, box2_new W _ x, rfl⟩
  case body =>
    rintro l pre x a' W hl ⟨r, hr⟩ ⟨⟨bx, hrow⟩, hB, hsz⟩ ⟨Bx, hBx, hX, rfl⟩ hlt
    have hc := bx.cell
    have hX1 := box2_cell1 hX
    have hX2 := box2_cell2 hX
    have hGs := (hrow.lt w1.heap.size rfl).2
    obtain ⟨x1, x2⟩ := x
    simp only at hX1 hX2
    gi_wp2_with (gi_at_builtin; refine wpListIn_append_fits _ rfl _ _ 23 rfl w.heap.size 35 i0 2 Try.underlying23 hi hz1 w1.heap.size pre.length p.toNat (ints (flat pre)) rfl (hrow.alloc _) ⟨W.heap.size, 0, none⟩ 1 1 [.int .i64 x1, .int .i64 x2] rfl rfl (pt_cells rfl) (pt_one _ _) (by omega) ?_)
    intro u1 hown' hgrow
    have bx1 : Boxed u1 w2.heap.size 23 _ := (bx.alloc _).kept hgrow (by intro e; simp at e; omega)
    have hc1 := bx1.cell
    have hf1 := bx1.frozen
    have hs1 := hgrow.size
    gi_wp2
    have hle : (pre ++ [(x1, x2)]).length = pre.length + 1 := by simp
    have hw1 := hB1.size
    have hw2 := hB2.size
    simp only [World.size_alloc] at hs1
    refine ⟨((KeepsOthers.alloc W _).from _).trans ((KeepsFrom.of_grownBy hgrow (fun j e => by cases e; omega)).trans ((KeepsOthers.setCell _ _ _).from _)), btw_trans (btw_alloc W _ hsz) (btw_trans (btw_grown hgrow (by rw [World.size_alloc]; omega) (fun g e => by cases e; exact .inl (by omega))) (btw_setCell _ _ _ (.inl (by show w2.heap.size < _; omega)))), ⟨⟨?_, ?_⟩, ?_, ?_⟩⟩
    · rw [hle]; exact bx1.set _
    · rw [hle, flat_append, ints_append]
      exact hown'.kept (grownBy_setCell' u1 w2.heap.size _) (.inr (by intro e; simp [Value.ownBlock] at e; omega))
    · exact ((hB.alloc hB.size _).grown hgrow (by rw [World.size_alloc]; have := hB.size; omega) (fun g e => by cases e; omega)).setCell (p := ⟨w2.heap.size, 0, none⟩) (by show w.heap.size ≤ w2.heap.size; omega) _
    · have : (u1.setCell ⟨w2.heap.size, 0, none⟩ (.slice (some ⟨w1.heap.size, 0, none⟩) (pre.length + 1) p.toNat)).heap.size = u1.heap.size := by simp [World.setCell]
      omega
  case done =>
    rintro D ys W hD rfl ⟨⟨bx, hrow⟩, hB, hsz⟩ hK
    have hc := bx.cell
    gi_wp2
    refine ⟨by simp, .inl ⟨_, _, rfl, run_takeDeferred hK, ?_⟩⟩
    have hsw := hB5.size
    exact ⟨_, results_tmp2 rfl _ _ _, slicePost_mk (ownsRow_putObj hrow _ hK rfl) (hB.trans (belowK_b (w := w) (Nat.le_refl _) W D _ _ (by omega) hK rfl rfl))⟩
  case stop =>
    rintro D c pre W _ _ h _
    exact h.elim

def poB (p l1 l2 l3 : Int) : Bool := lineB p l1 l2 l3
def poC (p l1 l2 l3 : Int) : Int := if isP p = true then (if poB p l1 l2 l3 = true then 0 else 2) else 1
def poL (p l1 l2 l3 : Int) : List Int := if poC p l1 l2 l3 = 0 then flat (cbs p (sqS1 p l1 l2 l3) (sqS2 p l1 l2 l3) (sqN1 p l1 l2 l3) (sqN2 p l1 l2 l3) p.toNat) else []
theorem po_zero {p l1 l2 l3 k : Int} (h : poC p l1 l2 l3 = k) (hk : k ≠ 0) : poL p l1 l2 l3 = [] ∧ poC p l1 l2 l3 = k := ⟨if_neg fun e => hk (h.symm.trans e), h⟩

set_option maxRecDepth 20000 in
set_option maxHeartbeats 1000000 in
theorem implPointsOn_any (p l1 l2 l3 : Int) (w : World) :
    Calls Try.prog 13 #[.int .i64 p, .agg #[.int .i64 l1, .int .i64 l2, .int .i64 l3]] w fun e w' => SlicePost 35 2 (poL p l1 l2 l3) (poC p l1 l2 l3) w e w' := by
  cases hp : isP p
  · have HV := Lib.hid (po_zero (l1 := l1) (l2 := l2) (l3 := l3) (show poC p l1 l2 l3 = 1 by simp [poC, hp]) (by decide))
    have cN : ∀ b, codeOf p b = 1 := fun b => codeOf_no hp
    go_enter Try.func13, Try.ntmps13
    (go_wp2_with fail; refine Calls.mono (implLines1 _ _ _ _ _ _ (by first | rfl | (simp; done))) ?_; rintro e w1 ⟨rfl, hB1⟩; obtain ⟨hB1c, hB1f⟩ := bcell hB1; have hB1s := hB1.size; (try simp at hB1s); (try have hB1q1 := Nat.lt_of_succ_le hB1s); (try have hB1q2 := Nat.lt_of_succ_lt hB1q1); (try have hB1q3 := Nat.lt_of_succ_lt hB1q2); (try have hB1zw0 : w.heap.size < w1.heap.size := (by omega)); (try have hB1zw1 : w.heap.size + 1 < w1.heap.size := (by omega)); (try have hB1zw2 : w.heap.size + 1 + 1 < w1.heap.size := (by omega)); (try have hB1zw3 : w.heap.size + 1 + 1 + 1 < w1.heap.size := (by omega)); (try have hB1zw4 : w.heap.size + 1 + 1 + 1 + 1 < w1.heap.size := (by omega)))
    (go_wp2_with fail; refine Calls.mono (codeFor_any _ _ _) ?_; rintro e w' ⟨rfl, rfl⟩)
    go_wp2
    (refine bodyPost_ret (v := .tuple #[.slice none 0 0, .int .i64 (poC p l1 l2 l3)]) (by simp [results, Try.results13, go_sem, HV.out.2]) rfl (slicePost_nil HV.out.1 ?_))
    (repeat (first | exact Below.refl _ _ | refine balloc ?_ _ | refine bdrewN ?_ _ | refine Below.drew ?_ | refine bthen ?_ hB1 | refine Below.setCell ?_ (by first | (simp; done) | (simp; omega)) _))
  · cases hl : lineB p l1 l2 l3
    · have HV := Lib.hid (po_zero (show poC p l1 l2 l3 = 2 by simp [poC, poB, hp, hl]) (by decide))
      have cF : codeOf p false = 2 := codeOf_out hp rfl
      go_enter Try.func13, Try.ntmps13
      (go_wp2_with fail; refine Calls.mono (implLines1 _ _ _ _ _ _ (by first | rfl | (simp; done))) ?_; rintro e w1 ⟨rfl, hB1⟩; obtain ⟨hB1c, hB1f⟩ := bcell hB1; have hB1s := hB1.size; (try simp at hB1s); (try have hB1q1 := Nat.lt_of_succ_le hB1s); (try have hB1q2 := Nat.lt_of_succ_lt hB1q1); (try have hB1q3 := Nat.lt_of_succ_lt hB1q2); (try have hB1zw0 : w.heap.size < w1.heap.size := (by omega)); (try have hB1zw1 : w.heap.size + 1 < w1.heap.size := (by omega)); (try have hB1zw2 : w.heap.size + 1 + 1 < w1.heap.size := (by omega)); (try have hB1zw3 : w.heap.size + 1 + 1 + 1 < w1.heap.size := (by omega)); (try have hB1zw4 : w.heap.size + 1 + 1 + 1 + 1 < w1.heap.size := (by omega)))
      (go_wp2_with fail; refine Calls.mono (codeFor_any _ _ _) ?_; rintro e w' ⟨rfl, rfl⟩)
      go_wp2
      (refine bodyPost_ret (v := .tuple #[.slice none 0 0, .int .i64 (poC p l1 l2 l3)]) (by simp [results, Try.results13, go_sem, HV.out.2]) rfl (slicePost_nil HV.out.1 ?_))
      (repeat (first | exact Below.refl _ _ | refine balloc ?_ _ | refine bdrewN ?_ _ | refine Below.drew ?_ | refine bthen ?_ hB1 | refine Below.setCell ?_ (by first | (simp; done) | (simp; omega)) _))
    · have h0 : poC p l1 l2 l3 = 0 := by simp [poC, poB, hp, hl]
      have hL : poL p l1 l2 l3 = _ := if_pos h0
      rw [hL, h0]
      exact implPointsOn_good p l1 l2 l3 w hp hl

end Go.Proofs.Ytklfgelmieecmab
