/-
  impl.pointsOfCircle's iterator: the points of the plane that are on a circle, row by row.
-/
import Derived.Test.YtmpgpmcmhbpjeabMgq0
import Derived.Test.YtmpgpmcmhbpjeabImplIsOnq
import Derived.Test.YtmpgpmcmhbpjeabRangeOnq
import Derived.Test.YtmpgpmcmhbpjeabKeepTq

namespace Go.Proofs.Ytmpgpmcmhbpjeab
open Go.RowKit Go.Shelf

attribute [local go_sem] Oper.semAt_some

/-- The small points of a row that are on a circle. -/
def sfC (p c k1 k2 k3 : Int) (L : List Pt32) : List Pt32 := L.filter fun x => onC p c k1 k2 k3 (toP x).1 (toP x).2
theorem sfC_yes {p c k1 k2 k3 : Int} (L : List Pt32) {x : Pt32} (h : onC p c k1 k2 k3 (toP x).1 (toP x).2 = true) : sfC p c k1 k2 k3 (L ++ [x]) = sfC p c k1 k2 k3 L ++ [x] := by simp [sfC, h]
theorem sfC_no {p c k1 k2 k3 : Int} (L : List Pt32) {x : Pt32} (h : onC p c k1 k2 k3 (toP x).1 (toP x).2 = false) : sfC p c k1 k2 k3 (L ++ [x]) = sfC p c k1 k2 k3 L := by simp [sfC, h]
theorem sfC_le (p c k1 k2 k3 : Int) (L : List Pt32) : (sfC p c k1 k2 k3 L).length ≤ L.length := List.length_filter_le _ _
theorem sfC_pre {p c k1 k2 k3 : Int} {L M : List Pt32} (h : L <+: M) : sfC p c k1 k2 k3 L <+: sfC p c k1 k2 k3 M := by
  obtain ⟨t, rfl⟩ := h
  exact ⟨sfC p c k1 k2 k3 t, by simp [sfC]⟩

set_option maxRecDepth 100000 in
set_option maxRecDepth 20000 in
set_option maxHeartbeats 4000000 in
theorem seqCirc_in (l b1 b2 b3 lo hi : Nat) (p c k1 k2 k3 : Int) (hp : isP p = true) (hc : colB c = true) (hk1 : 0 ≤ k1 ∧ k1 < p) (hk2 : 0 ≤ k2 ∧ k2 < p) (J Jx : List Pt32 → World → Prop) (W : World)
    (hJ : OwnFrom W.heap.size J) (hJx : OwnFrom W.heap.size Jx)
    (hY : ∀ pre x W1, J pre W1 → pre.length < p.toNat * p.toNat → YieldAt Fence.wide 7 Try.prog l #[ptV (toP x)] W1 fun e W' =>
      (e = .returned (.bool true) ∧ J (pre ++ [x]) W' ∧ KeepBT lo hi W1 W' ∧ KeepsFrom W.heap.size W1 W') ∨ (e = .returned (.bool false) ∧ Jx (pre ++ [x]) W' ∧ KeepsFrom W.heap.size W1 W'))
    (h1 : W.cell? ⟨b1, 0, none⟩ = some (.int .i64 p)) (h2 : W.cell? ⟨b2, 0, none⟩ = some (.int .i64 c)) (h3 : W.cell? ⟨b3, 0, none⟩ = some (.int .i64 k1)) (h4 : W.cell? ⟨b3, 1, none⟩ = some (.int .i64 k2)) (h5 : W.cell? ⟨b3, 2, none⟩ = some (.int .i64 k3))
    (g1 : lo ≤ b1 ∧ b1 < hi) (g2 : lo ≤ b2 ∧ b2 < hi) (g3 : lo ≤ b3 ∧ b3 < hi) (hhi : hi ≤ W.heap.size) (hst : J [] W) :
    CallsIn Fence.wide 8 Try.prog 79 #[.func (.yield l) #[] #[], .pointer (some ⟨b1, 0, none⟩), .pointer (some ⟨b2, 0, none⟩), .pointer (some ⟨b3, 0, none⟩)] W fun e W' => (∃ v, e = .returned v) ∧
      ((∃ ys, ys = sfC p c k1 k2 k3 (allF p.toNat p.toNat 0) ∧ J ys W') ∨ (∃ pre, pre <+: sfC p c k1 k2 k3 (allF p.toNat p.toNat 0) ∧ Jx pre W')) := by
  have hr := isP_range hp
  have hcr := colB_range hc
  refine callsIn_of_wp_marks Try.func79 rfl trivial ?_ rfl
  simp only [Try.ntmps79, List.size_toArray, List.length_cons, List.length_nil, Nat.reduceAdd, Nat.reduceSub, Array.replicate_succ, Array.replicate_zero, List.push_toArray, List.append_toArray, List.nil_append, List.cons_append]
  have l1 : b1 < W.heap.size := by omega
  have l2 : b2 < W.heap.size := by omega
  have l3 : b3 < W.heap.size := by omega
  gi_wp2_with fail
  refine ⟨trivial, CallsIn.mono (callsIn_wide.2 (allPoints_any _ _)) ?_⟩
  rintro e w' ⟨rfl, rfl⟩
  gi_wp2_with fail
  have bY : Boxed ((W.alloc (.cells #[.func (.yield l) #[] #[]] 110)).alloc (.cells #[.int .i64 p] 2)) W.heap.size 110 (.func (.yield l) #[] #[]) := (Boxed.new W _ _).alloc _
  have bP : Boxed ((W.alloc (.cells #[.func (.yield l) #[] #[]] 110)).alloc (.cells #[.int .i64 p] 2)) (W.heap.size + 1) 2 (.int .i64 p) := by
    have := Boxed.new (W.alloc (.cells #[.func (.yield l) #[] #[]] 110)) 2 (.int .i64 p)
    simpa using this
  have hsz : ((W.alloc (.cells #[.func (.yield l) #[] #[]] 110)).alloc (.cells #[.int .i64 p] 2)).heap.size = W.heap.size + 1 + 1 := by simp
  have hbt : Btw lo hi W ((W.alloc (.cells #[.func (.yield l) #[] #[]] 110)).alloc (.cells #[.int .i64 p] 2)) := btw_trans (btw_alloc _ _ hhi) (btw_alloc _ _ (by simp; omega))
  have hst0 : J [] ((W.alloc (.cells #[.func (.yield l) #[] #[]] 110)).alloc (.cells #[.int .i64 p] 2)) := hJ.alloc _ (hJ.alloc _ hst)
  have hkf : KeepsFrom W.heap.size W ((W.alloc (.cells #[.func (.yield l) #[] #[]] 110)).alloc (.cells #[.int .i64 p] 2)) := ((KeepsOthers.alloc _ _).from _).trans ((KeepsOthers.alloc _ _).from _)
  obtain ⟨Wn, hWn⟩ : ∃ Wn, Wn = ((W.alloc (.cells #[.func (.yield l) #[] #[]] 110)).alloc (.cells #[.int .i64 p] 2)) := ⟨_, rfl⟩
  rw [← hWn] at bY bP hsz hbt hst0 hkf ⊢
  clear hWn
  have qP := bP.cell
  refine wpIn_rangeFunc_ownH rfl (by decide) (gf := 106) (lb := #[.pointer (some ⟨W.heap.size + 1, 0, none⟩)]) rfl trivial (enters_of Try.func106 (by kernel_rfl) rfl)
    (seqAll_stops 7 (W.heap.size + 1) (W.heap.size + 1) (W.heap.size + 1 + 1) p (by decide) hp Wn qP ⟨Nat.le_refl _, Nat.lt_succ_self _⟩ (by omega)) btw_trans (btw_putObj (by omega)) (Below.refl _ _) (fun _ => rfl)
    (fun pre X => J (sfC p c k1 k2 k3 pre) X ∧ ((Boxed X W.heap.size 110 (.func (.yield l) #[] #[]) ∧ Boxed X (W.heap.size + 1) 2 (.int .i64 p)) ∧ (Btw lo hi W X ∧ W.heap.size + 1 + 1 ≤ X.heap.size)))
    (fun cd pre X => cd = .ret ∧ Jx (sfC p c k1 k2 k3 pre) X)
    (OwnFrom.and (fun s X Y row hs hg hr => own_later hJ (by omega) _ X Y row hs hg hr) (OwnFrom.and (OwnFrom.and (Own.from (boxed_own _ _ _) _) (Own.from (boxed_own _ _ _) _)) (OwnFrom.and (btw_ownLe (by omega)) (size_own _ _))))
    (fun cd s X Y row hs hg hr => ⟨hs.1, own_later hJx (by omega) _ X Y row hs.2 hg hr⟩)
    ⟨hst0, ⟨bY, bP⟩, hbt, by omega⟩
    (fun x a' X => ∃ Bx, W.heap.size + 1 + 1 ≤ Bx ∧ Box2 X Bx 28 (toP x) ∧ a' = { tmps := #[.func (.yield l) #[] #[], .pointer (some ⟨b1, 0, none⟩), .pointer (some ⟨b2, 0, none⟩), .pointer (some ⟨b3, 0, none⟩), .pointer (some ⟨W.heap.size, 0, none⟩), .pointer (some ⟨Bx, 0, none⟩), .int .i64 p, .func (.func 106) #[] #[.pointer (some ⟨W.heap.size + 1, 0, none⟩)], .agg #[.int .i64 (x.1.val : Int), .int .i64 (x.2.val : Int)], undef, undef, undef, undef, undef, undef, undef, undef, undef, undef, undef], defers := [] })
    (fun x a' _ X Y row hs hg hr => by obtain ⟨Bx, h1, h2, h3⟩ := hs; exact ⟨Bx, h1, box2_own Bx Wn.heap.size 28 (toP x) () X Y row h2 hg hr, h3⟩)
    ?assign ?body ?done ?stop
  case assign =>
    rintro l' pre x X K ⟨hj, ⟨by1, bp1⟩, hb, hs⟩ hK
    obtain ⟨⟨x1, hx1⟩, ⟨x2, hx2⟩⟩ := x
    simp only [ptV, toP]
    gi_wp2
    exact hK _ _ ((KeepsOthers.alloc _ _).from _) (btw_alloc _ _ (by omega)) ⟨own_later hJ (by omega : W.heap.size ≤ Wn.heap.size) |>.alloc _ hj, ⟨by1.alloc _, bp1.alloc _⟩, btw_trans hb (btw_alloc _ _ (by omega)), by simp; omega⟩ ⟨X.heap.size, hs, box2_new X _ (toP ((⟨x1, hx1⟩, ⟨x2, hx2⟩) : Pt32)), rfl⟩
  case body =>
    rintro l' pre x a' X hl ⟨r, hr'⟩ ⟨hj, ⟨by1, bp1⟩, hb, hs⟩ ⟨Bx, hBx, hX, rfl⟩ hlt
    have hX1 := box2_cell1 hX
    have hX2 := box2_cell2 hX
    have hXl := World.block_lt_of_cell? X ⟨Bx, 0, none⟩ hX1
    simp only at hXl
    have c1 := (btw_cell hb g1.1 g1.2 0).trans h1
    have c2 := (btw_cell hb g2.1 g2.2 0).trans h2
    have c3 := (btw_cell hb g3.1 g3.2 0).trans h3
    have c4 := (btw_cell hb g3.1 g3.2 1).trans h4
    have c5 := (btw_cell hb g3.1 g3.2 2).trans h5
    have hlen : (sfC p c k1 k2 k3 pre).length < p.toNat * p.toNat := Nat.lt_of_le_of_lt (sfC_le _ _ _ _ _ pre) hlt
    have HLEN := Lib.hid hlen
    clear hlen
    obtain ⟨⟨x1, hx1⟩, ⟨x2, hx2⟩⟩ := x
    simp only [toP] at hX1 hX2
    have hcall := fun w' => isOn_any p c k1 k2 k3 (x1 : Int) (x2 : Int) w' hp hc hk1 hk2 (by omega) (by omega)
    have hYes := sfC_yes (p := p) (c := c) (k1 := k1) (k2 := k2) (k3 := k3) pre (x := ((⟨x1, hx1⟩, ⟨x2, hx2⟩) : Pt32))
    have hNo := sfC_no (p := p) (c := c) (k1 := k1) (k2 := k2) (k3 := k3) pre (x := ((⟨x1, hx1⟩, ⟨x2, hx2⟩) : Pt32))
    simp only [toP] at hYes hNo
    obtain ⟨bo, hbo⟩ : ∃ b, b = onC p c k1 k2 k3 (x1 : Int) (x2 : Int) := ⟨_, rfl⟩
    rw [← hbo] at hcall hYes hNo
    have HC := Lib.hid hcall
    clear hcall hbo
    cases bo
    · have HF := Lib.hid (hNo rfl)
      clear hYes hNo
      gi_wp2_with fail
      refine ⟨trivial, (CallsIn.inRound l' (callsIn_wide.2 (HC.out _))).mono ?_⟩
      rintro e w1 ⟨rfl, hB1⟩
      have hB1s := hB1.size
      have by2 : Boxed w1 W.heap.size 110 (.func (.yield l) #[] #[]) := (hB1.block _ (by omega)).trans by1
      have bp2 : Boxed w1 (W.heap.size + 1) 2 (.int .i64 p) := (hB1.block _ (by omega)).trans bp1
      have hj1 : J (sfC p c k1 k2 k3 pre) w1 := hJ _ _ _ none hj (below_grown hB1) (fun _ h => by cases h)
      have hb1 := btw_trans hb (btw_below hB1 (by omega))
      gi_wp2
      refine ⟨fun _ h => (by cases h), ?_⟩
      gi_wp2
      refine ⟨(KeepsOthers.of_grownBy (row := none) (below_grown hB1) (fun j o e => by cases e)).from _, btw_below hB1 (by omega), by rw [HF.out]; exact hj1, ⟨by2, bp2⟩, hb1, by omega⟩
    · have HF := Lib.hid (hYes rfl)
      clear hYes hNo
      gi_wp2_with fail
      refine ⟨trivial, (CallsIn.inRound l' (callsIn_wide.2 (HC.out _))).mono ?_⟩
      rintro e w1 ⟨rfl, hB1⟩
      have hB1s := hB1.size
      have by2 : Boxed w1 W.heap.size 110 (.func (.yield l) #[] #[]) := (hB1.block _ (by omega)).trans by1
      have bp2 : Boxed w1 (W.heap.size + 1) 2 (.int .i64 p) := (hB1.block _ (by omega)).trans bp1
      have hj1 : J (sfC p c k1 k2 k3 pre) w1 := hJ _ _ _ none hj (below_grown hB1) (fun _ h => by cases h)
      have hb1 := btw_trans hb (btw_below hB1 (by omega))
      have x1_0 := (cell_back hB1 hXl 0).trans hX1
      have x1_1 := (cell_back hB1 hXl 1).trans hX2
      have hyc := by2.cell
      obtain ⟨fn, tmps, assign, body, hy, hR⟩ := yield_wide (m' := 5) (l' := l') (hY (sfC p c k1 k2 k3 pre) ((⟨x1, hx1⟩, ⟨x2, hx2⟩) : Pt32) w1 hj1 HLEN.out)
      simp only [ptV, toP] at hy
      gi_wp2
      refine hR.mono ?_
      rintro e W3 (⟨rfl, hJ3, hk3, hf3⟩ | ⟨rfl, hJx3, hf3⟩)
      · have by3 : Boxed W3 W.heap.size 110 (.func (.yield l) #[] #[]) := hk3.2.2 _ _ _ _ by2 (by decide) (by decide)
        have bp3 : Boxed W3 (W.heap.size + 1) 2 (.int .i64 p) := hk3.2.2 _ _ _ _ bp2 (by decide) (by decide)
        have hs3 := hk3.1.1
        have hbk : ∀ k : Nat, W.heap.size + 1 ≤ k → k < W.heap.size + 1 + 1 → W3.heap[k]? = w1.heap[k]? := fun k q1 q2 => by
          have e : k = W.heap.size + 1 := by omega
          rw [e]
          exact (show W3.heap[W.heap.size + 1]? = _ from bp3).trans (show w1.heap[W.heap.size + 1]? = _ from bp2).symm
        gi_wp2
        refine ⟨((KeepsOthers.of_grownBy (row := none) (below_grown hB1) (fun j o e => by cases e)).from _).trans ⟨hf3.size, fun i o hB => hf3.same i o (by omega)⟩,
          btw_trans (btw_below hB1 (by omega)) ⟨hs3, hbk⟩,
          by rw [HF.out]; exact hJ3, ⟨by3, bp3⟩, btw_trans hb1 hk3.1, by omega⟩
      · gi_wp2
        exact ⟨((KeepsOthers.of_grownBy (row := none) (below_grown hB1) (fun j o e => by cases e)).from _).trans ⟨hf3.size, fun i o hB => hf3.same i o (by omega)⟩, rfl, by rw [HF.out]; exact hJx3⟩
  case done =>
    rintro D ys X hD rfl ⟨hj, ⟨by1, bp1⟩, hb, hs⟩ hK
    gi_wp2
    refine ⟨by simp, .inl ⟨_, _, rfl, run_takeDeferred hK, ?_⟩⟩
    exact ⟨_, results_none rfl _ _ _, ⟨_, rfl⟩, .inl ⟨_, rfl, (own_later hJ (by omega : W.heap.size ≤ Wn.heap.size)).putObj _ hj hD hK rfl⟩⟩
  case stop =>
    rintro D cd pre X hD hpre ⟨rfl, hjx⟩ hK
    gi_wp2
    refine ⟨by simp, .inl ⟨_, _, rfl, run_takeDeferred hK, ?_⟩⟩
    exact ⟨_, results_none rfl _ _ _, ⟨_, rfl⟩, .inr ⟨_, sfC_pre hpre, (own_later hJx (by omega : W.heap.size ≤ Wn.heap.size)).putObj _ hjx hD hK rfl⟩⟩

theorem seqCirc_on (b1 b2 b3 lo hi : Nat) (p c k1 k2 k3 : Int) (hp : isP p = true) (hc : colB c = true) (hk1 : 0 ≤ k1 ∧ k1 < p) (hk2 : 0 ≤ k2 ∧ k2 < p) (w : World)
    (h1 : w.cell? ⟨b1, 0, none⟩ = some (.int .i64 p)) (h2 : w.cell? ⟨b2, 0, none⟩ = some (.int .i64 c)) (h3 : w.cell? ⟨b3, 0, none⟩ = some (.int .i64 k1)) (h4 : w.cell? ⟨b3, 1, none⟩ = some (.int .i64 k2)) (h5 : w.cell? ⟨b3, 2, none⟩ = some (.int .i64 k3))
    (g1 : lo ≤ b1 ∧ b1 < hi) (g2 : lo ≤ b2 ∧ b2 < hi) (g3 : lo ≤ b3 ∧ b3 < hi) (hhi : hi ≤ w.heap.size) :
    SeqOn Fence.wide 8 Try.prog 79 #[.pointer (some ⟨b1, 0, none⟩), .pointer (some ⟨b2, 0, none⟩), .pointer (some ⟨b3, 0, none⟩)] (fun x : Pt32 => #[ptV (toP x)]) (KeepBT lo hi)
      (fun ys => ys = sfC p c k1 k2 k3 (allF p.toNat p.toNat 0)) (fun pre => pre <+: sfC p c k1 k2 k3 (allF p.toNat p.toNat 0)) (p.toNat * p.toNat) w := fun l J Jx W hW hJ hJx hY hst => by
  have hs := hW.size
  have cc : ∀ b j, b < hi → W.cell? ⟨b, j, none⟩ = w.cell? ⟨b, j, none⟩ := fun b j hb => cell_old hW (by omega) j
  exact seqCirc_in l b1 b2 b3 lo hi p c k1 k2 k3 hp hc hk1 hk2 J Jx W hJ hJx hY ((cc _ _ g1.2).trans h1) ((cc _ _ g2.2).trans h2) ((cc _ _ g3.2).trans h3) ((cc _ _ g3.2).trans h4) ((cc _ _ g3.2).trans h5) g1 g2 g3 (by omega) hst

end Go.Proofs.Ytmpgpmcmhbpjeab
