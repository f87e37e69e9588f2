/-
  spec.CoefficientsOf on its good way: two lists that grow side by side.
-/
import Derived.Test.YtinfjbaloppgkaaImplCoef
import Derived.Test.YtinfjbaloppgkaaSpecCode5
import Derived.Deep.RegionHeld3
import Derived.Deep.DeepCutAuto
namespace Go.Proofs.Ytinfjbaloppgkaa
open Go.RowKit

/-- The model's list behind t rounds of its inner loop. -/
def s4 (p : Int) (j t i : Nat) : Int := if i < t then (cfp p (j + 1)).2 i else 0
theorem s4_step (p : Int) (j t i : Nat) : s4 p j (t + 1) i = if i = t then (cfp p (j + 1)).2 t else s4 p j t i := by
  unfold s4
  by_cases h : i = t
  · subst h; rw [if_pos (by omega), if_pos rfl]
  · rw [if_neg h]
    have e : (i < t + 1) = (i < t) := by simp; omega
    simp only [e]
theorem cfp_next (p : Int) (j t : Nat) : (cfp p (j + 1)).2 t = (2 * (cfp p j).2 t - (cfp p j).1 t + (if t = 1 then 2 else 0) - (if t = 0 then 0 else 4 * (cfp p j).2 (t - 1))) % p := rfl

theorem own_cap {w : World} {base : Nat} {e : TypeId} {k n g cap : Nat} {xs : List Value} (h : w.ownsRow base e k (.slice (some ⟨g, 0, none⟩) n cap) n xs) : n ≤ cap := by
  rcases h.2 with ⟨h', _⟩ | ⟨g', cap', cur, h', hb, hg, hnc, hcm, hcs, htake⟩
  · simp at h'
  · simp only [Value.slice.injEq] at h'
    obtain ⟨_, _, rfl⟩ := h'
    exact hnc
theorem own_take {w : World} {base : Nat} {e : TypeId} {n m g cap : Nat} {xs : List Value} (h : w.ownsRow base e 1 (.slice (some ⟨g, 0, none⟩) n cap) n xs) (hm : m ≤ n) : w.ownsRow base e 1 (.slice (some ⟨g, 0, none⟩) m cap) m (xs.take m) := by
  refine ⟨by have := h.1; rw [List.length_take]; omega, ?_⟩
  rcases h.2 with ⟨h', _⟩ | ⟨g', cap', cur, h', hb, hg, hnc, hcm, hcs, htake⟩
  · simp at h'
  · simp only [Value.slice.injEq, Option.some.injEq, Addr.mk.injEq, and_true, true_and] at h'
    obtain ⟨rfl, rfl⟩ := h'
    exact .inr ⟨g, cap, cur, rfl, hb, hg, by omega, hcm, hcs, by rw [← htake, List.take_take]; congr 1; omega⟩
theorem ints_take (L : List Int) (m : Nat) : (ints L).take m = ints (L.take m) := by simp [ints, List.map_take]
theorem tab_take {n m : Nat} (f : Nat → Int) (h : m ≤ n) : (tab n f).take m = tab m f := by
  unfold tab
  rw [← List.map_take, List.take_range, Nat.min_eq_left h]
/-- make, as one step of a region that draws. -/
theorem step_make {P : Program} {ops : Array Oper} {o : Oper} {a : Act} {w : World} {K : Act → World → Prop} {Q : Exit → Act → World → Prop} {E : Prop}
    (hg : o.guard = none) (l c : Operand) (t : TypeId) (hop : o.op = Op.makeSlice t l c) (base : Nat) (e : TypeId) (i : TypeInfo) (z : Value) (size : Nat) (h1 : P.underlying t = some (.slice e)) (h2 : P.info? e = some i) (h3 : i.zero = some z) (h4 : i.size = size)
    (kl kc : IntKind) (n : Nat) (hl : a.eval l = .int kl (n : Int)) (hc : a.eval c = .int kc (n : Int)) (b2 : i.bytes * n ≤ 281474976710656) (b3 : n ≤ maxLen) (b4 : base ≤ w.heap.size)
    (hK : ∀ w', w'.ownsRow base e size (.slice (some ⟨w.heap.size, 0, none⟩) n n) n (madeCells z.cells (n * size)).toList → w.grownBy w' none → K (a.put o.dst (.slice (some ⟨w.heap.size, 0, none⟩) n n)) w') :
    if Region.wanted o (yielded ops a.tmps) = true then Oper.wp P o a w K Q else E := by
  rw [if_pos (by simp [Region.wanted, hg])]
  obtain ⟨w', hrun, r1, r2⟩ := run_make_full (P := P) w base t e i z size h1 h2 h3 h4 kl kc n b2 b3 b4
  unfold Oper.wp
  simp [execOp, hop, hl, hc, hrun, Result.andThen]
  exact hK w' r1 r2

set_option linter.unusedSimpArgs false in
set_option linter.unusedVariables false in
set_option maxRecDepth 20000 in
set_option maxHeartbeats 8000000 in
theorem specCoef_good (p n : Int) (w : World) (hp : isP p = true) (hn : 0 ≤ n) (hn2 : n ≤ 40) :
    Calls Try.prog 17 #[.int .i64 p, .int .i64 n] w fun e w' => SlicePost 2 1 (coL p n.toNat) 0 w e w' := by
  have hr := isP_range hp
  have hb5 : inB n 0 1000 = true := inB_true (by omega)
  obtain ⟨i0, hi, hz0, hz1, hz2⟩ := info_parts infoInt1
  obtain ⟨N, rfl⟩ := Int.eq_ofNat_of_zero_le hn
  rw [Int.toNat_natCast]
  obtain ⟨M, hM0⟩ : ∃ M, M = N + 2 := ⟨_, rfl⟩
  have hM : (N : Int) + 2 = (M : Int) := by omega
  have HM := Lib.hid hM0
  have hwM : IntKind.i64.wrap (M : Int) = (M : Int) := wrapI _ (by omega)
  have hM42 : M ≤ 42 := by omega
  clear hM0
  go_enter Try.func17, Try.ntmps17
  go_wp2_with fail
  refine Calls.mono (code5_nil _ _ _) ?_
  rintro e w' ⟨rfl, rfl⟩
  rw [codeOf_in hp hb5]
  go_upto_region 6 with fail
  go_cut [7, 8] (fun s7 s8 wx => ∃ ga gb, s7 = .slice (some ⟨ga, 0, none⟩) M M ∧ s8 = .slice (some ⟨gb, 0, none⟩) M M ∧ ga ≠ gb ∧ wx.ownsRow w.heap.size 2 1 (.slice (some ⟨ga, 0, none⟩) M M) M (ints (tab M fun _ => 0)) ∧ wx.ownsRow w.heap.size 2 1 (.slice (some ⟨gb, 0, none⟩) M M) M (ints (tab M fun _ => 0)) ∧ Below w.heap.size w wx)
  case first =>
    (refine wp_region_held_drew (S := (fun _ => True)) (by kernel_rfl) (by trivial) (fun hHeld => ?_))
    (refine wpAnyH_take (i := 0) (v := ?_) rfl (by kernel_rfl) (by kernel_rfl) (by kernel_rfl) (fun _ _ _ h => h) (Or.inl ⟨by rfl, ?_⟩) (by with_reducible assumption) ?_; rotate_left; (focus (intro wz hSw; (try dsimp only at hSw); go_simp; try with_reducible rfl)); try simp only [Act.put, List.getElem_toArray, List.getElem_cons_zero, List.getElem_cons_succ, List.setIfInBounds_toArray, List.set_cons_zero, List.set_cons_succ])
    (refine wpAnyH_take (i := 1) (v := ?_) rfl (by kernel_rfl) (by kernel_rfl) (by kernel_rfl) (fun _ _ _ h => h) (Or.inl ⟨by rfl, ?_⟩) (by with_reducible assumption) ?_; rotate_left; (focus (intro wz hSw; (try dsimp only at hSw); go_simp; try with_reducible rfl)); try simp only [Act.put, List.getElem_toArray, List.getElem_cons_zero, List.getElem_cons_succ, List.setIfInBounds_toArray, List.set_cons_zero, List.set_cons_succ])
    (refine wpAnyH_take (i := 3) (v := ?_) rfl (by kernel_rfl) (by kernel_rfl) (by kernel_rfl) (fun _ _ _ h => h) (Or.inl ⟨by rfl, ?_⟩) (by with_reducible assumption) ?_; rotate_left; (focus (intro wz hSw; (try dsimp only at hSw); go_simp; try with_reducible rfl)); try simp only [Act.put, List.getElem_toArray, List.getElem_cons_zero, List.getElem_cons_succ, List.setIfInBounds_toArray, List.set_cons_zero, List.set_cons_succ])
    (refine wpAnyH_take (i := 4) (v := ?_) rfl (by kernel_rfl) (by kernel_rfl) (by kernel_rfl) (fun _ _ _ h => h) (Or.inl ⟨by rfl, ?_⟩) (by with_reducible assumption) ?_; rotate_left; (focus (intro wz hSw; (try dsimp only at hSw); go_simp; try with_reducible rfl)); try simp only [Act.put, List.getElem_toArray, List.getElem_cons_zero, List.getElem_cons_succ, List.setIfInBounds_toArray, List.set_cons_zero, List.set_cons_succ])
    refine wpAnyH_ready (rs := [2, 5]) (by kernel_rfl) (by simp) ?_
    refine AllReadyH.cons rfl (fun K hK => ?_) (AllReadyH.cons rfl (fun K hK => ?_) AllReadyH.nil)
    · refine step_make rfl _ _ 25 rfl w.heap.size 2 i0 (.int .i64 0) 1 Try.underlying25 hi hz0 hz1 .i64 .i64 M ?e1 ?e2 (by rw [hz2]; omega) (by unfold maxLen; omega) (Nat.le_refl _) ?_
      case e1 => simp [Act.eval, hwM]
      case e2 => simp [Act.eval, hwM]
      intro w1 ho hgr
      refine hK.out _ _ trivial (fun hHeld => ?_)
      clear hK K
      try simp only [Act.put, List.getElem_toArray, List.getElem_cons_zero, List.getElem_cons_succ, List.setIfInBounds_toArray, List.set_cons_zero, List.set_cons_succ]
      have hb1 : Below w.heap.size w w1 := Below.grown (w := w.drew) (Below.drew (Below.refl _ _)) hgr (Nat.le_refl _) (fun g hg => by cases hg)
      have hl1 : w.heap.size < w1.heap.size := (ho.lt w.heap.size rfl).2
      (refine wpAnyH_take (i := 6) (v := ?_) rfl (by kernel_rfl) (by kernel_rfl) (by kernel_rfl) (fun _ _ _ h => h) (Or.inl ⟨by rfl, ?_⟩) (by with_reducible assumption) ?_; rotate_left; (focus (intro wz hSw; (try dsimp only at hSw); go_simp; try with_reducible rfl)); try simp only [Act.put, List.getElem_toArray, List.getElem_cons_zero, List.getElem_cons_succ, List.setIfInBounds_toArray, List.set_cons_zero, List.set_cons_succ])
      refine wpAnyH_ready (rs := [5]) (by kernel_rfl) (by simp) ?_
      refine AllReadyH.cons rfl (fun K hK => ?_) AllReadyH.nil
      refine step_make rfl _ _ 25 rfl w.heap.size 2 i0 (.int .i64 0) 1 Try.underlying25 hi hz0 hz1 .i64 .i64 M ?e1 ?e2 (by rw [hz2]; omega) (by unfold maxLen; omega) (by omega) ?_
      case e1 => simp [Act.eval, hwM]
      case e2 => simp [Act.eval, hwM]
      intro w2 ho2 hgr2
      refine hK.out _ _ trivial (fun hHeld => ?_)
      clear hK K
      try simp only [Act.put, List.getElem_toArray, List.getElem_cons_zero, List.getElem_cons_succ, List.setIfInBounds_toArray, List.set_cons_zero, List.set_cons_succ]
      have hb2 : Below w.heap.size w w2 := hb1.grown hgr2 hb1.size (fun g hg => by cases hg)
      have ho3 := ho.kept hgr2 (.inr (by simp [Value.ownBlock]))
      (refine wpAnyH_take (i := 7) (v := ?_) rfl (by kernel_rfl) (by kernel_rfl) (by kernel_rfl) (fun _ _ _ h => h) (Or.inl ⟨by rfl, ?_⟩) (by with_reducible assumption) ?_; rotate_left; (focus (intro wz hSw; (try dsimp only at hSw); go_simp; try with_reducible rfl)); try simp only [Act.put, List.getElem_toArray, List.getElem_cons_zero, List.getElem_cons_succ, List.setIfInBounds_toArray, List.set_cons_zero, List.set_cons_succ])
      refine wpAnyH_done (by kernel_rfl) ?_ _
      rw [show (madeCells (Value.int .i64 0).cells (M * 1)).toList = ints (tab M fun _ => 0) from by rw [Nat.mul_one]; exact made_tab M] at ho2 ho3
      go_wp2_with fail
      go_meet
      exact ⟨_, _, rfl, rfl, by omega, ho3, ho2, hb2⟩
    · refine step_make rfl _ _ 25 rfl w.heap.size 2 i0 (.int .i64 0) 1 Try.underlying25 hi hz0 hz1 .i64 .i64 M ?e1 ?e2 (by rw [hz2]; omega) (by unfold maxLen; omega) (Nat.le_refl _) ?_
      case e1 => simp [Act.eval, hwM]
      case e2 => simp [Act.eval, hwM]
      intro w1 ho hgr
      refine hK.out _ _ trivial (fun hHeld => ?_)
      clear hK K
      try simp only [Act.put, List.getElem_toArray, List.getElem_cons_zero, List.getElem_cons_succ, List.setIfInBounds_toArray, List.set_cons_zero, List.set_cons_succ]
      have hb1 : Below w.heap.size w w1 := Below.grown (w := w.drew) (Below.drew (Below.refl _ _)) hgr (Nat.le_refl _) (fun g hg => by cases hg)
      have hl1 : w.heap.size < w1.heap.size := (ho.lt w.heap.size rfl).2
      refine wpAnyH_ready (rs := [2]) (by kernel_rfl) (by simp) ?_
      refine AllReadyH.cons rfl (fun K hK => ?_) AllReadyH.nil
      refine step_make rfl _ _ 25 rfl w.heap.size 2 i0 (.int .i64 0) 1 Try.underlying25 hi hz0 hz1 .i64 .i64 M ?e1 ?e2 (by rw [hz2]; omega) (by unfold maxLen; omega) (by omega) ?_
      case e1 => simp [Act.eval, hwM]
      case e2 => simp [Act.eval, hwM]
      intro w2 ho2 hgr2
      refine hK.out _ _ trivial (fun hHeld => ?_)
      clear hK K
      try simp only [Act.put, List.getElem_toArray, List.getElem_cons_zero, List.getElem_cons_succ, List.setIfInBounds_toArray, List.set_cons_zero, List.set_cons_succ]
      have hb2 : Below w.heap.size w w2 := hb1.grown hgr2 hb1.size (fun g hg => by cases hg)
      have ho3 := ho.kept hgr2 (.inr (by simp [Value.ownBlock]))
      (refine wpAnyH_take (i := 6) (v := ?_) rfl (by kernel_rfl) (by kernel_rfl) (by kernel_rfl) (fun _ _ _ h => h) (Or.inl ⟨by rfl, ?_⟩) (by with_reducible assumption) ?_; rotate_left; (focus (intro wz hSw; (try dsimp only at hSw); go_simp; try with_reducible rfl)); try simp only [Act.put, List.getElem_toArray, List.getElem_cons_zero, List.getElem_cons_succ, List.setIfInBounds_toArray, List.set_cons_zero, List.set_cons_succ])
      (refine wpAnyH_take (i := 7) (v := ?_) rfl (by kernel_rfl) (by kernel_rfl) (by kernel_rfl) (fun _ _ _ h => h) (Or.inl ⟨by rfl, ?_⟩) (by with_reducible assumption) ?_; rotate_left; (focus (intro wz hSw; (try dsimp only at hSw); go_simp; try with_reducible rfl)); try simp only [Act.put, List.getElem_toArray, List.getElem_cons_zero, List.getElem_cons_succ, List.setIfInBounds_toArray, List.set_cons_zero, List.set_cons_succ])
      refine wpAnyH_done (by kernel_rfl) ?_ _
      rw [show (madeCells (Value.int .i64 0).cells (M * 1)).toList = ints (tab M fun _ => 0) from by rw [Nat.mul_one]; exact made_tab M] at ho2 ho3
      go_wp2_with fail
      go_meet
      exact ⟨_, _, rfl, rfl, by omega, ho2, ho3, hb2⟩
  case rest =>
    obtain ⟨ga, gb, rfl, rfl, hne, hoa, hob, hbc⟩ := hcut
    have hga := (hoa.lt ga rfl)
    have hgb := (hob.lt gb rfl)
    have hidx1 : (1 : Int) < (M : Int) := by omega
    have hz1b := hob.frozenAt 1
    have hc1 : wc.cell? ⟨gb, 1, none⟩ = some (.int .i64 0) := by rw [own_cell hob (j := 1) (by have := HM.out; omega), tab_getD _ (by have := HM.out; omega)]
    have hst := hob.stored 1 (.int .i64 1)
    rw [tab_step (g := (cfp p 0).2) (fun i _ => rfl)] at hst
    have hoa1 : (wc.setCell ⟨gb, 1, none⟩ (.int .i64 1)).ownsRow w.heap.size 2 1 (.slice (some ⟨ga, 0, none⟩) M M) M (ints (tab M (cfp p 0).1)) := hoa.kept hst.2 (.inr (by simp [Value.ownBlock, hne]))
    have hb1 : Below w.heap.size w (wc.setCell ⟨gb, 1, none⟩ (.int .i64 1)) := hbc.setCell (by exact hgb.1) _
    have HO := Lib.hid (And.intro hoa1 (And.intro hst.1 hb1))
    clear hst hoa hob hbc hoa1 hb1 hne hga hgb
    go_wp2_with fail
    go_loopw [7, 8, 9] (fun u v i wr => ∃ (j : Nat) (fa fb : Nat → Int), j ≤ N ∧ i = .int .i64 ((N : Int) - j) ∧ (∀ s, s ≤ N → fa s = (cfp p j).1 s) ∧ (∀ s, s ≤ N → fb s = (cfp p j).2 s) ∧ wr.ownsRow w.heap.size 2 1 u M (ints (tab M fa)) ∧ wr.ownsRow w.heap.size 2 1 v M (ints (tab M fb)) ∧ Below w.heap.size w wr) (fun _ _ i _ => (intOf i).toNat)
    case' atStart => exact ⟨0, (cfp p 0).1, (cfp p 0).2, by omega, by simp, fun _ _ => rfl, fun _ _ => rfl, HO.out.1, HO.out.2.1, HO.out.2.2⟩
    case' round =>
      obtain ⟨j, fa, fb, hj, rfl, hfa, hfb, hu, hv, hbel⟩ := hrel
      obtain ⟨wo, hwo⟩ : ∃ wo, wo = wr := ⟨_, rfl⟩
      rw [← hwo] at hu hv hbel ⊢
      clear hwo
      rcases own_ways hu with ⟨h0, _⟩ | ⟨_, gu, cu, rfl, hgu1, hgu2, _⟩
      · have := HM.out; omega
      rcases own_ways hv with ⟨h0, _⟩ | ⟨_, gv, cv, rfl, hgv1, hgv2, _⟩
      · have := HM.out; omega
      by_cases hlt : j < N
      · have hpos : (0 : Int) < (N : Int) - j := by omega
        go_wp2_with (at_make; refine wpList_make_full _ rfl _ _ 25 rfl wo.heap.size 2 i0 (.int .i64 0) 1 Try.underlying25 hi hz0 hz1 .i64 .i64 _ _ M rfl rfl (by omega) (by omega) (by rw [hz2]; omega) (by unfold maxLen; omega) (Nat.le_refl _) ?_)
        intro wn hon hgn
        rw [made_tab, tab_congr (g := s4 p j 0) (fun i _ => by unfold s4; rw [if_neg (by omega)])] at hon
        have hbn : Below wo.heap.size wo wn := (Below.refl _ _).grown hgn (Nat.le_refl _) (fun g hg => by cases hg)
        clear hgn
        go_wp2_with fail
        go_loopw [11] (fun i wq => ∃ t : Nat, t ≤ N + 1 ∧ i = .int .i64 t ∧ wq.ownsRow wo.heap.size 2 1 (.slice (some ⟨wo.heap.size, 0, none⟩) M M) M (ints (tab M (s4 p j t))) ∧ Below wo.heap.size wo wq) (fun i _ => N + 1 - (intOf i).toNat)
        case' atStart => exact ⟨0, by omega, rfl, hon, hbn⟩
        case' round =>
          obtain ⟨t, ht, rfl, hnx, hbq⟩ := hrel
          have hfin := cfp_next p j t
          by_cases hle : t ≤ N
          · have hle' : (t : Int) ≤ (N : Int) := by omega
            have hib : (0 : Int) ≤ (t : Int) ∧ (t : Int) < (M : Int) := by omega
            have hcb : wr.cell? ⟨gv, t, none⟩ = some (.int .i64 ((cfp p j).2 t)) := by rw [cell_back hbq hgv2, own_cell hv (j := t) (by have := HM.out; omega), tab_getD _ (by have := HM.out; omega), hfb t hle]
            have hca : wr.cell? ⟨gu, t, none⟩ = some (.int .i64 ((cfp p j).1 t)) := by rw [cell_back hbq hgu2, own_cell hu (j := t) (by have := HM.out; omega), tab_getD _ (by have := HM.out; omega), hfa t hle]
            have hcn := own_cell hnx (j := t) (by have := HM.out; omega)
            have hzn := hnx.frozenAt t
            have r1 := (cfp_31 hp j).1 t
            have r2 := (cfp_31 hp j).2 t
            rcases Nat.eq_zero_or_pos t with h0 | h0
            · subst h0
              rw [if_neg (by omega), if_pos rfl] at hfin
              obtain ⟨x, hx⟩ : ∃ x, x = (cfp p j).1 0 := ⟨_, rfl⟩
              obtain ⟨y, hy⟩ : ∃ y, y = (cfp p j).2 0 := ⟨_, rfl⟩
              rw [← hx] at hca hfin r1
              rw [← hy] at hcb hfin r2
              clear hx hy
              have hfin : (cfp p (j + 1)).2 0 = (2 * y - x) % p := by rw [hfin, Int.add_zero, Int.sub_zero]
              have hs1 := hnx.stored (0) (.int .i64 (2 * y - x))
              rw [tab_step (g := fun i => if i = 0 then 2 * y - x else s4 p j (0) i) (fun i _ => rfl)] at hs1
              have hs2 := hs1.1.stored (0) (.int .i64 ((2 * y - x) % p))
              rw [tab_step (g := s4 p j (0 + 1)) (fun i _ => by rw [s4_step, hfin]; by_cases h : i = 0 <;> simp [h])] at hs2
              have k1 : (wr.setCell ⟨wo.heap.size, 0, none⟩ (.int .i64 (2 * y - x))).cell? ⟨wo.heap.size, 0, none⟩ = some (.int .i64 (2 * y - x)) := ksame (hcn)
              have k1d : (wr.drew.setCell ⟨wo.heap.size, 0, none⟩ (.int .i64 (2 * y - x))).cell? ⟨wo.heap.size, 0, none⟩ = some (.int .i64 (2 * y - x)) := ksame (kdrew hcn)
              have z1 := hs1.1.frozenAt (0)
              have hb2 : Below wo.heap.size wo ((wr.setCell ⟨wo.heap.size, 0, none⟩ (.int .i64 (2 * y - x))).setCell ⟨wo.heap.size, 0, none⟩ (.int .i64 ((2 * y - x) % p))) := ((hbq.setCell (Nat.le_refl _) _).setCell (Nat.le_refl _) _)
              have HO2 := Lib.hid (And.intro hs2.1 hb2)
              clear hs1 hs2 hb2 hfin hnx hbq
              have e1 : IntKind.i64.wrap (2 * y) = 2 * y := wrapI _ (by omega)
              have e2 : IntKind.i64.wrap (2 * y - x) = 2 * y - x := wrapI _ (by omega)
              have dcb := kdrew hcb
              have dca := kdrew hca
              have dcn := kdrew hcn
              go_upto_region 15 with fail
              (refine region_tail 13 (by kernel_rfl) (by kernel_rfl) ?_; simp only [List.take_succ_cons, List.take_zero, List.drop_succ_cons, List.drop_zero]; repeat still_step)
              refine wpStill_nil ?_
              go_wp2_with (go_at_call 50; refine Calls.mono (mod_any _ _ _ (by omega) (by omega) (by omega) (by omega)) ?_; rintro e w' ⟨rfl, rfl⟩)
              go_roundw
              case rel => exact ⟨0 + 1, by omega, by go_num, HO2.out.1, HO2.out.2.drew⟩
              case measure => simp [intOf] <;> omega
            · obtain ⟨r, hrt⟩ : ∃ r, t = r + 1 := ⟨t - 1, by omega⟩
              have hcz : wr.cell? ⟨gv, r, none⟩ = some (.int .i64 ((cfp p j).2 r)) := by rw [cell_back hbq hgv2, own_cell hv (j := r) (by have := HM.out; omega), tab_getD _ (by have := HM.out; omega), hfb r (by omega)]
              have r3 := (cfp_31 hp j).2 r
              have hgvn : gv ≠ wo.heap.size := by omega
              have hic : (0 : Int) ≤ (r : Int) ∧ (r : Int) < (M : Int) := by omega
              have hpos1 : (0 : Int) < (t : Int) := by omega
              rw [if_neg (show ¬ t = 0 by omega), show t - 1 = r by omega] at hfin
              obtain ⟨x, hx⟩ : ∃ x, x = (cfp p j).1 t := ⟨_, rfl⟩
              obtain ⟨y, hy⟩ : ∃ y, y = (cfp p j).2 t := ⟨_, rfl⟩
              obtain ⟨z, hz⟩ : ∃ z, z = (cfp p j).2 r := ⟨_, rfl⟩
              rw [← hx] at hca hfin r1
              rw [← hy] at hcb hfin r2
              rw [← hz] at hcz hfin r3
              clear hx hy hz
              have hsub : (t : Int) - 1 = (r : Int) := by omega
              have HT := Lib.hid hrt
              clear h0
              by_cases hr1 : r = 0
              · have hr1' : ((t : Int) == 1) = true := by rw [beq_iff_eq]; omega
                have hfin : (cfp p (j + 1)).2 t = (2 * y - x - 4 * z + 2) % p := by rw [hfin, if_pos (by omega)]; congr 1; omega
                clear hr1 hrt
                have hs1 := hnx.stored (t) (.int .i64 (2 * y - x))
                rw [tab_step (g := fun i => if i = t then 2 * y - x else s4 p j (t) i) (fun i _ => rfl)] at hs1
                have hs2 := hs1.1.stored (t) (.int .i64 (2 * y - x - 4 * z))
                rw [tab_step (g := fun i => if i = t then 2 * y - x - 4 * z else s4 p j (t) i) (fun i _ => by by_cases h : i = t <;> simp [h])] at hs2
                have hs3 := hs2.1.stored (t) (.int .i64 (2 * y - x - 4 * z + 2))
                rw [tab_step (g := fun i => if i = t then 2 * y - x - 4 * z + 2 else s4 p j (t) i) (fun i _ => by by_cases h : i = t <;> simp [h])] at hs3
                have hs4 := hs3.1.stored (t) (.int .i64 ((2 * y - x - 4 * z + 2) % p))
                rw [tab_step (g := s4 p j (t + 1)) (fun i _ => by rw [s4_step, hfin]; by_cases h : i = t <;> simp [h])] at hs4
                have k1 : (wr.setCell ⟨wo.heap.size, t, none⟩ (.int .i64 (2 * y - x))).cell? ⟨wo.heap.size, t, none⟩ = some (.int .i64 (2 * y - x)) := ksame (hcn)
                have k1d : (wr.drew.setCell ⟨wo.heap.size, t, none⟩ (.int .i64 (2 * y - x))).cell? ⟨wo.heap.size, t, none⟩ = some (.int .i64 (2 * y - x)) := ksame (kdrew hcn)
                have z1 := hs1.1.frozenAt (t)
                have k2 : ((wr.setCell ⟨wo.heap.size, t, none⟩ (.int .i64 (2 * y - x))).setCell ⟨wo.heap.size, t, none⟩ (.int .i64 (2 * y - x - 4 * z))).cell? ⟨wo.heap.size, t, none⟩ = some (.int .i64 (2 * y - x - 4 * z)) := ksame (ksame (hcn))
                have k2d : ((wr.drew.setCell ⟨wo.heap.size, t, none⟩ (.int .i64 (2 * y - x))).setCell ⟨wo.heap.size, t, none⟩ (.int .i64 (2 * y - x - 4 * z))).cell? ⟨wo.heap.size, t, none⟩ = some (.int .i64 (2 * y - x - 4 * z)) := ksame (ksame (kdrew hcn))
                have z2 := hs2.1.frozenAt (t)
                have k3 : (((wr.setCell ⟨wo.heap.size, t, none⟩ (.int .i64 (2 * y - x))).setCell ⟨wo.heap.size, t, none⟩ (.int .i64 (2 * y - x - 4 * z))).setCell ⟨wo.heap.size, t, none⟩ (.int .i64 (2 * y - x - 4 * z + 2))).cell? ⟨wo.heap.size, t, none⟩ = some (.int .i64 (2 * y - x - 4 * z + 2)) := ksame (ksame (ksame (hcn)))
                have k3d : (((wr.drew.setCell ⟨wo.heap.size, t, none⟩ (.int .i64 (2 * y - x))).setCell ⟨wo.heap.size, t, none⟩ (.int .i64 (2 * y - x - 4 * z))).setCell ⟨wo.heap.size, t, none⟩ (.int .i64 (2 * y - x - 4 * z + 2))).cell? ⟨wo.heap.size, t, none⟩ = some (.int .i64 (2 * y - x - 4 * z + 2)) := ksame (ksame (ksame (kdrew hcn)))
                have z3 := hs3.1.frozenAt (t)
                have hb2 : Below wo.heap.size wo ((((wr.setCell ⟨wo.heap.size, t, none⟩ (.int .i64 (2 * y - x))).setCell ⟨wo.heap.size, t, none⟩ (.int .i64 (2 * y - x - 4 * z))).setCell ⟨wo.heap.size, t, none⟩ (.int .i64 (2 * y - x - 4 * z + 2))).setCell ⟨wo.heap.size, t, none⟩ (.int .i64 ((2 * y - x - 4 * z + 2) % p))) := ((((hbq.setCell (Nat.le_refl _) _).setCell (Nat.le_refl _) _).setCell (Nat.le_refl _) _).setCell (Nat.le_refl _) _)
                have HO2 := Lib.hid (And.intro hs4.1 hb2)
                clear hs1 hs2 hs3 hs4 hb2 hfin hnx hbq
                have e1 : IntKind.i64.wrap (2 * y) = 2 * y := wrapI _ (by omega)
                have e2 : IntKind.i64.wrap (2 * y - x) = 2 * y - x := wrapI _ (by omega)
                have e3 : IntKind.i64.wrap (4 * z) = 4 * z := wrapI _ (by omega)
                have e4 : IntKind.i64.wrap (2 * y - x - 4 * z) = 2 * y - x - 4 * z := wrapI _ (by omega)
                have kz : (wr.setCell ⟨wo.heap.size, t, none⟩ (.int .i64 (2 * y - x))).cell? ⟨gv, r, none⟩ = some (.int .i64 z) := kset hgvn hcz
                have kzd : (wr.drew.setCell ⟨wo.heap.size, t, none⟩ (.int .i64 (2 * y - x))).cell? ⟨gv, r, none⟩ = some (.int .i64 z) := kset hgvn (kdrew hcz)
                have kze : (wr.setCell ⟨wo.heap.size, t, none⟩ (.int .i64 (2 * y - x))).drew.drew.cell? ⟨gv, r, none⟩ = some (.int .i64 z) := kz
                have k1e : (wr.setCell ⟨wo.heap.size, t, none⟩ (.int .i64 (2 * y - x))).drew.drew.cell? ⟨wo.heap.size, t, none⟩ = some (.int .i64 (2 * y - x)) := k1
                have ew : IntKind.i64.wrap (r : Int) = (r : Int) := wrapI _ (by omega)
                have dcb := kdrew hcb
                have dca := kdrew hca
                have dcn := kdrew hcn
                go_upto_region 15 with fail
                (refine region_tail 13 (by kernel_rfl) (by kernel_rfl) ?_; simp only [List.take_succ_cons, List.take_zero, List.drop_succ_cons, List.drop_zero]; repeat still_step)
                refine wpStill_nil ?_
                go_upto_region 17 with fail
                (refine region_tail 14 (by kernel_rfl) (by kernel_rfl) ?_; simp only [List.take_succ_cons, List.take_zero, List.drop_succ_cons, List.drop_zero]; repeat still_step)
                refine wpStill_nil ?_
                go_wp2_with (go_at_call 50; refine Calls.mono (mod_any _ _ _ (by omega) (by omega) (by omega) (by omega)) ?_; rintro e w' ⟨rfl, rfl⟩)
                go_roundw
                case rel => exact ⟨t + 1, by omega, by go_num, HO2.out.1, HO2.out.2.drew.drew⟩
                case measure => simp [intOf]; omega
              · have hr1' : ((t : Int) == 1) = false := by rw [beq_eq_false_iff_ne]; omega
                have hfin : (cfp p (j + 1)).2 t = (2 * y - x - 4 * z) % p := by rw [hfin, if_neg (by omega)]; congr 1; omega
                clear hr1 hrt
                have hs1 := hnx.stored (t) (.int .i64 (2 * y - x))
                rw [tab_step (g := fun i => if i = t then 2 * y - x else s4 p j (t) i) (fun i _ => rfl)] at hs1
                have hs2 := hs1.1.stored (t) (.int .i64 (2 * y - x - 4 * z))
                rw [tab_step (g := fun i => if i = t then 2 * y - x - 4 * z else s4 p j (t) i) (fun i _ => by by_cases h : i = t <;> simp [h])] at hs2
                have hs3 := hs2.1.stored (t) (.int .i64 ((2 * y - x - 4 * z) % p))
                rw [tab_step (g := s4 p j (t + 1)) (fun i _ => by rw [s4_step, hfin]; by_cases h : i = t <;> simp [h])] at hs3
                have k1 : (wr.setCell ⟨wo.heap.size, t, none⟩ (.int .i64 (2 * y - x))).cell? ⟨wo.heap.size, t, none⟩ = some (.int .i64 (2 * y - x)) := ksame (hcn)
                have k1d : (wr.drew.setCell ⟨wo.heap.size, t, none⟩ (.int .i64 (2 * y - x))).cell? ⟨wo.heap.size, t, none⟩ = some (.int .i64 (2 * y - x)) := ksame (kdrew hcn)
                have z1 := hs1.1.frozenAt (t)
                have k2 : ((wr.setCell ⟨wo.heap.size, t, none⟩ (.int .i64 (2 * y - x))).setCell ⟨wo.heap.size, t, none⟩ (.int .i64 (2 * y - x - 4 * z))).cell? ⟨wo.heap.size, t, none⟩ = some (.int .i64 (2 * y - x - 4 * z)) := ksame (ksame (hcn))
                have k2d : ((wr.drew.setCell ⟨wo.heap.size, t, none⟩ (.int .i64 (2 * y - x))).setCell ⟨wo.heap.size, t, none⟩ (.int .i64 (2 * y - x - 4 * z))).cell? ⟨wo.heap.size, t, none⟩ = some (.int .i64 (2 * y - x - 4 * z)) := ksame (ksame (kdrew hcn))
                have z2 := hs2.1.frozenAt (t)
                have hb2 : Below wo.heap.size wo (((wr.setCell ⟨wo.heap.size, t, none⟩ (.int .i64 (2 * y - x))).setCell ⟨wo.heap.size, t, none⟩ (.int .i64 (2 * y - x - 4 * z))).setCell ⟨wo.heap.size, t, none⟩ (.int .i64 ((2 * y - x - 4 * z) % p))) := (((hbq.setCell (Nat.le_refl _) _).setCell (Nat.le_refl _) _).setCell (Nat.le_refl _) _)
                have HO2 := Lib.hid (And.intro hs3.1 hb2)
                clear hs1 hs2 hs3 hb2 hfin hnx hbq
                have e1 : IntKind.i64.wrap (2 * y) = 2 * y := wrapI _ (by omega)
                have e2 : IntKind.i64.wrap (2 * y - x) = 2 * y - x := wrapI _ (by omega)
                have e3 : IntKind.i64.wrap (4 * z) = 4 * z := wrapI _ (by omega)
                have e4 : IntKind.i64.wrap (2 * y - x - 4 * z) = 2 * y - x - 4 * z := wrapI _ (by omega)
                have kz : (wr.setCell ⟨wo.heap.size, t, none⟩ (.int .i64 (2 * y - x))).cell? ⟨gv, r, none⟩ = some (.int .i64 z) := kset hgvn hcz
                have kzd : (wr.drew.setCell ⟨wo.heap.size, t, none⟩ (.int .i64 (2 * y - x))).cell? ⟨gv, r, none⟩ = some (.int .i64 z) := kset hgvn (kdrew hcz)
                have kze : (wr.setCell ⟨wo.heap.size, t, none⟩ (.int .i64 (2 * y - x))).drew.drew.cell? ⟨gv, r, none⟩ = some (.int .i64 z) := kz
                have k1e : (wr.setCell ⟨wo.heap.size, t, none⟩ (.int .i64 (2 * y - x))).drew.drew.cell? ⟨wo.heap.size, t, none⟩ = some (.int .i64 (2 * y - x)) := k1
                have ew : IntKind.i64.wrap (r : Int) = (r : Int) := wrapI _ (by omega)
                have dcb := kdrew hcb
                have dca := kdrew hca
                have dcn := kdrew hcn
                go_upto_region 15 with fail
                (refine region_tail 13 (by kernel_rfl) (by kernel_rfl) ?_; simp only [List.take_succ_cons, List.take_zero, List.drop_succ_cons, List.drop_zero]; repeat still_step)
                refine wpStill_nil ?_
                go_upto_region 17 with fail
                (refine region_tail 14 (by kernel_rfl) (by kernel_rfl) ?_; simp only [List.take_succ_cons, List.take_zero, List.drop_succ_cons, List.drop_zero]; repeat still_step)
                refine wpStill_nil ?_
                go_wp2_with (go_at_call 50; refine Calls.mono (mod_any _ _ _ (by omega) (by omega) (by omega) (by omega)) ?_; rintro e w' ⟨rfl, rfl⟩)
                go_roundw
                case rel => exact ⟨t + 1, by omega, by go_num, HO2.out.1, HO2.out.2.drew.drew⟩
                case measure => simp [intOf]; omega
          · obtain rfl : t = N + 1 := by omega
            have hv1 := own_base (own_call hv hbq) (Nat.le_refl _)
            have hn1 := own_base hnx hbel.size
            have hb1 := bthen hbel hbq
            clear hv hnx hbel hbq hu hfin
            go_wp2
            go_roundw
            case rel => exact ⟨j + 1, fb, s4 p j (N + 1), by omega, by go_num, hfb, (fun s hs => by unfold s4; rw [if_pos (by omega)]), hv1, hn1, hb1⟩
            case measure => simp [intOf]; omega
      · obtain rfl : j = N := by omega
        have hcap := own_cap hu
        have hcap2 : ¬ ((cu : Int) < (j : Int) + 1) := by have := HM.out; omega
        have hot := own_take hu (m := j + 1) (by have := HM.out; omega)
        rw [ints_take, tab_take fa (by have := HM.out; omega : j + 1 ≤ M), tab_congr (g := (cfp p j).1) (fun i hi => hfa i (by omega))] at hot
        go_wp2
        (refine bodyPost_ret (v := .tuple #[.slice (some ⟨gu, 0, none⟩) (j + 1) cu, .int .i64 0]) (by simp [results, Try.results17, go_sem]) rfl (slicePost_mk hot hbel))

end Go.Proofs.Ytinfjbaloppgkaa
