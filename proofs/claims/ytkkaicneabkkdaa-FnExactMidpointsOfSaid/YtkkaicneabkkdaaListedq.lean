/-
  impl.listed at places: those of an iterator's that pass a test, in order.
-/
import Derived.Test.YtkkaicneabkkdaaPlCellsq

namespace Go.Proofs.Ytkkaicneabkkdaa
open Go.RowKit Go.Shelf

attribute [local go_sem] Oper.semAt_some

set_option maxRecDepth 100000 in
set_option maxRecDepth 20000 in
set_option maxHeartbeats 4000000 in
theorem listed_any (f : Pl32 → Bool) (L : List Pl32) (N lo hi gf gp : Nat) (lb caps : Array Value) (w : World)
    (he : ∀ args w, (callFunc gf args).run Try.prog w = .ok (.enter gf args) w) (hep : ∀ args w, (callFunc gp args).run Try.prog w = .ok (.enter gp args) w) (hN : N ≤ 4096) (hhi : hi ≤ w.heap.size)
    (hseq : ∀ W : World, Below w.heap.size w W → SeqOn Fence.wide 8 Try.prog gf lb (fun x : Pl32 => #[plV (toQ x)]) (KeepG lo hi 0 tsPl) (fun ys => ys = L) (fun pre => pre <+: L) N W)
    (hp : ∀ (x : Pl32) (W : World), Below w.heap.size w W → Calls Try.prog gp (#[plV (toQ x)] ++ caps) W fun e W' => e = .returned (.bool (f x)) ∧ Below W.heap.size W W') :
    Calls Try.prog 47 #[.func (.func gf) #[] lb, .func (.func gp) #[] caps] w fun e w' => OnePost 23 3 (flatQ (L.filter f)) (L.filter f).length w e w' := by
  obtain ⟨i0, hi0, hz0, hz1, hz2⟩ := info_parts infoPl
  have HP := Lib.hid hp
  clear hp
  refine (callsIn_wide (n := 9)).1 ?_
  refine callsIn_of_wp_marks Try.func47 rfl trivial ?_ rfl
  simp only [Try.ntmps47, List.size_toArray, List.length_cons, List.length_nil, Nat.reduceAdd, Nat.reduceSub, Array.replicate_succ, Array.replicate_zero, List.push_toArray, List.append_toArray, List.nil_append, List.cons_append]
  gi_wp2_with fail
  have q0 : ((w.alloc (.cells #[.func (.func gp) #[] caps] 71)).alloc (.cells #[.slice none 0 0] 34)).cell? ⟨w.heap.size, 0, none⟩ = some (.func (.func gp) #[] caps) := by (repeat (first | with_reducible assumption | ((with_reducible refine kfresh ?_ ?_) <;> (first | with_reducible rfl | (simp; done))) | ((with_reducible refine ksameS ?_); focus ((repeat (first | with_reducible exact kis_of (by with_reducible assumption) | with_reducible refine kis_set ?_ | ((with_reducible refine kis_new ?_ ?_) <;> (first | with_reducible rfl | rfl | (simp; done))) | with_reducible refine kis_alloc _ ?_ | with_reducible refine kis_drew ?_ | with_reducible refine kis_call (by with_reducible assumption) ?_ | with_reducible exact kis_of (kcall (by with_reducible assumption) (by with_reducible assumption)))); done)) | with_reducible refine kother (by decide) ?_ | with_reducible refine kset (by first | omega | (simp; done) | (simp; omega)) ?_ | with_reducible refine kalloc _ ?_ | with_reducible refine kdrew ?_ | with_reducible refine kdrewN ?_ | with_reducible refine kcall (by with_reducible assumption) ?_))
  have bS : Boxed ((w.alloc (.cells #[.func (.func gp) #[] caps] 71)).alloc (.cells #[.slice none 0 0] 34)) (w.heap.size + 1) 34 (.slice none 0 0) := by
    have := Boxed.new (w.alloc (.cells #[.func (.func gp) #[] caps] 71)) 34 (.slice none 0 0)
    simpa using this
  have hB0 : Below w.heap.size w ((w.alloc (.cells #[.func (.func gp) #[] caps] 71)).alloc (.cells #[.slice none 0 0] 34)) := by (repeat (first | with_reducible exact Below.refl _ _ | with_reducible refine balloc ?_ _ | with_reducible refine bdrewN ?_ _ | with_reducible refine Below.drew ?_ | with_reducible refine bthen ?_ (by with_reducible assumption) | with_reducible refine Below.setCell ?_ (by first | (simp; done) | (simp; omega)) _))
  have hsz : ((w.alloc (.cells #[.func (.func gp) #[] caps] 71)).alloc (.cells #[.slice none 0 0] 34)).heap.size = w.heap.size + 1 + 1 := by simp
  obtain ⟨Wn, hWn⟩ : ∃ Wn, Wn = ((w.alloc (.cells #[.func (.func gp) #[] caps] 71)).alloc (.cells #[.slice none 0 0] 34)) := ⟨_, rfl⟩
  rw [← hWn] at q0 bS hB0 hsz ⊢
  clear hWn
  refine range_on rfl (by decide) (gf := gf) (lb := lb) rfl trivial he (hseq Wn hB0) kg_trans (kg_put (by omega)) (Below.refl _ _) (fun _ => rfl)
    (fun pre W => (∃ v, Boxed W (w.heap.size + 1) 34 v ∧ W.ownsRow (w.heap.size + 1 + 1) 23 3 v (pre.filter f).length (ints (flatQ (pre.filter f)))) ∧ (Btw 0 (w.heap.size + 1) Wn W ∧ (Below w.heap.size w W ∧ w.heap.size + 1 + 1 ≤ W.heap.size)))
    (fun _ _ _ => False)
    (OwnFrom.and (ownFrom_ex fun v => OwnFrom.and (Own.from (boxed_own _ _ _) _) (Own.from (row_own _ _ _ _ _ _) _)) (OwnFrom.and (btw_ownLe (by omega)) (OwnFrom.and (ownFrom_below (by omega) hB0.size) (size_own _ _))))
    (fun _ _ _ _ _ hs _ _ => hs)
    ⟨⟨_, bS, World.ownsRow_nil _ _ _ _⟩, btw_refl _ _ _, hB0, by omega⟩
    (fun x a' W => ∃ Bx, w.heap.size + 1 + 1 ≤ Bx ∧ BoxQ W Bx 23 (toQ x) ∧ a' = { tmps := #[.func (.func gf) #[] lb, .func (.func gp) #[] caps, undef, .pointer (some ⟨w.heap.size, 0, none⟩), .slice none 0 0, .pointer (some ⟨w.heap.size + 1, 0, none⟩), .pointer (some ⟨Bx, 0, none⟩), .func (.func gf) #[] lb, plV (toQ x), undef, undef, undef, undef, undef, undef, undef, undef], defers := [] })
    (fun x a' _ X Y row hs hg hr => by obtain ⟨Bx, h1, h2, h3⟩ := hs; exact ⟨Bx, h1, boxQ_own Bx Wn.heap.size 23 (toQ x) () X Y row h2 hg hr, h3⟩)
    ?assign ?body ?done ?stop
  case assign =>
    rintro l pre x W K ⟨⟨v, bx, hrow⟩, hb, hB, hs⟩ hK
    have hnew := boxQ_new W 23 (toQ x)
    simp only [plV] at hK ⊢
    generalize toQ x = tx at hK hnew ⊢
    obtain ⟨x1, x2, x3⟩ := tx
    gi_wp2
    exact hK _ _ ((KeepsOthers.alloc _ _).from _) (kg_none (World.grownBy_alloc _ _ none) (by omega)) ⟨⟨v, bx.alloc _, hrow.alloc _⟩, btw_trans hb (btw_alloc _ _ (by omega)), hB.alloc hB.size _, by simp; omega⟩ ⟨W.heap.size, hs, hnew, rfl⟩
  case body =>
    rintro l pre x a' W ⟨⟨v, bx, hrow⟩, hb, hB, hs⟩ ⟨Bx, hBx, hX, rfl⟩ hlt
    have hX1 := boxQ_cell1 hX
    have hX2 := boxQ_cell2 hX
    have hX3 := boxQ_cell3 hX
    have hXl := World.block_lt_of_cell? W ⟨Bx, 0, none⟩ hX1
    simp only at hXl
    have hle : (pre.filter f).length ≤ pre.length := List.length_filter_le _ _
    have k0 := (btw_cell hb (Nat.zero_le _) (by omega) 0).trans q0
    have hcall := HP.out x W hB
    have hY := filter_yes (f := f) pre (x := x)
    have hN' := filter_no (f := f) pre (x := x)
    have HFl := Lib.hid (flatQ_append (pre.filter f) x)
    simp only [plV] at hcall HFl ⊢
    clear hX
    generalize toQ x = tx at hX1 hX2 hX3 hcall HFl ⊢
    obtain ⟨x1, x2, x3⟩ := tx
    simp only at hX1 hX2 hX3 hcall HFl ⊢
    obtain ⟨bo, hbo⟩ : ∃ b, b = f x := ⟨_, rfl⟩
    rw [← hbo] at hcall hY hN'
    have HC := Lib.hid hcall
    clear hcall hbo
    cases bo
    · have HF := Lib.hid (hN' rfl)
      clear hY hN'
      gi_wp2_with fail
      refine ⟨trivial, (CallsIn.inRound l (callsIn_wide.2 HC.out)).mono ?_⟩
      rintro e w1 ⟨rfl, hB1⟩
      have hB1s := hB1.size
      have bx1 : Boxed w1 (w.heap.size + 1) 34 v := (hB1.block _ (by omega)).trans bx
      have hrow1 := own_call hrow hB1
      have hBx1 : Bx < w1.heap.size := by omega
      gi_wp2
      refine ⟨(KeepsOthers.of_grownBy (row := none) (below_grown hB1) (fun j o e => by cases e)).from _, kg_none (below_grown hB1) (by omega), ⟨v, bx1, ?_⟩, btw_trans hb (btw_below hB1 (by omega)), bthen hB hB1, by omega⟩
      rw [HF.out]; exact hrow1
    · have HF := Lib.hid (hY rfl)
      clear hY hN'
      gi_wp2_with fail
      refine ⟨trivial, (CallsIn.inRound l (callsIn_wide.2 HC.out)).mono ?_⟩
      rintro e w1 ⟨rfl, hB1⟩
      have hB1s := hB1.size
      have bx1 : Boxed w1 (w.heap.size + 1) 34 v := (hB1.block _ (by omega)).trans bx
      have hrow1 := own_call hrow hB1
      have x1_0 := (cell_back hB1 hXl 0).trans hX1
      have x1_1 := (cell_back hB1 hXl 1).trans hX2
      have x1_2 := (cell_back hB1 hXl 2).trans hX3
      have hBx1 : Bx < w1.heap.size := by omega
      have hc1 := bx1.cell
      have hf1 := bx1.frozen
      gi_wp2_with (gi_at_builtin; refine wpListIn_append_own _ rfl _ _ 34 rfl (w.heap.size + 1 + 1) 23 i0 _ 3 24 Try.underlying34 hi0 hz0 hz1 hz2 rfl (by decide) _ _ _ rfl (hrow1.alloc _) ⟨w1.heap.size, 0, none⟩ 1 1 [.int .i64 x1, .int .i64 x2, .int .i64 x3] rfl rfl (pl_cells rfl) (pl_one _ _ _) ?c3 ?c4 ?c5 ?_)
      case c3 => unfold maxLen; omega
      case c4 => omega
      case c5 => simp; omega
      intro v' w2 hown' hgrow _
      have bx2 : Boxed w2 (w.heap.size + 1) 34 v := (bx1.alloc _).kept hgrow (fun e => by have := (hrow1.lt _ e.symm).1; omega)
      have hc2 := bx2.cell
      have hf2 := bx2.frozen
      have hs2 := hgrow.size
      have hrl := fun g hg => (hrow1.lt g hg).1
      have HRL := Lib.hid hrl
      have HKT := Lib.hid (pl_row (hrow1.alloc (.cells #[.int .i64 x1, .int .i64 x2, .int .i64 x3] 23)))
      have HCL := Lib.hid (row_cells (hrow1.alloc (.cells #[.int .i64 x1, .int .i64 x2, .int .i64 x3] 23)))
      clear hrl
      simp only [World.size_alloc] at hs2
      obtain ⟨ao, an, ac, rfl⟩ := own_isSlice hown'
      gi_wp2
      have KG : KeepG lo hi 0 tsPl W (w2.setCell ⟨w.heap.size + 1, 0, none⟩ (.slice ao an ac)) := kg_trans (kg_none (below_grown hB1) (by omega)) (kg_trans (kg_none (World.grownBy_alloc w1 _ none) (by omega)) (kg_trans
        (kg_row hgrow (by rw [World.size_alloc]; omega) (fun g e => by have := HRL.out _ e; omega) (fun r cs t tg e hg _ => .inl (HKT.out r cs t tg e hg)))
        (kg_row (grownBy_setCell' w2 _ _) (by omega) (fun r e => by cases e; show hi ≤ w.heap.size + 1; omega) (fun r cs t tg e hg _ => by cases e; rw [show w2.heap[_]? = _ from bx2] at hg; cases hg; exact .inr rfl))))
      refine ⟨((KeepsOthers.of_grownBy (row := none) (below_grown hB1) (fun j o e => by cases e)).from _).trans (((KeepsOthers.alloc w1 _).from _).trans (((KeepsOthers.of_grownBy hgrow (fun j o e ho => HCL.out j o e ho)).from _).trans ((KeepsOthers.setCell _ _ _).from _))),
        KG,
        ⟨⟨_, bx2.set _, ?_⟩, ?_, ?_, ?_⟩⟩
      · rw [HF.out, HFl.out, ints_append, List.length_append]
        exact hown'.kept (grownBy_setCell' w2 (w.heap.size + 1) _) (.inr (by intro e; have := (hown'.lt _ e).1; omega))
      · exact btw_trans hb (btw_trans (btw_below hB1 (by omega)) (btw_trans (btw_alloc w1 _ (by omega)) (btw_trans (btw_grown hgrow (by rw [World.size_alloc]; omega) (fun g e => .inr (by have := HRL.out _ e; omega))) (btw_setCell _ _ _ (.inr (by show w.heap.size + 1 ≤ w.heap.size + 1; omega))))))
      · exact (((bthen hB hB1).alloc (by omega) _).grown hgrow (by rw [World.size_alloc]; omega) (fun g e => by have := HRL.out _ e; omega)).setCell (p := ⟨w.heap.size + 1, 0, none⟩) (by show w.heap.size ≤ w.heap.size + 1; omega) _
      · have : (w2.setCell ⟨w.heap.size + 1, 0, none⟩ (.slice ao an ac)).heap.size = w2.heap.size := by simp [World.setCell]
        omega
  case done =>
    rintro D ys W hD rfl ⟨⟨v, bx, hrow⟩, hb, hB, hs⟩ hK
    have hc := bx.cell
    gi_wp2
    refine ⟨by simp, .inl ⟨_, _, rfl, run_takeDeferred hK, ?_⟩⟩
    exact ⟨_, results_tmp rfl _ _ _, _, rfl, own_base (ownsRow_putObj hrow _ hK rfl) (by omega), hB.trans (belowK_b (w := w) (Nat.le_refl _) W D _ _ (by omega) hK rfl rfl)⟩
  case stop =>
    rintro D c pre W _ _ h _
    exact h.elim

end Go.Proofs.Ytkkaicneabkkdaa
