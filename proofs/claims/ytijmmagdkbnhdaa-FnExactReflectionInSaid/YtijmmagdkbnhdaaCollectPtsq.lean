/-
  slices.Collect at points, over any iterator.
-/
import Derived.Test.YtijmmagdkbnhdaaSeqAllq
import Derived.Test.YtijmmagdkbnhdaaKeepTq
import Derived.Test.YtijmmagdkbnhdaaSpecAt0q
import Derived.Test.YtijmmagdkbnhdaaPtCellsq
import Derived.Test.YtijmmagdkbnhdaaGrowq
import Derived.Test.YtijmmagdkbnhdaaRangeOnq
import Derived.Test.YtijmmagdkbnhdaaMgq0
import Derived.Test.YtijmmagdkbnhdaaFlatAtq
import Derived.TacticsIn
import Derived.RegionIn
import Derived.Shelf.RegionOpen

namespace Go.Proofs.Ytijmmagdkbnhdaa
open Go.RowKit

open Go.Shelf
attribute [local go_sem] Oper.semAt_some

set_option maxRecDepth 100000 in
set_option maxRecDepth 20000 in
set_option maxHeartbeats 4000000 in
theorem appendSeq_any (L : List Pt32) (N lo hi gf : Nat) (lb : Array Value) (w : World)
    (he : ∀ args w, (callFunc gf args).run Try.prog w = .ok (.enter gf args) w) (hN : N ≤ 4096) (hhi : hi ≤ w.heap.size)
    (hseq : ∀ W : World, Below w.heap.size w W → SeqOn Fence.wide 8 Try.prog gf lb (fun x : Pt32 => #[ptV (toP x)]) (KeepBT lo hi) (fun ys => ys = L) (fun pre => pre <+: L) N W) :
    Calls Try.prog 144 #[.slice none 0 0, .func (.func gf) #[] lb] w fun e w' => OnePost 25 2 (flat (L.map toP)) (L.map toP).length w e w' := by
  obtain ⟨i0, hi0, hz0, hz1, hz2⟩ := info_parts infoPt
  refine (callsIn_wide (n := 9)).1 ?_
  refine callsIn_of_wp_marks Try.func144 rfl trivial ?_ rfl
  simp only [Try.ntmps144, List.size_toArray, List.length_cons, List.length_nil, Nat.reduceAdd, Nat.reduceSub, Array.replicate_succ, Array.replicate_zero, List.push_toArray, List.append_toArray, List.nil_append, List.cons_append]
  gi_wp2_with fail
  have bS : Boxed (w.alloc (.cells #[.slice none 0 0] 47)) w.heap.size 47 (.slice none 0 0) := by
    have := Boxed.new w 47 (.slice none 0 0)
    simpa using this
  have hB0 : Below w.heap.size w (w.alloc (.cells #[.slice none 0 0] 47)) := by (repeat (first | with_reducible exact Below.refl _ _ | with_reducible refine balloc ?_ _ | with_reducible refine bdrewN ?_ _ | with_reducible refine Below.drew ?_ | with_reducible refine bthen ?_ (by with_reducible assumption) | with_reducible refine Below.setCell ?_ (by first | (simp; done) | (simp; omega)) _))
  have hsz : (w.alloc (.cells #[.slice none 0 0] 47)).heap.size = w.heap.size + 1 := by simp
  obtain ⟨Wn, hWn⟩ : ∃ Wn, Wn = (w.alloc (.cells #[.slice none 0 0] 47)) := ⟨_, rfl⟩
  rw [← hWn] at bS hB0 hsz ⊢
  clear hWn
  refine range_on rfl (by decide) (gf := gf) (lb := lb) rfl trivial he (hseq Wn hB0) bt_trans (bt_put (by omega)) (Below.refl _ _) (fun _ => rfl)
    (fun pre W => (∃ v, Boxed W w.heap.size 47 v ∧ W.ownsRow (w.heap.size + 1) 25 2 v (pre.map toP).length (ints (flat (pre.map toP)))) ∧ (Below w.heap.size w W ∧ w.heap.size + 1 ≤ W.heap.size))
    (fun _ _ _ => False)
    (OwnFrom.and (ownFrom_ex fun v => OwnFrom.and (Own.from (boxed_own _ _ _) _) (Own.from (row_own _ _ _ _ _ _) _)) (OwnFrom.and (ownFrom_below (by omega) hB0.size) (size_own _ _)))
    (fun _ _ _ _ _ hs _ _ => hs)
    ⟨⟨_, bS, World.ownsRow_nil _ _ _ _⟩, hB0, by omega⟩
    (fun x a' W => ∃ Bx, w.heap.size + 1 ≤ Bx ∧ Box2 W Bx 25 (toP x) ∧ a' = { tmps := #[.slice none 0 0, .func (.func gf) #[] lb, .pointer (some ⟨w.heap.size, 0, none⟩), undef, .slice none 0 0, .pointer (some ⟨Bx, 0, none⟩), .func (.func gf) #[] lb, .agg #[.int .i64 (x.1.val : Int), .int .i64 (x.2.val : Int)], undef, undef, undef, undef, undef], defers := [] })
    (fun x a' _ X Y row hs hg hr => by obtain ⟨Bx, h1, h2, h3⟩ := hs; exact ⟨Bx, h1, box2_own Bx Wn.heap.size 25 (toP x) () X Y row h2 hg hr, h3⟩)
    ?assign ?body ?done ?stop
  case assign =>
    rintro l pre x W K ⟨⟨v, bx, hrow⟩, hB, hs⟩ hK
    obtain ⟨⟨x1, hx1⟩, ⟨x2, hx2⟩⟩ := x
    simp only [ptV, toP]
    gi_wp2
    exact hK _ _ ((KeepsOthers.alloc _ _).from _) ⟨btw_alloc _ _ (by omega), kt_none (World.grownBy_alloc _ _ none)⟩ ⟨⟨v, bx.alloc _, hrow.alloc _⟩, hB.alloc hB.size _, by simp; omega⟩ ⟨W.heap.size, hs, box2_new W _ (toP ((⟨x1, hx1⟩, ⟨x2, hx2⟩) : Pt32)), rfl⟩
  case body =>
    rintro l pre x a' W ⟨⟨v, bx, hrow⟩, hB, hs⟩ ⟨Bx, hBx, hX, rfl⟩ hlt
    have hX1 := box2_cell1 hX
    have hX2 := box2_cell2 hX
    have hXl := World.block_lt_of_cell? W ⟨Bx, 0, none⟩ hX1
    simp only at hXl
    obtain ⟨⟨x1, hx1⟩, ⟨x2, hx2⟩⟩ := x
    simp only [toP] at hX1 hX2
    have hHF : (pre ++ [((⟨x1, hx1⟩, ⟨x2, hx2⟩) : Pt32)]).map toP = pre.map toP ++ [((x1 : Int), (x2 : Int))] := by rw [List.map_append]; rfl
    have HF := Lib.hid hHF
    clear hHF
    have hpl : (pre.map toP).length = pre.length := by simp
    have hc1 := bx.cell
    have hf1 := bx.frozen
    gi_wp2_with (gi_at_builtin; refine wpListIn_append_own _ rfl _ _ 47 rfl (w.heap.size + 1) 25 i0 _ 2 16 Try.underlying47 hi0 hz0 hz1 hz2 rfl (by decide) _ _ _ rfl (hrow.alloc _) ⟨W.heap.size, 0, none⟩ 1 1 [.int .i64 x1, .int .i64 x2] rfl rfl (pt_cells rfl) (pt_one _ _) ?c3 ?c4 ?c5 ?_)
    case c3 => unfold maxLen; omega
    case c4 => omega
    case c5 => simp; omega
    intro v' w2 hown' hgrow _
    have bx2 : Boxed w2 w.heap.size 47 v := (bx.alloc _).kept hgrow (fun e => by have := (hrow.lt _ e.symm).1; omega)
    have hc2 := bx2.cell
    have hf2 := bx2.frozen
    have hs2 := hgrow.size
    have hrl := fun g hg => (hrow.lt g hg).1
    have HRL := Lib.hid hrl
    have HKT := Lib.hid (kt_row (hrow.alloc (.cells #[.int .i64 (x1 : Int), .int .i64 (x2 : Int)] 25)))
    have HCC := Lib.hid (row_cells (hrow.alloc (.cells #[.int .i64 (x1 : Int), .int .i64 (x2 : Int)] 25)))
    clear hrl
    simp only [World.size_alloc] at hs2
    obtain ⟨ao, an, ac, rfl⟩ := own_isSlice hown'
    gi_wp2
    refine ⟨((KeepsOthers.alloc W _).from _).trans (((KeepsOthers.of_grownBy hgrow (fun j o e ho => HCC.out j o e ho)).from _).trans ((KeepsOthers.setCell _ _ _).from _)),
      ⟨btw_trans (btw_alloc W _ (by omega)) (btw_trans (btw_grown hgrow (by rw [World.size_alloc]; omega) (fun g e => .inr (by have := HRL.out _ e; omega))) (btw_setCell _ _ _ (.inr (by show hi ≤ w.heap.size; omega)))), kt_trans (kt_none (World.grownBy_alloc W _ none)) (kt_trans (kt_grown hgrow HKT.out) (kt_grown (grownBy_setCell' w2 _ _) (fun r cs t tg e hg => by cases e; rw [show w2.heap[_]? = _ from bx2] at hg; cases hg; exact .inr rfl)))⟩,
      ⟨⟨_, bx2.set _, ?_⟩, ?_, ?_⟩⟩
    · rw [HF.out, flat_append, ints_append, List.length_append, List.length_map]
      exact hown'.kept (grownBy_setCell' w2 w.heap.size _) (.inr (by intro e; have := (hown'.lt _ e).1; omega))
    · exact ((hB.alloc (by omega) _).grown hgrow (by rw [World.size_alloc]; omega) (fun g e => by have := HRL.out _ e; omega)).setCell (p := ⟨w.heap.size, 0, none⟩) (by show w.heap.size ≤ w.heap.size; omega) _
    · have : (w2.setCell ⟨w.heap.size, 0, none⟩ (.slice ao an ac)).heap.size = w2.heap.size := by simp [World.setCell]
      omega
  case done =>
    rintro D ys W hD rfl ⟨⟨v, bx, hrow⟩, hB, hs⟩ hK
    have hc := bx.cell
    gi_wp2
    refine ⟨by simp, .inl ⟨_, _, rfl, run_takeDeferred hK, ?_⟩⟩
    exact ⟨_, results_tmp rfl _ _ _, _, rfl, own_base (ownsRow_putObj hrow _ hK rfl) (by omega), hB.trans (belowK_b (w := w) (Nat.le_refl _) W D _ _ (by omega) hK rfl rfl)⟩
  case stop =>
    rintro D c pre W _ _ h _
    exact h.elim

set_option maxRecDepth 20000 in
set_option maxHeartbeats 1000000 in
theorem collect_any (L : List Pt32) (N lo hi gf : Nat) (lb : Array Value) (w : World)
    (he : ∀ args w, (callFunc gf args).run Try.prog w = .ok (.enter gf args) w) (hN : N ≤ 4096) (hhi : hi ≤ w.heap.size)
    (hseq : ∀ W : World, Below w.heap.size w W → SeqOn Fence.wide 8 Try.prog gf lb (fun x : Pt32 => #[ptV (toP x)]) (KeepBT lo hi) (fun ys => ys = L) (fun pre => pre <+: L) N W) :
    Calls Try.prog 118 #[.func (.func gf) #[] lb] w fun e w' => OnePost 25 2 (flat (L.map toP)) (L.map toP).length w e w' := by
  go_enter Try.func118, Try.ntmps118
  go_wp2_with fail
  refine Calls.mono (appendSeq_any L N lo hi gf lb _ he hN hhi hseq) ?_
  rintro e w' ⟨v, rfl, ho, hB⟩
  obtain ⟨ao, cap, hv, -, -⟩ := own_shape ho
  subst hv
  go_wp2
  (refine bodyPost_ret (v := .slice ao (L.map toP).length cap) (by simp [results, Try.results118, go_sem]) rfl ⟨_, rfl, ho, hB⟩)

end Go.Proofs.Ytijmmagdkbnhdaa
