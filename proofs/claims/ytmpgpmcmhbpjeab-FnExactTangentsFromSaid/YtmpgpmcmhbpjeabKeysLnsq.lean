/-
  maps.Keys of a set of lines, and its iterator.
  slices.AppendSeq and slices.Collect at lines, against any iterator.
-/
import Derived.Test.YtmpgpmcmhbpjeabMgq0
import Derived.RangeFuncKeeps
import Derived.RangeFuncStops

namespace Go.Proofs.Ytmpgpmcmhbpjeab
open Go.RowKit Go.Shelf Go.Maps

attribute [local go_sem] Oper.semAt_some

set_option maxRecDepth 100000 in
set_option maxRecDepth 20000 in
set_option maxHeartbeats 2000000 in
theorem keysLn_in {xs : List (Int × Int × Int)} {D0 : DataW Unit} (hS : KeysOf 49 lnV (fun x => klL x.1 x.2.1 x.2.2) xs D0) (n l Bm b nn : Nat) (hn : 1 ≤ n) (J Jx : List (Int × Int × Int) → World → Prop)
    (W : World) (hJ : AbidesFrom W.heap.size J)
    (hY : ∀ pre x W1, J pre W1 → pre.length < Maps.size D0 → YieldAt Fence.wide (n - 1) Try.prog l #[lnV x] W1 fun e W' =>
      (e = .returned (.bool true) ∧ J (pre ++ [x]) W' ∧ KeepsWalks W1 W') ∨ (e = .returned (.bool false) ∧ Jx (pre ++ [x]) W'))
    (hm : W.cell? ⟨Bm, 0, none⟩ = some (.map (some b))) (hown : W.ownsMap Try.prog 49 (Go.plainElem Try.prog 4) b nn D0) (h0 : J [] W) :
    CallsIn Fence.wide n Try.prog 50 #[.func (.yield l) #[] #[], .pointer (some ⟨Bm, 0, none⟩)] W fun e W' => (∃ v, e = .returned v) ∧
      ((∃ ss : List (Int × Int × Int), (ss.Nodup ∧ ∀ x, x ∈ ss ↔ x ∈ xs) ∧ J ss W') ∨ (∃ pre : List (Int × Int × Int), True ∧ Jx pre W')) := by
  refine callsIn_of_wp Try.func50 rfl trivial ?_ rfl
  simp only [Try.ntmps50, List.size_toArray, List.length_cons, List.length_nil, Nat.reduceAdd, Nat.reduceSub, Array.replicate_succ, Array.replicate_zero, List.push_toArray, List.append_toArray, List.nil_append, List.cons_append]
  gi_wp2_with (first
    | (gi_at_range; refine wpListIn_range_own _ rfl _ 61 rfl 49 4 lnLaw Try.underlying61 _ b nn _ rfl hown ?_; intro w0 hrg0 hg0 hs0)
    | gi_in)
  go_frame
  gi_loopw [3] (fun _ wr => ∃ (left : Lit → Bool) (cnt : Nat) (ss : List (Int × Int × Int)), wr.ranges Try.prog 49 (Go.plainElem Try.prog 4) b W.heap.size nn D0 left cnt ∧ ss.length + cnt ≤ Maps.size D0 ∧ CollG (fun x : Int × Int × Int => klL x.1 x.2.1 x.2.2) xs left ss ∧ J ss wr)
    (fun _ wr => wr.rangeLeft b W.heap.size)
  case atStart =>
    exact ⟨_, _, [], hrg0, by simp, CollG.start hS, hJ [] W w0 none h0 hg0 (fun r e => by cases e)⟩
  case round =>
    obtain ⟨left, cnt, ss, hrg, hcs, hC, hJs⟩ := hrel
    gi_wp2_with (first
      | (gi_at_next; refine wpListIn_next_ranges _ rfl _ rfl 49 lnLaw (Go.plainElem Try.prog 4) id id (fun key kl hk => ⟨key, rfl⟩) (fun v _ _ => ⟨v, rfl⟩) b W.heap.size nn _ _ _ rfl hrg ?_ ?_)
      | gi_in)
    · intro hc0 hl0
      gi_wp2
      go_end0
      exact ⟨⟨_, rfl⟩, .inl ⟨ss, hC.done hl0, hJs⟩⟩
    · intro xv c kl yd yp w2 cnt2 hkey hlk hv hat hrg2 hlt hg2 hs2 hen
      obtain ⟨x, hx, ex, rfl⟩ := hS.from lnLaw hkey (Go.Maps.has_true_of_atKey hat)
      obtain rfl : xv = lnV x := ex
      have hJ2 : J ss w2 := hJ ss wr w2 (some W.heap.size) hJs hg2 (fun r e => by cases e; exact ⟨Nat.le_refl _, hrg.iter_walk⟩)
      have hJ3 : J ss (w2.alloc (.cells #[.int .i64 x.1, .int .i64 x.2.1, .int .i64 x.2.2] 49)) := hJ ss _ _ none hJ2 (World.grownBy_alloc _ _ none) (fun r e => by cases e)
      obtain ⟨fn, tmps, assign, body, hy, hR⟩ := hY ss x _ hJ3 (by omega)
      clear hs2
      have hC2 := hC.step hS hx hlk
      simp only [lnV] at hen hy ⊢
      gi_wp2
      refine hR.mono ?_
      rintro e W3 (⟨rfl, hJ4, hk3⟩ | ⟨rfl, hJx3⟩)
      · gi_wp2
        have hrg3 := hrg2.of_walks ((KeepsWalks.alloc _ _).trans hk3)
        go_roundw
        case rel => exact ⟨_, cnt2, ss ++ [x], hrg3, by simp; omega, hC2, hJ4⟩
        case measure => rw [hrg3.left_eq, hrg.left_eq]; exact hlt
      · gi_wp2
        refine bodyPost_ret (results_none rfl _ _ _) rfl ?_
        exact ⟨⟨_, rfl⟩, .inr ⟨ss ++ [x], trivial, hJx3⟩⟩

theorem keysLn_stops {xs : List (Int × Int × Int)} {D0 : DataW Unit} (hS : KeysOf 49 lnV (fun x => klL x.1 x.2.1 x.2.2) xs D0) (n Bm b nn : Nat) (hn : 1 ≤ n) (w : World) (hBm : Bm < w.heap.size)
    (hm : w.cell? ⟨Bm, 0, none⟩ = some (.map (some b))) (hown : w.ownsMap Try.prog 49 (Go.plainElem Try.prog 4) b nn D0) :
    SeqStopsK Fence.wide n Try.prog 50 #[.pointer (some ⟨Bm, 0, none⟩)] (fun x => #[lnV x]) KeepsWalks
      (fun ss => ss.Nodup ∧ ∀ x, x ∈ ss ↔ x ∈ xs) (fun _ => True) (Maps.size D0) w := fun l J Jx W hW hJ _ hY hst => by
  have hown' : W.ownsMap Try.prog 49 (Go.plainElem Try.prog 4) b nn D0 := by
    have hbl := hown.lt
    obtain ⟨es, clock, hb, Ft, hs, hD⟩ := hown
    exact ⟨es, clock, (hW.block b hbl).trans hb, Ft, hs, hD⟩
  exact keysLn_in hS n l Bm b nn hn J Jx W hJ hY ((hW.cell (p := ⟨Bm, 0, none⟩) hBm).trans hm) hown' hst

/-- maps.Keys: the map is boxed; the iterator captures the box. -/
theorem keysOfLn_any (mb : Option Nat) (w : World) :
    Calls Try.prog 30 #[.map mb] w fun e w' =>
      e = .returned (.func (.func 50) #[] #[.pointer (some ⟨w.heap.size, 0, none⟩)]) ∧ w' = w.alloc (.cells #[.map mb] 61) := by
  go_enter Try.func30, Try.ntmps30
  go_wp2
  go_ret
  exact ⟨rfl, rfl⟩

end Go.Proofs.Ytmpgpmcmhbpjeab

namespace Go.Proofs.Ytmpgpmcmhbpjeab
open Go.RowKit Go.Shelf

attribute [local go_sem] Oper.semAt_some

/-- A box that holds a slice of what has come so far. -/
def AppAtL (t e : TypeId) (B : Nat) (pre : List (Int × Int × Int)) (W : World) : Prop := ∃ v, Boxed W B t v ∧ W.ownsRow B e 3 v pre.length (ints (flat3 pre)) ∧ (v = .slice none 0 0 ↔ pre = [])
theorem appAtL_own (t e : TypeId) (B C : Nat) : OwnFrom C (AppAtL t e B) := fun s X Y row hs hg hr => by
  obtain ⟨v, h1, h2, h3⟩ := hs
  exact ⟨v, Own.from (boxed_own (β := Unit) B t (fun _ => v)) C () X Y row h1 hg hr, Own.from (row_own (β := Unit) B e 3 (fun _ => v) (fun _ => s.length) (fun _ => ints (flat3 s))) C () X Y row h2 hg hr, h3⟩
/-- A slice of its own of what an iterator gave. -/
def CollPostL (e : TypeId) (S : List (Int × Int × Int) → Prop) (w : World) (en : Ending) (w' : World) : Prop :=
  ∃ (v : Value) (ss : List (Int × Int × Int)), en = .returned v ∧ S ss ∧ w'.ownsRow w.heap.size e 3 v ss.length (ints (flat3 ss)) ∧ (v = .slice none 0 0 ↔ ss = []) ∧ Below w.heap.size w w'

set_option maxRecDepth 100000 in
set_option maxRecDepth 20000 in
set_option maxHeartbeats 2000000 in
theorem appSeqLn (g : Nat) (lb : Array Value) (eg : ∀ args w, (callFunc g args).run Try.prog w = .ok (.enter g args) w) (S Sp : List (Int × Int × Int) → Prop) (N : Nat) (hN : N ≤ 1000000) (w : World)
    (hseq : SeqStopsK Fence.wide 8 Try.prog g lb (fun x => #[lnV x]) KeepsWalks S Sp N w) :
    Calls Try.prog 76 #[.slice none 0 0, .func (.func g) #[] lb] w fun e w' => CollPostL 49 S w e w' := by
  obtain ⟨i0, hi, hz0, hz1, hz2⟩ := info_parts infoLn
  have hte : (25 : TypeId) ≠ 49 := by decide
  refine (callsIn_wide (n := 9)).1 ?_
  refine callsIn_of_wp_marks Try.func76 rfl trivial ?_ rfl
  simp only [Try.ntmps76, List.size_toArray, List.length_cons, List.length_nil, Nat.reduceAdd, Nat.reduceSub, Array.replicate_succ, Array.replicate_zero, List.push_toArray, List.append_toArray, List.nil_append, List.cons_append]
  gi_wp2_with fail
  have bP := Boxed.new w 25 (.slice none 0 0)
  have hB0 : Below w.heap.size w (w.alloc (.cells #[.slice none 0 0] 25)) := (Below.refl _ w).alloc (Nat.le_refl _) _
  have hs0 : (w.alloc (.cells #[.slice none 0 0] 25)).heap.size = w.heap.size + 1 := by simp
  obtain ⟨W0, hW0⟩ : ∃ W0, W0 = w.alloc (.cells #[.slice none 0 0] 25) := ⟨_, rfl⟩
  rw [← hW0] at bP hB0 hs0 ⊢
  clear hW0
  refine wpIn_rangeFunc_ownH rfl (by decide) (gf := g) (lb := lb) rfl trivial eg hseq walksK_t walksK_b hB0 (fun _ => rfl)
    (fun pre W => AppAtL 25 49 w.heap.size pre W ∧ Below w.heap.size w W)
    (fun _ _ _ => False)
    (OwnFrom.and (appAtL_own _ _ _ _) (ownFrom_below (Nat.le_refl _) (by omega)))
    (fun _ _ _ _ _ hs _ _ => hs)
    ⟨⟨_, bP, ⟨rfl, .inl ⟨rfl, rfl⟩⟩, by simp⟩, hB0⟩
    (fun x a' W => ∃ Bx, Box3 W Bx 49 x ∧ a' = { tmps := #[.slice none 0 0, .func (.func g) #[] lb, .pointer (some ⟨w.heap.size, 0, none⟩), undef, .slice none 0 0, .pointer (some ⟨Bx, 0, none⟩), .func (.func g) #[] lb, .agg #[.int .i64 x.1, .int .i64 x.2.1, .int .i64 x.2.2], undef, undef, undef, undef, undef], defers := [] })
    (fun x a' _ X Y row hs hg hr => by obtain ⟨Bx, h2, h3⟩ := hs; exact ⟨Bx, box3_own Bx _ 49 x () X Y row h2 hg hr, h3⟩)
    ?assign ?body ?done ?stop
  case assign =>
    rintro l pre x W K ⟨⟨v, bx, hrow, hn⟩, hB⟩ hK
    simp only [lnV]
    gi_wp2
    exact hK _ _ ((KeepsOthers.alloc _ _).from _) (KeepsWalks.alloc _ _) ⟨⟨v, bx.alloc _, hrow.alloc _, hn⟩, hB.alloc hB.size _⟩ ⟨W.heap.size, box3_new W _ x, rfl⟩
  case body =>
    rintro l pre x a' W hl ⟨r, hr⟩ ⟨⟨v, bx, hrow, hn⟩, hB⟩ ⟨Bx, hX, rfl⟩ hlt
    have hc := bx.cell
    have hX1 := box3_cell1 hX
    have hX2 := box3_cell2 hX
    have hX3 := box3_cell3 hX
    obtain ⟨x1, x2, x3⟩ := x
    simp only at hX1 hX2 hX3
    gi_wp2_with (gi_at_builtin; refine wpListIn_append_own _ rfl _ _ 25 rfl w.heap.size 49 i0 _ 3 24 Try.underlying25 hi hz0 hz1 hz2 rfl (by decide) v pre.length (ints (flat3 pre)) rfl (hrow.alloc _) ⟨W.heap.size, 0, none⟩ 1 1 [.int .i64 x1, .int .i64 x2, .int .i64 x3] rfl rfl (ln_cells rfl) (ln_one _ _ _) (by unfold maxLen; omega) (by omega) (by rw [World.size_alloc]; have := hB.size; omega) ?_)
    intro v' u1 hown' hgrow hnil
    obtain ⟨bx1, bx2, hrow2, hko, hbl⟩ := bx.appended hte hrow hB.size (Nat.le_refl _) hown' hgrow
    have hc1 := bx1.cell
    have hf1 := bx1.frozen
    obtain ⟨gb, cap, rfl⟩ : ∃ gb cap, v' = .slice (some ⟨gb, 0, none⟩) (pre.length + 1) cap := by
      rcases hown'.2 with ⟨_, h0⟩ | ⟨gb, cap, cur, e, _⟩
      · omega
      · exact ⟨gb, cap, e⟩
    have hle : (pre ++ [(x1, x2, x3)]).length = pre.length + 1 := by simp
    gi_wp2
    refine ⟨hko.from _, hko.walks, ⟨_, bx2, ?_, ?_⟩, hB.trans hbl⟩
    · rw [hle, flat3_append, ints_append]; exact hrow2
    · constructor
      · intro e; cases e
      · intro e; simp at e
  case done =>
    rintro D ys W hD hS ⟨⟨v, bx, hrow, hn⟩, hB⟩ hK
    have hc := bx.cell
    gi_wp2
    refine ⟨by simp, .inl ⟨_, _, rfl, run_takeDeferred hK, ?_⟩⟩
    exact ⟨_, results_tmp rfl _ _ _, v, ys, rfl, hS, ownsRow_putObj hrow _ hK rfl, hn, hB.trans (belowK_b (w := w) (Nat.le_refl _) W D _ _ (by omega) hK rfl rfl)⟩
  case stop =>
    rintro D c pre W _ _ h _
    exact h.elim

set_option maxRecDepth 20000 in
set_option maxHeartbeats 1000000 in
theorem collectLn (g : Nat) (lb : Array Value) (eg : ∀ args w, (callFunc g args).run Try.prog w = .ok (.enter g args) w) (S Sp : List (Int × Int × Int) → Prop) (N : Nat) (hN : N ≤ 1000000) (w : World)
    (hseq : SeqStopsK Fence.wide 8 Try.prog g lb (fun x => #[lnV x]) KeepsWalks S Sp N w) :
    Calls Try.prog 48 #[.func (.func g) #[] lb] w fun e w' => CollPostL 49 S w e w' := by
  have hA := appSeqLn g lb eg S Sp N hN w hseq
  clear hseq
  go_enter Try.func48, Try.ntmps48
  go_wp2_with fail
  refine Calls.mono hA ?_
  rintro e w' ⟨v, ss, rfl, hS, hrow, hn, hb⟩
  go_wp2
  go_ret
  exact ⟨v, ss, rfl, hS, hrow, hn, hb⟩

end Go.Proofs.Ytmpgpmcmhbpjeab
