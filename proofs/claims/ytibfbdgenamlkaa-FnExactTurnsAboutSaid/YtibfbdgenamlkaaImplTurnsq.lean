/-
  impl.turnsAbout: the turns about a point.
-/
import Derived.Test.YtibfbdgenamlkaaMgq0
import Derived.Test.YtibfbdgenamlkaaImplApartq
import Derived.Test.YtibfbdgenamlkaaPtsAtq
import Derived.Test.YtibfbdgenamlkaaImplProdq
import Derived.Test.YtibfbdgenamlkaaImplMoveBetq
import Derived.Test.YtibfbdgenamlkaaSortMvsq
import Derived.Test.YtibfbdgenamlkaaCollGq
import Derived.Test.YtibfbdgenamlkaaKeepDrewq
import Derived.Test.YtibfbdgenamlkaaLastq
import Derived.Maps.RangeWalk
import Derived.Deep.RegionHeld3
import Derived.Deep.DeepCutAuto

namespace Go.Proofs.Ytibfbdgenamlkaa
open Go.RowKit

theorem set_cnt {p col a1 a2 q : Int} (hp : isP p = true) : Maps.size (setD ((gridL tt2 p.toNat p.toNat).filter fun x => qdr p col a1 a2 x.1 x.2 == q)) ≤ 961 := by
  have hr := isP_range hp
  have hR : ∀ z, z ∈ ((gridL tt2 p.toNat p.toNat).filter fun x => qdr p col a1 a2 x.1 x.2 == q) → (0 ≤ z.1 ∧ z.1 ≤ 31) ∧ 0 ≤ z.2 ∧ z.2 ≤ 31 := fun z hz => by
    have := grid_mem ((List.mem_filter.1 hz).1)
    omega
  rw [setD_size hR ((grid_nodup tt2 p.toNat p.toNat).filter _)]
  refine Nat.le_trans (List.length_filter_le _ _) ?_
  rw [gridT_len]
  exact Nat.le_trans (Nat.mul_le_mul (by omega : p.toNat ≤ 31) (by omega : p.toNat ≤ 31)) (by decide)
theorem mv_cells {w : World} {a b c d e f : Int} {t : TypeId} {q : Nat} (hq : q = w.heap.size) : ∀ j u, [Value.int .i64 a, Value.int .i64 b, Value.int .i64 c, Value.int .i64 d, Value.int .i64 e, Value.int .i64 f][j]? = some u → (w.alloc (.cells #[.int .i64 a, .int .i64 b, .int .i64 c, .int .i64 d, .int .i64 e, .int .i64 f] t)).cell? ((⟨q, 0, none⟩ : Addr).add j) = some u := by
  intro j u hj
  subst hq
  match j, hj with
  | 0, hj => simp at hj; subst hj; exact kfresh (by simp) rfl
  | 1, hj => simp at hj; subst hj; exact kfresh (by simp) rfl
  | 2, hj => simp at hj; subst hj; exact kfresh (by simp) rfl
  | 3, hj => simp at hj; subst hj; exact kfresh (by simp) rfl
  | 4, hj => simp at hj; subst hj; exact kfresh (by simp) rfl
  | 5, hj => simp at hj; subst hj; exact kfresh (by simp) rfl

set_option linter.unusedSimpArgs false in
set_option linter.unusedVariables false in
set_option maxRecDepth 20000 in
set_option maxHeartbeats 4000000 in
theorem implTurns_any (p c a1 a2 : Int) (w : World) (hp : isP p = true) (hc : colB c = true) (ha1 : 0 ≤ a1 ∧ a1 < p) (ha2 : 0 ≤ a2 ∧ a2 < p) :
    Calls Try.prog 35 #[.int .i64 p, .int .i64 c, .agg #[.int .i64 a1, .int .i64 a2]] w fun e w' => ∃ v : Value,
      e = .returned v ∧ w'.ownsRow w.heap.size 62 6 v (tuM p c a1 a2).length (ints (flat6 (tuM p c a1 a2))) ∧ Below w.heap.size w w' := by
  have hr := isP_range hp
  have hcr := colB_range hc
  obtain ⟨i0, hi, hz0, hz1, hz2⟩ := info_parts infoMv
  go_enter Try.func35, Try.ntmps35
  go_wp2_with fail
  refine Calls.mono (implApart_any p c a1 a2 _ hp hc (by omega) (by omega)) ?_
  rintro e w1 ⟨b1, b2, rfl, hb1, hb2, hqb, hB1⟩
  have ga0 := kcall hB1 (show (w.alloc (.cells #[.int .i64 a1, .int .i64 a2] 26)).cell? ⟨w.heap.size, 0, none⟩ = some (.int .i64 a1) from kfresh rfl rfl)
  have ga1 := kcall hB1 (show (w.alloc (.cells #[.int .i64 a1, .int .i64 a2] 26)).cell? ⟨w.heap.size, 1, none⟩ = some (.int .i64 a2) from kfresh rfl rfl)
  have hl1 : w.heap.size < w1.heap.size := World.block_lt_of_cell? w1 ⟨w.heap.size, 0, none⟩ ga0
  have hW1 : Below w.heap.size w w1 := bthen (balloc (Below.refl _ _) _) hB1
  go_upto_region 3 with fail
  refine wp_name (fun wN hwN => ?_)
  have ka0 : wN.cell? ⟨w.heap.size, 0, none⟩ = some (.int .i64 a1) := by rw [hwN]; (repeat (first | with_reducible assumption | ((with_reducible refine kfresh ?_ ?_) <;> (first | with_reducible rfl | (simp; done))) | ((with_reducible refine ksameS ?_); focus ((repeat (first | with_reducible exact kis_of (by with_reducible assumption) | with_reducible refine kis_set ?_ | ((with_reducible refine kis_new ?_ ?_) <;> (first | with_reducible rfl | rfl | (simp; done))) | with_reducible refine kis_alloc _ ?_ | with_reducible refine kis_drew ?_ | with_reducible refine kis_call (by with_reducible assumption) ?_ | with_reducible exact kis_of (kcall (by with_reducible assumption) (by with_reducible assumption)))); done)) | with_reducible refine kother (by decide) ?_ | with_reducible refine kset (by first | omega | (simp; done) | (simp; omega)) ?_ | with_reducible refine kalloc _ ?_ | with_reducible refine kdrew ?_ | with_reducible refine kdrewN ?_ | with_reducible refine kcall (by with_reducible assumption) ?_))
  have ka1 : wN.cell? ⟨w.heap.size, 1, none⟩ = some (.int .i64 a2) := by rw [hwN]; (repeat (first | with_reducible assumption | ((with_reducible refine kfresh ?_ ?_) <;> (first | with_reducible rfl | (simp; done))) | ((with_reducible refine ksameS ?_); focus ((repeat (first | with_reducible exact kis_of (by with_reducible assumption) | with_reducible refine kis_set ?_ | ((with_reducible refine kis_new ?_ ?_) <;> (first | with_reducible rfl | rfl | (simp; done))) | with_reducible refine kis_alloc _ ?_ | with_reducible refine kis_drew ?_ | with_reducible refine kis_call (by with_reducible assumption) ?_ | with_reducible exact kis_of (kcall (by with_reducible assumption) (by with_reducible assumption)))); done)) | with_reducible refine kother (by decide) ?_ | with_reducible refine kset (by first | omega | (simp; done) | (simp; omega)) ?_ | with_reducible refine kalloc _ ?_ | with_reducible refine kdrew ?_ | with_reducible refine kdrewN ?_ | with_reducible refine kcall (by with_reducible assumption) ?_))
  have kb0 : wN.cell? ⟨w1.heap.size, 0, none⟩ = some (.int .i64 b1) := by rw [hwN]; (repeat (first | with_reducible assumption | ((with_reducible refine kfresh ?_ ?_) <;> (first | with_reducible rfl | (simp; done))) | ((with_reducible refine ksameS ?_); focus ((repeat (first | with_reducible exact kis_of (by with_reducible assumption) | with_reducible refine kis_set ?_ | ((with_reducible refine kis_new ?_ ?_) <;> (first | with_reducible rfl | rfl | (simp; done))) | with_reducible refine kis_alloc _ ?_ | with_reducible refine kis_drew ?_ | with_reducible refine kis_call (by with_reducible assumption) ?_ | with_reducible exact kis_of (kcall (by with_reducible assumption) (by with_reducible assumption)))); done)) | with_reducible refine kother (by decide) ?_ | with_reducible refine kset (by first | omega | (simp; done) | (simp; omega)) ?_ | with_reducible refine kalloc _ ?_ | with_reducible refine kdrew ?_ | with_reducible refine kdrewN ?_ | with_reducible refine kcall (by with_reducible assumption) ?_))
  have kb1 : wN.cell? ⟨w1.heap.size, 1, none⟩ = some (.int .i64 b2) := by rw [hwN]; (repeat (first | with_reducible assumption | ((with_reducible refine kfresh ?_ ?_) <;> (first | with_reducible rfl | (simp; done))) | ((with_reducible refine ksameS ?_); focus ((repeat (first | with_reducible exact kis_of (by with_reducible assumption) | with_reducible refine kis_set ?_ | ((with_reducible refine kis_new ?_ ?_) <;> (first | with_reducible rfl | rfl | (simp; done))) | with_reducible refine kis_alloc _ ?_ | with_reducible refine kis_drew ?_ | with_reducible refine kis_call (by with_reducible assumption) ?_ | with_reducible exact kis_of (kcall (by with_reducible assumption) (by with_reducible assumption)))); done)) | with_reducible refine kother (by decide) ?_ | with_reducible refine kset (by first | omega | (simp; done) | (simp; omega)) ?_ | with_reducible refine kalloc _ ?_ | with_reducible refine kdrew ?_ | with_reducible refine kdrewN ?_ | with_reducible refine kcall (by with_reducible assumption) ?_))
  have hWN : Below w.heap.size w wN := by rw [hwN]; (repeat (first | with_reducible exact Below.refl _ _ | with_reducible exact hW1 | with_reducible refine balloc ?_ _ | with_reducible refine bdrewN ?_ _ | with_reducible refine Below.drew ?_ | with_reducible refine bthen ?_ (by with_reducible assumption) | with_reducible refine Below.setCell ?_ (by first | (simp; done) | (simp; omega)) _))
  have hlN : w1.heap.size < wN.heap.size := World.block_lt_of_cell? wN ⟨w1.heap.size, 0, none⟩ kb0
  clear hwN ga0 ga1
  have hq := fun w' => implQuad_any p c a1 a2 b1 b2 w' hp hc (by omega) (by omega) (by omega) (by omega)
  have hP := fun w' => pointsAtB_any p c a1 a2 (qdr p c a1 a2 b1 b2) w' hp hc (by omega) (by omega)
  obtain ⟨PLx, hPL⟩ : ∃ L, L = ((gridL tt2 p.toNat p.toNat).filter fun x => qdr p c a1 a2 x.1 x.2 == qdr p c a1 a2 b1 b2) := ⟨_, rfl⟩
  have hcnt : Maps.size (setD PLx) ≤ 961 := by rw [hPL]; exact set_cnt hp
  have hPr : ∀ z, z ∈ PLx → (0 ≤ z.1 ∧ z.1 < p) ∧ 0 ≤ z.2 ∧ z.2 < p := fun z hz => by rw [hPL] at hz; have := grid_mem ((List.mem_filter.1 hz).1); omega
  rw [← hPL] at hP
  have hS := setD_keys (xs := PLx) (fun z hz => by have := hPr z hz; omega)
  obtain ⟨q, hqe⟩ : ∃ q, q = qdr p c a1 a2 b1 b2 := ⟨_, rfl⟩
  rw [← hqe] at hq hP
  have HQ := Lib.hid hq
  have HP := Lib.hid hP
  have HPL := Lib.hid hPL
  have HCNT := Lib.hid hcnt
  have HPR := Lib.hid hPr
  have HNB := Lib.hid hqb
  clear hq hP hPL hcnt hPr hqb hqe
  have g0 : ∀ W : World, Below wN.heap.size wN W → W.cell? ⟨w.heap.size, 0, none⟩ = some (.int .i64 a1) := fun W h => bholds ka0 h
  have g1 : ∀ W : World, Below wN.heap.size wN W → W.cell? ⟨w.heap.size, 1, none⟩ = some (.int .i64 a2) := fun W h => bholds ka1 h
  have g2 : ∀ W : World, Below wN.heap.size wN W → W.cell? ⟨w1.heap.size, 0, none⟩ = some (.int .i64 b1) := fun W h => bholds kb0 h
  have g3 : ∀ W : World, Below wN.heap.size wN W → W.cell? ⟨w1.heap.size, 1, none⟩ = some (.int .i64 b2) := fun W h => bholds kb1 h
  go_region_held3 (fun W => Below wN.heap.size wN W) (first | with_reducible assumption | with_reducible exact bthen (by with_reducible assumption) hB | with_reducible exact bfromdrew hB | with_reducible exact balloc (by with_reducible assumption) _ | with_reducible exact Below.drew (balloc (bundrew (by with_reducible assumption)) _) | with_reducible exact Below.drew (Below.refl _ _) | with_reducible exact Below.refl _ _ | with_reducible exact Below.drew (by with_reducible assumption)) (first
    | (go_at_call 63; with_reducible refine Calls.mono (HQ.out _) ?_; rintro e wq ⟨rfl, hB⟩; have hbq : Below wN.heap.size wN wq := (by first | with_reducible assumption | exact bundrew (by with_reducible assumption) | exact bthen (Below.refl _ _) hB | exact bthen (by with_reducible assumption) hB | (repeat (first | with_reducible exact Below.refl _ _ | with_reducible refine balloc ?_ _ | with_reducible refine bdrewN ?_ _ | with_reducible refine Below.drew ?_ | with_reducible refine bthen ?_ (by with_reducible assumption) | with_reducible refine Below.setCell ?_ (by first | (simp; done) | (simp; omega)) _))); have hbqs := hbq.size)
    | (go_at_call 62; with_reducible refine Calls.mono (HP.out _) ?_; intro e wz hh; unfold SetMadeB at hh; obtain ⟨Bz, nz, hBl, rfl, hm, hnz, hBz⟩ := hh; have hbz : Below wN.heap.size wN wz := bthen hbq hBz; have hbzs := hbz.size; obtain ⟨w0, hrun, hrg0, hg0, hs0⟩ := hm.range ptLaw Try.underlying93; have hb0 : Below wN.heap.size wN w0 := Below.grown hbz hg0 hbzs (fun g e => by cases e)))
  all_goals
    have hs0' : wz.heap.size + 1 ≤ w0.heap.size := Nat.le_of_eq hs0.symm
    have hrg : w0.ranges Try.prog 26 (Go.plainElem Try.prog 4) Bz wz.heap.size nz (setD PLx) (Maps.has (setD PLx)) (Maps.size (setD PLx)) := hrg0
    have hBz2 : wN.heap.size ≤ Bz := by omega
    have hBz3 : Bz < wz.heap.size := hm.lt
    clear hs0 hrg0 hm hg0
    go_wp2_with fail
    go_loopw [8] (fun v wr => ∃ (left : Lit → Bool) (cnt : Nat) (ss : List (Int × Int)), wr.ranges Try.prog 26 (Go.plainElem Try.prog 4) Bz wz.heap.size nz (setD PLx) left cnt ∧ ss.length + cnt ≤ Maps.size (setD PLx) ∧ CollG (fun x : Int × Int => klP x.1 x.2) PLx left ss ∧ wr.ownsRow w0.heap.size 62 6 v ss.length (ints (flat6 (ss.map (btM p c a1 a2 b1 b2)))) ∧ Below wN.heap.size wN wr ∧ w0.heap.size ≤ wr.heap.size) (fun _ wr => wr.rangeLeft Bz wz.heap.size)
    case atStart => exact ⟨_, _, [], hrg, by simp, CollG.start hS, World.ownsRow_nil _ _ _ _, hb0, Nat.le_refl _⟩
    case round =>
      obtain ⟨left, cnt, ss, hrg, hcs, hC, hown, hbel, hsr⟩ := hrel
      have hrN := hrg.lt
      have hrB : Bz < wr.heap.size := hrg.owns.lt
      go_wp2_with (at_next; refine wpList_next_ranges _ rfl _ rfl 26 ptLaw (Go.plainElem Try.prog 4) id id (fun key kl hk => ⟨key, rfl⟩) (fun v _ _ => ⟨v, rfl⟩) Bz wz.heap.size nz _ _ _ rfl hrg ?_ ?_)
      · intro hc0 hll
        have hdn := hC.done hll
        have hmem := turn_mem (a1 := a1) (a2 := a2) (b1 := b1) (b2 := b2) hp hc HNB.out (ss := ss) (fun x => by rw [← HPL.out]; exact hdn.2 x)
        have hnd := turn_nodup (a1 := a1) (a2 := a2) (b1 := b1) (b2 := b2) hp hc HNB.out hdn.1 (fun x hx => HPR.out x ((hdn.2 x).1 hx))
        have hlen : (ss.map (btM p c a1 a2 b1 b2)).length ≤ 1000000 := by rw [List.length_map]; have := HCNT.out; omega
        have hBw : Below w.heap.size w wr := hWN.trans (hbel.mono hWN.size)
        rcases hown.2 with ⟨rfl, hz⟩ | ⟨gb, cap, cur, rfl, hbase, hrest⟩
        · obtain rfl : ss = [] := List.eq_nil_of_length_eq_zero hz
          have hnil : tuM p c a1 a2 = [] := List.eq_nil_iff_forall_not_mem.2 fun z hz => by have := (hmem z).2 hz; simp at this
          have HNIL := Lib.hid hnil
          clear hnil hmem hnd
          go_wp2_with fail
          refine Calls.mono (sortNilM _ _) ?_
          rintro e w' ⟨rfl, rfl⟩
          go_wp2
          (refine bodyPost_ret (v := .slice none 0 0) (by simp [results, Try.results35, go_sem]) rfl ⟨_, rfl, by rw [HNIL.out]; exact World.ownsRow_nil _ _ _ _, hBw⟩)
        · have hown2 : wr.ownsRow w0.heap.size 62 6 (.slice (some ⟨gb, 0, none⟩) (ss.map (btM p c a1 a2 b1 b2)).length cap) (ss.map (btM p c a1 a2 b1 b2)).length (ints (flat6 (ss.map (btM p c a1 a2 b1 b2)))) := by rw [List.length_map]; exact hown
          have hcall := fun w' h => sortMv_any w0.heap.size gb cap (ss.map (btM p c a1 a2 b1 b2)) w' hlen h
          have HCL := Lib.hid (hcall wr hown2)
          have HMM := Lib.hid hmem
          have HND := Lib.hid hnd
          clear hcall hmem hnd hlen hown2 hrest
          rw [List.length_map] at HCL
          go_wp2_with fail
          refine Calls.mono HCL.out ?_
          rintro e w2 ⟨rfl, d, hpm, hs, hrow2, hg⟩
          have hde := sorted_moves (show (tuM p c a1 a2).Pairwise lt6 from srtM_sorted _) HND.out HMM.out hpm hs
          have hsz : ss.length = (tuM p c a1 a2).length := by have h1 := hpm.length_eq; rw [hde, List.length_map] at h1; exact h1.symm
          rw [hde, List.length_map] at hrow2
          have HR := Lib.hid (show w2.ownsRow w.heap.size 62 6 (.slice (some ⟨gb, 0, none⟩) ss.length cap) (tuM p c a1 a2).length (ints (flat6 (tuM p c a1 a2))) by rw [← hsz]; exact own_base hrow2 (by omega))
          have HB2 := Lib.hid (hBw.grown hg hBw.size (fun k e => by cases e; omega))
          clear hde hrow2 hpm hs hg hsz
          go_wp2
          (refine bodyPost_ret (v := .slice (some ⟨gb, 0, none⟩) ss.length cap) (by simp [results, Try.results35, go_sem]) rfl ⟨_, rfl, HR.out, HB2.out⟩)
      · intro xv c' kl yd yp w2 cnt2 hkey hlk hv hat hrg2 hlt hg2 hs2 hen
        obtain ⟨x, hx, ex, rfl⟩ := hS.from ptLaw hkey (Go.Maps.has_true_of_atKey hat)
        obtain rfl : xv = .agg #[.int .i64 x.1, .int .i64 x.2] := ex
        have hC2 := hC.step hS hx hlk
        have hxr := HPR.out x hx
        have hs2' : w2.heap.size = wr.heap.size := hs2
        have hb3 : Below wN.heap.size wN w2 := hbel.grown hg2 hbel.size (fun g e => by cases e; omega)
        have ho2 := hown.kept hg2 (.inr (fun e => by rcases hown.2 with ⟨rfl, _⟩ | ⟨gb, cap, cur, rfl, hbase, _⟩ <;> simp [Value.ownBlock] at e; omega))
        have d0 := bholds ka0 hb3
        have d1 := bholds ka1 hb3
        have d2 := bholds kb0 hb3
        have d3 := bholds kb1 hb3
        clear hs2
        have HE := Lib.hid (show ints (flat6 ((ss ++ [x]).map (btM p c a1 a2 b1 b2))) = ints (flat6 (ss.map (btM p c a1 a2 b1 b2))) ++ ints (flat6 [btM p c a1 a2 b1 b2 x]) by rw [List.map_append, flat6_append, ints_append]; rfl)
        obtain ⟨x1, x2⟩ := x
        simp only at hen hxr
        have hmb := fun w' => moveBet_any p c 1 a1 a2 b1 b2 a1 a2 x1 x2 w' hp hc (by omega) (by omega) (by omega) (by omega) (by omega) (by omega) (by omega) (by omega) (by omega)
        obtain ⟨z, hz⟩ : ∃ z, z = btM p c a1 a2 b1 b2 (x1, x2) := ⟨_, rfl⟩
        have hmb2 : ∀ w', Calls Try.prog 64 #[.int .i64 p, .int .i64 c, .int .i64 1, .agg #[.int .i64 a1, .int .i64 a2, .int .i64 b1, .int .i64 b2], .agg #[.int .i64 a1, .int .i64 a2, .int .i64 x1, .int .i64 x2]] w' fun e w'' => e = .returned (.agg #[.int .i64 z.1, .int .i64 z.2.1, .int .i64 z.2.2.1, .int .i64 z.2.2.2.1, .int .i64 z.2.2.2.2.1, .int .i64 z.2.2.2.2.2]) ∧ Below w'.heap.size w' w'' := fun w' => by rw [hz]; exact hmb w'
        rw [← hz] at HE
        obtain ⟨z1, z2, z3, z4, z5, z6⟩ := z
        simp only at hmb2
        have HMB := Lib.hid hmb2
        clear hmb hmb2 hz
        have HLT := Lib.hid (show ss.length + 1 + cnt2 ≤ Maps.size (setD PLx) by omega)
        have HLQ := Lib.hid hlt
        have hl31 : ss.length ≤ 961 := by have := HCNT.out; omega
        clear hcs hlt hlk hkey hv hat
        have hl2 : w.heap.size < w2.heap.size := by omega
        have hl3 : w1.heap.size < w2.heap.size := by omega
        have e0 : (w2.alloc (.cells #[.int .i64 x1, .int .i64 x2] 26)).cell? ⟨w.heap.size, 0, none⟩ = some (.int .i64 a1) := kalloc _ d0
        have e1 : (w2.alloc (.cells #[.int .i64 x1, .int .i64 x2] 26)).cell? ⟨w.heap.size, 1, none⟩ = some (.int .i64 a2) := kalloc _ d1
        have e2 : (w2.alloc (.cells #[.int .i64 x1, .int .i64 x2] 26)).cell? ⟨w1.heap.size, 0, none⟩ = some (.int .i64 b1) := kalloc _ d2
        have e3 : (w2.alloc (.cells #[.int .i64 x1, .int .i64 x2] 26)).cell? ⟨w1.heap.size, 1, none⟩ = some (.int .i64 b2) := kalloc _ d3
        go_wp2_with fail
        refine Calls.mono (HMB.out _) ?_
        rintro e wv ⟨rfl, hBv⟩
        have hWv : Below w2.heap.size w2 wv := bthen (balloc (Below.refl _ _) _) hBv
        have hsv := hWv.size
        have ho3 := own_call ho2 hWv
        go_wp2_with (at_builtin; refine wpList_append_own _ rfl _ _ 23 rfl w0.heap.size 62 i0 _ 6 48 Try.underlying23 hi hz0 hz1 hz2 rfl (by decide) _ _ _ rfl (ho3.alloc _) ⟨wv.heap.size, 0, none⟩ 1 1 [.int .i64 z1, .int .i64 z2, .int .i64 z3, .int .i64 z4, .int .i64 z5, .int .i64 z6] rfl rfl (mv_cells rfl) (mv_one _ _ _ _ _ _) ?c3 ?c4 ?c5 ?_)
        case c3 => unfold maxLen; omega
        case c4 => omega
        case c5 => simp; omega
        intro v' w3 hown' hgrow _
        have hgw : Below w0.heap.size wv w3 := ((Below.refl _ wv).alloc (by omega) _).grown hgrow (by simp; omega) (fun g' hg' => (ho3.lt g' hg').1)
        have hrg3 := ((hrg2.kept (below_grown hWv) (by simp) (by simp)).alloc (.cells #[.int .i64 z1, .int .i64 z2, .int .i64 z3, .int .i64 z4, .int .i64 z5, .int .i64 z6] 62)).kept hgrow (fun e => by have := (ho3.lt _ e.symm).1; omega) (fun e => by have := (ho3.lt _ e.symm).1; omega)
        have hb4 : Below wN.heap.size wN w3 := (bthen hb3 hWv).trans (hgw.mono (by omega))
        have HO := Lib.hid (show w3.ownsRow w0.heap.size 62 6 v' (ss ++ [(x1, x2)]).length (ints (flat6 ((ss ++ [(x1, x2)]).map (btM p c a1 a2 b1 b2)))) from by rw [HE.out, List.length_append]; exact hown')
        have hs3 : w0.heap.size ≤ w3.heap.size := by have := hgw.size; omega
        clear hown' hgrow ho3 ho2 hown
        go_wp2
        go_roundw
        case rel => exact ⟨_, cnt2, ss ++ [(x1, x2)], hrg3, by have := HLT.out; simp; omega, hC2, HO.out, hb4, hs3⟩
        case measure => rw [hrg3.left_eq, hrg.left_eq]; exact HLQ.out

end Go.Proofs.Ytibfbdgenamlkaa
