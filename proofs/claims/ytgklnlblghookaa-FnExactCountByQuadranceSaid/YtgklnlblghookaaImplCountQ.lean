/-
  impl.CountByQuadrance at good arguments.
-/
import Derived.Test.YtgklnlblghookaaCountQMath
import Derived.Test.YtgklnlblghookaaStepMake
import Derived.Test.YtgklnlblghookaaListIn
import Derived.Test.YtgklnlblghookaaImplPlq
import Derived.Test.YtgklnlblghookaaImplNull
import Derived.Test.YtgklnlblghookaaImplPlaces1
import Derived.Test.YtgklnlblghookaaCode
import Derived.Test.YtgklnlblghookaaApart
import Derived.Test.YtgklnlblghookaaLast
import Derived.Test.YtgklnlblghookaaKeepDrew
import Derived.Test.YtgklnlblghookaaSlice
import Derived.Test.YtgklnlblghookaaGrow
import Derived.TacticsIn
import Derived.RegionIn
import Derived.Shelf.RegionOpen
import Derived.Deep.RegionHeld3
import Derived.Deep.DeepCutAuto
namespace Go.Proofs.Ytgklnlblghookaa
open Go.RowKit Go.Shelf

attribute [local go_sem] Oper.semAt_some

theorem apart_from {β : Type} {G : Nat} {wa : World} : OwnFrom wa.heap.size (fun (_ : β) W => Apart G wa W) := fun _ X Y row hs hg hr =>
  ⟨hg.os.trans hs.os, hg.tape.trans hs.tape, hg.output.trans hs.output, Nat.le_trans hs.size hg.size, fun k hk hG => (hg.block k (Nat.lt_of_lt_of_le hk hs.size) (fun e => by have := (hr k e.symm).1; omega)).trans (hs.block k hk hG)⟩
theorem kg_set {lo hi N r j : Nat} {ts : TypeId → Prop} (W : World) (v : Value) (h1 : r < lo) (h2 : r < N) : KeepG lo hi N ts W (W.setCell ⟨r, j, none⟩ v) :=
  ⟨btw_setCell _ _ _ (.inl h1), fun b cs t tg h0 h _ => (Below.heap_setCell W ⟨r, j, none⟩ v b (by show b ≠ r; omega)).trans h⟩

set_option linter.unusedVariables false in
set_option maxRecDepth 100000 in
set_option maxRecDepth 20000 in
set_option maxHeartbeats 4000000 in
theorem implCountQ_good (p a1 a2 a3 : Int) (w : World) (hp : isP p = true) (hk : plB p a1 a2 a3 = true) (hn : (ppd p a1 a2 a3 a1 a2 a3 == 0) = false) :
    Calls Try.prog 35 #[.int .i64 p, .agg #[.int .i64 a1, .int .i64 a2, .int .i64 a3]] w fun e w' => SlicePost 2 1 (cqT p a1 a2 a3) 0 w e w' := by
  have hr := isP_range hp
  have rq := plB_rng hk
  obtain ⟨i0, hi0, hz0, hz1, hz2⟩ := info_parts infoInt1
  refine (callsIn_wide (n := 9)).1 ?_
  refine callsIn_of_wp_marks Try.func35 rfl trivial ?_ rfl
  simp only [Try.ntmps35, List.size_toArray, List.length_cons, List.length_nil, Nat.reduceAdd, Nat.reduceSub, Array.replicate_succ, Array.replicate_zero, List.push_toArray, List.append_toArray, List.nil_append, List.cons_append]
  refine wpIn_wide.2 ?_
  have cT : codeOf p true = 0 := codeOf_in hp rfl
  go_upto_region 1 with fail
  refine wp_name (fun wN hwN => ?_)
  have hN : Below w.heap.size w wN := by rw [hwN]; (repeat (first | with_reducible exact Below.refl _ _ | with_reducible refine balloc ?_ _ | with_reducible refine bdrewN ?_ _ | with_reducible refine Below.drew ?_ | with_reducible refine bthen ?_ (by with_reducible assumption) | with_reducible refine Below.setCell ?_ (by first | (simp; done) | (simp; omega)) _))
  have sN : w.heap.size + 1 + 1 ≤ wN.heap.size := by rw [hwN]; simp
  have n0 : wN.cell? ⟨w.heap.size, 0, none⟩ = some (.int .i64 p) := by rw [hwN]; (repeat (first | with_reducible assumption | ((with_reducible refine kfresh ?_ ?_) <;> (first | with_reducible rfl | (simp; done))) | ((with_reducible refine ksameS ?_); focus ((repeat (first | with_reducible exact kis_of (by with_reducible assumption) | with_reducible refine kis_set ?_ | ((with_reducible refine kis_new ?_ ?_) <;> (first | with_reducible rfl | rfl | (simp; done))) | with_reducible refine kis_alloc _ ?_ | with_reducible refine kis_drew ?_ | with_reducible refine kis_call (by with_reducible assumption) ?_ | with_reducible exact kis_of (kcall (by with_reducible assumption) (by with_reducible assumption)))); done)) | with_reducible refine kother (by decide) ?_ | with_reducible refine kset (by first | omega | (simp; done) | (simp; omega)) ?_ | with_reducible refine kalloc _ ?_ | with_reducible refine kdrew ?_ | with_reducible refine kdrewN ?_ | with_reducible refine kcall (by with_reducible assumption) ?_))
  have n1 : wN.cell? ⟨w.heap.size + 1, 0, none⟩ = some (.int .i64 a1) := by rw [hwN]; (repeat (first | with_reducible assumption | ((with_reducible refine kfresh ?_ ?_) <;> (first | with_reducible rfl | (simp; done))) | ((with_reducible refine ksameS ?_); focus ((repeat (first | with_reducible exact kis_of (by with_reducible assumption) | with_reducible refine kis_set ?_ | ((with_reducible refine kis_new ?_ ?_) <;> (first | with_reducible rfl | rfl | (simp; done))) | with_reducible refine kis_alloc _ ?_ | with_reducible refine kis_drew ?_ | with_reducible refine kis_call (by with_reducible assumption) ?_ | with_reducible exact kis_of (kcall (by with_reducible assumption) (by with_reducible assumption)))); done)) | with_reducible refine kother (by decide) ?_ | with_reducible refine kset (by first | omega | (simp; done) | (simp; omega)) ?_ | with_reducible refine kalloc _ ?_ | with_reducible refine kdrew ?_ | with_reducible refine kdrewN ?_ | with_reducible refine kcall (by with_reducible assumption) ?_))
  have n2 : wN.cell? ⟨w.heap.size + 1, 1, none⟩ = some (.int .i64 a2) := by rw [hwN]; (repeat (first | with_reducible assumption | ((with_reducible refine kfresh ?_ ?_) <;> (first | with_reducible rfl | (simp; done))) | ((with_reducible refine ksameS ?_); focus ((repeat (first | with_reducible exact kis_of (by with_reducible assumption) | with_reducible refine kis_set ?_ | ((with_reducible refine kis_new ?_ ?_) <;> (first | with_reducible rfl | rfl | (simp; done))) | with_reducible refine kis_alloc _ ?_ | with_reducible refine kis_drew ?_ | with_reducible refine kis_call (by with_reducible assumption) ?_ | with_reducible exact kis_of (kcall (by with_reducible assumption) (by with_reducible assumption)))); done)) | with_reducible refine kother (by decide) ?_ | with_reducible refine kset (by first | omega | (simp; done) | (simp; omega)) ?_ | with_reducible refine kalloc _ ?_ | with_reducible refine kdrew ?_ | with_reducible refine kdrewN ?_ | with_reducible refine kcall (by with_reducible assumption) ?_))
  have n3 : wN.cell? ⟨w.heap.size + 1, 2, none⟩ = some (.int .i64 a3) := by rw [hwN]; (repeat (first | with_reducible assumption | ((with_reducible refine kfresh ?_ ?_) <;> (first | with_reducible rfl | (simp; done))) | ((with_reducible refine ksameS ?_); focus ((repeat (first | with_reducible exact kis_of (by with_reducible assumption) | with_reducible refine kis_set ?_ | ((with_reducible refine kis_new ?_ ?_) <;> (first | with_reducible rfl | rfl | (simp; done))) | with_reducible refine kis_alloc _ ?_ | with_reducible refine kis_drew ?_ | with_reducible refine kis_call (by with_reducible assumption) ?_ | with_reducible exact kis_of (kcall (by with_reducible assumption) (by with_reducible assumption)))); done)) | with_reducible refine kother (by decide) ?_ | with_reducible refine kset (by first | omega | (simp; done) | (simp; omega)) ?_ | with_reducible refine kalloc _ ?_ | with_reducible refine kdrew ?_ | with_reducible refine kdrewN ?_ | with_reducible refine kcall (by with_reducible assumption) ?_))
  clear hwN
  have u0 : ∀ W : World, Below wN.heap.size wN W → W.cell? ⟨w.heap.size, 0, none⟩ = some (.int .i64 p) := fun W h => bholds n0 h
  have u1 : ∀ W : World, Below wN.heap.size wN W → W.cell? ⟨w.heap.size + 1, 0, none⟩ = some (.int .i64 a1) := fun W h => bholds n1 h
  have u2 : ∀ W : World, Below wN.heap.size wN W → W.cell? ⟨w.heap.size + 1, 1, none⟩ = some (.int .i64 a2) := fun W h => bholds n2 h
  have u3 : ∀ W : World, Below wN.heap.size wN W → W.cell? ⟨w.heap.size + 1, 2, none⟩ = some (.int .i64 a3) := fun W h => bholds n3 h
  go_region_held3 (fun W => Below wN.heap.size wN W) (first | with_reducible exact bthen (bback (by first | exact Nat.le_refl _ | omega | (simp; done) | (simp; omega)) (by with_reducible assumption)) hB | ((with_reducible refine Below.setCell ?_ (by first | exact Nat.le_refl _ | omega | (simp; done) | (simp; omega)) _); (repeat with_reducible refine Below.setCell ?_ (by first | exact Nat.le_refl _ | omega | (simp; done) | (simp; omega)) _); with_reducible assumption) | with_reducible assumption | with_reducible exact bthen (by with_reducible assumption) hB | with_reducible exact bfromdrew hB | with_reducible exact balloc (by with_reducible assumption) _ | with_reducible exact Below.drew (balloc (bundrew (by with_reducible assumption)) _) | with_reducible exact brealloc (by first | exact Nat.le_refl _ | omega | (simp; done) | (simp; omega)) (by with_reducible assumption) | with_reducible exact Below.drew (brealloc (by first | exact Nat.le_refl _ | omega | (simp; done) | (simp; omega)) (bundrew (by with_reducible assumption))) | with_reducible exact brealloc2 (by first | exact Nat.le_refl _ | omega | (simp; done) | (simp; omega)) (by with_reducible assumption) | ((repeat (first | with_reducible assumption | with_reducible refine Below.setCell ?_ (by first | exact Nat.le_refl _ | omega | (simp; done) | (simp; omega)) _)); done) | (with_reducible refine balloc ?_ _; (repeat (first | with_reducible exact bback (by first | exact Nat.le_refl _ | omega | (simp; done) | (simp; omega)) (by with_reducible assumption) | with_reducible refine Below.setCell ?_ (by first | exact Nat.le_refl _ | omega | (simp; done) | (simp; omega)) _)); done) | with_reducible exact Below.refl _ _ | with_reducible exact Below.drew (Below.refl _ _) | with_reducible exact Below.drew (by with_reducible assumption)) (first | (go_at_call 45; refine Calls.mono (implPlaces1 _ _ _ _ _ _ (by first | rfl | (simp; done))) ?_; rw [hk]; rintro e wq ⟨rfl, hB⟩; have hBs := hB.size; (try simp at hBs)) | (go_at_call 45; refine Calls.mono (implPlaces1 _ _ _ _ _ (World.drew wN) (by first | rfl | (simp; done))) ?_; rw [hk]; rintro e wq ⟨rfl, hB⟩; have hBs := hB.size; (try simp at hBs)) | (go_at_call 40; refine Calls.mono (codeFor_any _ _ _) ?_; rintro e wq' ⟨rfl, rfl⟩))
  obtain ⟨w8, rfl⟩ : ∃ w8 : World, w8 = wq := ⟨_, rfl⟩
  have hb8 : Below wN.heap.size wN w8 := by first | with_reducible assumption | exact bundrew (by with_reducible assumption) | (repeat (first | with_reducible exact Below.refl _ _ | with_reducible refine balloc ?_ _ | with_reducible refine bdrewN ?_ _ | with_reducible refine Below.drew ?_ | with_reducible refine bthen ?_ (by with_reducible assumption) | with_reducible refine Below.setCell ?_ (by first | (simp; done) | (simp; omega)) _))
  have hs8 := hb8.size
  have hw8 : Below w.heap.size w w8 := bthen hN hb8
  have v0 := u0 w8 hb8
  have v1 := u1 w8 hb8
  have v2 := u2 w8 hb8
  have v3 := u3 w8 hb8
  clear u0 u1 u2 u3
  go_wp2_with fail
  refine Calls.mono (implNull_any p a1 a2 a3 _ hp (by omega) (by omega) (by omega)) ?_
  rw [hn]
  rintro e w9 ⟨rfl, hB9⟩
  have hs9 := hB9.size
  have x0 := (cell_back hB9 (by omega) 0).trans v0
  have x1 := (cell_back hB9 (by omega) 0).trans v1
  have x2 := (cell_back hB9 (by omega) 1).trans v2
  have x3 := (cell_back hB9 (by omega) 2).trans v3
  have hw9 : Below w.heap.size w w9 := bthen hw8 hB9
  have hs9w : w.heap.size + 1 + 1 ≤ w9.heap.size := by omega
  clear hb8 hw8 v0 v1 v2 v3 hB9 hN n0 n1 n2 n3
  have hpn : (p.toNat : Int) = p := Int.toNat_of_nonneg (by omega)
  have HPN := Lib.hid hpn
  clear hpn
  go_wp2_with (at_make; refine wpList_make_full _ rfl _ _ 42 rfl w9.heap.size 2 i0 (.int .i64 0) 1 Try.underlying42 hi0 hz0 hz1 .i64 .i64 p p p.toNat rfl rfl HPN.out.symm HPN.out.symm (by rw [hz2]; omega) (by unfold maxLen; omega) (Nat.le_refl _) ?_)
  intro wm hom hgm
  rw [made_tabQ] at hom
  have hKQ := fun x => plqQ_nat (a1 := a1) (a2 := a2) (a3 := a3) hp x
  have hcqT : cqT p a1 a2 a3 = tab p.toNat (cqF p a1 a2 a3 (allQ p.toNat)) := rfl
  obtain ⟨m, hm⟩ : ∃ m, m = p.toNat := ⟨_, rfl⟩
  rw [← hm] at hom hKQ hcqT HPN ⊢
  have hm31 : m ≤ 31 := by omega
  have HKQ := Lib.hid hKQ
  have HCQT := Lib.hid hcqT
  have HM := Lib.hid hm
  clear hKQ hcqT hm
  rw [show (tab m fun _ => (0 : Int)) = tab m (cqF p a1 a2 a3 []) from tab_congr fun i _ => (cq_nil _ _ _ _ _).symm] at hom
  have hlm := (hom.lt _ rfl).2
  simp only at hlm
  have hbm : Below w9.heap.size w9 wm := (Below.refl _ _).grown hgm (Nat.le_refl _) (fun g hg => by cases hg)
  have y0 := (cell_back hbm (by omega) 0).trans x0
  have y1 := (cell_back hbm (by omega) 0).trans x1
  have y2 := (cell_back hbm (by omega) 1).trans x2
  have y3 := (cell_back hbm (by omega) 2).trans x3
  have hwm : Below w.heap.size w wm := bthen hw9 hbm
  obtain ⟨G, hG⟩ : ∃ G, G = w9.heap.size := ⟨_, rfl⟩
  rw [← hG] at hom hlm ⊢
  have hGs : w.heap.size + 1 + 1 ≤ G := by omega
  clear hG hgm x0 x1 x2 x3 hbm hw9
  go_upto_region 7 with fail
  refine wp_name (fun wR hwR => ?_)
  have bH : Boxed wR wm.heap.size 42 (.slice (some ⟨G, 0, none⟩) m m) := by rw [hwR]; first | exact Boxed.new _ _ _ | exact (Boxed.new _ _ _).set _
  have hR : Below wm.heap.size wm wR := by rw [hwR]; (repeat (first | with_reducible exact Below.refl _ _ | with_reducible refine balloc ?_ _ | with_reducible refine bdrewN ?_ _ | with_reducible refine Below.drew ?_ | with_reducible refine bthen ?_ (by with_reducible assumption) | with_reducible refine Below.setCell ?_ (by first | (simp; done) | (simp; omega)) _))
  have sR : wm.heap.size < wR.heap.size := by rw [hwR]; simp
  clear hwR
  have z0 := (cell_back hR (by omega) 0).trans y0
  have z1 := (cell_back hR (by omega) 0).trans y1
  have z2 := (cell_back hR (by omega) 1).trans y2
  have z3 := (cell_back hR (by omega) 2).trans y3
  have homR := own_call hom hR
  have hwR : Below w.heap.size w wR := bthen hwm hR
  clear y0 y1 y2 y3 hom
  go_wp2_with fail
  refine Calls.mono (allPlaces_mk _ _) ?_
  rintro e wa ⟨b0, rfl, g0, zb, hBa⟩
  have hsa := hBa.size
  have hlb := World.block_lt_of_cell? wa ⟨b0, 0, none⟩ g0
  simp only at hlb
  have q0 := (cell_back hBa (by omega) 0).trans z0
  have q1 := (cell_back hBa (by omega) 0).trans z1
  have q2 := (cell_back hBa (by omega) 1).trans z2
  have q3 := (cell_back hBa (by omega) 2).trans z3
  have hrow := own_call homR hBa
  have bHa : Boxed wa wm.heap.size 42 (.slice (some ⟨G, 0, none⟩) m m) := (hBa.block _ sR).trans bH
  have hwa : Below w.heap.size w wa := bthen hwR hBa
  clear z0 z1 z2 z3 homR bH hwR hBa hR
  obtain ⟨H, hH⟩ : ∃ H, H = wm.heap.size := ⟨_, rfl⟩
  rw [← hH] at bHa sR hlm ⊢
  clear hH
  go_wp2_with fail
  refine (wpIn_wide (n := 9)).1 ?_
  refine range_on rfl (by decide) (gf := 68) (lb := #[.pointer (some ⟨b0, 0, none⟩)]) rfl trivial (enters_of Try.func68 (by kernel_rfl) rfl)
    (seqPl_on b0 b0 (b0 + 1) wa.heap.size (fun _ => False) p hp (fun h => h) (fun h => h) wa (Nat.le_refl _) g0 ⟨Nat.le_refl _, Nat.lt_succ_self _⟩ hlb) kg_trans (kg_put (by omega)) (Below.refl _ _) (fun _ => rfl)
    (fun pre W => W.ownsRow w.heap.size 2 1 (.slice (some ⟨G, 0, none⟩) m m) m (ints (tab m (cqF p a1 a2 a3 pre))) ∧ Apart G wa W)
    (fun _ _ _ => False)
    (OwnFrom.and (Own.from (row_own _ _ _ _ _ _) _) apart_from)
    (fun _ _ _ _ _ hs _ _ => hs)
    ⟨own_base hrow (by omega), Apart.refl _ _⟩
    (fun x a' W => ∃ (Bx : Nat) (u0 u1 u4 u5 u6 u9 u10 u11 u12 u13 u14 u15 u16 u17 u18 u19 u20 u21 u22 u23 u24 u25 u26 u28 u29 u30 u31 u32 u33 u34 u35 u36 u37 u38 u39 u40 u41 u42 u43 : Value), wa.heap.size ≤ Bx ∧ BoxQ W Bx 23 (toQ x) ∧ a' = { tmps := #[u0, u1, .pointer (some ⟨w.heap.size, 0, none⟩), .pointer (some ⟨w.heap.size + 1, 0, none⟩), u4, u5, u6, .pointer (some ⟨H, 0, none⟩), .pointer (some ⟨Bx, 0, none⟩), u9, u10, u11, u12, u13, u14, u15, u16, u17, u18, u19, u20, u21, u22, u23, u24, u25, u26, plV (toQ x), u28, u29, u30, u31, u32, u33, u34, u35, u36, u37, u38, u39, u40, u41, u42, u43], defers := [] })
    (fun x a' _ X Y row hs hg hr => by obtain ⟨Bx, u0, u1, u4, u5, u6, u9, u10, u11, u12, u13, u14, u15, u16, u17, u18, u19, u20, u21, u22, u23, u24, u25, u26, u28, u29, u30, u31, u32, u33, u34, u35, u36, u37, u38, u39, u40, u41, u42, u43, h1, h2, h3⟩ := hs; exact ⟨Bx, u0, u1, u4, u5, u6, u9, u10, u11, u12, u13, u14, u15, u16, u17, u18, u19, u20, u21, u22, u23, u24, u25, u26, u28, u29, u30, u31, u32, u33, u34, u35, u36, u37, u38, u39, u40, u41, u42, u43, h1, boxQ_own Bx wa.heap.size 23 (toQ x) () X Y row h2 hg hr, h3⟩)
    ?assign ?body ?done ?stop
  case assign =>
    rintro l pre x W K ⟨hrow, hap⟩ hK
    have hnew := boxQ_new W 23 (toQ x)
    have hsz := hap.size
    simp only [plV] at hK ⊢
    generalize toQ x = tx at hK hnew ⊢
    obtain ⟨x1, x2, x3⟩ := tx
    gi_wp2
    exact hK _ _ ((KeepsOthers.alloc _ _).from _) (kg_none (World.grownBy_alloc _ _ none) (by omega)) ⟨hrow.alloc _, hap.alloc _⟩ ⟨W.heap.size, _, _, _, _, _, _, _, _, _, _, _, _, _, _, _, _, _, _, _, _, _, _, _, _, _, _, _, _, _, _, _, _, _, _, _, _, _, _, _, hsz, hnew, rfl⟩
  case body =>
    rintro l pre x a' W ⟨hrow, hap⟩ ⟨Bx, u0, u1, u4, u5, u6, u9, u10, u11, u12, u13, u14, u15, u16, u17, u18, u19, u20, u21, u22, u23, u24, u25, u26, u28, u29, u30, u31, u32, u33, u34, u35, u36, u37, u38, u39, u40, u41, u42, u43, hBx, hX, rfl⟩ hlt
    have hX1 := boxQ_cell1 hX
    have hX2 := boxQ_cell2 hX
    have hX3 := boxQ_cell3 hX
    have hmem := toQ_r x
    have hsz := hap.size
    have k0 := hap.cell (by omega) q0
    have k1 := hap.cell (by omega) q1
    have k2 := hap.cell (by omega) q2
    have k3 := hap.cell (by omega) q3
    have bHW : Boxed W H 42 (.slice (some ⟨G, 0, none⟩) m m) := (hap.block H (by omega) (by omega)).trans bHa
    obtain ⟨k, hk, hkm⟩ := HKQ.out x
    have hsk := cq_skip (p := p) (a1 := a1) (a2 := a2) (a3 := a3) (x := x) pre
    have hct := cq_count (p := p) (a1 := a1) (a2 := a2) (a3 := a3) (x := x) pre (k := k)
    have hcC : quC p a1 a2 a3 (toQ x).1 (toQ x).2.1 (toQ x).2.2 = if nulQ p x = true then 5 else 0 := by unfold quC quZ; rw [hn]; rfl
    have hcV : quV p a1 a2 a3 (toQ x).1 (toQ x).2.1 (toQ x).2.2 = if nulQ p x = true then 0 else (k : Int) := by unfold quV quZ; rw [hn, ← hk]; rfl
    have hcall := fun w' => implPlq_any p a1 a2 a3 (toQ x).1 (toQ x).2.1 (toQ x).2.2 w' hp (by omega) (by omega) (by omega) (by omega) (by omega) (by omega)
    rw [hcC, hcV] at hcall
    clear hcC hcV hX
    generalize toQ x = tx at hX1 hX2 hX3 hcall hmem ⊢
    obtain ⟨x1, x2, x3⟩ := tx
    simp only at hX1 hX2 hX3 hcall hmem ⊢
    obtain ⟨bo, hbo⟩ : ∃ b, b = nulQ p x := ⟨_, rfl⟩
    rw [← hbo] at hcall hsk hct
    clear hbo
    have hfr := cq_r p a1 a2 a3 pre k
    have HK := Lib.hid hk
    clear hk
    have hGl := (hrow.lt G rfl).2
    cases bo
    · have HCT := Lib.hid (hct rfl HK.out)
      clear hct hsk
      simp only [Bool.false_eq_true, if_false] at hcall
      have HC := Lib.hid hcall
      clear hcall
      obtain ⟨z, hz⟩ : ∃ z, z = cqF p a1 a2 a3 pre k := ⟨_, rfl⟩
      rw [← hz] at hfr
      have HZ := Lib.hid hz
      clear hz
      have hlp : pre.length ≤ 1023 := by have : p.toNat * p.toNat ≤ 31 * 31 := Nat.mul_le_mul (by omega) (by omega); omega
      have hwz : IntKind.i64.wrap (z + 1) = z + 1 := wrapI _ (by omega)
      have hia : (0 : Int) ≤ (k : Int) ∧ (k : Int) < (m : Int) := by omega
      gi_wp2_with fail
      refine ⟨trivial, (CallsIn.inRound l (callsIn_wide.2 (HC.out _))).mono ?_⟩
      rintro e w1 ⟨rfl, hB1⟩
      have hB1s := hB1.size
      have hrow1 := own_call hrow hB1
      have hap1 := hap.call hB1
      have bH1 : Boxed w1 H 42 (.slice (some ⟨G, 0, none⟩) m m) := (hB1.block H (by omega)).trans bHW
      have hc1 := bH1.cell
      have rb : w1.cell? ⟨G, k, none⟩ = some (.int .i64 z) := by rw [own_cell hrow1 (j := k) (by omega), tab_getD _ hkm, ← HZ.out]
      have rf := hrow1.frozenAt k
      have hst := (hrow1.stored k (.int .i64 (z + 1))).1
      rw [tab_step (g := cqF p a1 a2 a3 (pre ++ [x])) (fun i _ => by rw [HCT.out i, HZ.out])] at hst
      have HO := Lib.hid hst
      clear hst hrow1
      gi_wp2
      exact ⟨((KeepsOthers.of_grownBy (row := none) (below_grown hB1) (fun j o e => by cases e)).from _).trans ((KeepsOthers.setCell _ _ _).from _), kg_trans (kg_none (below_grown hB1) (by omega)) (kg_set _ _ (by omega) (by omega)), HO.out, hap1.set _ _⟩
    · have HSK := Lib.hid (hsk rfl)
      clear hct hsk
      simp only [if_true] at hcall
      have HC := Lib.hid hcall
      clear hcall
      gi_wp2_with fail
      refine ⟨trivial, (CallsIn.inRound l (callsIn_wide.2 (HC.out _))).mono ?_⟩
      rintro e w1 ⟨rfl, hB1⟩
      have hrow1 := own_call hrow hB1
      gi_wp2
      exact ⟨(KeepsOthers.of_grownBy (row := none) (below_grown hB1) (fun j o e => by cases e)).from _, kg_none (below_grown hB1) (by omega), by rw [show tab m (cqF p a1 a2 a3 (pre ++ [x])) = tab m (cqF p a1 a2 a3 pre) from tab_congr fun i _ => HSK.out i]; exact hrow1, hap.call hB1⟩
  case done =>
    rintro D ys W hD rfl ⟨hrow, hap⟩ hK
    have bHW : Boxed W H 42 (.slice (some ⟨G, 0, none⟩) m m) := (hap.block H (by omega) (by omega)).trans bHa
    have hc := bHW.cell
    have hBw : Below w.heap.size w W := Apart.below hwa (by omega) hap
    have hsz := hap.size
    go_wp2
    refine ⟨by simp, .inl ⟨_, _, rfl, run_takeDeferred hK, ?_⟩⟩
    refine ⟨.tuple #[.slice (some ⟨G, 0, none⟩) m m, .int .i64 0], by simp [results, Try.results35, go_sem], slicePost_mk (by rw [HCQT.out, HM.out]; rw [HM.out] at hrow; exact ownsRow_putObj hrow _ hK rfl) (hBw.trans (belowK_b (w := w) (Nat.le_refl _) W D _ _ (by omega) hK rfl rfl))⟩
  case stop =>
    rintro D c pre W _ _ h _
    exact h.elim

end Go.Proofs.Ytgklnlblghookaa
