/-
  impl.solve: the machine that walks the columns of rows.
-/
import Derived.Test.YtmpgpmcmhbpjeaaLabels
import Derived.Test.YtmpgpmcmhbpjeaaMakeLead
import Derived.Test.YtmpgpmcmhbpjeaaIndexRow
import Derived.Test.YtmpgpmcmhbpjeaaCoefMath
import Derived.Test.YtmpgpmcmhbpjeaaGrow
import Derived.Test.YtmpgpmcmhbpjeaaLast
import Derived.Test.YtmpgpmcmhbpjeaaKeepDrew
import Derived.Deep.RegionHeld3
import Derived.Deep.DeepCutAuto
namespace Go.Proofs.Ytmpgpmcmhbpjeaa
open Go.RowKit

theorem infoInt3 : (Try.prog.info? 3).map (fun i => (i.zero, i.size, i.bytes)) = some (some (.int .i64 0), 1, 8) := by kernel_rfl
theorem apart_grown {r : Nat} {W W' : World} (h : Apart r W W') : W.grownBy W' (some r) := ⟨h.os, h.tape, h.output, h.size, fun k hk hne => h.block k hk (fun e => hne (by rw [e]))⟩
theorem setCell_grown (W : World) (a : Addr) (v : Value) : W.grownBy (W.setCell a v) (some a.block) := ⟨rfl, rfl, rfl, by simp [World.setCell], fun k _ h => Below.heap_setCell W a v k (fun e => h (by rw [e]))⟩
/-- The columns that lead, in order. -/
def nxt (L : Nat → Nat) (r c k : Nat) : Nat := if k = r then c else L k
theorem tab_nxt (L : Nat → Nat) (r c : Nat) : ints (tab (r + 1) fun k => (nxt L r c k : Int)) = ints (tab r fun k => (L k : Int)) ++ [.int .i64 (c : Int)] := by
  have : tab (r + 1) (fun k => (nxt L r c k : Int)) = tab r (fun k => (L k : Int)) ++ [(c : Int)] := by
    unfold tab
    rw [List.range_succ, List.map_append]
    congr 1
    · exact List.map_congr_left fun k hk => by have := List.mem_range.1 hk; rw [nxt, if_neg (by omega)]
    · simp [nxt]
  rw [this, ints_append]; rfl
/-- A state of the machine: r columns lead, those below c are done. -/
structure Mach (n : Nat) [NeZero n] (R B N m : Nat) (M0 : Nat → Nat → Int) (w : World) (la : Option Addr) (r lc c : Nat) (L : Nat → Nat) (o : Nat → Nat) (M : Nat → Nat → Int) (W : World) : Prop where
  row : W.ownsRow (w.heap.size + 1) 3 1 (.slice la r lc) r (ints (tab r fun k => (L k : Int)))
  lay : LayM W R B N m o M
  rrf : Rrf (n : Int) N m M L r c
  sol : ∀ v : Nat → Fin n, Sol n N m M v ↔ Sol n N m M0 v
  apt : Apart2 R B w W
theorem Mach.call {n : Nat} [NeZero n] {R B N m : Nat} {M0 : Nat → Nat → Int} {w : World} {la : Option Addr} {r lc c : Nat} {L o : Nat → Nat} {M : Nat → Nat → Int} {W W' : World} (h : Mach n R B N m M0 w la r lc c L o M W) (hN : 0 < N) (hm : 0 < m) (hb : Below W.heap.size W W') : Mach n R B N m M0 w la r lc c L o M W' :=
  ⟨own_call h.row hb, h.lay.below hN hm hb, h.rrf, h.sol, h.apt.call hb⟩
theorem Mach.setCol {n : Nat} [NeZero n] {R B N m : Nat} {M0 : Nat → Nat → Int} {w : World} {la : Option Addr} {r lc c : Nat} {L o : Nat → Nat} {M : Nat → Nat → Int} {W : World} (h : Mach n R B N m M0 w la r lc c L o M W) (hR : R < w.heap.size) (hB : B < w.heap.size) (v : Value) : Mach n R B N m M0 w la r lc c L o M (W.setCell ⟨w.heap.size, 0, none⟩ v) :=
  ⟨h.row.kept (setCell_grown W ⟨w.heap.size, 0, none⟩ v) (.inr fun e => by have := (h.row.lt _ e).1; simp only at this; omega), h.lay.blocks (Below.heap_setCell _ _ _ _ (by show R ≠ w.heap.size; omega)) (Below.heap_setCell _ _ _ _ (by show B ≠ w.heap.size; omega)), h.rrf, h.sol,
   ⟨h.apt.os, h.apt.tape, h.apt.output, by simpa [World.setCell] using h.apt.size, fun k hk h1 h2 => (Below.heap_setCell _ _ _ _ (by show k ≠ w.heap.size; omega)).trans (h.apt.block k hk h1 h2)⟩⟩
/-- What impl.solve answers. -/
def Solved (n : Nat) [NeZero n] (R B N m : Nat) (M0 : Nat → Nat → Int) (w : World) (e : Ending) (w' : World) : Prop :=
  ∃ (la : Option Addr) (r lc : Nat) (L o : Nat → Nat) (M : Nat → Nat → Int), e = .returned (.slice la r lc) ∧ Mach n R B N m M0 w la r lc m L o M w'
theorem Rrf.full {p : Int} {N m : Nat} {M : Nat → Nat → Int} {L : Nat → Nat} {c : Nat} (h : Rrf p N m M L N c) : Rrf p N m M L N m :=
  ⟨h.rng, h.rN, Nat.le_refl _, fun k hk => Nat.lt_of_lt_of_le (h.up k hk) h.cm, h.inc, h.one, fun i j hi hN _ => by omega⟩
/-- The column at hand, and how far there is still to go. -/
def colOf (W : World) (C : Nat) : Nat := (intOf ((W.cell? ⟨C, 0, none⟩).getD undef)).toNat
theorem colOf_is {W : World} {C c : Nat} (h : W.cell? ⟨C, 0, none⟩ = some (.int .i64 (c : Int))) : colOf W C = c := by rw [colOf, h]; rfl
/-- At a label. -/
def AtLabel (n : Nat) [NeZero n] (R B N m cap : Nat) (M0 : Nat → Nat → Int) (w : World) (l : Nat) (a' : Act) (W : World) : Prop :=
  (l = 0 ∨ l = 1) ∧ ∃ (la : Option Addr) (r lc c : Nat) (L o : Nat → Nat) (M : Nat → Nat → Int) (u7 u8 u9 u10 u11 u12 u13 u14 u15 u16 u17 u18 u19 u20 u21 u22 u23 u24 u25 u26 u27 u28 u29 u30 u31 u32 u33 u34 u35 u36 u37 u38 u39 u40 u41 u42 u43 u44 u45 u46 u47 u48 u49 u50 u51 u52 u53 : Value),
    a' = { tmps := #[.int .i64 (n : Int), .slice (some ⟨R, 0, none⟩) N cap, undef, undef, .slice none 0 0, .slice la r lc, .pointer (some ⟨w.heap.size, 0, none⟩), u7, u8, u9, u10, u11, u12, u13, u14, u15, u16, u17, u18, u19, u20, u21, u22, u23, u24, u25, u26, u27, u28, u29, u30, u31, u32, u33, u34, u35, u36, u37, u38, u39, u40, u41, u42, u43, u44, u45, u46, u47, u48, u49, u50, u51, u52, u53], defers := [] } ∧ W.cell? ⟨w.heap.size, 0, none⟩ = some (.int .i64 (c : Int)) ∧ W.frozen? ⟨w.heap.size, 0, none⟩ = false ∧ (l = 1 → c < m) ∧
      Mach n R B N m M0 w la r lc (c + l) L o M W
def stepsLeft (m C l : Nat) (W : World) : Nat := 2 * m + 1 - 2 * colOf W C - l

set_option linter.unusedVariables false in
set_option linter.unusedSimpArgs false in
set_option maxRecDepth 20000 in
set_option maxHeartbeats 8000000 in
theorem solve_any (n N m R B cap : Nat) [NeZero n] (o0 : Nat → Nat) (M0 : Nat → Nat → Int) (w : World) (hp : isP (n : Int) = true) (hL : LayM w R B N m o0 M0) (hN : N ≤ 8) (hN0 : 0 < N) (hm : m ≤ 8) (hm0 : 0 < m) (hcap : N ≤ cap)
    (hrng : ∀ i j, i < N → j < m → 0 ≤ M0 i j ∧ M0 i j < (n : Int)) :
    Calls Try.prog 81 #[.int .i64 (n : Int), .slice (some ⟨R, 0, none⟩) N cap] w fun e w' => Solved n R B N m M0 w e w' := by
  have hr := isP_range hp
  obtain ⟨i0, hi, hz0, hz1, hz2⟩ := info_parts infoInt3
  have hlRB := hL.lt hN0 hm0
  have HST := Lib.hid (show Rrf (n : Int) N m M0 (fun _ => 0) 0 0 from Rrf.start _ hrng)
  clear hrng
  have HL := Lib.hid hL
  clear hL
  go_enter Try.func81, Try.ntmps81
  go_wp2_with fail
  refine wp_scope_two (AtLabel n R B N m cap M0 w) (fun l _ W => stepsLeft m w.heap.size l W) rfl rfl (fun l a W h => h.1) ?pass0 ?pass1 ?first
  case first =>
    intro hps
    have hJ0 : AtLabel n R B N m cap M0 w 0 { tmps := #[.int .i64 (n : Int), .slice (some ⟨R, 0, none⟩) N cap, undef, undef, .slice none 0 0, .slice none 0 0, .pointer (some ⟨w.heap.size, 0, none⟩), undef, undef, undef, undef, undef, undef, undef, undef, undef, undef, undef, undef, undef, undef, undef, undef, undef, undef, undef, undef, undef, undef, undef, undef, undef, undef, undef, undef, undef, undef, undef, undef, undef, undef, undef, undef, undef, undef, undef, undef, undef, undef, undef, undef, undef, undef, undef], defers := [] } (w.alloc (.cells #[.int .i64 0] 3)) := by
      refine ⟨.inl rfl, none, 0, 0, 0, (fun _ => 0), o0, M0, _, _, _, _, _, _, _, _, _, _, _, _, _, _, _, _, _, _, _, _, _, _, _, _, _, _, _, _, _, _, _, _, _, _, _, _, _, _, _, _, _, _, _, _, _, _, _, rfl, by (repeat (first | with_reducible assumption | ((with_reducible refine kfresh ?_ ?_) <;> (first | with_reducible rfl | (simp; done))) | ((with_reducible refine ksameS ?_); focus ((repeat (first | with_reducible exact kis_of (by with_reducible assumption) | with_reducible refine kis_set ?_ | ((with_reducible refine kis_new ?_ ?_) <;> (first | with_reducible rfl | rfl | (simp; done))) | with_reducible refine kis_alloc _ ?_ | with_reducible refine kis_drew ?_ | with_reducible refine kis_call (by with_reducible assumption) ?_ | with_reducible exact kis_of (kcall (by with_reducible assumption) (by with_reducible assumption)))); done)) | with_reducible refine kother (by decide) ?_ | with_reducible refine kset (by first | omega | (simp; done) | (simp; omega)) ?_ | with_reducible refine kalloc _ ?_ | with_reducible refine kdrew ?_ | with_reducible refine kdrewN ?_ | with_reducible refine kcall (by with_reducible assumption) ?_)), by (repeat (first | with_reducible assumption | with_reducible refine fdrew ?_ | with_reducible refine fdrewN ?_ | with_reducible refine fset ?_ | ((with_reducible refine fallocNew ?_) <;> (first | with_reducible rfl | (simp; done))) | ((with_reducible refine kfro (by with_reducible assumption) ?_ ?_); focus (first | with_reducible assumption | omega | (simp; done) | (simp; omega))) | ((with_reducible refine falloc ?_ ?_); focus (first | with_reducible assumption | omega | (simp; done) | (simp; omega))))), fun h => by omega, ⟨World.ownsRow_nil _ _ _ _, HL.out.blocks ?_ ?_, HST.out, fun v => Iff.rfl, ⟨rfl, rfl, rfl, by simp, fun k hk _ _ => Below.heap_alloc _ _ _ hk⟩⟩⟩
      · exact Below.heap_alloc _ _ _ hlRB.1
      · exact Below.heap_alloc _ _ _ hlRB.2
    have HPS := Lib.hid (hps _ _ hJ0)
    clear hps hJ0
    go_wp2_with fail
    go_step3
    rename_i hKx
    exact hKx _ _ HPS.out
  case pass0 =>
    rintro a' W ⟨-, la, r, lc, c, L, o, M, u7, u8, u9, u10, u11, u12, u13, u14, u15, u16, u17, u18, u19, u20, u21, u22, u23, u24, u25, u26, u27, u28, u29, u30, u31, u32, u33, u34, u35, u36, u37, u38, u39, u40, u41, u42, u43, u44, u45, u46, u47, u48, u49, u50, u51, u52, u53, rfl, hcell, hfz, hlt, hM⟩
    have rN := hM.rrf.rN
    have cm := hM.rrf.cm
    have hsW := hM.apt.size
    have hlRW := hM.lay.lt hN0 hm0
    have hCl := World.block_lt_of_cell? W ⟨w.heap.size, 0, none⟩ hcell
    simp only at hCl
    rw [Nat.add_zero] at hM cm
    clear hlt
    have HM := Lib.hid hM
    clear hM
    obtain ⟨q, hq⟩ : ∃ q, N = r + q := ⟨N - r, by omega⟩
    have hq1 : N - r = q := by omega
    have hr0 : (0 : Int) ≤ (r : Int) := by omega
    have hrN : (r : Int) ≤ (N : Int) := by omega
    have hNc : (N : Int) ≤ (cap : Int) := by omega
    have hrc : (r : Int) ≤ (cap : Int) := by omega
    have hwr : IntKind.i64.wrap (r : Int) = (r : Int) := wrapI _ (by omega)
    have HQ := Lib.hid hq
    clear hq
    by_cases h1 : N = r
    · clear HQ hq1
      subst h1
      have hMm : Mach n R B N m M0 w la N lc m L o M W := ⟨HM.out.row, HM.out.lay, HM.out.rrf.full, HM.out.sol, HM.out.apt⟩
      have HMm := Lib.hid hMm
      clear hMm
      rcases Nat.lt_or_ge N cap with hcc | hcc
      all_goals (have hcd : (N : Int) < (cap : Int) ∨ cap = N := by omega)
      all_goals (rcases hcd with hcd | hcd)
      all_goals (first | omega | skip)
      all_goals go_wp2_with fail
      all_goals go_quiet (fail)
      all_goals go_wp2
      all_goals simp only [toLabels]
      all_goals (refine bodyPost_ret (v := .slice la N lc) (by simp [results, Try.results81, go_sem]) rfl ⟨la, N, lc, L, o, M, rfl, HMm.out.call hN0 hm0 (bdrewN (Below.refl _ _) _)⟩)
    · have hrlt : r < N := by omega
      have hrcl : (r : Int) < (cap : Int) := by omega
      have hh0 := HM.out.lay.head r hrlt
      have hqv := HQ.out
      have hq0 : 0 < q := by omega
      clear hqv
      have hqi : (0 : Int) < (q : Int) := by omega
      have hqz : ((q : Int) == 0) = false := by rw [beq_eq_false_iff_ne]; omega
      by_cases h2 : c = m
      · subst h2
        go_wp2_with fail
        go_quiet (fail)
        go_wp2
        simp only [toLabels]
        (refine bodyPost_ret (v := .slice la r lc) (by simp [results, Try.results81, go_sem]) rfl ⟨la, r, lc, L, o, M, rfl, HM.out.call hN0 hm0 (bdrewN (Below.refl _ _) _)⟩)
      · have hcm : c < m := by omega
        have hne : ((c : Int) == (m : Int)) = false := by rw [beq_eq_false_iff_ne]; omega
        have hne2 : ¬ ((c : Int) = (m : Int)) := by omega
        go_wp2_with fail
        go_quiet (fail)
        have HMd := Lib.hid (HM.out.call hN0 hm0 (bdrewN (Below.refl W.heap.size W) nq))
        have hcd : (W.drewN nq).cell? ⟨w.heap.size, 0, none⟩ = some (.int .i64 (c : Int)) := kdrewN hcell
        have hfd : (W.drewN nq).frozen? ⟨w.heap.size, 0, none⟩ = false := fdrewN hfz
        have hsd : (W.drewN nq).heap.size = W.heap.size := rfl
        obtain ⟨Wd, hWd⟩ : ∃ Wd, Wd = W.drewN nq := ⟨_, rfl⟩
        rw [← hWd] at HMd hcd hfd hsd ⊢
        clear hWd HM
        go_wp2_with fail
        refine Calls.mono (indexRow_any R B N m w.heap.size c r q (cap - r) o M Wd HMd.out.lay HQ.out.symm hcm hN hm hcd) ?_
        rintro e w' ⟨hF, rfl⟩
        rcases hF with ⟨a, ha, hnz, rfl⟩ | ⟨hz, rfl⟩
        · have hai : (0 : Int) ≤ (a : Int) ∧ (a : Int) < (q : Int) := by omega
          have hnl : ¬ ((a : Int) < 0) := by omega
          have hql := HQ.out
          have hran : r + a < N := by omega
          have hrn : r < N := by omega
          clear hql
          have d0 := HMd.out.lay.head r hrn
          have da := HMd.out.lay.head (r + a) hran
          have f0 := HMd.out.lay.hfz r hrn
          have fa := HMd.out.lay.hfz (r + a) hran
          have s1 : (Wd.setCell ⟨R, r, none⟩ (.slice (some ⟨B, o (r + a), none⟩) m m)).drew.cell? ⟨R, r + a, none⟩ = some (.slice (some ⟨B, o (r + a), none⟩) m m) := by
            show (Wd.setCell ⟨R, r, none⟩ (.slice (some ⟨B, o (r + a), none⟩) m m)).cell? ⟨R, r + a, none⟩ = _
            by_cases e : a = 0
            · subst e; exact ksame d0
            · exact kother (by omega) da
          have s2 : (Wd.setCell ⟨R, r, none⟩ (.slice (some ⟨B, o (r + a), none⟩) m m)).drew.frozen? ⟨R, r + a, none⟩ = false := fset fa
          go_wp2_with fail
          (refine wp_region_held_drew (S := (fun _ => True)) (by kernel_rfl) (by trivial) (fun hHeld => ?_))
          (refine wpAnyH_take (i := 0) (v := ?_) rfl (by kernel_rfl) (by kernel_rfl) (by kernel_rfl) (fun _ _ _ h => h) (Or.inl ⟨by rfl, ?_⟩) (by with_reducible assumption) ?_; rotate_left; (focus (intro wz hSw; (try dsimp only at hSw); go_simp; try with_reducible rfl)); try simp only [Act.put, List.getElem_toArray, List.getElem_cons_zero, List.getElem_cons_succ, List.setIfInBounds_toArray, List.set_cons_zero, List.set_cons_succ])
          (refine wpAnyH_take (i := 1) (v := ?_) rfl (by kernel_rfl) (by kernel_rfl) (by kernel_rfl) (fun _ _ _ h => h) (Or.inl ⟨by rfl, ?_⟩) (by with_reducible assumption) ?_; rotate_left; (focus (intro wz hSw; (try dsimp only at hSw); go_simp; try with_reducible rfl)); try simp only [Act.put, List.getElem_toArray, List.getElem_cons_zero, List.getElem_cons_succ, List.setIfInBounds_toArray, List.set_cons_zero, List.set_cons_succ])
          (refine wpAnyH_take (i := 2) (v := ?_) rfl (by kernel_rfl) (by kernel_rfl) (by kernel_rfl) (fun _ _ _ h => h) (Or.inl ⟨by rfl, ?_⟩) (by with_reducible assumption) ?_; rotate_left; (focus (intro wz hSw; (try dsimp only at hSw); go_simp; try with_reducible rfl)); try simp only [Act.put, List.getElem_toArray, List.getElem_cons_zero, List.getElem_cons_succ, List.setIfInBounds_toArray, List.set_cons_zero, List.set_cons_succ])
          (refine wpAnyH_take (i := 3) (v := ?_) rfl (by kernel_rfl) (by kernel_rfl) (by kernel_rfl) (fun _ _ _ h => h) (Or.inl ⟨by rfl, ?_⟩) (by with_reducible assumption) ?_; rotate_left; (focus (intro wz hSw; (try dsimp only at hSw); go_simp; try with_reducible rfl)); try simp only [Act.put, List.getElem_toArray, List.getElem_cons_zero, List.getElem_cons_succ, List.setIfInBounds_toArray, List.set_cons_zero, List.set_cons_succ])
          (refine wpAnyH_take (i := 4) (v := ?_) rfl (by kernel_rfl) (by kernel_rfl) (by kernel_rfl) (fun _ _ _ h => h) (Or.inl ⟨by rfl, ?_⟩) (by with_reducible assumption) ?_; rotate_left; (focus (intro wz hSw; (try dsimp only at hSw); go_simp; try with_reducible rfl)); try simp only [Act.put, List.getElem_toArray, List.getElem_cons_zero, List.getElem_cons_succ, List.setIfInBounds_toArray, List.set_cons_zero, List.set_cons_succ])
          (refine wpAnyH_take (i := 5) (v := ?_) rfl (by kernel_rfl) (by kernel_rfl) (by kernel_rfl) (fun _ _ _ h => h) (Or.inl ⟨by rfl, ?_⟩) (by with_reducible assumption) ?_; rotate_left; (focus (intro wz hSw; (try dsimp only at hSw); go_simp; try with_reducible rfl)); try simp only [Act.put, List.getElem_toArray, List.getElem_cons_zero, List.getElem_cons_succ, List.setIfInBounds_toArray, List.set_cons_zero, List.set_cons_succ])
          (refine wpAnyH_take (i := 7) (v := ?_) rfl (by kernel_rfl) (by kernel_rfl) (by kernel_rfl) (fun _ _ _ h => h) (Or.inl ⟨by rfl, ?_⟩) (by with_reducible assumption) ?_; rotate_left; (focus (intro wz hSw; (try dsimp only at hSw); go_simp; try with_reducible rfl)); try simp only [Act.put, List.getElem_toArray, List.getElem_cons_zero, List.getElem_cons_succ, List.setIfInBounds_toArray, List.set_cons_zero, List.set_cons_succ])
          (refine wpAnyH_take (i := 8) (v := ?_) rfl (by kernel_rfl) (by kernel_rfl) (by kernel_rfl) (fun _ _ _ h => h) (Or.inl ⟨by rfl, ?_⟩) (by with_reducible assumption) ?_; rotate_left; (focus (intro wz hSw; (try dsimp only at hSw); go_simp; try with_reducible rfl)); try simp only [Act.put, List.getElem_toArray, List.getElem_cons_zero, List.getElem_cons_succ, List.setIfInBounds_toArray, List.set_cons_zero, List.set_cons_succ])
          refine wpAnyH_ready (rs := [6, 9]) (by kernel_rfl) (by simp) ?_
          refine AllReadyH.cons rfl (fun K hK => ?_) (AllReadyH.cons rfl (fun K hK => ?_) AllReadyH.nil)
          · go_simp
            refine hK.out _ _ trivial (fun hHeld => ?_)
            clear hK K
            try simp only [Act.put, List.getElem_toArray, List.getElem_cons_zero, List.getElem_cons_succ, List.setIfInBounds_toArray, List.set_cons_zero, List.set_cons_succ]
            (refine wpAnyH_ready (rs := [9]) (by kernel_rfl) (by simp) ?_; refine AllReadyH.cons rfl (fun K hK => ?_) AllReadyH.nil; (go_simp); refine hK.out _ _ (by trivial) (fun hHeld => ?_); clear hK K; try simp only [Act.put, List.setIfInBounds_toArray, List.set_cons_zero, List.set_cons_succ])
            (refine wpAnyH_take (i := 10) (v := ?_) rfl (by kernel_rfl) (by kernel_rfl) (by kernel_rfl) (fun _ _ _ h => h) (Or.inl ⟨by rfl, ?_⟩) (by with_reducible assumption) ?_; rotate_left; (focus (intro wz hSw; (try dsimp only at hSw); go_simp; try with_reducible rfl)); try simp only [Act.put, List.getElem_toArray, List.getElem_cons_zero, List.getElem_cons_succ, List.setIfInBounds_toArray, List.set_cons_zero, List.set_cons_succ])
            (refine wpAnyH_ready (rs := [11]) (by kernel_rfl) (by simp) ?_; refine AllReadyH.cons rfl (fun K hK => ?_) AllReadyH.nil; (go_simp); refine hK.out _ _ (by trivial) (fun hHeld => ?_); clear hK K; try simp only [Act.put, List.setIfInBounds_toArray, List.set_cons_zero, List.set_cons_succ])
            (refine wpAnyH_take (i := 12) (v := ?_) rfl (by kernel_rfl) (by kernel_rfl) (by kernel_rfl) (fun _ _ _ h => h) (Or.inl ⟨by rfl, ?_⟩) (by with_reducible assumption) ?_; rotate_left; (focus (intro wz hSw; (try dsimp only at hSw); go_simp; try with_reducible rfl)); try simp only [Act.put, List.getElem_toArray, List.getElem_cons_zero, List.getElem_cons_succ, List.setIfInBounds_toArray, List.set_cons_zero, List.set_cons_succ])
            (refine wpAnyH_ready (rs := [13]) (by kernel_rfl) (by simp) ?_; refine AllReadyH.cons rfl (fun K hK => ?_) AllReadyH.nil; (go_simp); refine hK.out _ _ (by trivial) (fun hHeld => ?_); clear hK K; try simp only [Act.put, List.setIfInBounds_toArray, List.set_cons_zero, List.set_cons_succ])
            refine wpAnyH_done (by kernel_rfl) ?_ _
            have hL2 : LayM ((Wd.setCell ⟨R, r, none⟩ (.slice (some ⟨B, o (r + a), none⟩) m m)).setCell ⟨R, r + a, none⟩ (.slice (some ⟨B, o r, none⟩) m m)).drew R B N m (fun i => o (swp r (r + a) i)) (fun i j => M (swp r (r + a) i) j) := (HMd.out.lay.swap hrn hran).blocks rfl rfl
            have hA2 : Apart R Wd ((Wd.setCell ⟨R, r, none⟩ (.slice (some ⟨B, o (r + a), none⟩) m m)).setCell ⟨R, r + a, none⟩ (.slice (some ⟨B, o r, none⟩) m m)).drew := (((Apart.refl R Wd).set r _).set (r + a) _).drew
            have hw2 : ((Wd.setCell ⟨R, r, none⟩ (.slice (some ⟨B, o (r + a), none⟩) m m)).setCell ⟨R, r + a, none⟩ (.slice (some ⟨B, o r, none⟩) m m)).drew.ownsRow (w.heap.size + 1) 3 1 (.slice la r lc) r (ints (tab r fun k => (L k : Int))) := HMd.out.row.kept (apart_grown hA2) (.inr fun e => by have := (HMd.out.row.lt _ e).1; omega)
            obtain ⟨W2, hW2⟩ : ∃ W2, W2 = ((Wd.setCell ⟨R, r, none⟩ (.slice (some ⟨B, o (r + a), none⟩) m m)).setCell ⟨R, r + a, none⟩ (.slice (some ⟨B, o r, none⟩) m m)).drew := ⟨_, rfl⟩
            rw [← hW2] at hL2 hA2 hw2 ⊢
            clear hW2 s1 s2 d0 da f0 fa
            have hc2 := hA2.cell (by omega) hcd
            have hf2 := hA2.frozen (by omega) (by omega) hfd
            have hs2 := hA2.size
            have hpv : K n ((fun i j => M (swp r (r + a) i) j) r c) ≠ 0 := by
              show K n (M (swp r (r + a) r) c) ≠ 0
              rw [swp_left]
              exact K_small (HMd.out.rrf.rng _ c hran hcm) hnz
            have HPV := Lib.hid hpv
            have HNZ := Lib.hid hnz
            clear hpv hnz
            obtain ⟨o2, ho2⟩ : ∃ o2, o2 = (fun i => o (swp r (r + a) i)) := ⟨_, rfl⟩
            have hrng2 : ∀ i j, i < N → j < m → 0 ≤ (fun i j => M (swp r (r + a) i) j) i j ∧ (fun i j => M (swp r (r + a) i) j) i j < (n : Int) := fun i j hi hj => HMd.out.rrf.rng _ j (swp_lt hrn hran hi) hj
            have hrrf := HMd.out.rrf.lead hp hcm (Nat.le_add_right r a) hran HNZ.out
            have hsol : ∀ v : Nat → Fin n, Sol n N m (ml n (fun i j => M (swp r (r + a) i) j) r c) v ↔ Sol n N m M0 v := fun v => (sol_ml hp hrn HPV.out v).trans ((sol_swap (M := M) hrn hran v).trans (HMd.out.sol v))
            obtain ⟨Ma, hMa⟩ : ∃ Ma, Ma = (fun i j => M (swp r (r + a) i) j) := ⟨_, rfl⟩
            have hrrf2 : Rrf (n : Int) N m (ml n Ma r c) (nxt L r c) (r + 1) (c + 1) := by rw [hMa]; exact hrrf
            rw [← hMa] at hL2 hrng2 hsol
            rw [← ho2] at hL2
            clear ho2 hMa hrrf HPV HNZ
            have HR2 := Lib.hid hrng2
            have HSO := Lib.hid hsol
            have HRR := Lib.hid hrrf2
            have HL2 := Lib.hid hL2
            clear hrng2 hsol hrrf2 hL2
            go_wp2_with fail
            refine Calls.mono (makeLeading_any n N m R B cap r c o2 Ma W2 hp HL2.out hrn hcm hN hm HR2.out) ?_
            rintro e W3 ⟨⟨v, rfl⟩, hL3, hA3⟩
            have hc3 := hA3.cell (by omega) hc2
            have hf3 := hA3.frozen (by omega) (by omega) hf2
            have hs3 := hA3.size
            have hw3 := hw2.kept (apart_grown hA3) (.inr fun e => by have := (hw2.lt _ e).1; omega)
            have hC3 := World.block_lt_of_cell? W3 ⟨w.heap.size, 0, none⟩ hc3
            simp only at hC3
            go_wp2_with (at_builtin; refine wpList_append_own _ rfl _ _ 108 rfl (w.heap.size + 1) 3 i0 (.int .i64 0) 1 8 Try.underlying108 hi hz0 hz1 hz2 rfl (by decide) _ _ _ rfl (hw3.alloc _) ⟨W3.heap.size, 0, none⟩ 1 1 [.int .i64 (c : Int)] rfl rfl ?c1 (int_oneCell _) ?c3 ?c4 ?c5 ?_)
            case c1 =>
              intro j u hj
              match j, hj with
              | 0, hj => simp at hj; subst hj; simp [Addr.add]
            case c3 => unfold maxLen; omega
            case c4 => omega
            case c5 => simp; omega
            intro v' W5 hown' hgrow _
            have hrl := fun g hg => (hw3.lt g hg).1
            have blk : ∀ k, k ≤ w.heap.size → W5.heap[k]? = W3.heap[k]? := fun k hk => (hgrow.block k (by simp; omega) (fun e => by have := hrl k e.symm; omega)).trans (Below.heap_alloc _ _ _ (by omega))
            rw [← tab_nxt] at hown'
            rcases own_ways hown' with ⟨h0, _⟩ | ⟨_, g5, lc5, rfl, hg1, hg2, _⟩
            · omega
            have hc5 : W5.cell? ⟨w.heap.size, 0, none⟩ = some (.int .i64 (c : Int)) := (World.cell?_of_block (w := W3) (a := ⟨w.heap.size, 0, none⟩) (blk _ (Nat.le_refl _))).trans hc3
            have hf5 : W5.frozen? ⟨w.heap.size, 0, none⟩ = false := (frozen_of_block (w := W3) (a := ⟨w.heap.size, 0, none⟩) (blk _ (Nat.le_refl _))).trans hf3
            have hs5 := hgrow.size
            simp only [World.size_alloc] at hs5
            have hap3 := (HMd.out.apt.trans ⟨hA2.os, hA2.tape, hA2.output, hA2.size, fun k h1 h2 _ => hA2.block k h1 h2⟩).one hA3
            have HM5 := Lib.hid (show Mach n R B N m M0 w (some ⟨g5, 0, none⟩) (r + 1) lc5 (c + 1) (nxt L r c) o2 (ml n Ma r c) W5 from ⟨hown', hL3.blocks (blk R (by omega)) (blk B (by omega)), HRR.out, HSO.out, ⟨hgrow.os.trans hap3.os, hgrow.tape.trans hap3.tape, hgrow.output.trans hap3.output, by have := hap3.size; omega, fun k hk h1 h2 => (blk k (by omega)).trans (hap3.block k hk h1 h2)⟩⟩)
            clear hown' hgrow hap3 hL3 hw3 hw2 blk hrl
            have hwc : IntKind.i64.wrap ((c : Int) + 1) = (c : Int) + 1 := wrapI _ (by omega)
            go_wp2_with fail
            go_step3
            go_wp2_with fail
            go_step3
            exact ⟨⟨.inl rfl, some ⟨g5, 0, none⟩, r + 1, lc5, c + 1, nxt L r c, o2, ml n Ma r c, _, _, _, _, _, _, _, _, _, _, _, _, _, _, _, _, _, _, _, _, _, _, _, _, _, _, _, _, _, _, _, _, _, _, _, _, _, _, _, _, _, _, _, _, _, _, _, rfl, by rw [show ((c + 1 : Nat) : Int) = (c : Int) + 1 from by omega]; exact ksame hc5, fset hf5, fun h => by omega, HM5.out.setCol hlRB.1 hlRB.2 _⟩, by simp only [stepsLeft, colOf_is hcell, colOf_is (c := c + 1) (show (W5.setCell ⟨w.heap.size, 0, none⟩ (.int .i64 ((c : Int) + 1))).cell? ⟨w.heap.size, 0, none⟩ = _ from by rw [show ((c + 1 : Nat) : Int) = (c : Int) + 1 from by omega]; exact ksame hc5)]; omega⟩
          · go_simp
            refine hK.out _ _ trivial (fun hHeld => ?_)
            clear hK K
            try simp only [Act.put, List.getElem_toArray, List.getElem_cons_zero, List.getElem_cons_succ, List.setIfInBounds_toArray, List.set_cons_zero, List.set_cons_succ]
            (refine wpAnyH_ready (rs := [6]) (by kernel_rfl) (by simp) ?_; refine AllReadyH.cons rfl (fun K hK => ?_) AllReadyH.nil; (go_simp); refine hK.out _ _ (by trivial) (fun hHeld => ?_); clear hK K; try simp only [Act.put, List.setIfInBounds_toArray, List.set_cons_zero, List.set_cons_succ])
            (refine wpAnyH_take (i := 10) (v := ?_) rfl (by kernel_rfl) (by kernel_rfl) (by kernel_rfl) (fun _ _ _ h => h) (Or.inl ⟨by rfl, ?_⟩) (by with_reducible assumption) ?_; rotate_left; (focus (intro wz hSw; (try dsimp only at hSw); go_simp; try with_reducible rfl)); try simp only [Act.put, List.getElem_toArray, List.getElem_cons_zero, List.getElem_cons_succ, List.setIfInBounds_toArray, List.set_cons_zero, List.set_cons_succ])
            (refine wpAnyH_ready (rs := [11]) (by kernel_rfl) (by simp) ?_; refine AllReadyH.cons rfl (fun K hK => ?_) AllReadyH.nil; (go_simp); refine hK.out _ _ (by trivial) (fun hHeld => ?_); clear hK K; try simp only [Act.put, List.setIfInBounds_toArray, List.set_cons_zero, List.set_cons_succ])
            (refine wpAnyH_take (i := 12) (v := ?_) rfl (by kernel_rfl) (by kernel_rfl) (by kernel_rfl) (fun _ _ _ h => h) (Or.inl ⟨by rfl, ?_⟩) (by with_reducible assumption) ?_; rotate_left; (focus (intro wz hSw; (try dsimp only at hSw); go_simp; try with_reducible rfl)); try simp only [Act.put, List.getElem_toArray, List.getElem_cons_zero, List.getElem_cons_succ, List.setIfInBounds_toArray, List.set_cons_zero, List.set_cons_succ])
            (refine wpAnyH_ready (rs := [13]) (by kernel_rfl) (by simp) ?_; refine AllReadyH.cons rfl (fun K hK => ?_) AllReadyH.nil; (go_simp); refine hK.out _ _ (by trivial) (fun hHeld => ?_); clear hK K; try simp only [Act.put, List.setIfInBounds_toArray, List.set_cons_zero, List.set_cons_succ])
            refine wpAnyH_done (by kernel_rfl) ?_ _
            have hL2 : LayM ((Wd.setCell ⟨R, r, none⟩ (.slice (some ⟨B, o (r + a), none⟩) m m)).setCell ⟨R, r + a, none⟩ (.slice (some ⟨B, o r, none⟩) m m)).drew R B N m (fun i => o (swp r (r + a) i)) (fun i j => M (swp r (r + a) i) j) := (HMd.out.lay.swap hrn hran).blocks rfl rfl
            have hA2 : Apart R Wd ((Wd.setCell ⟨R, r, none⟩ (.slice (some ⟨B, o (r + a), none⟩) m m)).setCell ⟨R, r + a, none⟩ (.slice (some ⟨B, o r, none⟩) m m)).drew := (((Apart.refl R Wd).set r _).set (r + a) _).drew
            have hw2 : ((Wd.setCell ⟨R, r, none⟩ (.slice (some ⟨B, o (r + a), none⟩) m m)).setCell ⟨R, r + a, none⟩ (.slice (some ⟨B, o r, none⟩) m m)).drew.ownsRow (w.heap.size + 1) 3 1 (.slice la r lc) r (ints (tab r fun k => (L k : Int))) := HMd.out.row.kept (apart_grown hA2) (.inr fun e => by have := (HMd.out.row.lt _ e).1; omega)
            obtain ⟨W2, hW2⟩ : ∃ W2, W2 = ((Wd.setCell ⟨R, r, none⟩ (.slice (some ⟨B, o (r + a), none⟩) m m)).setCell ⟨R, r + a, none⟩ (.slice (some ⟨B, o r, none⟩) m m)).drew := ⟨_, rfl⟩
            rw [← hW2] at hL2 hA2 hw2 ⊢
            clear hW2 s1 s2 d0 da f0 fa
            have hc2 := hA2.cell (by omega) hcd
            have hf2 := hA2.frozen (by omega) (by omega) hfd
            have hs2 := hA2.size
            have hpv : K n ((fun i j => M (swp r (r + a) i) j) r c) ≠ 0 := by
              show K n (M (swp r (r + a) r) c) ≠ 0
              rw [swp_left]
              exact K_small (HMd.out.rrf.rng _ c hran hcm) hnz
            have HPV := Lib.hid hpv
            have HNZ := Lib.hid hnz
            clear hpv hnz
            obtain ⟨o2, ho2⟩ : ∃ o2, o2 = (fun i => o (swp r (r + a) i)) := ⟨_, rfl⟩
            have hrng2 : ∀ i j, i < N → j < m → 0 ≤ (fun i j => M (swp r (r + a) i) j) i j ∧ (fun i j => M (swp r (r + a) i) j) i j < (n : Int) := fun i j hi hj => HMd.out.rrf.rng _ j (swp_lt hrn hran hi) hj
            have hrrf := HMd.out.rrf.lead hp hcm (Nat.le_add_right r a) hran HNZ.out
            have hsol : ∀ v : Nat → Fin n, Sol n N m (ml n (fun i j => M (swp r (r + a) i) j) r c) v ↔ Sol n N m M0 v := fun v => (sol_ml hp hrn HPV.out v).trans ((sol_swap (M := M) hrn hran v).trans (HMd.out.sol v))
            obtain ⟨Ma, hMa⟩ : ∃ Ma, Ma = (fun i j => M (swp r (r + a) i) j) := ⟨_, rfl⟩
            have hrrf2 : Rrf (n : Int) N m (ml n Ma r c) (nxt L r c) (r + 1) (c + 1) := by rw [hMa]; exact hrrf
            rw [← hMa] at hL2 hrng2 hsol
            rw [← ho2] at hL2
            clear ho2 hMa hrrf HPV HNZ
            have HR2 := Lib.hid hrng2
            have HSO := Lib.hid hsol
            have HRR := Lib.hid hrrf2
            have HL2 := Lib.hid hL2
            clear hrng2 hsol hrrf2 hL2
            go_wp2_with fail
            refine Calls.mono (makeLeading_any n N m R B cap r c o2 Ma W2 hp HL2.out hrn hcm hN hm HR2.out) ?_
            rintro e W3 ⟨⟨v, rfl⟩, hL3, hA3⟩
            have hc3 := hA3.cell (by omega) hc2
            have hf3 := hA3.frozen (by omega) (by omega) hf2
            have hs3 := hA3.size
            have hw3 := hw2.kept (apart_grown hA3) (.inr fun e => by have := (hw2.lt _ e).1; omega)
            have hC3 := World.block_lt_of_cell? W3 ⟨w.heap.size, 0, none⟩ hc3
            simp only at hC3
            go_wp2_with (at_builtin; refine wpList_append_own _ rfl _ _ 108 rfl (w.heap.size + 1) 3 i0 (.int .i64 0) 1 8 Try.underlying108 hi hz0 hz1 hz2 rfl (by decide) _ _ _ rfl (hw3.alloc _) ⟨W3.heap.size, 0, none⟩ 1 1 [.int .i64 (c : Int)] rfl rfl ?c1 (int_oneCell _) ?c3 ?c4 ?c5 ?_)
            case c1 =>
              intro j u hj
              match j, hj with
              | 0, hj => simp at hj; subst hj; simp [Addr.add]
            case c3 => unfold maxLen; omega
            case c4 => omega
            case c5 => simp; omega
            intro v' W5 hown' hgrow _
            have hrl := fun g hg => (hw3.lt g hg).1
            have blk : ∀ k, k ≤ w.heap.size → W5.heap[k]? = W3.heap[k]? := fun k hk => (hgrow.block k (by simp; omega) (fun e => by have := hrl k e.symm; omega)).trans (Below.heap_alloc _ _ _ (by omega))
            rw [← tab_nxt] at hown'
            rcases own_ways hown' with ⟨h0, _⟩ | ⟨_, g5, lc5, rfl, hg1, hg2, _⟩
            · omega
            have hc5 : W5.cell? ⟨w.heap.size, 0, none⟩ = some (.int .i64 (c : Int)) := (World.cell?_of_block (w := W3) (a := ⟨w.heap.size, 0, none⟩) (blk _ (Nat.le_refl _))).trans hc3
            have hf5 : W5.frozen? ⟨w.heap.size, 0, none⟩ = false := (frozen_of_block (w := W3) (a := ⟨w.heap.size, 0, none⟩) (blk _ (Nat.le_refl _))).trans hf3
            have hs5 := hgrow.size
            simp only [World.size_alloc] at hs5
            have hap3 := (HMd.out.apt.trans ⟨hA2.os, hA2.tape, hA2.output, hA2.size, fun k h1 h2 _ => hA2.block k h1 h2⟩).one hA3
            have HM5 := Lib.hid (show Mach n R B N m M0 w (some ⟨g5, 0, none⟩) (r + 1) lc5 (c + 1) (nxt L r c) o2 (ml n Ma r c) W5 from ⟨hown', hL3.blocks (blk R (by omega)) (blk B (by omega)), HRR.out, HSO.out, ⟨hgrow.os.trans hap3.os, hgrow.tape.trans hap3.tape, hgrow.output.trans hap3.output, by have := hap3.size; omega, fun k hk h1 h2 => (blk k (by omega)).trans (hap3.block k hk h1 h2)⟩⟩)
            clear hown' hgrow hap3 hL3 hw3 hw2 blk hrl
            have hwc : IntKind.i64.wrap ((c : Int) + 1) = (c : Int) + 1 := wrapI _ (by omega)
            go_wp2_with fail
            go_step3
            go_wp2_with fail
            go_step3
            exact ⟨⟨.inl rfl, some ⟨g5, 0, none⟩, r + 1, lc5, c + 1, nxt L r c, o2, ml n Ma r c, _, _, _, _, _, _, _, _, _, _, _, _, _, _, _, _, _, _, _, _, _, _, _, _, _, _, _, _, _, _, _, _, _, _, _, _, _, _, _, _, _, _, _, _, _, _, _, rfl, by rw [show ((c + 1 : Nat) : Int) = (c : Int) + 1 from by omega]; exact ksame hc5, fset hf5, fun h => by omega, HM5.out.setCol hlRB.1 hlRB.2 _⟩, by simp only [stepsLeft, colOf_is hcell, colOf_is (c := c + 1) (show (W5.setCell ⟨w.heap.size, 0, none⟩ (.int .i64 ((c : Int) + 1))).cell? ⟨w.heap.size, 0, none⟩ = _ from by rw [show ((c + 1 : Nat) : Int) = (c : Int) + 1 from by omega]; exact ksame hc5)]; omega⟩
        · have HM1 := Lib.hid (show Mach n R B N m M0 w la r lc (c + 1) L o M Wd from ⟨HMd.out.row, HMd.out.lay, HMd.out.rrf.skip hcm (fun i h1 h2 => by have := hz (i - r) (by have := HQ.out; omega); rwa [show r + (i - r) = i from by omega] at this), HMd.out.sol, HMd.out.apt⟩)
          clear hz
          go_wp2_with fail
          go_step3
          exact ⟨⟨.inr rfl, la, r, lc, c, L, o, M, _, _, _, _, _, _, _, _, _, _, _, _, _, _, _, _, _, _, _, _, _, _, _, _, _, _, _, _, _, _, _, _, _, _, _, _, _, _, _, _, _, _, _, _, _, _, _, rfl, hcd, hfd, fun _ => hcm, HM1.out⟩, by simp only [stepsLeft, colOf_is hcd, colOf_is hcell]; omega⟩
  case pass1 =>
    rintro a' W ⟨-, la, r, lc, c, L, o, M, u7, u8, u9, u10, u11, u12, u13, u14, u15, u16, u17, u18, u19, u20, u21, u22, u23, u24, u25, u26, u27, u28, u29, u30, u31, u32, u33, u34, u35, u36, u37, u38, u39, u40, u41, u42, u43, u44, u45, u46, u47, u48, u49, u50, u51, u52, u53, rfl, hcell, hfz, hlt, hM⟩
    have rN := hM.rrf.rN
    have cm := hM.rrf.cm
    have hsW := hM.apt.size
    have hlRW := hM.lay.lt hN0 hm0
    have hCl := World.block_lt_of_cell? W ⟨w.heap.size, 0, none⟩ hcell
    simp only at hCl
    have hcm := hlt rfl
    clear hlt
    have HM := Lib.hid hM
    clear hM
    have hwc : IntKind.i64.wrap ((c : Int) + 1) = (c : Int) + 1 := wrapI _ (by omega)
    go_wp2_with fail
    go_step3
    exact ⟨⟨.inl rfl, la, r, lc, c + 1, L, o, M, _, _, _, _, _, _, _, _, _, _, _, _, _, _, _, _, _, _, _, _, _, _, _, _, _, _, _, _, _, _, _, _, _, _, _, _, _, _, _, _, _, _, _, _, _, _, _, rfl, by rw [show ((c + 1 : Nat) : Int) = (c : Int) + 1 from by omega]; exact ksame hcell, fset hfz, fun h => by omega, HM.out.setCol hlRB.1 hlRB.2 _⟩, by simp only [stepsLeft, colOf_is hcell, colOf_is (c := c + 1) (show (W.setCell ⟨w.heap.size, 0, none⟩ (.int .i64 ((c : Int) + 1))).cell? ⟨w.heap.size, 0, none⟩ = _ from by rw [show ((c + 1 : Nat) : Int) = (c : Int) + 1 from by omega]; exact ksame hcell)]; omega⟩

end Go.Proofs.Ytmpgpmcmhbpjeaa
