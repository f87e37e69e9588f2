/-
  spec.IsPermutation on its good way: a list of bools tells which numbers have come.
-/
import Derived.Test.YtinfjbaloppgkaaImplPerm
import Derived.Test.YtinfjbaloppgkaaSpecCoef
namespace Go.Proofs.Ytinfjbaloppgkaa
open Go.RowKit

def bools (xs : List Bool) : List Value := xs.map Value.bool
theorem own_cellB {w : World} {base : Nat} {e : TypeId} {n g cap : Nat} {xs : List Bool} (h : w.ownsRow base e 1 (.slice (some ⟨g, 0, none⟩) n cap) n (bools xs)) {j : Nat} (hj : j < n) : w.cell? ⟨g, j, none⟩ = some (.bool (xs.getD j false)) := by
  rw [h.cellAt j (by omega)]
  have hl : xs.length = n := by have := h.1; simpa [bools] using this
  simp [bools, List.getElem?_eq_getElem (show j < xs.length by omega)]
theorem made_bools (m : Nat) : (madeCells #[Value.bool false] m).toList = bools (List.replicate m false) := by
  simp [madeCells, bools, Nat.mod_one, List.map_const']
theorem infoBool : (Try.prog.info? 4).map (fun i => (i.zero, i.size, i.bytes)) = some (some (.bool false), 1, 1) := by kernel_rfl
/-- Which numbers are among the first k. -/
def metB (zs : List Int) (m k : Nat) : List Bool := (List.range m).map fun x : Nat => (zs.take k).contains (x : Int)
theorem metB_zero (zs : List Int) (m : Nat) : metB zs m 0 = List.replicate m false := by simp [metB, List.map_const']
theorem metB_at (zs : List Int) {m k x : Nat} (h : x < m) : (metB zs m k).getD x false = (zs.take k).contains (x : Int) := by
  simp [metB, List.getD_eq_getElem?_getD, List.getElem?_map, List.getElem?_range h]
theorem take_more {zs : List Int} {k : Nat} (h : k < zs.length) : zs.take (k + 1) = zs.take k ++ [zs.getD k 0] := by
  rw [← List.take_append_getElem h]
  simp [List.getD_eq_getElem?_getD, List.getElem?_eq_getElem h]
theorem metB_step {zs : List Int} {m k x : Nat} (h : k < zs.length) (hx : zs.getD k 0 = (x : Int)) : (bools (metB zs m k)).set x (.bool true) = bools (metB zs m (k + 1)) := by
  rw [show (bools (metB zs m k)).set x (.bool true) = bools ((metB zs m k).set x true) by simp [bools, List.map_set]]
  congr 1
  apply List.ext_getElem
  · simp [metB]
  · intro i h1 h2
    rw [List.getElem_set]
    simp only [metB, List.getElem_map, List.getElem_range, take_more h, hx]
    by_cases e : x = i
    · subst e; simp
    · rw [if_neg e]
      have e2 : ¬ (i : Int) = (x : Int) := by omega
      simp [e2]
theorem nodup_more {zs : List Int} {k : Nat} (h : k < zs.length) (hn : (zs.take k).Nodup) (hc : (zs.take k).contains (zs.getD k 0) = false) : (zs.take (k + 1)).Nodup := by
  rw [take_more h, List.nodup_append]
  refine ⟨hn, by simp, ?_⟩
  intro a ha b hb e
  simp only [List.mem_singleton] at hb
  subst hb; subst e
  have : (zs.take k).contains (zs.getD k 0) = true := by simpa using ha
  rw [this] at hc; cases hc
theorem not_nodup {zs : List Int} {k : Nat} (h : k < zs.length) (hc : (zs.take k).contains (zs.getD k 0) = true) : ¬ zs.Nodup := by
  intro hn
  have h1 : (zs.take (k + 1)).Nodup := List.Sublist.nodup (List.take_sublist _ _) hn
  rw [take_more h, List.nodup_append] at h1
  have hm : zs.getD k 0 ∈ zs.take k := by simpa using hc
  exact h1.2.2 _ hm _ (by simp) rfl

set_option linter.unusedSimpArgs false in
set_option linter.unusedVariables false in
set_option maxRecDepth 20000 in
set_option maxHeartbeats 8000000 in
theorem specPerm_good (p n : Int) (w : World) (hp : isP p = true) (hn : 0 ≤ n) (hn2 : n ≤ 1000) :
    Calls Try.prog 40 #[.int .i64 p, .int .i64 n] w fun e w' => e = .returned (.tuple #[.bool (permB p n), .int .i64 0]) ∧ Below w.heap.size w w' := by
  have hr := isP_range hp
  have hb5 : inB n 0 1000 = true := inB_true (by omega)
  obtain ⟨i0, hi, hz0, hz1, hz2⟩ := info_parts infoBool
  have HV := fun x (h : x ∈ valL p n p.toNat) => valL_r hp h
  have HL := valL_length p n p.toNat
  have hvals := fun W => specValues_any p n W hp hn hn2
  have HP := Lib.hid (show permB p n = decide (valL p n p.toNat).Nodup from rfl)
  obtain ⟨zs, hzs⟩ : ∃ zs, zs = valL p n p.toNat := ⟨_, rfl⟩
  rw [← hzs] at HV HL hvals HP
  obtain ⟨m, rfl⟩ := Int.eq_ofNat_of_zero_le (show 0 ≤ p by omega)
  rw [Int.toNat_natCast] at HL
  have HL2 := Lib.hid HL
  have HV2 := Lib.hid HV
  have hm31 : m ≤ 31 := by omega
  have hm3 : 3 ≤ m := by omega
  have hwM : IntKind.i64.wrap (m : Int) = (m : Int) := wrapI _ (by omega)
  clear hzs HL HV
  go_enter Try.func40, Try.ntmps40
  go_wp2_with fail
  refine Calls.mono (code5_nil _ _ _) ?_
  rintro e w' ⟨rfl, rfl⟩
  rw [codeOf_in hp hb5]
  go_upto_region 4 with fail
  go_cut [7, 8] (fun s7 s8 wx => ∃ gz cz gm, s7 = .slice (some ⟨gz, 0, none⟩) m cz ∧ s8 = .slice (some ⟨gm, 0, none⟩) m m ∧ gz ≠ gm ∧ wx.ownsRow w.heap.size 2 1 (.slice (some ⟨gz, 0, none⟩) m cz) m (ints zs) ∧ wx.ownsRow w.heap.size 4 1 (.slice (some ⟨gm, 0, none⟩) m m) m (bools (metB zs m 0)) ∧ Below w.heap.size w wx)
  case first =>
    (refine wp_region_held_drew (S := (fun _ => True)) (by kernel_rfl) (by trivial) (fun hHeld => ?_))
    (refine wpAnyH_take (i := 0) (v := ?_) rfl (by kernel_rfl) (by kernel_rfl) (by kernel_rfl) (fun _ _ _ h => h) (Or.inl ⟨by rfl, ?_⟩) (by with_reducible assumption) ?_; rotate_left; (focus (intro wz hSw; (try dsimp only at hSw); go_simp; try with_reducible rfl)); try simp only [Act.put, List.getElem_toArray, List.getElem_cons_zero, List.getElem_cons_succ, List.setIfInBounds_toArray, List.set_cons_zero, List.set_cons_succ])
    (refine wpAnyH_take (i := 1) (v := ?_) rfl (by kernel_rfl) (by kernel_rfl) (by kernel_rfl) (fun _ _ _ h => h) (Or.inl ⟨by rfl, ?_⟩) (by with_reducible assumption) ?_; rotate_left; (focus (intro wz hSw; (try dsimp only at hSw); go_simp; try with_reducible rfl)); try simp only [Act.put, List.getElem_toArray, List.getElem_cons_zero, List.getElem_cons_succ, List.setIfInBounds_toArray, List.set_cons_zero, List.set_cons_succ])
    (refine wpAnyH_take (i := 3) (v := ?_) rfl (by kernel_rfl) (by kernel_rfl) (by kernel_rfl) (fun _ _ _ h => h) (Or.inl ⟨by rfl, ?_⟩) (by with_reducible assumption) ?_; rotate_left; (focus (intro wz hSw; (try dsimp only at hSw); go_simp; try with_reducible rfl)); try simp only [Act.put, List.getElem_toArray, List.getElem_cons_zero, List.getElem_cons_succ, List.setIfInBounds_toArray, List.set_cons_zero, List.set_cons_succ])
    refine wpAnyH_ready (rs := [2, 4]) (by kernel_rfl) (by simp) ?_
    refine AllReadyH.cons rfl (fun K hK => ?_) (AllReadyH.cons rfl (fun K hK => ?_) AllReadyH.nil)
    · go_simp
      refine Calls.mono (hvals _) ?_
      rintro e w1 ⟨v, nn, rfl, ho, hB⟩
      have hnn : nn = m := by have h := ho.1; rw [ints_length, HL2.out, Nat.mul_one] at h; exact h.symm
      subst hnn
      rcases own_ways ho with ⟨h0, _⟩ | ⟨_, gz, cz, rfl, hg1, hg2, _⟩
      · omega
      refine hK.out _ _ trivial (fun hHeld => ?_)
      clear hK K
      try simp only [Act.put, List.getElem_toArray, List.getElem_cons_zero, List.getElem_cons_succ, List.setIfInBounds_toArray, List.set_cons_zero, List.set_cons_succ]
      (refine wpAnyH_take (i := 5) (v := ?_) rfl (by kernel_rfl) (by kernel_rfl) (by kernel_rfl) (fun _ _ _ h => h) (Or.inl ⟨by rfl, ?_⟩) (by with_reducible assumption) ?_; rotate_left; (focus (intro wz hSw; (try dsimp only at hSw); go_simp; try with_reducible rfl)); try simp only [Act.put, List.getElem_toArray, List.getElem_cons_zero, List.getElem_cons_succ, List.setIfInBounds_toArray, List.set_cons_zero, List.set_cons_succ])
      refine wpAnyH_ready (rs := [4]) (by kernel_rfl) (by simp) ?_
      refine AllReadyH.cons rfl (fun K hK => ?_) AllReadyH.nil
      refine step_make rfl _ _ 67 rfl w.heap.size 4 i0 (.bool false) 1 Try.underlying67 hi hz0 hz1 .i64 .i64 nn ?e1 ?e2 (by rw [hz2]; omega) (by unfold maxLen; omega) (by have := hB.size; first | exact this | (simp at this; omega)) ?_
      case e1 => simp [Act.eval, hwM]
      case e2 => simp [Act.eval, hwM]
      intro w2 ho2 hgr2
      refine hK.out _ _ trivial (fun hHeld => ?_)
      clear hK K
      try simp only [Act.put, List.getElem_toArray, List.getElem_cons_zero, List.getElem_cons_succ, List.setIfInBounds_toArray, List.set_cons_zero, List.set_cons_succ]
      have hB1 : Below w.heap.size w w1 := by (repeat (first | with_reducible exact Below.refl _ _ | with_reducible exact hB | with_reducible refine balloc ?_ _ | with_reducible refine bdrewN ?_ _ | with_reducible refine Below.drew ?_ | with_reducible refine bthen ?_ (by with_reducible assumption) | with_reducible refine Below.setCell ?_ (by first | (simp; done) | (simp; omega)) _))
      have hb2 : Below w.heap.size w w2 := hB1.grown hgr2 hB1.size (fun g hg => by cases hg)
      have ho3 := own_base (ho.kept hgr2 (.inr (by simp [Value.ownBlock]))) (show w.heap.size ≤ _ by first | exact Nat.le_refl _ | (simp; done) | (simp; omega))
      (refine wpAnyH_take (i := 6) (v := ?_) rfl (by kernel_rfl) (by kernel_rfl) (by kernel_rfl) (fun _ _ _ h => h) (Or.inl ⟨by rfl, ?_⟩) (by with_reducible assumption) ?_; rotate_left; (focus (intro wz hSw; (try dsimp only at hSw); go_simp; try with_reducible rfl)); try simp only [Act.put, List.getElem_toArray, List.getElem_cons_zero, List.getElem_cons_succ, List.setIfInBounds_toArray, List.set_cons_zero, List.set_cons_succ])
      refine wpAnyH_done (by kernel_rfl) ?_ _
      rw [show (madeCells (Value.bool false).cells (nn * 1)).toList = bools (metB zs nn 0) from by rw [Nat.mul_one, metB_zero]; exact made_bools nn] at ho2
      go_wp2_with fail
      go_meet
      exact ⟨_, _, _, rfl, rfl, by omega, ho3, ho2, hb2⟩
    · refine step_make rfl _ _ 67 rfl w.heap.size 4 i0 (.bool false) 1 Try.underlying67 hi hz0 hz1 .i64 .i64 m ?e1 ?e2 (by rw [hz2]; omega) (by unfold maxLen; omega) (Nat.le_refl _) ?_
      case e1 => simp [Act.eval, hwM]
      case e2 => simp [Act.eval, hwM]
      intro w1 ho2 hgr2
      refine hK.out _ _ trivial (fun hHeld => ?_)
      clear hK K
      try simp only [Act.put, List.getElem_toArray, List.getElem_cons_zero, List.getElem_cons_succ, List.setIfInBounds_toArray, List.set_cons_zero, List.set_cons_succ]
      have hb1 : Below w.heap.size w w1 := Below.grown (w := w.drew) (Below.drew (Below.refl _ _)) hgr2 (Nat.le_refl _) (fun g hg => by cases hg)
      have hl1 : w.heap.size < w1.heap.size := (ho2.lt w.heap.size rfl).2
      refine wpAnyH_ready (rs := [2]) (by kernel_rfl) (by simp) ?_
      refine AllReadyH.cons rfl (fun K hK => ?_) AllReadyH.nil
      go_simp
      refine Calls.mono (hvals _) ?_
      rintro e w2 ⟨v, nn, rfl, ho, hB⟩
      have hnn : nn = m := by have h := ho.1; rw [ints_length, HL2.out, Nat.mul_one] at h; exact h.symm
      subst hnn
      rcases own_ways ho with ⟨h0, _⟩ | ⟨_, gz, cz, rfl, hg1, hg2, _⟩
      · omega
      refine hK.out _ _ trivial (fun hHeld => ?_)
      clear hK K
      try simp only [Act.put, List.getElem_toArray, List.getElem_cons_zero, List.getElem_cons_succ, List.setIfInBounds_toArray, List.set_cons_zero, List.set_cons_succ]
      (refine wpAnyH_take (i := 5) (v := ?_) rfl (by kernel_rfl) (by kernel_rfl) (by kernel_rfl) (fun _ _ _ h => h) (Or.inl ⟨by rfl, ?_⟩) (by with_reducible assumption) ?_; rotate_left; (focus (intro wz hSw; (try dsimp only at hSw); go_simp; try with_reducible rfl)); try simp only [Act.put, List.getElem_toArray, List.getElem_cons_zero, List.getElem_cons_succ, List.setIfInBounds_toArray, List.set_cons_zero, List.set_cons_succ])
      (refine wpAnyH_take (i := 6) (v := ?_) rfl (by kernel_rfl) (by kernel_rfl) (by kernel_rfl) (fun _ _ _ h => h) (Or.inl ⟨by rfl, ?_⟩) (by with_reducible assumption) ?_; rotate_left; (focus (intro wz hSw; (try dsimp only at hSw); go_simp; try with_reducible rfl)); try simp only [Act.put, List.getElem_toArray, List.getElem_cons_zero, List.getElem_cons_succ, List.setIfInBounds_toArray, List.set_cons_zero, List.set_cons_succ])
      refine wpAnyH_done (by kernel_rfl) ?_ _
      rw [show (madeCells (Value.bool false).cells (nn * 1)).toList = bools (metB zs nn 0) from by rw [Nat.mul_one, metB_zero]; exact made_bools nn] at ho2
      have ho3 := own_call ho2 hB
      have hb2 := bthen hb1 hB
      have hoz := own_base ho (Nat.le_of_lt hl1)
      go_wp2_with fail
      go_meet
      exact ⟨_, _, _, rfl, rfl, by omega, hoz, ho3, hb2⟩
  case rest =>
    obtain ⟨gz, cz, gm, rfl, rfl, hne, hoz, hom, hbc⟩ := hcut
    go_wp2_with fail
    go_loopw [9] (fun i wr => ∃ k : Nat, k ≤ m ∧ i = .int .i64 k ∧ (zs.take k).Nodup ∧ wr.ownsRow w.heap.size 2 1 (.slice (some ⟨gz, 0, none⟩) m cz) m (ints zs) ∧ wr.ownsRow w.heap.size 4 1 (.slice (some ⟨gm, 0, none⟩) m m) m (bools (metB zs m k)) ∧ Below w.heap.size w wr) (fun i _ => m - (intOf i).toNat)
    case atStart => exact ⟨0, by omega, rfl, by simp, hoz, hom, hbc⟩
    case round =>
      obtain ⟨k, hk, rfl, hnd, hoz, hom, hbel⟩ := hrel
      have hgm := hom.lt gm rfl
      by_cases hlt : k < m
      · have hidx : (0 : Int) ≤ (k : Int) ∧ (k : Int) < (m : Int) := by omega
        have hcz : wr.cell? ⟨gz, k, none⟩ = some (.int .i64 (zs.getD k 0)) := own_cell hoz (by omega)
        have hmem : zs.getD k 0 ∈ zs := by
          rw [List.getD_eq_getElem?_getD, List.getElem?_eq_getElem (by have := HL2.out; omega)]
          exact List.getElem_mem _
        have hxr := HV2.out _ hmem
        obtain ⟨x, hx⟩ := Int.eq_ofNat_of_zero_le hxr.1
        rw [hx] at hcz hxr
        have hxm : x < m := by omega
        have hidx2 : (0 : Int) ≤ (x : Int) ∧ (x : Int) < (m : Int) := by omega
        have hcm := own_cellB hom hxm
        rw [metB_at zs hxm] at hcm
        have HX := Lib.hid hx
        clear hx
        have hzm := hom.frozenAt x
        rcases bool_ways ((zs.take k).contains (x : Int)) with hc | hc
        · rw [hc] at hcm
          have hst := hom.stored x (.bool true)
          rw [metB_step (by have := HL2.out; omega) HX.out] at hst
          have hoz2 := hoz.kept hst.2 (.inr (by simp [Value.ownBlock, hne]))
          have hb2 : Below w.heap.size w (wr.setCell ⟨gm, x, none⟩ (.bool true)) := hbel.setCell hgm.1 _
          have hnd2 := nodup_more (by have := HL2.out; omega) hnd (by rw [HX.out]; exact hc)
          have HO := Lib.hid (And.intro hoz2 (And.intro hst.1 hb2))
          clear hst hoz hom hbel hoz2 hb2 hnd
          go_wp2_with fail
          go_roundw
          case rel => exact ⟨k + 1, by omega, by go_num, hnd2, HO.out.1, HO.out.2.1, HO.out.2.2⟩
          case measure => simp [intOf]; omega
        · rw [hc] at hcm
          have hnot := not_nodup (by have := HL2.out; omega) (by rw [HX.out]; exact hc : (zs.take k).contains (zs.getD k 0) = true)
          have HD := Lib.hid (show permB (m : Int) n = false from by rw [HP.out]; exact decide_eq_false hnot)
          clear hoz hom
          go_wp2
          (refine bodyPost_ret (v := .tuple #[.bool (permB m n), .int .i64 0]) (by simp [results, Try.results40, go_sem, HD.out]) rfl ⟨?_, ?_⟩)
          · rfl
          · exact hbel
      · obtain rfl : k = m := by omega
        have hnd2 : zs.Nodup := by rw [List.take_of_length_le (by have := HL2.out; omega)] at hnd; exact hnd
        have HD := Lib.hid (show permB (k : Int) n = true from by rw [HP.out]; exact decide_eq_true hnd2)
        clear hoz hom hnd hnd2
        go_wp2
        (refine bodyPost_ret (v := .tuple #[.bool (permB k n), .int .i64 0]) (by simp [results, Try.results40, go_sem, HD.out]) rfl ⟨?_, ?_⟩)
        · rfl
        · exact hbel

end Go.Proofs.Ytinfjbaloppgkaa
