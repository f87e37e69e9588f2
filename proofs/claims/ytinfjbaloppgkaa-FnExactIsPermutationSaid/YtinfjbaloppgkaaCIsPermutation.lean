/-
  impl.IsPermutation's work: it is refused, or it does its work.
-/
import Derived.Test.YtinfjbaloppgkaaPolyAt
import Derived.Test.YtinfjbaloppgkaaDemand
import Derived.Test.YtinfjbaloppgkaaImplNums
import Derived.Test.YtinfjbaloppgkaaImplPerm
import Derived.Deep.RegionHeld3
import Derived.Deep.DeepCutAuto
namespace Go.Proofs.Ytinfjbaloppgkaa
open Go.RowKit
open Go.Sort (Holds)

set_option linter.unusedSimpArgs false in
set_option linter.unusedVariables false in
set_option maxRecDepth 20000 in
set_option maxHeartbeats 4000000 in
theorem cIsPermutation_no (p n c : Int) (b0 b1 : Nat) (w : World) (q0 : w.cell? ⟨b0, 0, none⟩ = some (.int .i64 p)) (q1 : w.cell? ⟨b1, 0, none⟩ = some (.int .i64 n))
    (h : codeOf p (inB n 0 1000) = c) (hc : c ≠ 0) :
    Calls Try.prog 78 #[.pointer (some ⟨b0, 0, none⟩), .pointer (some ⟨b1, 0, none⟩)] w fun e w' => e = .panicked (refused c) ∧ Below w.heap.size w w' := by
  go_enter Try.func78, Try.ntmps78
  go_upto_region 1 with fail
  (refine wp_region_held_drew (S := (fun W => W.cell? ⟨b0, 0, none⟩ = some (.int .i64 p) ∧ W.cell? ⟨b1, 0, none⟩ = some (.int .i64 n))) (by kernel_rfl) (by exact ⟨q0, q1⟩) (fun hHeld => ?_))
  (refine wpAnyH_take (i := 0) (v := ?_) rfl (by kernel_rfl) (by kernel_rfl) (by kernel_rfl) (fun _ _ _ h => h) (Or.inl ⟨by rfl, ?_⟩) (by with_reducible assumption) ?_; rotate_left; (focus (intro wz hSw; (try dsimp only at hSw); go_simp; try with_reducible rfl)); try simp only [Act.put, List.getElem_toArray, List.getElem_cons_zero, List.getElem_cons_succ, List.setIfInBounds_toArray, List.set_cons_zero, List.set_cons_succ])
  (refine wpAnyH_take (i := 1) (v := ?_) rfl (by kernel_rfl) (by kernel_rfl) (by kernel_rfl) (fun _ _ _ h => h) (Or.inl ⟨by rfl, ?_⟩) (by with_reducible assumption) ?_; rotate_left; (focus (intro wz hSw; (try dsimp only at hSw); go_simp; try with_reducible rfl)); try simp only [Act.put, List.getElem_toArray, List.getElem_cons_zero, List.getElem_cons_succ, List.setIfInBounds_toArray, List.set_cons_zero, List.set_cons_succ])
  (refine wpAnyH_ready (rs := [2]) (by kernel_rfl) (by simp) ?_; refine AllReadyH.cons rfl (fun K hK => ?_) AllReadyH.nil; (go_simp; refine Calls.mono (between_any _ _ _ _) ?_; rintro e w' ⟨rfl, rfl⟩); refine hK.out _ _ (by with_reducible assumption) (fun hHeld => ?_); clear hK K; try simp only [Act.put, List.setIfInBounds_toArray, List.set_cons_zero, List.set_cons_succ])
  have hz : codeOf p (inB n 0 1000) = c := h
  (refine wpAnyH_ready (rs := [3]) (by kernel_rfl) (by simp) ?_; refine AllReadyH.cons rfl (fun K hK => ?_) AllReadyH.nil; go_simp; refine Calls.mono (demand_no _ _ c _ hz hc) ?_; rintro e w' ⟨rfl, rfl⟩)
  simp only [Exit.then]
  exact ⟨rfl, rfl, by (repeat (first | with_reducible exact Below.refl _ _ | with_reducible refine balloc ?_ _ | with_reducible refine bdrewN ?_ _ | with_reducible refine Below.drew ?_ | with_reducible refine bthen ?_ (by with_reducible assumption) | with_reducible refine Below.setCell ?_ (by first | (simp; done) | (simp; omega)) _))⟩

set_option linter.unusedSimpArgs false in
set_option linter.unusedVariables false in
set_option maxRecDepth 20000 in
set_option maxHeartbeats 4000000 in
theorem cIsPermutation_ok (p n : Int) (b0 b1 : Nat) (w : World) (q0 : w.cell? ⟨b0, 0, none⟩ = some (.int .i64 p)) (q1 : w.cell? ⟨b1, 0, none⟩ = some (.int .i64 n))
    (h : codeOf p (inB n 0 1000) = 0) :
    Calls Try.prog 78 #[.pointer (some ⟨b0, 0, none⟩), .pointer (some ⟨b1, 0, none⟩)] w fun e w' => e = .returned (.bool (permB p n)) ∧ Below w.heap.size w w' := by
  have hall := code_good h
  have hp : isP p = true := hall.1
  have ht0 := hall.2
  have hn := inB_out ht0
  have hr := isP_range hp
  go_enter Try.func78, Try.ntmps78
  go_upto_region 1 with fail
  (refine wp_region_held_drew (S := (fun W => W.cell? ⟨b0, 0, none⟩ = some (.int .i64 p) ∧ W.cell? ⟨b1, 0, none⟩ = some (.int .i64 n))) (by kernel_rfl) (by exact ⟨q0, q1⟩) (fun hHeld => ?_))
  (refine wpAnyH_take (i := 0) (v := ?_) rfl (by kernel_rfl) (by kernel_rfl) (by kernel_rfl) (fun _ _ _ h => h) (Or.inl ⟨by rfl, ?_⟩) (by with_reducible assumption) ?_; rotate_left; (focus (intro wz hSw; (try dsimp only at hSw); go_simp; try with_reducible rfl)); try simp only [Act.put, List.getElem_toArray, List.getElem_cons_zero, List.getElem_cons_succ, List.setIfInBounds_toArray, List.set_cons_zero, List.set_cons_succ])
  (refine wpAnyH_take (i := 1) (v := ?_) rfl (by kernel_rfl) (by kernel_rfl) (by kernel_rfl) (fun _ _ _ h => h) (Or.inl ⟨by rfl, ?_⟩) (by with_reducible assumption) ?_; rotate_left; (focus (intro wz hSw; (try dsimp only at hSw); go_simp; try with_reducible rfl)); try simp only [Act.put, List.getElem_toArray, List.getElem_cons_zero, List.getElem_cons_succ, List.setIfInBounds_toArray, List.set_cons_zero, List.set_cons_succ])
  (refine wpAnyH_ready (rs := [2]) (by kernel_rfl) (by simp) ?_; refine AllReadyH.cons rfl (fun K hK => ?_) AllReadyH.nil; (go_simp; refine Calls.mono (between_any _ _ _ _) ?_; rintro e w' ⟨rfl, rfl⟩; rw [ht0]); refine hK.out _ _ (by with_reducible assumption) (fun hHeld => ?_); clear hK K; try simp only [Act.put, List.setIfInBounds_toArray, List.set_cons_zero, List.set_cons_succ])
  have hz : codeOf p true = 0 := codeOf_in hp rfl
  (refine wpAnyH_ready (rs := [3]) (by kernel_rfl) (by simp) ?_; refine AllReadyH.cons rfl (fun K hK => ?_) AllReadyH.nil; (go_simp; refine Calls.mono (demand_ok _ _ _ hz) ?_; rintro e w' ⟨rfl, rfl⟩); refine hK.out _ _ (by with_reducible assumption) (fun hHeld => ?_); clear hK K; try simp only [Act.put, List.setIfInBounds_toArray, List.set_cons_zero, List.set_cons_succ])
  refine wpAnyH_done (by kernel_rfl) ?_ _
  obtain ⟨k0, k1⟩ := hHeld
  have hl0 := World.block_lt_of_cell? _ ⟨b0, 0, none⟩ k0
  go_wp2_with fail
  refine Calls.mono (valueList_any p n _ hp (by omega) (by omega)) ?_
  rintro e w1 ⟨v, nn, rfl, ho, hB⟩
  have hnn : nn = p.toNat := by have h := ho.1; rw [ints_length, valL_length, Nat.mul_one] at h; exact h.symm
  subst hnn
  rcases own_ways ho with ⟨h0, _⟩ | ⟨_, g, cap, rfl, hg1, hg2, _⟩
  · omega
  obtain ⟨g', cap', hv', hbg, hgl, hncap, hcm, hlen, hH⟩ := Lib.holds_of_ownsRow (enc := Value.int .i64) ho (by simp)
  have hv2 : g = g' ∧ cap = cap' := by simpa using hv'
  obtain ⟨rfl, rfl⟩ := hv2
  clear hv'
  have hsort := sortI_any g cap (valL p n p.toNat) w1 hg2 hH (by rw [valL_length]; omega)
  rw [valL_length] at hsort
  have kk1 : w1.cell? ⟨b0, 0, none⟩ = some (.int .i64 p) := kcall hB k0
  have hlg : b0 < g := by first | (exact Nat.lt_of_lt_of_le hl0 hg1) | (simp at hg1 hl0; omega)
  have hBw : Below w.heap.size w w1 := by (repeat (first | with_reducible exact Below.refl _ _ | with_reducible exact hB | with_reducible refine balloc ?_ _ | with_reducible refine bdrewN ?_ _ | with_reducible refine Below.drew ?_ | with_reducible refine bthen ?_ (by with_reducible assumption) | with_reducible refine Below.setCell ?_ (by first | (simp; done) | (simp; omega)) _))
  have hgw : w.heap.size ≤ g := by first | exact hg1 | (simp at hg1; omega)
  have HP := Lib.hid (perm_len p n hp)
  have HZ := Lib.hid (And.intro ho (And.intro hH hlen))
  clear ho hH hlen hB
  go_wp2_with fail
  refine Calls.mono hsort ?_
  rintro e w2 ⟨rfl, hH2, hb2, hs2⟩
  clear hsort
  have kk2 : w2.cell? ⟨b0, 0, none⟩ = some (.int .i64 p) := (cell_old (hb2 g (Nat.le_refl _)) hlg 0).trans kk1
  have hcomp := fun W (h : Holds (Value.int .i64) W g 0 (srt (valL p n p.toNat)).toArray) => compactI_any g cap (srt (valL p n p.toNat)) W h (by rw [srt_length, valL_length]; omega) (by rw [srt_length, valL_length]; exact hncap)
  rw [srt_length, valL_length] at hcomp
  go_upto_region 4 with fail
  (refine wp_region_held_drew (S := (fun W => W.cell? ⟨b0, 0, none⟩ = some (.int .i64 p))) (by kernel_rfl) (by exact kk2) (fun hHeld => ?_))
  (refine wpAnyH_take (i := 0) (v := ?_) rfl (by kernel_rfl) (by kernel_rfl) (by kernel_rfl) (fun _ _ _ h => h) (Or.inl ⟨by rfl, ?_⟩) (by with_reducible assumption) ?_; rotate_left; (focus (intro wz hSw; (try dsimp only at hSw); go_simp; try with_reducible rfl)); try simp only [Act.put, List.getElem_toArray, List.getElem_cons_zero, List.getElem_cons_succ, List.setIfInBounds_toArray, List.set_cons_zero, List.set_cons_succ])
  (refine wpAnyH_take (i := 3) (v := ?_) rfl (by kernel_rfl) (by kernel_rfl) (by kernel_rfl) (fun _ _ _ h => h) (Or.inl ⟨by rfl, ?_⟩) (by with_reducible assumption) ?_; rotate_left; (focus (intro wz hSw; (try dsimp only at hSw); go_simp; try with_reducible rfl)); try simp only [Act.put, List.getElem_toArray, List.getElem_cons_zero, List.getElem_cons_succ, List.setIfInBounds_toArray, List.set_cons_zero, List.set_cons_succ])
  (refine wpAnyH_ready (rs := [1]) (by kernel_rfl) (by simp) ?_; refine AllReadyH.cons rfl (fun K hK => ?_) AllReadyH.nil; (go_simp; refine Calls.mono (hcomp _ hH2) ?_; rintro e w3 ⟨rfl, hb3⟩); refine hK.out _ _ (by exact (cell_old (hb3 g (Nat.le_refl _)) hlg 0).trans kk2) (fun hHeld => ?_); clear hK K; try simp only [Act.put, List.setIfInBounds_toArray, List.set_cons_zero, List.set_cons_succ])
  have hBf : Below w.heap.size w w3 := (hBw.trans (hb2 _ hgw)).trans (Below.trans (Below.drew (Below.refl _ _)) (hb3 _ hgw))
  clear hcomp hb2 hb3 hH2
  obtain ⟨q, hq⟩ : ∃ q, q = (Lib.compact (srt (valL p n p.toNat))).length := ⟨_, rfl⟩
  rw [← hq] at HP ⊢
  clear hq
  (refine wpAnyH_take (i := 2) (v := ?_) rfl (by kernel_rfl) (by kernel_rfl) (by kernel_rfl) (fun _ _ _ h => h) (Or.inl ⟨by rfl, ?_⟩) (by with_reducible assumption) ?_; rotate_left; (focus (intro wz hSw; (try dsimp only at hSw); go_simp; try with_reducible rfl)); try simp only [Act.put, List.getElem_toArray, List.getElem_cons_zero, List.getElem_cons_succ, List.setIfInBounds_toArray, List.set_cons_zero, List.set_cons_succ])
  (refine wpAnyH_take (i := 4) (v := ?_) rfl (by kernel_rfl) (by kernel_rfl) (by kernel_rfl) (fun _ _ _ h => h) (Or.inl ⟨by rfl, ?_⟩) (by with_reducible assumption) ?_; rotate_left; (focus (intro wz hSw; (try dsimp only at hSw); go_simp; try with_reducible rfl)); try simp only [Act.put, List.getElem_toArray, List.getElem_cons_zero, List.getElem_cons_succ, List.setIfInBounds_toArray, List.set_cons_zero, List.set_cons_succ])
  (refine wpAnyH_take (i := 5) (v := ?_) rfl (by kernel_rfl) (by kernel_rfl) (by kernel_rfl) (fun _ _ _ h => h) (Or.inl ⟨by rfl, ?_⟩) (by with_reducible assumption) ?_; rotate_left; (focus (intro wz hSw; (try dsimp only at hSw); go_simp; try with_reducible rfl)); try simp only [Act.put, List.getElem_toArray, List.getElem_cons_zero, List.getElem_cons_succ, List.setIfInBounds_toArray, List.set_cons_zero, List.set_cons_succ])
  refine wpAnyH_done (by kernel_rfl) ?_ _
  go_wp2
  go_ret
  exact ⟨by rw [← HP.out]; rfl, hBf⟩

end Go.Proofs.Ytinfjbaloppgkaa
