/-
  impl.CoefficientsOf's work: it is refused, or it does its work.
-/
import Derived.Test.YtinfjbaloppgkaaPolyAt
import Derived.Test.YtinfjbaloppgkaaDemand
import Derived.Test.YtinfjbaloppgkaaImplNums
import Derived.Test.YtinfjbaloppgkaaImplCoef
import Derived.Deep.RegionHeld3
import Derived.Deep.DeepCutAuto
namespace Go.Proofs.Ytinfjbaloppgkaa
open Go.RowKit

set_option linter.unusedSimpArgs false in
set_option linter.unusedVariables false in
set_option maxRecDepth 20000 in
set_option maxHeartbeats 4000000 in
theorem cCoefficientsOf_no (p n c : Int) (b0 b1 : Nat) (w : World) (q0 : w.cell? ⟨b0, 0, none⟩ = some (.int .i64 p)) (q1 : w.cell? ⟨b1, 0, none⟩ = some (.int .i64 n))
    (h : codeOf p (inB n 0 40) = c) (hc : c ≠ 0) :
    Calls Try.prog 52 #[.pointer (some ⟨b0, 0, none⟩), .pointer (some ⟨b1, 0, none⟩)] w fun e w' => e = .panicked (refused c) ∧ Below w.heap.size w w' := by
  go_enter Try.func52, Try.ntmps52
  go_upto_region 1 with fail
  (refine wp_region_held_drew (S := (fun W => W.cell? ⟨b0, 0, none⟩ = some (.int .i64 p) ∧ W.cell? ⟨b1, 0, none⟩ = some (.int .i64 n))) (by kernel_rfl) (by exact ⟨q0, q1⟩) (fun hHeld => ?_))
  (refine wpAnyH_take (i := 0) (v := ?_) rfl (by kernel_rfl) (by kernel_rfl) (by kernel_rfl) (fun _ _ _ h => h) (Or.inl ⟨by rfl, ?_⟩) (by with_reducible assumption) ?_; rotate_left; (focus (intro wz hSw; (try dsimp only at hSw); go_simp; try with_reducible rfl)); try simp only [Act.put, List.getElem_toArray, List.getElem_cons_zero, List.getElem_cons_succ, List.setIfInBounds_toArray, List.set_cons_zero, List.set_cons_succ])
  (refine wpAnyH_take (i := 1) (v := ?_) rfl (by kernel_rfl) (by kernel_rfl) (by kernel_rfl) (fun _ _ _ h => h) (Or.inl ⟨by rfl, ?_⟩) (by with_reducible assumption) ?_; rotate_left; (focus (intro wz hSw; (try dsimp only at hSw); go_simp; try with_reducible rfl)); try simp only [Act.put, List.getElem_toArray, List.getElem_cons_zero, List.getElem_cons_succ, List.setIfInBounds_toArray, List.set_cons_zero, List.set_cons_succ])
  (refine wpAnyH_ready (rs := [2]) (by kernel_rfl) (by simp) ?_; refine AllReadyH.cons rfl (fun K hK => ?_) AllReadyH.nil; (go_simp; refine Calls.mono (between_any _ _ _ _) ?_; rintro e w' ⟨rfl, rfl⟩); refine hK.out _ _ (by with_reducible assumption) (fun hHeld => ?_); clear hK K; try simp only [Act.put, List.setIfInBounds_toArray, List.set_cons_zero, List.set_cons_succ])
  have hz : codeOf p (inB n 0 40) = c := h
  (refine wpAnyH_ready (rs := [3]) (by kernel_rfl) (by simp) ?_; refine AllReadyH.cons rfl (fun K hK => ?_) AllReadyH.nil; go_simp; refine Calls.mono (demand_no _ _ c _ hz hc) ?_; rintro e w' ⟨rfl, rfl⟩)
  simp only [Exit.then]
  exact ⟨rfl, rfl, by (repeat (first | with_reducible exact Below.refl _ _ | with_reducible refine balloc ?_ _ | with_reducible refine bdrewN ?_ _ | with_reducible refine Below.drew ?_ | with_reducible refine bthen ?_ (by with_reducible assumption) | with_reducible refine Below.setCell ?_ (by first | (simp; done) | (simp; omega)) _))⟩

set_option linter.unusedSimpArgs false in
set_option linter.unusedVariables false in
set_option maxRecDepth 20000 in
set_option maxHeartbeats 4000000 in
theorem cCoefficientsOf_ok (p n : Int) (b0 b1 : Nat) (w : World) (q0 : w.cell? ⟨b0, 0, none⟩ = some (.int .i64 p)) (q1 : w.cell? ⟨b1, 0, none⟩ = some (.int .i64 n))
    (h : codeOf p (inB n 0 40) = 0) :
    Calls Try.prog 52 #[.pointer (some ⟨b0, 0, none⟩), .pointer (some ⟨b1, 0, none⟩)] w fun e w' => OwnList p (coL p n.toNat) w e w' := by
  have hall := code_good h
  have hp : isP p = true := hall.1
  have ht0 := hall.2
  have hn := inB_out ht0
  go_enter Try.func52, Try.ntmps52
  go_upto_region 1 with fail
  (refine wp_region_held_drew (S := (fun W => W.cell? ⟨b0, 0, none⟩ = some (.int .i64 p) ∧ W.cell? ⟨b1, 0, none⟩ = some (.int .i64 n))) (by kernel_rfl) (by exact ⟨q0, q1⟩) (fun hHeld => ?_))
  (refine wpAnyH_take (i := 0) (v := ?_) rfl (by kernel_rfl) (by kernel_rfl) (by kernel_rfl) (fun _ _ _ h => h) (Or.inl ⟨by rfl, ?_⟩) (by with_reducible assumption) ?_; rotate_left; (focus (intro wz hSw; (try dsimp only at hSw); go_simp; try with_reducible rfl)); try simp only [Act.put, List.getElem_toArray, List.getElem_cons_zero, List.getElem_cons_succ, List.setIfInBounds_toArray, List.set_cons_zero, List.set_cons_succ])
  (refine wpAnyH_take (i := 1) (v := ?_) rfl (by kernel_rfl) (by kernel_rfl) (by kernel_rfl) (fun _ _ _ h => h) (Or.inl ⟨by rfl, ?_⟩) (by with_reducible assumption) ?_; rotate_left; (focus (intro wz hSw; (try dsimp only at hSw); go_simp; try with_reducible rfl)); try simp only [Act.put, List.getElem_toArray, List.getElem_cons_zero, List.getElem_cons_succ, List.setIfInBounds_toArray, List.set_cons_zero, List.set_cons_succ])
  (refine wpAnyH_ready (rs := [2]) (by kernel_rfl) (by simp) ?_; refine AllReadyH.cons rfl (fun K hK => ?_) AllReadyH.nil; (go_simp; refine Calls.mono (between_any _ _ _ _) ?_; rintro e w' ⟨rfl, rfl⟩; rw [ht0]); refine hK.out _ _ (by with_reducible assumption) (fun hHeld => ?_); clear hK K; try simp only [Act.put, List.setIfInBounds_toArray, List.set_cons_zero, List.set_cons_succ])
  have hz : codeOf p true = 0 := codeOf_in hp rfl
  (refine wpAnyH_ready (rs := [3]) (by kernel_rfl) (by simp) ?_; refine AllReadyH.cons rfl (fun K hK => ?_) AllReadyH.nil; (go_simp; refine Calls.mono (demand_ok _ _ _ hz) ?_; rintro e w' ⟨rfl, rfl⟩); refine hK.out _ _ (by with_reducible assumption) (fun hHeld => ?_); clear hK K; try simp only [Act.put, List.setIfInBounds_toArray, List.set_cons_zero, List.set_cons_succ])
  refine wpAnyH_done (by kernel_rfl) ?_ _
  obtain ⟨k0, k1⟩ := hHeld
  go_wp2_with fail
  refine Calls.mono (implCoef_any p n _ hp (by omega) (by omega)) ?_
  rintro e w1 ⟨v, nn, rfl, ho, hB⟩
  go_wp2
  (refine bodyPost_ret (v := v) (by simp [results, Try.results52, go_sem]) rfl (ownList_mk (own_base ho (by first | exact Nat.le_refl _ | (simp; done) | (simp; omega))) ?_))
  (repeat (first | with_reducible exact Below.refl _ _ | with_reducible exact hB | with_reducible refine balloc ?_ _ | with_reducible refine bdrewN ?_ _ | with_reducible refine Below.drew ?_ | with_reducible refine bthen ?_ (by with_reducible assumption) | with_reducible refine Below.setCell ?_ (by first | (simp; done) | (simp; omega)) _))

end Go.Proofs.Ytinfjbaloppgkaa
