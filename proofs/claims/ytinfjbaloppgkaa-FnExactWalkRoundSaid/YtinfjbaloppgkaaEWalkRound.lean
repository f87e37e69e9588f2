/-
  WalkRound: the program's and the model's.
-/
import Derived.Test.YtinfjbaloppgkaaSpecCode5
import Derived.Test.YtinfjbaloppgkaaDoorA
import Derived.Test.YtinfjbaloppgkaaCWalkRound
import Derived.OwnWalk
namespace Go.Proofs.Ytinfjbaloppgkaa
open Go.RowKit

def yWRC (p n s : Int) : Int := codeOf p (inB n 0 1000 && numsIn p [s])
def yWRV1 (p n s : Int) : Int := if codeOf p (inB n 0 1000 && numsIn p [s]) = 0 then (tlN p n s : Int) else 0
def yWRV2 (p n s : Int) : Int := if codeOf p (inB n 0 1000 && numsIn p [s]) = 0 then (rpN p n s : Int) - tlN p n s else 0
theorem yWR_good {p n s : Int} (h : codeOf p (inB n 0 1000 && numsIn p [s]) = 0) : yWRV1 p n s = (tlN p n s : Int) ∧ yWRV2 p n s = (rpN p n s : Int) - tlN p n s ∧ yWRC p n s = 0 := ⟨if_pos h, if_pos h, h⟩
theorem yWR_bad {p n s c : Int} (h : codeOf p (inB n 0 1000 && numsIn p [s]) = c) (hc : c ≠ 0) : yWRV1 p n s = 0 ∧ yWRV2 p n s = 0 ∧ yWRC p n s = c :=
  ⟨if_neg (fun e => hc (h.symm.trans e)), if_neg (fun e => hc (h.symm.trans e)), h⟩
theorem yWR_turn (p n s : Int) : codeOf p (numsIn p [s] && inB n 0 1000) = codeOf p (inB n 0 1000 && numsIn p [s]) := by congr 1; rw [Bool.and_comm]
theorem made_ints (m : Nat) : (madeCells #[Value.int .i64 0] m).toList = ints (List.replicate m 0) := by
  simp [madeCells, ints, Nat.mod_one, List.map_const']
theorem ints_set (L : List Int) (i : Nat) (x : Int) : (ints L).set i (.int .i64 x) = ints (L.set i x) := by simp [ints, List.map_set]
theorem fill_set {j m : Nat} (h : j < m) : (ints (List.replicate j (-1) ++ List.replicate (m - j) 0)).set j (.int .i64 (-1)) = ints (List.replicate (j + 1) (-1) ++ List.replicate (m - (j + 1)) 0) := by
  obtain ⟨d, rfl⟩ : ∃ d, m = j + 1 + d := ⟨m - (j + 1), by omega⟩
  rw [show j + 1 + d - j = d + 1 by omega, show j + 1 + d - (j + 1) = d by omega, List.replicate_succ, ints_append, List.set_append_right _ _ (by simp [ints])]
  simp [ints, List.replicate_succ', List.append_assoc]

set_option linter.unusedSimpArgs false in
set_option linter.unusedVariables false in
set_option maxRecDepth 20000 in
set_option maxHeartbeats 4000000 in
theorem specWalkRound_any (p n s : Int) (w : World) :
    Calls Try.prog 38 #[.int .i64 p, .int .i64 n, .int .i64 s] w fun e w' => e = .returned (.tuple #[.int .i64 (yWRV1 p n s), .int .i64 (yWRV2 p n s), .int .i64 (yWRC p n s)]) ∧ Below w.heap.size w w' := by
  rcases code_cases p (inB n 0 1000 && numsIn p [s]) with ⟨h0, hp, hb⟩ | h1 | h1
  · have HV := Lib.hid (yWR_good h0)
    have hr := isP_range hp
    have hs := hb
    rw [Bool.and_eq_true] at hs
    have hn := inB_out hs.1
    obtain ⟨hs0, hs1⟩ := numsIn_one hs.2
    clear hs
    obtain ⟨ha, hbb, hc⟩ := rp_is (n := n) hp hs0 hs1
    obtain ⟨t1, t2⟩ := tl_is (n := n) hp hs0 hs1
    obtain ⟨J, hJ⟩ : ∃ J, J = rpN p n s := ⟨_, rfl⟩
    obtain ⟨t, ht⟩ : ∃ t, t = tlN p n s := ⟨_, rfl⟩
    rw [← hJ] at ha hbb hc t1 t2 HV
    rw [← ht] at t1 t2 HV
    clear hJ ht ha
    have HB := Lib.hid hbb
    clear hbb
    have HT := Lib.hid t2
    clear t2
    have hc0 : (p.toNat : Int) = p := Int.toNat_of_nonneg (by omega)
    have HC0 := Lib.hid hc0
    clear hc0
    obtain ⟨i0, hi, hz0, hz1, hz2⟩ := info_parts infoInt1
    go_enter Try.func38, Try.ntmps38
    go_wp2_with fail
    refine Calls.mono (code5_any _ _ _ _ _ _ [s] _ rfl (by simp) (by exact cells_at (by simp) [s] _)) ?_
    rintro e w' ⟨rfl, rfl⟩
    rw [yWR_turn, h0]
    go_wp2_with (at_make; refine wpList_make_full _ rfl _ _ 25 rfl w.heap.size 2 i0 (.int .i64 0) 1 Try.underlying25 hi hz0 hz1 .i64 .i64 p p p.toNat rfl rfl HC0.out.symm HC0.out.symm (by rw [hz2]; omega) (by unfold maxLen; omega) (by first | omega | (simp; done) | (simp; omega)) ?_)
    intro wm hom hgm
    rw [made_ints] at hom
    obtain ⟨m, hm⟩ : ∃ m, m = p.toNat := ⟨_, rfl⟩
    rw [← hm] at hom hc HC0 ⊢
    have hm31 : m ≤ 31 := by have := HC0.out; omega
    have hbm : Below w.heap.size w wm := ((Below.refl _ _).alloc (Nat.le_refl _) _).grown hgm (by simp) (fun g hg => by cases hg)
    clear hgm
    have HM := Lib.hid hm
    clear hm
    go_wp2_with fail
    go_loopw [25] (fun i wr => ∃ k : Nat, k ≤ m ∧ i = .int .i64 k ∧ wr.ownsRow w.heap.size 2 1 (.slice (some ⟨w.heap.size + 1, 0, none⟩) m m) m (ints (List.replicate k (-1) ++ List.replicate (m - k) 0)) ∧ Below w.heap.size w wr) (fun i _ => m - (intOf i).toNat)
    case' atStart => exact ⟨0, by omega, rfl, hom, hbm⟩
    case' round =>
      obtain ⟨k, hk, rfl, hown, hbel⟩ := hrel
      by_cases hlt : k < m
      · have hlt' : (k : Int) < (m : Int) := by omega
        have hidx : (0 : Int) ≤ (k : Int) ∧ (k : Int) < (m : Int) := by omega
        have hz := hown.frozenAt k
        have hcc := own_cell hown (j := k) (by omega)
        have hst := hown.stored k (.int .i64 (-1))
        rw [fill_set hlt] at hst
        have HO := Lib.hid hst.1
        have hb2 : Below w.heap.size w (wr.setCell ⟨w.heap.size + 1, k, none⟩ (.int .i64 (-1))) := hbel.setCell (by show w.heap.size ≤ w.heap.size + 1; omega) _
        have HBl := Lib.hid hb2
        clear hb2
        clear hst hown hbel
        go_wp2
        go_roundw
        case rel => exact ⟨k + 1, by omega, by go_num, HO.out, HBl.out⟩
        case measure => simp [intOf]; omega
      obtain rfl : k = m := by omega
      have hown0 : wr.ownsRow w.heap.size 2 1 (.slice (some ⟨w.heap.size + 1, 0, none⟩) k k) k (ints (metL p n s 0)) := by
        rw [show metL p n s 0 = List.replicate k (-1) ++ List.replicate (k - k) 0 by rw [Nat.sub_self]; simp [metL, HM.out]]
        exact hown
      obtain ⟨w9, hw9⟩ : ∃ w9, w9 = wr := ⟨_, rfl⟩
      rw [← hw9] at hown0 hbel ⊢
      clear hw9 hown
      go_wp2_with fail
      go_loopw [2, 12] (fun x i wr => ∃ j : Nat, j ≤ J ∧ x = .int .i64 (wk p n s j) ∧ i = .int .i64 j ∧ wr.ownsRow w.heap.size 2 1 (.slice (some ⟨w.heap.size + 1, 0, none⟩) k k) k (ints (metL p n s j)) ∧ Below w.heap.size w wr) (fun _ i _ => J - (intOf i).toNat)
      case' atStart => exact ⟨0, by omega, rfl, rfl, hown0, hbel⟩
      case' round =>
        obtain ⟨j, hj, rfl, rfl, hown, hbel⟩ := hrel
        have hx := wk_r (n := n) hp hs0 hs1 j
        have hcell := own_cell hown (j := (wk p n s j).toNat) (by have := HM.out; omega)
        by_cases hlt : j < J
        · rw [met_none hp hs0 hs1 hx.1 hx.2 j (fun i hi => rp_differ HB.out hi hlt)] at hcell
          have HX := Lib.hid (show wk p n s (j + 1) = sv p (wk p n s j) n.toNat from rfl)
          have HL := Lib.hid (show metL p n s (j + 1) = (metL p n s j).set (wk p n s j).toNat (j : Int) from rfl)
          obtain ⟨x, hxx⟩ : ∃ x, x = wk p n s j := ⟨_, rfl⟩
          rw [← hxx] at hx HX HL hcell ⊢
          clear hxx
          have hidx : (0 : Int) ≤ x ∧ x < (k : Int) := by have := HC0.out; omega
          have hz := hown.frozenAt x.toNat
          have hst := hown.stored x.toNat (.int .i64 (j : Int))
          rw [ints_set, ← HL.out] at hst
          have HO := Lib.hid hst.1
          have hb2 : Below w.heap.size w (wr.setCell ⟨w.heap.size + 1, x.toNat, none⟩ (.int .i64 (j : Int))) := hbel.setCell (by show w.heap.size ≤ w.heap.size + 1; omega) _
          clear hst hown hbel
          have HBl := Lib.hid hb2
          clear hb2
          go_wp2_with (go_at_call 43; refine Calls.mono (specValZ_any p x n _ hp hx.1 hx.2 hn.1 (by omega)) ?_; rintro e w' ⟨rfl, rfl⟩)
          go_roundw
          case rel => exact ⟨j + 1, by omega, by rw [HX.out], by go_num, HO.out, HBl.out⟩
          case measure => simp [intOf]; omega
        · obtain rfl : j = J := by omega
          rw [met_hit hp hs0 hs1 hx.1 hx.2 HT.out j t1 (fun i hi hw => tl_only HB.out t1 HT.out hi hw)] at hcell
          obtain ⟨x, hxx⟩ : ∃ x, x = wk p n s j := ⟨_, rfl⟩
          rw [← hxx] at hx hcell ⊢
          clear hxx
          have hidx : (0 : Int) ≤ x ∧ x < (k : Int) := by have := HC0.out; omega
          have ht31 : (t : Int) ≤ 31 := by have := HC0.out; omega
          have hj31 : (j : Int) ≤ 31 := by have := HC0.out; omega
          go_wp2_with fail
          have hw : IntKind.i64.wrap ((j : Int) - t) = (j : Int) - t := wrapI _ (by omega)
          go_region_held3 (fun W => W.cell? ⟨w.heap.size + 1, x.toNat, none⟩ = some (.int .i64 (t : Int))) (exact hcell) (fail)
          go_wp2
          (refine bodyPost_ret (v := .tuple #[.int .i64 (yWRV1 p n s), .int .i64 (yWRV2 p n s), .int .i64 (yWRC p n s)]) (by simp [results, Try.results38, go_sem, HV.out.1, HV.out.2.1, HV.out.2.2]) rfl ⟨?_, ?_⟩)
          · rfl
          · (repeat (first | with_reducible exact Below.refl _ _ | with_reducible exact hbel | with_reducible refine balloc ?_ _ | with_reducible refine bdrewN ?_ _ | with_reducible refine Below.drew ?_ | with_reducible refine bthen ?_ (by with_reducible assumption) | with_reducible refine Below.setCell ?_ (by first | (simp; done) | (simp; omega)) _))
  · have HV := Lib.hid (yWR_bad h1 (by decide))
    go_enter Try.func38, Try.ntmps38
    go_wp2_with fail
    refine Calls.mono (code5_any _ _ _ _ _ _ [s] _ rfl (by simp) (by exact cells_at (by simp) [s] _)) ?_
    rintro e w' ⟨rfl, rfl⟩
    rw [yWR_turn, h1]
    go_wp2
    (refine bodyPost_ret (v := .tuple #[.int .i64 (yWRV1 p n s), .int .i64 (yWRV2 p n s), .int .i64 (yWRC p n s)]) (by simp [results, Try.results38, go_sem, HV.out.1, HV.out.2.1, HV.out.2.2]) rfl ⟨?_, ?_⟩)
    · rfl
    · (repeat (first | with_reducible exact Below.refl _ _ | with_reducible refine balloc ?_ _ | with_reducible refine bdrewN ?_ _ | with_reducible refine Below.drew ?_ | with_reducible refine bthen ?_ (by with_reducible assumption) | with_reducible refine Below.setCell ?_ (by first | (simp; done) | (simp; omega)) _))
  · have HV := Lib.hid (yWR_bad h1 (by decide))
    go_enter Try.func38, Try.ntmps38
    go_wp2_with fail
    refine Calls.mono (code5_any _ _ _ _ _ _ [s] _ rfl (by simp) (by exact cells_at (by simp) [s] _)) ?_
    rintro e w' ⟨rfl, rfl⟩
    rw [yWR_turn, h1]
    go_wp2
    (refine bodyPost_ret (v := .tuple #[.int .i64 (yWRV1 p n s), .int .i64 (yWRV2 p n s), .int .i64 (yWRC p n s)]) (by simp [results, Try.results38, go_sem, HV.out.1, HV.out.2.1, HV.out.2.2]) rfl ⟨?_, ?_⟩)
    · rfl
    · (repeat (first | with_reducible exact Below.refl _ _ | with_reducible refine balloc ?_ _ | with_reducible refine bdrewN ?_ _ | with_reducible refine Below.drew ?_ | with_reducible refine bthen ?_ (by with_reducible assumption) | with_reducible refine Below.setCell ?_ (by first | (simp; done) | (simp; omega)) _))

set_option linter.unusedSimpArgs false in
set_option linter.unusedVariables false in
set_option maxRecDepth 20000 in
set_option maxHeartbeats 4000000 in
theorem implWalkRound_any (p n s : Int) (w : World) :
    Calls Try.prog 39 #[.int .i64 p, .int .i64 n, .int .i64 s] w fun e w' => e = .returned (.tuple #[.int .i64 (yWRV1 p n s), .int .i64 (yWRV2 p n s), .int .i64 (yWRC p n s)]) ∧ Below w.heap.size w w' := by
  have hmf : ∀ (fn : Fn) (first cap : Array Value) (w : World), (Instr.makeFunc fn first cap).run Try.prog w = .ok (.func fn first cap) w := fun _ _ _ _ => rfl
  have z0 : (((w.alloc (.cells #[.int .i64 p] 2)).alloc (.cells #[.int .i64 n] 2)).alloc (.cells #[.int .i64 s] 2)).cell? ⟨w.heap.size, 0, none⟩ = some (.int .i64 p) := kalloc _ (kalloc _ (kfresh rfl rfl))
  have z1 : (((w.alloc (.cells #[.int .i64 p] 2)).alloc (.cells #[.int .i64 n] 2)).alloc (.cells #[.int .i64 s] 2)).cell? ⟨w.heap.size + 1, 0, none⟩ = some (.int .i64 n) := kalloc _ (kfresh (by simp) rfl)
  have z2 : (((w.alloc (.cells #[.int .i64 p] 2)).alloc (.cells #[.int .i64 n] 2)).alloc (.cells #[.int .i64 s] 2)).cell? ⟨w.heap.size + 1 + 1, 0, none⟩ = some (.int .i64 s) := kfresh (by simp) rfl
  rcases code_cases p (inB n 0 1000 && numsIn p [s]) with ⟨h0, hp, hb⟩ | h1 | h1
  · have HV := Lib.hid (yWR_good h0)
    go_enter Try.func39, Try.ntmps39
    go_wp2_with fail
    refine Calls.mono (doorA_ok 75 #[.pointer (some ⟨w.heap.size, 0, none⟩), .pointer (some ⟨w.heap.size + 1, 0, none⟩), .pointer (some ⟨w.heap.size + 1 + 1, 0, none⟩)] (tlN p n s : Int) ((rpN p n s : Int) - tlN p n s) _ (fun _ => rfl) (fun W hW => cWalkRound_ok p n s _ _ _ W (kcall hW z0) (kcall hW z1) (kcall hW z2) h0)) ?_
    rintro e w1 ⟨rfl, hB⟩
    have r0 : (w1.alloc (.cells #[.int .i64 0, .int .i64 0] 62)).cell? ⟨w1.heap.size, 0, none⟩ = some (.int .i64 0) := kfresh rfl rfl
    have r1 : (w1.alloc (.cells #[.int .i64 0, .int .i64 0] 62)).cell? ⟨w1.heap.size, 1, none⟩ = some (.int .i64 0) := kfresh rfl rfl
    have f0 : (w1.alloc (.cells #[.int .i64 0, .int .i64 0] 62)).frozen? ⟨w1.heap.size, 0, none⟩ = false := fallocNew rfl
    have f1 : (w1.alloc (.cells #[.int .i64 0, .int .i64 0] 62)).frozen? ⟨w1.heap.size, 1, none⟩ = false := fallocNew rfl
    have c0 : (((w1.alloc (.cells #[.int .i64 0, .int .i64 0] 62)).setCell ⟨w1.heap.size, 0, none⟩ (.int .i64 (tlN p n s : Int))).setCell ⟨w1.heap.size, 1, none⟩ (.int .i64 ((rpN p n s : Int) - tlN p n s))).cell? ⟨w1.heap.size, 0, none⟩ = some (.int .i64 (tlN p n s : Int)) := (kset2 r0 r1).1
    have c1 : (((w1.alloc (.cells #[.int .i64 0, .int .i64 0] 62)).setCell ⟨w1.heap.size, 0, none⟩ (.int .i64 (tlN p n s : Int))).setCell ⟨w1.heap.size, 1, none⟩ (.int .i64 ((rpN p n s : Int) - tlN p n s))).cell? ⟨w1.heap.size, 1, none⟩ = some (.int .i64 ((rpN p n s : Int) - tlN p n s)) := (kset2 r0 r1).2
    go_wp2_with fail
    go_region_held3 (fun W => W.cell? ⟨w1.heap.size, 0, none⟩ = some (.int .i64 (tlN p n s : Int)) ∧ W.cell? ⟨w1.heap.size, 1, none⟩ = some (.int .i64 ((rpN p n s : Int) - tlN p n s))) (first | exact ⟨kdrew (kfresh rfl rfl), kdrew (kfresh rfl rfl)⟩ | exact ⟨c0, c1⟩) (fail)
    go_wp2
    (refine bodyPost_ret (v := .tuple #[.int .i64 (yWRV1 p n s), .int .i64 (yWRV2 p n s), .int .i64 (yWRC p n s)]) (by simp [results, Try.results39, go_sem, HV.out.1, HV.out.2.1, HV.out.2.2]) rfl ⟨?_, ?_⟩)
    · rfl
    · (repeat (first | with_reducible exact Below.refl _ _ | with_reducible exact hB | with_reducible refine balloc ?_ _ | with_reducible refine bdrewN ?_ _ | with_reducible refine Below.drew ?_ | with_reducible refine bthen ?_ (by with_reducible assumption) | with_reducible refine Below.setCell ?_ (by first | (simp; done) | (simp; omega)) _))
  · have HV := Lib.hid (yWR_bad h1 (by decide))
    go_enter Try.func39, Try.ntmps39
    go_wp2_with fail
    refine Calls.mono (doorA_no 75 #[.pointer (some ⟨w.heap.size, 0, none⟩), .pointer (some ⟨w.heap.size + 1, 0, none⟩), .pointer (some ⟨w.heap.size + 1 + 1, 0, none⟩)] 1 _ (fun _ => rfl) (fun W hW => cWalkRound_no p n s _ _ _ _ W (kcall hW z0) (kcall hW z1) (kcall hW z2) h1 (by decide))) ?_
    rintro e w1 ⟨rfl, hB⟩
    have r0 : (w1.alloc (.cells #[.int .i64 0, .int .i64 0] 62)).cell? ⟨w1.heap.size, 0, none⟩ = some (.int .i64 0) := kfresh rfl rfl
    have r1 : (w1.alloc (.cells #[.int .i64 0, .int .i64 0] 62)).cell? ⟨w1.heap.size, 1, none⟩ = some (.int .i64 0) := kfresh rfl rfl
    have f0 : (w1.alloc (.cells #[.int .i64 0, .int .i64 0] 62)).frozen? ⟨w1.heap.size, 0, none⟩ = false := fallocNew rfl
    have f1 : (w1.alloc (.cells #[.int .i64 0, .int .i64 0] 62)).frozen? ⟨w1.heap.size, 1, none⟩ = false := fallocNew rfl
    have c0 : (((w1.alloc (.cells #[.int .i64 0, .int .i64 0] 62)).setCell ⟨w1.heap.size, 0, none⟩ (.int .i64 0)).setCell ⟨w1.heap.size, 1, none⟩ (.int .i64 0)).cell? ⟨w1.heap.size, 0, none⟩ = some (.int .i64 0) := (kset2 r0 r1).1
    have c1 : (((w1.alloc (.cells #[.int .i64 0, .int .i64 0] 62)).setCell ⟨w1.heap.size, 0, none⟩ (.int .i64 0)).setCell ⟨w1.heap.size, 1, none⟩ (.int .i64 0)).cell? ⟨w1.heap.size, 1, none⟩ = some (.int .i64 0) := (kset2 r0 r1).2
    go_wp2_with fail
    go_region_held3 (fun W => W.cell? ⟨w1.heap.size, 0, none⟩ = some (.int .i64 0) ∧ W.cell? ⟨w1.heap.size, 1, none⟩ = some (.int .i64 0)) (first | exact ⟨kdrew (kfresh rfl rfl), kdrew (kfresh rfl rfl)⟩ | exact ⟨c0, c1⟩) (fail)
    go_wp2
    (refine bodyPost_ret (v := .tuple #[.int .i64 (yWRV1 p n s), .int .i64 (yWRV2 p n s), .int .i64 (yWRC p n s)]) (by simp [results, Try.results39, go_sem, HV.out.1, HV.out.2.1, HV.out.2.2]) rfl ⟨?_, ?_⟩)
    · rfl
    · (repeat (first | with_reducible exact Below.refl _ _ | with_reducible exact hB | with_reducible refine balloc ?_ _ | with_reducible refine bdrewN ?_ _ | with_reducible refine Below.drew ?_ | with_reducible refine bthen ?_ (by with_reducible assumption) | with_reducible refine Below.setCell ?_ (by first | (simp; done) | (simp; omega)) _))
  · have HV := Lib.hid (yWR_bad h1 (by decide))
    go_enter Try.func39, Try.ntmps39
    go_wp2_with fail
    refine Calls.mono (doorA_no 75 #[.pointer (some ⟨w.heap.size, 0, none⟩), .pointer (some ⟨w.heap.size + 1, 0, none⟩), .pointer (some ⟨w.heap.size + 1 + 1, 0, none⟩)] 2 _ (fun _ => rfl) (fun W hW => cWalkRound_no p n s _ _ _ _ W (kcall hW z0) (kcall hW z1) (kcall hW z2) h1 (by decide))) ?_
    rintro e w1 ⟨rfl, hB⟩
    have r0 : (w1.alloc (.cells #[.int .i64 0, .int .i64 0] 62)).cell? ⟨w1.heap.size, 0, none⟩ = some (.int .i64 0) := kfresh rfl rfl
    have r1 : (w1.alloc (.cells #[.int .i64 0, .int .i64 0] 62)).cell? ⟨w1.heap.size, 1, none⟩ = some (.int .i64 0) := kfresh rfl rfl
    have f0 : (w1.alloc (.cells #[.int .i64 0, .int .i64 0] 62)).frozen? ⟨w1.heap.size, 0, none⟩ = false := fallocNew rfl
    have f1 : (w1.alloc (.cells #[.int .i64 0, .int .i64 0] 62)).frozen? ⟨w1.heap.size, 1, none⟩ = false := fallocNew rfl
    have c0 : (((w1.alloc (.cells #[.int .i64 0, .int .i64 0] 62)).setCell ⟨w1.heap.size, 0, none⟩ (.int .i64 0)).setCell ⟨w1.heap.size, 1, none⟩ (.int .i64 0)).cell? ⟨w1.heap.size, 0, none⟩ = some (.int .i64 0) := (kset2 r0 r1).1
    have c1 : (((w1.alloc (.cells #[.int .i64 0, .int .i64 0] 62)).setCell ⟨w1.heap.size, 0, none⟩ (.int .i64 0)).setCell ⟨w1.heap.size, 1, none⟩ (.int .i64 0)).cell? ⟨w1.heap.size, 1, none⟩ = some (.int .i64 0) := (kset2 r0 r1).2
    go_wp2_with fail
    go_region_held3 (fun W => W.cell? ⟨w1.heap.size, 0, none⟩ = some (.int .i64 0) ∧ W.cell? ⟨w1.heap.size, 1, none⟩ = some (.int .i64 0)) (first | exact ⟨kdrew (kfresh rfl rfl), kdrew (kfresh rfl rfl)⟩ | exact ⟨c0, c1⟩) (fail)
    go_wp2
    (refine bodyPost_ret (v := .tuple #[.int .i64 (yWRV1 p n s), .int .i64 (yWRV2 p n s), .int .i64 (yWRC p n s)]) (by simp [results, Try.results39, go_sem, HV.out.1, HV.out.2.1, HV.out.2.2]) rfl ⟨?_, ?_⟩)
    · rfl
    · (repeat (first | with_reducible exact Below.refl _ _ | with_reducible exact hB | with_reducible refine balloc ?_ _ | with_reducible refine bdrewN ?_ _ | with_reducible refine Below.drew ?_ | with_reducible refine bthen ?_ (by with_reducible assumption) | with_reducible refine Below.setCell ?_ (by first | (simp; done) | (simp; omega)) _))

end Go.Proofs.Ytinfjbaloppgkaa
