/-
  impl.tailAndRound: a map from numbers to their first steps.
-/
import Derived.Test.YtinfjbaloppgkaaRoundMath
namespace Go.Proofs.Ytinfjbaloppgkaa
open Go.RowKit

theorem wfI {x : Int} (h : 0 ≤ x ∧ x ≤ 1000000) : (Lit.int .i64 x).wf = true := by
  simp only [Lit.wf, Bool.and_eq_true, decide_eq_true_eq]
  have hmin : IntKind.i64.min = -9223372036854775808 := rfl
  have hmax : IntKind.i64.max = 9223372036854775807 := rfl
  omega
theorem intLaw : Maps.Keyed Try.prog 2 := Maps.int_keyed Try.underlying2
theorem intKey {x p : Int} (hp : isP p = true) (h0 : 0 ≤ x) (h1 : x < p) : keyOf Try.prog 2 (.int .i64 x) = some (.int .i64 x) :=
  Maps.keyOf_int_mk Try.underlying2 (wfI (by have := isP_range hp; omega))
theorem zeroI (w : World) : (zeroValue 2).run Try.prog w = .ok (.int .i64 0) w := by
  first | kernel_rfl | (simp [zeroValue, go_sem])

set_option maxRecDepth 20000 in
set_option maxHeartbeats 4000000 in
theorem implRound_any (p n s : Int) (w : World) (hp : isP p = true) (hn : 0 ≤ n) (hn2 : n ≤ 1000) (hs0 : 0 ≤ s) (hs1 : s < p) :
    Calls Try.prog 76 #[.int .i64 p, .int .i64 n, .int .i64 s] w fun e w' => e = .returned (.agg #[.int .i64 (tlN p n s), .int .i64 ((rpN p n s : Int) - tlN p n s)]) ∧ Below w.heap.size w w' := by
  have hr := isP_range hp
  obtain ⟨ha, hb, hc⟩ := rp_is (n := n) hp hs0 hs1
  obtain ⟨t1, t2⟩ := tl_is (n := n) hp hs0 hs1
  obtain ⟨J, hJ⟩ : ∃ J, J = rpN p n s := ⟨_, rfl⟩
  obtain ⟨t, ht⟩ : ∃ t, t = tlN p n s := ⟨_, rfl⟩
  rw [← hJ] at ha hb hc t1 t2 ⊢
  rw [← ht] at t1 t2 ⊢
  clear hJ ht ha
  have HB := Lib.hid hb
  clear hb
  have HT := Lib.hid t2
  clear t2
  have hc0 : (p.toNat : Int) = p := Int.toNat_of_nonneg (by omega)
  have HC0 := Lib.hid hc0
  clear hc0
  have hmm := @run_makeMap Try.prog
  go_enter Try.func76, Try.ntmps76
  go_wp2_with fail
  have hb0 : Below w.heap.size w (w.alloc (.cells #[.int .i64 0, .int .i64 0] 62)) := (Below.refl _ _).alloc (Nat.le_refl _) _
  have hr0 : (w.alloc (.cells #[.int .i64 0, .int .i64 0] 62)).cell? ⟨w.heap.size, 0, none⟩ = some (.int .i64 0) := kfresh rfl rfl
  have hr1 : (w.alloc (.cells #[.int .i64 0, .int .i64 0] 62)).cell? ⟨w.heap.size, 1, none⟩ = some (.int .i64 0) := kfresh rfl rfl
  have hf0 : (w.alloc (.cells #[.int .i64 0, .int .i64 0] 62)).frozen? ⟨w.heap.size, 0, none⟩ = false := fallocNew rfl
  have hf1 : (w.alloc (.cells #[.int .i64 0, .int .i64 0] 62)).frozen? ⟨w.heap.size, 1, none⟩ = false := fallocNew rfl
  refine Calls.mono (valueList_any p n _ hp hn hn2) ?_
  rintro e w0 ⟨v0, n0, rfl, ho0, hB0⟩
  replace hr0 := kcall hB0 hr0
  replace hr1 := kcall hB0 hr1
  replace hf0 := kfro hB0 (by simp) hf0
  replace hf1 := kfro hB0 (by simp) hf1
  replace hb0 := bthen hb0 hB0
  have hsz0 : w.heap.size + 1 ≤ w0.heap.size := by have := hB0.size; simp at this; omega
  obtain rfl : n0 = p.toNat := by have h := ho0.1; rw [ints_length, valL_length, Nat.mul_one] at h; exact h.symm
  rcases own_ways ho0 with ⟨h0, _⟩ | ⟨_, g, cap, rfl, hg1, hg2, _⟩
  · omega
  clear hB0
  have HO := Lib.hid ho0
  have HR := Lib.hid (And.intro hr0 (And.intro hr1 (And.intro hf0 hf1)))
  clear ho0 hr0 hr1 hf0 hf1
  have hmade := World.ownsMap_made (H := Unit) w0 Try.prog 2 (Go.plainElem Try.prog 2)
  go_wp2_with fail
  go_loopw [2, 9] (fun x i wr => ∃ j : Nat, j ≤ J ∧ x = .int .i64 (wk p n s j) ∧ i = .int .i64 j ∧ wr.ownsMap Try.prog 2 (Go.plainElem Try.prog 2) w0.heap.size j (rdD p n s j) ∧ Below w0.heap.size w0 wr) (fun _ i _ => J - (intOf i).toNat)
  case atStart => exact ⟨0, by omega, rfl, rfl, hmade, (Below.refl _ _).alloc (Nat.le_refl _) _⟩
  case round =>
    obtain ⟨j, hj, rfl, rfl, hown, hbel⟩ := hrel
    have hx := wk_r (n := n) hp hs0 hs1 j
    have hkey := intKey hp hx.1 hx.2
    have HK := Lib.hid (intLaw.key hkey)
    by_cases hlt : j < J
    · have HN := Lib.hid (rd_none (x := wk p n s j) j fun i hi => rp_differ HB.out hi hlt)
      have HX := Lib.hid (show wk p n s (j + 1) = sv p (wk p n s j) n.toNat from rfl)
      have HD := Lib.hid (show rdD p n s (j + 1) = (rdD p n s j).put (.int .i64 (wk p n s j)) (.lit (.int .i64 (j : Int))) from rfl)
      obtain ⟨x, hxx⟩ : ∃ x, x = wk p n s j := ⟨_, rfl⟩
      rw [← hxx] at hx HX HD hkey HN ⊢
      clear hxx HK
      go_wp2_with (first
        | (at_lookup; refine wpList_lookup_own_ok_int _ rfl _ _ 83 rfl 2 2 .i64 intLaw Try.underlying83 Try.underlying2 (zeroI _) w0.heap.size j _ rfl hown _ _ rfl hkey ?_; intro c hat hwc; rw [HN.out.1])
        | (at_mapUpdate; refine wpList_mapUpdate_own _ rfl _ _ _ 83 rfl 2 2 intLaw Try.underlying83 _ w0.heap.size j _ rfl hown (by unfold maxLen; omega) _ _ _ rfl rfl hkey _ [] (Go.plainElem_int Try.underlying2 (wfI (by omega))) ?_))
      intro w2 hown2 hgrow2
      have hb2 : Below w0.heap.size w0 w2 := hbel.grown hgrow2 hbel.size (fun g hg => by cases hg; exact Nat.le_refl _)
      have HN2 := Lib.hid (show w2.ownsMap Try.prog 2 (Go.plainElem Try.prog 2) w0.heap.size (j + 1) (rdD p n s (j + 1)) from by rw [HD.out]; exact hown2)
      have hcell : w2.cell? ⟨g, x.toNat, none⟩ = some (.int .i64 (sv p x n.toNat)) := by
        rw [cell_back hb2 hg2, own_cell HO.out (by have := HC0.out; omega), valL_at p n hx.1 hx.2]
      have hidx : (0 : Int) ≤ x ∧ x < (p.toNat : Int) := by have := HC0.out; omega
      clear hown hown2 hgrow2 hbel
      go_wp2
      go_roundw
      case rel => exact ⟨j + 1, by omega, by rw [HX.out], by go_num, HN2.out, hb2⟩
      case measure => simp [intOf]; omega
    · obtain rfl : j = J := by omega
      have HH := Lib.hid (rd_hit HK.out HT.out j t1 (fun i hi hw => tl_only HB.out t1 HT.out hi hw))
      obtain ⟨x, hxx⟩ : ∃ x, x = wk p n s j := ⟨_, rfl⟩
      rw [← hxx] at hx hkey HH ⊢
      clear hxx HK
      have k0 := (cell_old hbel (by omega : w.heap.size < w0.heap.size) 0).trans HR.out.1
      have k1 := (cell_old hbel (by omega : w.heap.size < w0.heap.size) 1).trans HR.out.2.1
      have f0 : wr.frozen? ⟨w.heap.size, 0, none⟩ = false := (hbel.frozen (p := ⟨w.heap.size, 0, none⟩) (by show w.heap.size < w0.heap.size; omega)).trans HR.out.2.2.1
      have f1 : wr.frozen? ⟨w.heap.size, 1, none⟩ = false := (hbel.frozen (p := ⟨w.heap.size, 1, none⟩) (by show w.heap.size < w0.heap.size; omega)).trans HR.out.2.2.2
      have hBw : Below w.heap.size w wr := bthen hb0 hbel
      have ht31 : (t : Int) ≤ 31 := by omega
      have hj31 : (j : Int) ≤ 31 := by omega
      go_wp2_with (at_lookup; refine wpList_lookup_own_ok_int _ rfl _ _ 83 rfl 2 2 .i64 intLaw Try.underlying83 Try.underlying2 (zeroI _) w0.heap.size j _ rfl hown _ _ rfl hkey ?_; intro c hat hwc; rw [HH.out.1]; rw [HH.out.2] at hat; injection hat with hat1; injection hat1 with _ hat2; subst hat2)
      have c0 : ((wr.setCell ⟨w.heap.size, 0, none⟩ (.int .i64 (t : Int))).setCell ⟨w.heap.size, 1, none⟩ (.int .i64 ((j : Int) - t))).cell? ⟨w.heap.size, 0, none⟩ = some (.int .i64 (t : Int)) := (kset2 k0 k1).1
      have c1 : ((wr.setCell ⟨w.heap.size, 0, none⟩ (.int .i64 (t : Int))).setCell ⟨w.heap.size, 1, none⟩ (.int .i64 ((j : Int) - t))).cell? ⟨w.heap.size, 1, none⟩ = some (.int .i64 ((j : Int) - t)) := (kset2 k0 k1).2
      (refine bodyPost_ret (v := .agg #[.int .i64 (t : Int), .int .i64 ((j : Int) - t)]) (by simp [results, Try.results76, go_sem, c0, c1]) rfl ⟨?_, ?_⟩)
      · rfl
      · exact (hBw.setCell (Nat.le_refl _) _).setCell (Nat.le_refl _) _

end Go.Proofs.Ytinfjbaloppgkaa
