/-
  impl.coefficientsAfter, impl.coefficients.
-/
import Derived.Test.YtinfjbaloppgkaaCoefMath
import Derived.Test.YtinfjbaloppgkaaImplRest
import Derived.Test.YtinfjbaloppgkaaSpecValues
import Derived.OwnWalk
namespace Go.Proofs.Ytinfjbaloppgkaa
open Go.RowKit

theorem made_tab (m : Nat) : (madeCells #[Value.int .i64 0] m).toList = ints (tab m fun _ => 0) := by
  simp [madeCells, ints, tab, Nat.mod_one]
theorem small31 {p x : Int} (hp : isP p = true) (h : 0 ≤ x ∧ x < p) : 0 ≤ x ∧ x ≤ 31 := by have := isP_range hp; omega

set_option maxRecDepth 20000 in
set_option maxHeartbeats 8000000 in
theorem implAfter_any (p : Int) (f g : Nat → Int) (la lb b0 : Nat) (vb va : Value) (w : World) (hp : isP p = true) (hf : ∀ i, 0 ≤ f i ∧ f i ≤ 31) (hg : ∀ i, 0 ≤ g i ∧ g i ≤ 31) (h1 : 1 ≤ la) (h2 : 1 ≤ lb) (h3 : lb ≤ la + 1) (h4 : la ≤ 60)
    (hA : w.ownsRow b0 2 1 va la (ints (tab la g))) (hBf : w.ownsRow b0 2 1 vb lb (ints (tab lb f))) :
    Calls Try.prog 86 #[.int .i64 p, vb, va] w fun e w' => OwnList p (tab (la + 1) fun i => s2 g f la lb i % p) w e w' := by
  have hr := isP_range hp
  obtain ⟨i0, hi, hz0, hz1, hz2⟩ := info_parts infoInt1
  rcases own_ways hA with ⟨h0, _⟩ | ⟨_, gA, cA, rfl, hgA1, hgA2, _⟩
  · omega
  rcases own_ways hBf with ⟨h0, _⟩ | ⟨_, gB, cB, rfl, hgB1, hgB2, _⟩
  · omega
  have HA := Lib.hid hA
  have HBf := Lib.hid hBf
  clear hA hBf
  obtain ⟨m, hm⟩ : ∃ m, m = la + 1 := ⟨_, rfl⟩
  have HM := Lib.hid hm
  have hmi : (la : Int) + 1 = (m : Int) := by omega
  have hm61 : m ≤ 61 := by omega
  rw [← hm]
  clear hm
  go_enter Try.func86, Try.ntmps86
  go_wp2_with (at_make; refine wpList_make_full _ rfl _ _ 25 rfl w.heap.size 2 i0 (.int .i64 0) 1 Try.underlying25 hi hz0 hz1 .i64 .i64 _ _ m rfl rfl (by omega) (by omega) (by rw [hz2]; omega) (by unfold maxLen; omega) (Nat.le_refl _) ?_)
  intro wm hom hgm
  rw [made_tab] at hom
  have hbm : Below w.heap.size w wm := (Below.refl _ _).grown hgm (Nat.le_refl _) (fun g hg => by cases hg)
  clear hgm
  have hz1 := hom.frozenAt 1
  have hc1 : wm.cell? ⟨w.heap.size, 1, none⟩ = some (.int .i64 0) := by rw [own_cell hom (j := 1) (by have := HM.out; omega), tab_getD _ (by have := HM.out; omega)]
  have hst := hom.stored 1 (.int .i64 2)
  rw [tab_step (g := s1 g 0) (fun i _ => by rw [s1_zero])] at hst
  have HO := Lib.hid hst.1
  have hb1 : Below w.heap.size w (wm.setCell ⟨w.heap.size, 1, none⟩ (.int .i64 2)) := hbm.setCell (Nat.le_refl _) _
  have HB1 := Lib.hid hb1
  have hidx1 : (1 : Int) < (m : Int) := by have := HM.out; omega
  clear hst hom hbm hb1
  go_wp2_with fail
  go_loopw [22] (fun i wr => ∃ k : Nat, k ≤ la ∧ i = .int .i64 k ∧ wr.ownsRow w.heap.size 2 1 (.slice (some ⟨w.heap.size, 0, none⟩) m m) m (ints (tab m (s1 g k))) ∧ Below w.heap.size w wr) (fun i _ => la - (intOf i).toNat)
  case' atStart => exact ⟨0, by omega, rfl, HO.out, HB1.out⟩
  case' round =>
    obtain ⟨k, hk, rfl, hown, hbel⟩ := hrel
    by_cases hlt : k < la
    · have hlt' : (k : Int) < (la : Int) := by omega
      have hia : (0 : Int) ≤ (k : Int) ∧ (k : Int) < (la : Int) := by omega
      have hib : (0 : Int) ≤ (k : Int) ∧ (k : Int) < (m : Int) := by have := HM.out; omega
      have hic : (0 : Int) ≤ (k : Int) + 1 ∧ (k : Int) + 1 < (m : Int) := by have := HM.out; omega
      have hcn : wr.cell? ⟨gA, k, none⟩ = some (.int .i64 (g k)) := by rw [cell_back hbel hgA2, own_cell HA.out (j := k) (by omega), tab_getD _ hlt]
      have hca : wr.cell? ⟨w.heap.size, k, none⟩ = some (.int .i64 (s1 g k k)) := by rw [own_cell hown (j := k) (by have := HM.out; omega), tab_getD _ (by have := HM.out; omega)]
      have hza := hown.frozenAt k
      have hst := hown.stored k (.int .i64 (s1 g k k + 2 * g k))
      rw [tab_step (g := fun i => if i = k then s1 g k k + 2 * g k else s1 g k i) (fun i _ => rfl)] at hst
      have hcb : (wr.setCell ⟨w.heap.size, k, none⟩ (.int .i64 (s1 g k k + 2 * g k))).cell? ⟨w.heap.size, k + 1, none⟩ = some (.int .i64 (s1 g k (k + 1))) := by
        rw [own_cell hst.1 (j := k + 1) (by have := HM.out; omega), tab_getD _ (by have := HM.out; omega), if_neg (by omega)]
      have hzb := hst.1.frozenAt (k + 1)
      have hst2 := hst.1.stored (k + 1) (.int .i64 (s1 g k (k + 1) - 4 * g k))
      rw [tab_step (g := s1 g (k + 1)) (fun i _ => by rw [s1_step, if_neg (show ¬ k + 1 = k by omega)])] at hst2
      have hb2 : Below w.heap.size w ((wr.setCell ⟨w.heap.size, k, none⟩ (.int .i64 (s1 g k k + 2 * g k))).setCell ⟨w.heap.size, k + 1, none⟩ (.int .i64 (s1 g k (k + 1) - 4 * g k))) := (hbel.setCell (Nat.le_refl _) _).setCell (Nat.le_refl _) _
      have r1 := s1_r hg k k
      have r2 := s1_r hg k (k + 1)
      have r3 := hg k
      have HO2 := Lib.hid hst2.1
      have HB2 := Lib.hid hb2
      clear hst hst2 hown hbel hb2
      obtain ⟨x, hx⟩ : ∃ x, x = s1 g k k := ⟨_, rfl⟩
      obtain ⟨y, hy⟩ : ∃ y, y = s1 g k (k + 1) := ⟨_, rfl⟩
      obtain ⟨z, hz⟩ : ∃ z, z = g k := ⟨_, rfl⟩
      rw [← hx, ← hz] at HO2 HB2 hcb hzb
      rw [← hy] at HO2 HB2 hcb
      rw [← hx] at hca r1
      rw [← hy] at r2
      rw [← hz] at hcn r3
      clear hx hy hz
      go_wp2_with fail
      go_roundw
      case rel => exact ⟨k + 1, by omega, by go_num, HO2.out, HB2.out⟩
      case measure => simp [intOf]; omega
    obtain rfl : k = la := by omega
    have hown1 : wr.ownsRow w.heap.size 2 1 (.slice (some ⟨w.heap.size, 0, none⟩) m m) m (ints (tab m (s2 g f k 0))) := by
      rw [tab_congr (g := s1 g k) (fun i _ => by unfold s2; rw [if_neg (by omega)]; omega)]; exact hown
    obtain ⟨w9, hw9⟩ : ∃ w9, w9 = wr := ⟨_, rfl⟩
    rw [← hw9] at hown1 hbel ⊢
    clear hw9 hown
    go_wp2_with fail
    go_loopw [47] (fun i wr => ∃ q : Nat, q ≤ lb ∧ i = .int .i64 q ∧ wr.ownsRow w.heap.size 2 1 (.slice (some ⟨w.heap.size, 0, none⟩) m m) m (ints (tab m (s2 g f k q))) ∧ Below w.heap.size w wr) (fun i _ => lb - (intOf i).toNat)
    case' atStart => exact ⟨0, by omega, rfl, hown1, hbel⟩
    case' round =>
      obtain ⟨q, hq, rfl, hown, hbel⟩ := hrel
      by_cases hlt : q < lb
      · have hlt' : (q : Int) < (lb : Int) := by omega
        have hia : (0 : Int) ≤ (q : Int) ∧ (q : Int) < (lb : Int) := by omega
        have hib : (0 : Int) ≤ (q : Int) ∧ (q : Int) < (m : Int) := by have := HM.out; omega
        have hcn : wr.cell? ⟨gB, q, none⟩ = some (.int .i64 (f q)) := by rw [cell_back hbel hgB2, own_cell HBf.out (j := q) (by omega), tab_getD _ hlt]
        have hca : wr.cell? ⟨w.heap.size, q, none⟩ = some (.int .i64 (s2 g f k q q)) := by rw [own_cell hown (j := q) (by have := HM.out; omega), tab_getD _ (by have := HM.out; omega)]
        have hza := hown.frozenAt q
        have hst := hown.stored q (.int .i64 (s2 g f k q q - f q))
        rw [tab_step (g := s2 g f k (q + 1)) (fun i _ => by rw [s2_step])] at hst
        have hb2 : Below w.heap.size w (wr.setCell ⟨w.heap.size, q, none⟩ (.int .i64 (s2 g f k q q - f q))) := hbel.setCell (Nat.le_refl _) _
        have r1 := s2_r hg hf k q q
        have r3 := hf q
        have HO2 := Lib.hid hst.1
        have HB2 := Lib.hid hb2
        clear hst hown hbel hb2
        obtain ⟨x, hx⟩ : ∃ x, x = s2 g f k q q := ⟨_, rfl⟩
        obtain ⟨z, hz⟩ : ∃ z, z = f q := ⟨_, rfl⟩
        rw [← hx, ← hz] at HO2 HB2
        rw [← hx] at hca r1
        rw [← hz] at hcn r3
        clear hx hz
        go_wp2_with fail
        go_roundw
        case rel => exact ⟨q + 1, by omega, by go_num, HO2.out, HB2.out⟩
        case measure => simp [intOf]; omega
      obtain rfl : q = lb := by omega
      have hown2 : wr.ownsRow w.heap.size 2 1 (.slice (some ⟨w.heap.size, 0, none⟩) m m) m (ints (tab m (s3 p (s2 g f k q) 0))) := by
        rw [tab_congr (g := s2 g f k q) (fun i _ => by unfold s3; rw [if_neg (by omega)])]; exact hown
      obtain ⟨w8, hw8⟩ : ∃ w8, w8 = wr := ⟨_, rfl⟩
      rw [← hw8] at hown2 hbel ⊢
      clear hw8 hown
      go_wp2_with fail
      go_loopw [62] (fun i wr => ∃ j : Nat, j ≤ m ∧ i = .int .i64 j ∧ wr.ownsRow w.heap.size 2 1 (.slice (some ⟨w.heap.size, 0, none⟩) m m) m (ints (tab m (s3 p (s2 g f k q) j))) ∧ Below w.heap.size w wr) (fun i _ => m - (intOf i).toNat)
      case' atStart => exact ⟨0, by omega, rfl, hown2, hbel⟩
      case' round =>
        obtain ⟨j, hj, rfl, hown, hbel⟩ := hrel
        by_cases hlt : j < m
        · have hlt' : (j : Int) < (m : Int) := by omega
          have hib : (0 : Int) ≤ (j : Int) ∧ (j : Int) < (m : Int) := by omega
          have hca : wr.cell? ⟨w.heap.size, j, none⟩ = some (.int .i64 (s2 g f k q j)) := by rw [own_cell hown (j := j) (by omega), tab_getD _ hlt, s3, if_neg (by omega)]
          have hza := hown.frozenAt j
          have hst := hown.stored j (.int .i64 (s2 g f k q j % p))
          rw [tab_step (g := s3 p (s2 g f k q) (j + 1)) (fun i _ => by rw [s3_step])] at hst
          have hb2 : Below w.heap.size w (wr.setCell ⟨w.heap.size, j, none⟩ (.int .i64 (s2 g f k q j % p))) := hbel.setCell (Nat.le_refl _) _
          have r1 := s2_r hg hf k q j
          have HO2 := Lib.hid hst.1
          have HB2 := Lib.hid hb2
          clear hst hown hbel hb2
          obtain ⟨x, hx⟩ : ∃ x, x = s2 g f k q j := ⟨_, rfl⟩
          rw [← hx] at HO2 HB2
          rw [← hx] at hca r1
          clear hx
          go_wp2_with (go_at_call 99; refine Calls.mono (rest_any _ _ _ (by omega) (by omega) (by omega) (by omega)) ?_; rintro e w' ⟨rfl, rfl⟩)
          go_roundw
          case rel => exact ⟨j + 1, by omega, by go_num, HO2.out, HB2.out⟩
          case measure => simp [intOf]; omega
        obtain rfl : j = m := by omega
        have HE := Lib.hid (tab_congr (n := j) (f := s3 p (s2 g f k q) j) (g := fun i => s2 g f k q i % p) (fun i hi => by unfold s3; rw [if_pos hi]))
        go_wp2
        (refine bodyPost_ret (v := .slice (some ⟨w.heap.size, 0, none⟩) j j) (by simp [results, Try.results86, go_sem]) rfl (ownList_mk (by rw [← HE.out]; exact hown) hbel))

theorem cfp_31 {p : Int} (hp : isP p = true) (j : Nat) : (∀ i, 0 ≤ (cfp p j).1 i ∧ (cfp p j).1 i ≤ 31) ∧ (∀ i, 0 ≤ (cfp p j).2 i ∧ (cfp p j).2 i ≤ 31) :=
  ⟨fun i => small31 hp (cfp_r hp j i).1, fun i => small31 hp (cfp_r hp j i).2⟩

set_option maxRecDepth 20000 in
set_option maxHeartbeats 2000000 in
theorem implCoef_any (p n : Int) (w : World) (hp : isP p = true) (hn : 0 ≤ n) (hn2 : n ≤ 40) :
    Calls Try.prog 53 #[.int .i64 p, .int .i64 n] w fun e w' => OwnList p (coL p n.toNat) w e w' := by
  have hr := isP_range hp
  obtain ⟨N, rfl⟩ := Int.eq_ofNat_of_zero_le hn
  rw [Int.toNat_natCast]
  go_enter Try.func53, Try.ntmps53
  go_wp2_with fail
  have hA0 : ((w.alloc (.cells #[.int .i64 0] 2)).alloc (.cells #[.int .i64 0, .int .i64 1] 2)).ownsRow w.heap.size 2 1 (.slice (some ⟨w.heap.size, 0, none⟩) 1 1) 1 (ints (tab 1 (cfp p 0).1)) :=
    own_call (own_lit (cs := [0]) (Nat.le_refl _) rfl (by decide) rfl) ((Below.refl _ _).alloc (Nat.le_refl _) _)
  have hB0 : ((w.alloc (.cells #[.int .i64 0] 2)).alloc (.cells #[.int .i64 0, .int .i64 1] 2)).ownsRow w.heap.size 2 1 (.slice (some ⟨w.heap.size + 1, 0, none⟩) 2 2) 2 (ints (tab 2 (cfp p 0).2)) :=
    own_lit (cs := [0, 1]) (by simp) (by simp) (by decide) rfl
  have hb0 : Below w.heap.size w ((w.alloc (.cells #[.int .i64 0] 2)).alloc (.cells #[.int .i64 0, .int .i64 1] 2)) := ((Below.refl _ _).alloc (Nat.le_refl _) _).alloc (by simp) _
  go_loopw [5, 6, 10] (fun u v i wr => ∃ j : Nat, j ≤ N ∧ i = .int .i64 j ∧ wr.ownsRow w.heap.size 2 1 u (j + 1) (ints (tab (j + 1) (cfp p j).1)) ∧ wr.ownsRow w.heap.size 2 1 v (j + 2) (ints (tab (j + 2) (cfp p j).2)) ∧ Below w.heap.size w wr) (fun _ _ i _ => N - (intOf i).toNat)
  case atStart => exact ⟨0, by omega, rfl, hA0, hB0, hb0⟩
  case round =>
    obtain ⟨j, hj, rfl, hu, hv, hbel⟩ := hrel
    by_cases hlt : j < N
    · have hlt' : (j : Int) < (N : Int) := by omega
      have HT := Lib.hid (tab_congr (n := j + 2 + 1) (g := (cfp p (j + 1)).2) (fun i _ => s2_next p j i))
      have hcall := fun va vb w' => implAfter_any p (cfp p j).1 (cfp p j).2 (j + 2) (j + 1) w.heap.size vb va w' hp (cfp_31 hp j).1 (cfp_31 hp j).2 (by omega) (by omega) (by omega) (by omega)
      go_wp2_with fail
      refine Calls.mono (hcall _ _ _ hv hu) ?_
      rintro e w1 ⟨v1, n1, rfl, ho1, hB1⟩
      clear hcall
      obtain rfl : n1 = j + 2 + 1 := by have h := ho1.1; rw [ints_length, tab_length, Nat.mul_one] at h; exact h.symm
      rw [HT.out] at ho1
      have hv1 := own_call hv hB1
      have ho2 := own_base ho1 hbel.size
      have hb1 := bthen hbel hB1
      clear hu hv ho1 hB1 hbel
      go_wp2
      go_roundw
      case rel => exact ⟨j + 1, by omega, by go_num, hv1, ho2, hb1⟩
      case measure => simp [intOf]; omega
    · obtain rfl : j = N := by omega
      go_wp2
      (refine bodyPost_ret (v := u5) (by simp [results, Try.results53, go_sem]) rfl (ownList_mk hu hbel))

end Go.Proofs.Ytinfjbaloppgkaa
