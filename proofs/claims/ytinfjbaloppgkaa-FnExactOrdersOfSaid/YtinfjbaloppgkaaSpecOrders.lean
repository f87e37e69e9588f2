/-
  spec.OrdersOf on its good way: counts, and the two lists that they give.
-/
import Derived.Test.YtinfjbaloppgkaaOrdMath
import Derived.Test.YtinfjbaloppgkaaSpecCoef
namespace Go.Proofs.Ytinfjbaloppgkaa
open Go.RowKit

/-- Two slices in two blocks. -/
def TwoBlocks (v u : Value) : Prop := ∃ gv gu, v.ownBlock = some gv ∧ u.ownBlock = some gu ∧ gv ≠ gu

set_option linter.unusedSimpArgs false in
set_option linter.unusedVariables false in
set_option maxRecDepth 20000 in
set_option maxHeartbeats 8000000 in
theorem specOrders_good (p : Int) (w : World) (hp : isP p = true) :
    Calls Try.prog 34 #[.int .i64 p] w fun e w' => TwoPost 2 1 (orL p (4 * p.toNat + 4)) (nuL p (orL p (4 * p.toNat + 4))) 0 w e w' := by
  have hr := isP_range hp
  obtain ⟨i0, hi, hz0, hz1, hz2⟩ := info_parts infoInt1
  have hcode := codeOf_in hp (show true = true from rfl)
  have hord := fun s W h0 h1 => specOrd_any p s W hp h0 h1
  have hlt := fun s h0 h1 => ord_lt (s := s) hp h0 h1
  have hnn := fun k x => cnt_le p k x
  obtain ⟨q, hq⟩ : ∃ q, q = p.toNat := ⟨_, rfl⟩
  have hqp : p = (q : Int) := by omega
  have HY := fun (x : Nat) (h1 : 1 ≤ x) (h : 0 < cnt p q x) => (And.intro (orL_yes (p := p) h1 (by rw [← hq]; exact h)) (nuL_yes (p := p) h1 (by rw [← hq]; exact h)))
  have HN := fun (x : Nat) (h : ¬ 0 < cnt p q x) => orL_no (p := p) (x := x) (by rw [← hq]; exact h)
  rw [← hq] at hlt HY ⊢
  replace HY := Lib.hid HY
  replace HN := Lib.hid HN
  have HP := Lib.hid hqp
  clear hq hqp
  obtain ⟨M, hM⟩ : ∃ M, M = 4 * q + 4 := ⟨_, rfl⟩
  rw [← hM]
  rw [← hM] at hlt
  have HM := Lib.hid hM
  have e1 : IntKind.i64.wrap (4 * p) = 4 * p := wrapI _ (by omega)
  have hM200 : M ≤ 200 := by have := HP.out; omega
  have hpM : 4 * p + 4 = (M : Int) := by have := HP.out; omega
  have e2 : IntKind.i64.wrap (4 * p + 4) = (M : Int) := by rw [hpM]; exact wrapI _ (by omega)
  have HPM := Lib.hid hpM
  have hM4 : 4 ≤ M := by omega
  clear hM hpM
  go_enter Try.func34, Try.ntmps34
  go_wp2_with fail
  refine Calls.mono (numbers_nil _ _) ?_
  rintro e w' ⟨rfl, rfl⟩
  rw [hcode]
  go_wp2_with (at_make; refine wpList_make_full _ rfl _ _ 25 rfl w.heap.size 2 i0 (.int .i64 0) 1 Try.underlying25 hi hz0 hz1 .i64 .i64 _ _ M rfl rfl (by omega) (by omega) (by rw [hz2]; omega) (by unfold maxLen; omega) (Nat.le_refl _) ?_)
  intro w1 ho hgr
  rw [made_tab, tab_congr (g := cnt p 0) (fun i _ => (cnt_zero p i).symm)] at ho
  have hb1 : Below w.heap.size w w1 := (Below.refl _ _).grown hgr (Nat.le_refl _) (fun g hg => by cases hg)
  clear hgr
  go_wp2_with fail
  go_loopw [7] (fun i wr => ∃ k : Nat, (k : Int) ≤ p ∧ i = .int .i64 k ∧ wr.ownsRow w.heap.size 2 1 (.slice (some ⟨w.heap.size, 0, none⟩) M M) M (ints (tab M (cnt p k))) ∧ Below w.heap.size w wr) (fun i _ => q - (intOf i).toNat)
  case atStart => exact ⟨0, by omega, rfl, ho, hb1⟩
  case round =>
    obtain ⟨k, hk, rfl, hown, hbel⟩ := hrel
    by_cases hkp : (k : Int) < p
    · have hx := hlt (k : Int) (by omega) hkp
      have hcall := fun W => hord (k : Int) W (by omega) hkp
      have hs := cnt_step p k
      obtain ⟨x, hxe⟩ : ∃ x, x = ordN p (k : Int) := ⟨_, rfl⟩
      rw [← hxe] at hx hcall hs
      clear hxe
      have hc := hnn k x
      have hcell := own_cell hown (j := x) (by omega)
      rw [tab_getD _ hx] at hcell
      obtain ⟨c, hce⟩ : ∃ c, c = cnt p k x := ⟨_, rfl⟩
      have hst := hown.stored x (.int .i64 (c + 1))
      rw [tab_step (g := cnt p (k + 1)) (fun i _ => by rw [hs, hce])] at hst
      rw [← hce] at hcell hc
      have hfz := hown.frozenAt x
      have hb2 : Below w.heap.size w (wr.setCell ⟨w.heap.size, x, none⟩ (.int .i64 (c + 1))) := hbel.setCell (Nat.le_refl _) _
      have HO := Lib.hid (And.intro hst.1 hb2)
      have hidx : (0 : Int) ≤ (x : Int) ∧ (x : Int) < (M : Int) := by omega
      have hwc : IntKind.i64.wrap (c + 1) = c + 1 := wrapI _ (by omega)
      clear hst hown hbel hs hce
      go_wp2_with (go_at_call 61; refine Calls.mono (hcall _) ?_; rintro e w' ⟨rfl, rfl⟩)
      go_roundw
      case rel => exact ⟨k + 1, by omega, by go_num, HO.out.1, HO.out.2⟩
      case measure => have := HP.out; simp [intOf]; omega
    · have hkq : k = q := by have := HP.out; omega
      subst hkq
      have hcb : ∀ W, Below wr.heap.size wr W → ∀ x, x < M → W.cell? ⟨w.heap.size, x, none⟩ = some (.int .i64 (cnt p k x)) := fun W hW x hx => by
        rw [cell_back hW (hown.lt w.heap.size rfl).2 x, own_cell hown (j := x) (by omega), tab_getD _ hx]
      obtain ⟨wo, hwo⟩ : ∃ wo, wo = wr := ⟨_, rfl⟩
      rw [← hwo] at hcb hbel ⊢
      replace hcb := Lib.hid hcb
      clear hwo hown hcode hord hlt ho hb1
      go_wp2_with fail
      go_loopw [8, 9, 10] (fun v u i wr => ∃ x : Nat, 1 ≤ x ∧ x ≤ M ∧ i = .int .i64 x ∧ TwoBlocks v u ∧ wr.ownsRow wo.heap.size 2 1 v (orL p x).length (ints (orL p x)) ∧ wr.ownsRow wo.heap.size 2 1 u (orL p x).length (ints (nuL p (orL p x))) ∧ Below wo.heap.size wo wr) (fun _ _ i _ => M - (intOf i).toNat)
      case' atStart => exact ⟨1, by omega, by omega, rfl, ⟨_, _, rfl, rfl, by first | omega | (simp; done)⟩, by rw [orL_one]; exact (own_lit0 _ _ _ (Nat.le_refl _) rfl).alloc _, by rw [orL_one]; exact own_lit0 _ _ _ (by simp) (by simp), by (repeat (first | with_reducible exact Below.refl _ _ | with_reducible refine balloc ?_ _ | with_reducible refine bdrewN ?_ _ | with_reducible refine Below.drew ?_ | with_reducible refine bthen ?_ (by with_reducible assumption) | with_reducible refine Below.setCell ?_ (by first | (simp; done) | (simp; omega)) _))⟩
      case' round =>
        obtain ⟨x, hx1, hxm, rfl, hT, hv, hu, hb⟩ := hrel
        by_cases hlt : x < M
        · have hlt' : (x : Int) < (M : Int) := by omega
          have hidx : (0 : Int) ≤ (x : Int) ∧ (x : Int) < (M : Int) := by omega
          have hcell := hcb.out _ hb x hlt
          have hcr := hnn k x
          have hlen : (orL p x).length ≤ x := upTo_le _ x
          by_cases hc : 0 < cnt p k x
          · have HC := Lib.hid (HY.out x hx1 hc)
            obtain ⟨c, hce⟩ : ∃ c, c = cnt p k x := ⟨_, rfl⟩
            rw [← hce] at hcell hcr hc HC
            have HE := Lib.hid hce
            clear hce
            have hsz := hb.size
            go_wp2_with (at_builtin; refine wpList_append_own_at _ rfl _ _ 25 rfl wo.heap.size 2 i0 (.int .i64 0) 1 8 Try.underlying25 hi hz0 hz1 hz2 rfl (by decide) _ _ _ rfl (hv.alloc _) ⟨wr.heap.size, 0, none⟩ 1 1 [.int .i64 (x : Int)] rfl rfl (cell_one_new _ _ _) (int_oneCell _) (by unfold maxLen; omega) (by omega) (by simp; omega) ?_)
            intro v2 w2 hv2 hgr2 _ hloc2
            obtain ⟨gv, gu, hgv, hgu, hne⟩ := hT
            have hall2 := (World.grownBy_alloc wr _ _).trans hgr2
            have hu2 := hu.kept hall2 (.inr (by rw [hgu, hgv]; exact fun e => hne (Option.some.inj e).symm))
            have hbb2 : Below wo.heap.size wo w2 := hb.grown hall2 hsz (fun g hg => (hv.lt g hg).1)
            have hv3 := own_snoc hv2 (rfl : (orL p x).length + 1 = (orL p x).length + 1)
            have hv4 : w2.ownsRow wo.heap.size 2 1 v2 (orL p (x + 1)).length (ints (orL p (x + 1))) := by rw [HC.out.1, List.length_append]; exact hv3
            have hgul := hu.lt gu hgu
            obtain ⟨gv2, hgv2, hne2⟩ : ∃ gv2, v2.ownBlock = some gv2 ∧ gv2 ≠ gu := by
              rcases hloc2 with h | h
              · exact ⟨gv, h.trans hgv, hne⟩
              · exact ⟨_, h, by have := hgul.2; simp; omega⟩
            have hcell2 := hcb.out _ hbb2 x hlt
            rw [← HE.out] at hcell2
            have HT := Lib.hid (And.intro hgv2 (And.intro hgu hne2))
            clear hv hu hb hcell hgr2 hall2 hv2 hv3 hloc2 hgul hgv2 hgu hne2 hgv hne
            have hsz2 := hbb2.size
            go_wp2_with (at_builtin; refine wpList_append_own_at _ rfl _ _ 25 rfl wo.heap.size 2 i0 (.int .i64 0) 1 8 Try.underlying25 hi hz0 hz1 hz2 rfl (by decide) _ _ _ rfl (hu2.alloc _) ⟨w2.heap.size, 0, none⟩ 1 1 [.int .i64 c] rfl rfl (cell_one_new _ _ _) (int_oneCell _) (by unfold maxLen; omega) (by omega) (by simp; omega) ?_)
            intro u2 w3 hu3 hgr3 _ hloc3
            obtain ⟨hgv2, hgu, hne2⟩ := HT.out
            have hall3 := (World.grownBy_alloc w2 _ _).trans hgr3
            have hv5 := hv4.kept hall3 (.inr (by rw [hgu, hgv2]; exact fun e => hne2 (Option.some.inj e)))
            have hb3 : Below wo.heap.size wo w3 := hbb2.grown hall3 hsz2 (fun g hg => (hu2.lt g hg).1)
            have hu4 := own_snoc hu3 (rfl : (orL p x).length + 1 = (orL p x).length + 1)
            have hu5 : w3.ownsRow wo.heap.size 2 1 u2 (orL p (x + 1)).length (ints (nuL p (orL p (x + 1)))) := by rw [HC.out.2, HC.out.1, List.length_append]; exact hu4
            have hgvl := hv4.lt gv2 hgv2
            obtain ⟨gu2, hgu2, hne3⟩ : ∃ gu2, u2.ownBlock = some gu2 ∧ gv2 ≠ gu2 := by
              rcases hloc3 with h | h
              · exact ⟨gu, h.trans hgu, hne2⟩
              · exact ⟨_, h, by have := hgvl.2; simp; omega⟩
            have HO := Lib.hid (And.intro (⟨gv2, gu2, hgv2, hgu2, hne3⟩ : TwoBlocks v2 u2) (And.intro hv5 (And.intro hu5 hb3)))
            clear hv4 hv5 hu2 hu3 hu4 hu5 hgr3 hall3 hb3 hloc3 hgvl hgv2 hgu2 hgu hne2 hne3
            go_wp2
            go_roundw
            case rel => exact ⟨x + 1, by omega, by omega, by go_num, HO.out.1, HO.out.2.1, HO.out.2.2.1, HO.out.2.2.2⟩
            case measure => simp [intOf]; omega
          · have HC := Lib.hid (HN.out x (by omega))
            obtain ⟨c, hce⟩ : ∃ c, c = cnt p k x := ⟨_, rfl⟩
            rw [← hce] at hcell hcr hc
            clear hcb hnn HY HN hce
            go_wp2
            go_roundw
            case rel => exact ⟨x + 1, by omega, by omega, by go_num, hT, by rw [HC.out]; exact hv, by rw [HC.out]; exact hu, hb⟩
            case measure => simp [intOf]; omega
        · obtain rfl : x = M := by omega
          go_wp2
          (refine bodyPost_ret (v := .tuple #[u8, u9, .int .i64 0]) (by simp [results, Try.results34, go_sem]) rfl (twoPost_mk (own_base hv hbel.size) (own_base hu hbel.size) (bthen hbel hb)))

end Go.Proofs.Ytinfjbaloppgkaa
