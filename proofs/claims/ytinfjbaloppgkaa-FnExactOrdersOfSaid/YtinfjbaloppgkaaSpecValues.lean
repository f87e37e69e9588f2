/-
  spec.l05Values, spec.l05Led: all values of a spread polynomial; the numbers that are led to a value.
-/
import Derived.Test.YtinfjbaloppgkaaValueList
import Derived.Test.YtinfjbaloppgkaaPolyZ
namespace Go.Proofs.Ytinfjbaloppgkaa
open Go.RowKit

theorem ownList_mk {p : Int} {L : List Int} {v : Value} {n : Nat} {w w' : World} (h : w'.ownsRow w.heap.size 2 1 v n (ints L)) (hb : Below w.heap.size w w') : OwnList p L w (.returned v) w' := ⟨v, n, rfl, h, hb⟩

set_option maxRecDepth 20000 in
set_option maxHeartbeats 2000000 in
theorem specValues_any (p n : Int) (w : World) (hp : isP p = true) (hn : 0 ≤ n) (hn2 : n ≤ 1000) :
    Calls Try.prog 54 #[.int .i64 p, .int .i64 n] w fun e w' => OwnList p (valL p n p.toNat) w e w' := by
  have hr := isP_range hp
  have hc0 : (p.toNat : Int) = p := Int.toNat_of_nonneg (by omega)
  have HC0 := Lib.hid hc0
  clear hc0
  obtain ⟨i0, hi, hz0, hz1, hz2⟩ := info_parts infoInt1
  go_enter Try.func54, Try.ntmps54
  go_wp2_with fail
  go_loopw [5, 6] (fun v i wr => ∃ k : Nat, (k : Int) ≤ p ∧ i = .int .i64 k ∧ wr.ownsRow w.heap.size 2 1 v k (ints (valL p n k)) ∧ Below w.heap.size w wr) (fun _ i _ => p.toNat - (intOf i).toNat)
  case atStart => exact ⟨0, by omega, rfl, own_lit0 _ _ _ (by first | omega | (simp; done) | (simp; omega)) (by first | rfl | (simp; done) | (simp; omega)), by (repeat (first | with_reducible exact Below.refl _ _ | with_reducible refine balloc ?_ _ | with_reducible refine bdrewN ?_ _ | with_reducible refine Below.drew ?_ | with_reducible refine bthen ?_ (by with_reducible assumption) | with_reducible refine Below.setCell ?_ (by first | (simp; done) | (simp; omega)) _))⟩
  case round =>
    obtain ⟨k, hk, rfl, hown, hbel⟩ := hrel
    by_cases hlt : (k : Int) < p
    · go_wp2_with fail
      refine Calls.mono (specValZ_any p (k : Int) n _ hp (by omega) hlt hn (by omega)) ?_
      rintro e w' ⟨rfl, rfl⟩
      obtain ⟨x, hx⟩ : ∃ x, x = sv p (k : Int) n.toNat := ⟨_, rfl⟩
      have HL := Lib.hid (show valL p n (k + 1) = valL p n k ++ [x] from by rw [hx]; exact valL_succ p n k)
      rw [← hx]
      clear hx
      have hsz := hbel.size
      go_wp2_with (at_builtin; refine wpList_append_own _ rfl _ _ 25 rfl w.heap.size 2 i0 (.int .i64 0) 1 8 Try.underlying25 hi hz0 hz1 hz2 rfl (by decide) _ _ _ rfl (hown.alloc _) ⟨wr.heap.size, 0, none⟩ 1 1 [.int .i64 x] rfl rfl ?c1 (int_oneCell _) ?c3 ?c4 ?c5 ?_)
      case c1 =>
        intro j u hj
        match j, hj with
        | 0, hj => simp at hj; subst hj; simp [Addr.add]
      case c3 => unfold maxLen; omega
      case c4 => omega
      case c5 => simp; omega
      intro v' w2 hown' hgrow _
      have hb2 : Below w.heap.size w w2 := (hbel.alloc (by omega) _).grown hgrow (by simp; omega) (fun g hg => (hown.lt g hg).1)
      have HN := Lib.hid (own_snoc hown' (rfl : k + 1 = k + 1))
      clear hown' hgrow hown hbel
      go_wp2
      go_roundw
      case rel => exact ⟨k + 1, by omega, by go_num, by rw [HL.out]; exact HN.out, hb2⟩
      case measure => have := HC0.out; simp [intOf]; omega
    · obtain ⟨m, hm⟩ : ∃ m, m = p.toNat := ⟨_, rfl⟩
      obtain rfl : k = m := by have := HC0.out; omega
      have HM := Lib.hid hm
      clear hm
      go_wp2
      (refine bodyPost_ret (v := u5) (by simp [results, Try.results54, go_sem]) rfl (ownList_mk (by rw [← HM.out]; exact hown) hbel))

set_option maxRecDepth 20000 in
set_option maxHeartbeats 2000000 in
theorem specLed_any (p n s : Int) (w : World) (hp : isP p = true) (hn : 0 ≤ n) (hn2 : n ≤ 1000) :
    Calls Try.prog 57 #[.int .i64 p, .int .i64 n, .int .i64 s] w fun e w' => OwnList p (ledL p n s) w e w' := by
  have hr := isP_range hp
  have hc0 : (p.toNat : Int) = p := Int.toNat_of_nonneg (by omega)
  have HC0 := Lib.hid hc0
  clear hc0
  obtain ⟨i0, hi, hz0, hz1, hz2⟩ := info_parts infoInt1
  go_enter Try.func57, Try.ntmps57
  go_wp2_with fail
  refine Calls.mono (specValues_any p n _ hp hn hn2) ?_
  rintro e w0 ⟨v0, n0, rfl, ho0, hB0⟩
  obtain rfl : n0 = p.toNat := by have h := ho0.1; rw [ints_length, valL_length, Nat.mul_one] at h; exact h.symm
  rcases own_ways ho0 with ⟨h0, _⟩ | ⟨_, g, cap, rfl, hg1, hg2, _⟩
  · omega
  have HO := Lib.hid ho0
  clear ho0
  go_wp2_with fail
  go_loopw [8, 9] (fun v i wr => ∃ k : Nat, (k : Int) ≤ p ∧ i = .int .i64 k ∧ wr.ownsRow w0.heap.size 2 1 v (upTo (fun t => sv p t n.toNat == s) k).length (ints (upTo (fun t => sv p t n.toNat == s) k)) ∧ Below w0.heap.size w0 wr) (fun _ i _ => p.toNat - (intOf i).toNat)
  case atStart => exact ⟨0, by omega, rfl, own_lit0 _ _ _ (by first | omega | (simp; done) | (simp; omega)) (by first | rfl | (simp; done) | (simp; omega)), by (repeat (first | with_reducible exact Below.refl _ _ | with_reducible refine balloc ?_ _ | with_reducible refine bdrewN ?_ _ | with_reducible refine Below.drew ?_ | with_reducible refine bthen ?_ (by with_reducible assumption) | with_reducible refine Below.setCell ?_ (by first | (simp; done) | (simp; omega)) _))⟩
  case round =>
    obtain ⟨k, hk, rfl, hown, hbel⟩ := hrel
    have hul := upTo_le (fun t => sv p t n.toNat == s) k
    by_cases hlt : (k : Int) < p
    · have hcell : wr.cell? ⟨g, k, none⟩ = some (.int .i64 (sv p (k : Int) n.toNat)) := by
        rw [cell_back hbel hg2 k, own_cell HO.out (by have := HC0.out; omega)]
        simp [valL, List.getD_eq_getElem?_getD, List.getElem?_map, List.getElem?_range (show k < p.toNat by have := HC0.out; omega)]
      have hidx : (0 : Int) ≤ (k : Int) ∧ (k : Int) < (p.toNat : Int) := by have := HC0.out; omega
      obtain ⟨x, hx⟩ : ∃ x, x = sv p (k : Int) n.toNat := ⟨_, rfl⟩
      rw [← hx] at hcell
      have HX := Lib.hid hx
      clear hx
      rcases bool_ways (x == s) with ht | ht
      · have HU := Lib.hid (upTo_no (f := fun t => sv p t n.toNat == s) (k := k) (by show (sv p (k : Int) n.toNat == s) = false; rw [← HX.out]; exact ht))
        go_wp2
        go_roundw
        case rel => exact ⟨k + 1, by omega, by go_num, by rw [HU.out]; exact hown, hbel⟩
        case measure => have := HC0.out; simp [intOf]; omega
      · have HU := Lib.hid (upTo_yes (f := fun t => sv p t n.toNat == s) (k := k) (by show (sv p (k : Int) n.toNat == s) = true; rw [← HX.out]; exact ht))
        have hsz := hbel.size
        go_wp2_with (at_builtin; refine wpList_append_own _ rfl _ _ 25 rfl w0.heap.size 2 i0 (.int .i64 0) 1 8 Try.underlying25 hi hz0 hz1 hz2 rfl (by decide) _ _ _ rfl (hown.alloc _) ⟨wr.heap.size, 0, none⟩ 1 1 [.int .i64 (k : Int)] rfl rfl ?c1 (int_oneCell _) ?c3 ?c4 ?c5 ?_)
        case c1 =>
          intro j u hj
          match j, hj with
          | 0, hj => simp at hj; subst hj; simp [Addr.add]
        case c3 => unfold maxLen; omega
        case c4 => omega
        case c5 => simp; omega
        intro v' w2 hown' hgrow _
        have hb2 : Below w0.heap.size w0 w2 := (hbel.alloc (by omega) _).grown hgrow (by simp; omega) (fun g hg => (hown.lt g hg).1)
        have HN := Lib.hid (own_snoc hown' (by rw [HU.out]; simp : _ = (upTo (fun t => sv p t n.toNat == s) (k + 1)).length))
        clear hown' hgrow hown hbel
        go_wp2
        go_roundw
        case rel => exact ⟨k + 1, by omega, by go_num, by have h := HN.out; rw [HU.out] at h ⊢; exact h, hb2⟩
        case measure => have := HC0.out; simp [intOf]; omega
    · obtain ⟨m, hm⟩ : ∃ m, m = p.toNat := ⟨_, rfl⟩
      obtain rfl : k = m := by have := HC0.out; omega
      have HM := Lib.hid hm
      clear hm
      go_wp2
      (refine bodyPost_ret (v := u8) (by simp [results, Try.results57, go_sem]) rfl (ownList_mk (by rw [ledL, ← HM.out]; exact own_base hown hB0.size) (bthen hB0 hbel)))

end Go.Proofs.Ytinfjbaloppgkaa
