/-
  PointsOn: the model's beside the program's.
-/
import Derived.Test.YtklfgelmieecmabEPointsOnImpl
import Derived.Test.YtklfgelmieecmabSpecLins
import Derived.Test.YtklfgelmieecmabSpecOn
import Derived.Test.YtklfgelmieecmabGrow
import Derived.Test.YtklfgelmieecmabPcMath
namespace Go.Proofs.Ytklfgelmieecmab
open Go.RowKit

theorem po_L {p l1 l2 l3 : Int} (hp : isP p = true) (hl : lineB p l1 l2 l3 = true) : poL p l1 l2 l3 = flat (gridL (fun x y => onB p x y l1 l2 l3) p.toNat p.toNat) ∧ poC p l1 l2 l3 = 0 := by
  have h0 : poC p l1 l2 l3 = 0 := by simp [poC, poB, hp, hl]
  have hq := nums3 (lineB_in hl).2
  refine ⟨(if_pos h0).trans ?_, h0⟩
  rw [points_line hp (lineB_in hl).1 hq.1 hq.2.1 hq.2.2]
theorem po_len (p l1 l2 l3 : Int) : (poL p l1 l2 l3).length ≤ 4096 := by
  unfold poL
  split
  · rename_i h
    have hp : isP p = true := by
      cases hh : isP p
      · simp [poC, hh] at h
      · rfl
    have hr := isP_range hp
    rw [flat_length]
    simp only [cbs, List.length_map, List.length_range]; omega
  · simp

set_option maxRecDepth 20000 in
set_option maxHeartbeats 4000000 in
theorem specPointsOn_good (p l1 l2 l3 : Int) (w : World) (hp : isP p = true) (hl : lineB p l1 l2 l3 = true) :
    Calls Try.prog 11 #[.int .i64 p, .agg #[.int .i64 l1, .int .i64 l2, .int .i64 l3]] w fun e w' => SlicePost 35 2 (poL p l1 l2 l3) (poC p l1 l2 l3) w e w' := by
  have hr := isP_range hp
  have hq := nums3 (lineB_in hl).2
  have HV := Lib.hid (po_L hp hl)
  have c_1 : codeOf p (lineB p l1 l2 l3) = 0 := codeOf_in hp hl
  have HL := Lib.hid hl
  clear hl
  have hc0 : (p.toNat : Int) = p := Int.toNat_of_nonneg (by omega)
  have HC0 := Lib.hid hc0
  clear hc0
  obtain ⟨f, hf⟩ : ∃ f : Int → Int → Bool, f = fun x y => onB p x y l1 l2 l3 := ⟨_, rfl⟩
  have hon : ∀ (x y : Int) (w : World), 0 ≤ x ∧ x ≤ 31 → 0 ≤ y ∧ y ≤ 31 → Calls Try.prog 39 #[.int .i64 p, .agg #[.int .i64 x, .int .i64 y], .agg #[.int .i64 l1, .int .i64 l2, .int .i64 l3]] w fun e w' => e = .returned (.bool (f x y)) ∧ Below w.heap.size w w' := fun x y w hx hy => by
    rw [hf]; exact specOn_any p x y l1 l2 l3 w hp hx hy (by omega) (by omega) (by omega)
  rw [← hf] at HV
  have HON := Lib.hid hon
  clear hon hf
  obtain ⟨i0, hi, hz0, hz1, hz2⟩ := info_parts infoPt
  go_enter Try.func11, Try.ntmps11
  (go_wp2_with fail; refine Calls.mono (specLines1 _ _ _ _ _ _ (by first | rfl | (simp; done))) ?_; rintro e w1 ⟨rfl, hB1⟩; obtain ⟨hB1c, hB1f⟩ := bcell hB1; have hB1s := hB1.size; (try simp at hB1s); (try have hB1q1 := Nat.lt_of_succ_le hB1s); (try have hB1q2 := Nat.lt_of_succ_lt hB1q1); (try have hB1q3 := Nat.lt_of_succ_lt hB1q2); (try have hB1zw0 : w.heap.size < w1.heap.size := (by omega)); (try have hB1zw1 : w.heap.size + 1 < w1.heap.size := (by omega)); (try have hB1zw2 : w.heap.size + 1 + 1 < w1.heap.size := (by omega)); (try have hB1zw3 : w.heap.size + 1 + 1 + 1 < w1.heap.size := (by omega)); (try have hB1zw4 : w.heap.size + 1 + 1 + 1 + 1 < w1.heap.size := (by omega)))
  go_wp2_with fail
  have hW1 : Below (w.heap.size + 1) (w.alloc (.cells #[.int .i64 l1, .int .i64 l2, .int .i64 l3] 26)) w1 := ((Below.refl (w.heap.size + 1) _)).trans (hB1.mono (by simp))
  have hs1 : w.heap.size + 1 ≤ w1.heap.size := by omega
  have l0 : (w.alloc (.cells #[.int .i64 l1, .int .i64 l2, .int .i64 l3] 26)).cell? ⟨w.heap.size, 0, none⟩ = some (.int .i64 l1) := kfresh rfl rfl
  have l1' : (w.alloc (.cells #[.int .i64 l1, .int .i64 l2, .int .i64 l3] 26)).cell? ⟨w.heap.size, 1, none⟩ = some (.int .i64 l2) := kfresh rfl rfl
  have l2' : (w.alloc (.cells #[.int .i64 l1, .int .i64 l2, .int .i64 l3] 26)).cell? ⟨w.heap.size, 2, none⟩ = some (.int .i64 l3) := kfresh rfl rfl
  have hbw : Below w.heap.size w (w.alloc (.cells #[.int .i64 l1, .int .i64 l2, .int .i64 l3] 26)) := (Below.refl _ _).alloc (Nat.le_refl _) _
  have hsw : (w.alloc (.cells #[.int .i64 l1, .int .i64 l2, .int .i64 l3] 26)).heap.size = w.heap.size + 1 := by simp
  obtain ⟨w0, hw0⟩ : ∃ w0, w0 = w.alloc (.cells #[.int .i64 l1, .int .i64 l2, .int .i64 l3] 26) := ⟨_, rfl⟩
  rw [← hw0] at hW1 l0 l1' l2' hbw hsw
  clear hw0
  have H0 := Lib.hid (And.intro l0 (And.intro l1' l2'))
  clear l0 l1' l2'
  go_loopw [7, 8, 9] (fun v i _ wr => ∃ x : Nat, (x : Int) ≤ p ∧ i = .int .i64 x ∧ wr.ownsRow (w.heap.size + 1) 35 2 v (gridL f p.toNat x).length (ints (flat (gridL f p.toNat x))) ∧ Below (w.heap.size + 1) w0 wr) (fun _ i _ _ => p.toNat - (intOf i).toNat)
  case atStart => exact ⟨0, by omega, rfl, (own_lit0 (base := w.heap.size + 1) (b := w1.heap.size) w1 35 2 hs1 rfl), hW1.alloc hs1 _⟩
  case round =>
    obtain ⟨x, hx, rfl, hown, hbel⟩ := hrel
    have hgl := gridL_le f p.toNat x
    by_cases hlt : (x : Int) < p
    · have HG := Lib.hid (gridL_succ f p.toNat x)
      have hxm : x * p.toNat ≤ 961 := Nat.le_trans (Nat.mul_le_mul (by omega : x ≤ 31) (by omega : p.toNat ≤ 31)) (by decide)
      obtain ⟨wo, rfl⟩ : ∃ wo : World, wo = wr := ⟨_, rfl⟩
      go_wp2_with fail
      go_loopw [7, 9] (fun v i wr => ∃ y : Nat, (y : Int) ≤ p ∧ i = .int .i64 y ∧ wr.ownsRow (w.heap.size + 1) 35 2 v (gridL f p.toNat x ++ rowL f x y).length (ints (flat (gridL f p.toNat x ++ rowL f x y))) ∧ Below (w.heap.size + 1) w0 wr) (fun _ i _ => p.toNat - (intOf i).toNat)
      case atStart => exact ⟨0, by omega, rfl, by simpa [rowL] using hown, hbel⟩
      case round =>
        obtain ⟨y, hy, rfl, hown, hbel⟩ := hrel
        have hrl := rowL_le f x y
        by_cases hlty : (y : Int) < p
        · have k0 : wr.cell? ⟨w.heap.size, 0, none⟩ = some (.int .i64 l1) := (cell_old hbel (by omega) 0).trans H0.out.1
          have k1 : wr.cell? ⟨w.heap.size, 1, none⟩ = some (.int .i64 l2) := (cell_old hbel (by omega) 1).trans H0.out.2.1
          have k2 : wr.cell? ⟨w.heap.size, 2, none⟩ = some (.int .i64 l3) := (cell_old hbel (by omega) 2).trans H0.out.2.2
          have hsr := hbel.size
          have hlw : w.heap.size < wr.heap.size := by omega
          rcases bool_ways (f x y) with ht | ht
          · have HU := Lib.hid (rowL_no ht)
            go_wp2_with fail
            refine Calls.mono (HON.out _ _ _ (by omega) (by omega)) ?_
            rintro e w2 ⟨rfl, hB2⟩
            (obtain ⟨hB2c, hB2f⟩ := bcell hB2; have hB2s := hB2.size; (try simp at hB2s); (try have hB2q1 := Nat.lt_of_succ_le hB2s); (try have hB2q2 := Nat.lt_of_succ_lt hB2q1); (try have hB2q3 := Nat.lt_of_succ_lt hB2q2); (try have hB2zw0 : w.heap.size < w2.heap.size := (by omega)); (try have hB2zw1 : w.heap.size + 1 < w2.heap.size := (by omega)); (try have hB2zw2 : w.heap.size + 1 + 1 < w2.heap.size := (by omega)); (try have hB2zw3 : w.heap.size + 1 + 1 + 1 < w2.heap.size := (by omega)); (try have hB2zw4 : w.heap.size + 1 + 1 + 1 + 1 < w2.heap.size := (by omega)); (try have hB2zwr0 : wr.heap.size < w2.heap.size := (by omega)); (try have hB2zwr1 : wr.heap.size + 1 < w2.heap.size := (by omega)); (try have hB2zwr2 : wr.heap.size + 1 + 1 < w2.heap.size := (by omega)); (try have hB2zwr3 : wr.heap.size + 1 + 1 + 1 < w2.heap.size := (by omega)); (try have hB2zwr4 : wr.heap.size + 1 + 1 + 1 + 1 < w2.heap.size := (by omega)))
            have ho1 := own_call (hown.alloc _) hB2
            go_wp2
            go_roundw
            case rel => exact ⟨y + 1, by omega, by go_num, by rw [HU.out]; exact ho1, (hbel.alloc (by omega) _).trans (hB2.mono (by simp; omega))⟩
            case measure => have := HC0.out; simp [intOf]; omega
          · have HU := Lib.hid (rowL_yes ht)
            go_wp2_with fail
            refine Calls.mono (HON.out _ _ _ (by omega) (by omega)) ?_
            rintro e w2 ⟨rfl, hB2⟩
            (obtain ⟨hB2c, hB2f⟩ := bcell hB2; have hB2s := hB2.size; (try simp at hB2s); (try have hB2q1 := Nat.lt_of_succ_le hB2s); (try have hB2q2 := Nat.lt_of_succ_lt hB2q1); (try have hB2q3 := Nat.lt_of_succ_lt hB2q2); (try have hB2zw0 : w.heap.size < w2.heap.size := (by omega)); (try have hB2zw1 : w.heap.size + 1 < w2.heap.size := (by omega)); (try have hB2zw2 : w.heap.size + 1 + 1 < w2.heap.size := (by omega)); (try have hB2zw3 : w.heap.size + 1 + 1 + 1 < w2.heap.size := (by omega)); (try have hB2zw4 : w.heap.size + 1 + 1 + 1 + 1 < w2.heap.size := (by omega)); (try have hB2zwr0 : wr.heap.size < w2.heap.size := (by omega)); (try have hB2zwr1 : wr.heap.size + 1 < w2.heap.size := (by omega)); (try have hB2zwr2 : wr.heap.size + 1 + 1 < w2.heap.size := (by omega)); (try have hB2zwr3 : wr.heap.size + 1 + 1 + 1 < w2.heap.size := (by omega)); (try have hB2zwr4 : wr.heap.size + 1 + 1 + 1 + 1 < w2.heap.size := (by omega)))
            have ho1 := own_call (hown.alloc _) hB2
            have hb2 : Below (w.heap.size + 1) w0 w2 := (hbel.alloc (by omega) _).trans (hB2.mono (by simp; omega))
            have hs2 := hb2.size
            go_wp2_with (at_builtin; refine wpList_append_own _ rfl _ _ 23 rfl (w.heap.size + 1) 35 i0 _ 2 16 Try.underlying23 hi hz0 hz1 hz2 rfl (by decide) _ _ _ rfl (ho1.alloc _) ⟨w2.heap.size, 0, none⟩ 1 1 [.int .i64 x, .int .i64 y] rfl rfl (pt_cells rfl) (pt_one _ _) ?c3 ?c4 ?c5 ?_)
            case c3 => rw [List.length_append]; unfold maxLen; omega
            case c4 => rw [List.length_append]; omega
            case c5 => simp; omega
            intro v' w3 hown' hgrow _
            have hb3 : Below (w.heap.size + 1) w0 w3 := (hb2.alloc (by omega) _).grown hgrow (by simp; omega) (fun g hg => (ho1.lt g hg).1)
            have HN := Lib.hid (show w3.ownsRow (w.heap.size + 1) 35 2 v' (gridL f p.toNat x ++ rowL f x (y + 1)).length (ints (flat (gridL f p.toNat x ++ rowL f x (y + 1)))) from by
              rw [HU.out, ← List.append_assoc, flat_append, ints_append, List.length_append, List.length_append]; exact hown')
            clear hown' hgrow ho1 hown hbel
            go_wp2
            go_roundw
            case rel => exact ⟨y + 1, by omega, by go_num, HN.out, hb3⟩
            case measure => have := HC0.out; simp [intOf]; omega
        · have hy' : y = p.toNat := by have := HC0.out; omega
          subst hy'
          have HN := Lib.hid (show wr.ownsRow (w.heap.size + 1) 35 2 _ (gridL f p.toNat (x + 1)).length (ints (flat (gridL f p.toNat (x + 1)))) from by rw [HG.out]; exact hown)
          clear hown
          go_wp2
          go_roundw
          case rel => exact ⟨x + 1, by omega, by go_num, HN.out, hbel⟩
          case measure => have := HC0.out; simp [intOf]; omega
    · have hx' : x = p.toNat := by have := HC0.out; omega
      subst hx'
      have HO := Lib.hid hown
      clear hown
      go_wp2
      (refine bodyPost_ret (v := .tuple #[u7, .int .i64 (poC p l1 l2 l3)]) (by simp [results, Try.results11, go_sem, HV.out.2]) rfl (slicePost_mk (by rw [HV.out.1]; exact own_base HO.out (by omega)) (hbw.trans (hbel.mono (by omega)))))

set_option maxRecDepth 20000 in
set_option maxHeartbeats 1000000 in
theorem specPointsOn_any (p l1 l2 l3 : Int) (w : World) :
    Calls Try.prog 11 #[.int .i64 p, .agg #[.int .i64 l1, .int .i64 l2, .int .i64 l3]] w fun e w' => SlicePost 35 2 (poL p l1 l2 l3) (poC p l1 l2 l3) w e w' := by
  cases hp : isP p
  · have HV := Lib.hid (po_zero (l1 := l1) (l2 := l2) (l3 := l3) (show poC p l1 l2 l3 = 1 by simp [poC, hp]) (by decide))
    have cN : ∀ b, codeOf p b = 1 := fun b => codeOf_no hp
    go_enter Try.func11, Try.ntmps11
    (go_wp2_with fail; refine Calls.mono (specLines1 _ _ _ _ _ _ (by first | rfl | (simp; done))) ?_; rintro e w1 ⟨rfl, hB1⟩; obtain ⟨hB1c, hB1f⟩ := bcell hB1; have hB1s := hB1.size; (try simp at hB1s); (try have hB1q1 := Nat.lt_of_succ_le hB1s); (try have hB1q2 := Nat.lt_of_succ_lt hB1q1); (try have hB1q3 := Nat.lt_of_succ_lt hB1q2); (try have hB1zw0 : w.heap.size < w1.heap.size := (by omega)); (try have hB1zw1 : w.heap.size + 1 < w1.heap.size := (by omega)); (try have hB1zw2 : w.heap.size + 1 + 1 < w1.heap.size := (by omega)); (try have hB1zw3 : w.heap.size + 1 + 1 + 1 < w1.heap.size := (by omega)); (try have hB1zw4 : w.heap.size + 1 + 1 + 1 + 1 < w1.heap.size := (by omega)))
    go_wp2
    (refine bodyPost_ret (v := .tuple #[.slice none 0 0, .int .i64 (poC p l1 l2 l3)]) (by simp [results, Try.results11, go_sem, HV.out.2]) rfl (slicePost_nil HV.out.1 ?_))
    (repeat (first | exact Below.refl _ _ | refine balloc ?_ _ | refine bdrewN ?_ _ | refine Below.drew ?_ | refine bthen ?_ hB1 | refine Below.setCell ?_ (by first | (simp; done) | (simp; omega)) _))
  · cases hl : lineB p l1 l2 l3
    · have HV := Lib.hid (po_zero (show poC p l1 l2 l3 = 2 by simp [poC, poB, hp, hl]) (by decide))
      have c_1 : codeOf p (lineB p l1 l2 l3) = 2 := codeOf_out hp hl
      rw [hl] at c_1
      go_enter Try.func11, Try.ntmps11
      (go_wp2_with fail; refine Calls.mono (specLines1 _ _ _ _ _ _ (by first | rfl | (simp; done))) ?_; rw [hl]; rintro e w1 ⟨rfl, hB1⟩; (obtain ⟨hB1c, hB1f⟩ := bcell hB1; have hB1s := hB1.size; (try simp at hB1s); (try have hB1q1 := Nat.lt_of_succ_le hB1s); (try have hB1q2 := Nat.lt_of_succ_lt hB1q1); (try have hB1q3 := Nat.lt_of_succ_lt hB1q2); (try have hB1zw0 : w.heap.size < w1.heap.size := (by omega)); (try have hB1zw1 : w.heap.size + 1 < w1.heap.size := (by omega)); (try have hB1zw2 : w.heap.size + 1 + 1 < w1.heap.size := (by omega)); (try have hB1zw3 : w.heap.size + 1 + 1 + 1 < w1.heap.size := (by omega)); (try have hB1zw4 : w.heap.size + 1 + 1 + 1 + 1 < w1.heap.size := (by omega))))
      go_wp2
      (refine bodyPost_ret (v := .tuple #[.slice none 0 0, .int .i64 (poC p l1 l2 l3)]) (by simp [results, Try.results11, go_sem, HV.out.2]) rfl (slicePost_nil HV.out.1 ?_))
      (repeat (first | exact Below.refl _ _ | refine balloc ?_ _ | refine bdrewN ?_ _ | refine Below.drew ?_ | refine bthen ?_ hB1 | refine Below.setCell ?_ (by first | (simp; done) | (simp; omega)) _))
    · exact specPointsOn_good p l1 l2 l3 w hp hl

end Go.Proofs.Ytklfgelmieecmab
