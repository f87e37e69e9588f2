/-
  ThirdSpreads: the program's and the model's.
-/
import Derived.Test.YtklfgelmieecmaaTriple
import Derived.Test.YtklfgelmieecmaaSpecNums
import Derived.Test.YtklfgelmieecmaaImplNums
import Derived.Test.YtklfgelmieecmaaCode
import Derived.Test.YtklfgelmieecmaaGrow
import Derived.Test.YtklfgelmieecmaaPcMath
namespace Go.Proofs.Ytklfgelmieecmaa
open Go.RowKit

set_option linter.unusedVariables false in
def ttB (p r s : Int) : Bool := numsIn p [r, s]
set_option linter.unusedVariables false in
def ttS (p r s : Int) : Int := 0
set_option linter.unusedVariables false in
def ttC (p r s : Int) : Int := if isP p = true then (if ttB p r s = true then ttS p r s else 2) else 1
set_option linter.unusedVariables false in
def ttL (p r s : Int) : List Int := if ttC p r s = 0 then upTo (fun t => tripB p r s t) p.toNat else []
theorem tt_zero {p r s k : Int} (h : ttC p r s = k) (hk : k ≠ 0) : ttL p r s = [] ∧ ttC p r s = k := ⟨if_neg fun e => hk (h.symm.trans e), h⟩
theorem tt_no {p r s : Int} (h : isP p = false) : ttL p r s = [] ∧ ttC p r s = 1 := tt_zero (by simp [ttC, h]) (by decide)
theorem tt_out {p r s : Int} (hp : isP p = true) (h : ttB p r s = false) : ttL p r s = [] ∧ ttC p r s = 2 := tt_zero (by simp [ttC, hp, h]) (by decide)
theorem tt_st {p r s k : Int} (hp : isP p = true) (h : ttB p r s = true) (hs : ttS p r s = k) (hk : k ≠ 0) : ttL p r s = [] ∧ ttC p r s = k := tt_zero (by simp [ttC, hp, h, hs]) hk
theorem tt_good {p r s : Int} (hp : isP p = true) (h : ttB p r s = true) (hs : ttS p r s = 0) : ttL p r s = upTo (fun t => tripB p r s t) p.toNat ∧ ttC p r s = 0 := by
  have h' : ttC p r s = 0 := by simp [ttC, hp, h, hs]
  exact ⟨if_pos h', h'⟩

set_option linter.unusedSimpArgs false in
set_option maxRecDepth 20000 in
set_option maxHeartbeats 4000000 in
theorem specThirdSpreads_any (p r s : Int) (w : World) :
    Calls Try.prog 26 #[.int .i64 p, .int .i64 r, .int .i64 s] w fun e w' =>
      SlicePost 2 1 (ttL p r s) (ttC p r s) w e w' := by
  go_enter Try.func26, Try.ntmps26
  rcases bool_ways (isP p) with hd1 | hd1
  · skip
    have c_1 : codeOf p (numsIn p [r, s]) = 1 := codeOf_no hd1
    have cN : ∀ b, codeOf p b = 1 := fun b => codeOf_no hd1
    go_wp2_with fail
    refine Calls.mono (numbers_any _ _ _ _ _ [r, s] _ rfl (by simp) (by exact cells_at (by simp) [r, s] _)) ?_
    rintro e w' ⟨rfl, rfl⟩
    have HV := Lib.hid (tt_no (r := r) (s := s) hd1)
    go_wp2
    (refine bodyPost_ret (v := .tuple #[.slice none 0 0, .int .i64 (ttC p r s)]) (by simp [results, Try.results26, go_sem, HV.out.2]) rfl (slicePost_nil HV.out.1 ?_))
    (repeat (first | with_reducible exact Below.refl _ _ | with_reducible refine balloc ?_ _ | with_reducible refine bdrewN ?_ _ | with_reducible refine Below.drew ?_ | with_reducible refine bthen ?_ (by with_reducible assumption) | with_reducible refine Below.setCell ?_ (by first | (simp; done) | (simp; omega)) _))
  · have hp := hd1
    have hr := isP_range hp
    rcases bool_ways (numsIn p [r, s]) with hd2 | hd2
    · skip
      have c_1 : codeOf p (numsIn p [r, s]) = 2 := codeOf_out hp (by simp [hd2])
      have cT : codeOf p true = 0 := codeOf_in hp rfl
      have cF : codeOf p false = 2 := codeOf_out hp rfl
      go_wp2_with fail
      refine Calls.mono (numbers_any _ _ _ _ _ [r, s] _ rfl (by simp) (by exact cells_at (by simp) [r, s] _)) ?_
      rintro e w' ⟨rfl, rfl⟩
      have HV := Lib.hid (tt_out (r := r) (s := s) hp (by simp [ttB, hd1, hd2]))
      go_wp2
      (refine bodyPost_ret (v := .tuple #[.slice none 0 0, .int .i64 (ttC p r s)]) (by simp [results, Try.results26, go_sem, HV.out.2]) rfl (slicePost_nil HV.out.1 ?_))
      (repeat (first | with_reducible exact Below.refl _ _ | with_reducible refine balloc ?_ _ | with_reducible refine bdrewN ?_ _ | with_reducible refine Below.drew ?_ | with_reducible refine bthen ?_ (by with_reducible assumption) | with_reducible refine Below.setCell ?_ (by first | (simp; done) | (simp; omega)) _))
    · have hd2q := nums2 hd2
      have c_1 : codeOf p (numsIn p [r, s]) = 0 := codeOf_in hp (by simp [hd2])
      have cT : codeOf p true = 0 := codeOf_in hp rfl
      go_wp2_with fail
      refine Calls.mono (numbers_any _ _ _ _ _ [r, s] _ rfl (by simp) (by exact cells_at (by simp) [r, s] _)) ?_
      rintro e w' ⟨rfl, rfl⟩
      have HB : ttB p r s = true := by simp [ttB, hd1, hd2]
      have HS : ttS p r s = 0 := by rfl
      have HV := Lib.hid (tt_good (r := r) (s := s) hp HB HS)
      clear HB HS
      have hc0 : (p.toNat : Int) = p := Int.toNat_of_nonneg (by omega)
      have HC0 := Lib.hid hc0
      clear hc0
      obtain ⟨i0, hi, hz0, hz1, hz2⟩ := info_parts infoInt1
      go_wp2_with fail
      go_loopw [9, 10] (fun v i wr => ∃ k : Nat, (k : Int) ≤ p ∧ i = .int .i64 k ∧ wr.ownsRow w.heap.size 2 1 v (upTo (fun t => tripB p r s t) k).length (ints (upTo (fun t => tripB p r s t) k)) ∧ Below w.heap.size w wr) (fun _ i _ => p.toNat - (intOf i).toNat)
      case atStart => exact ⟨0, by omega, rfl, own_lit0 _ _ _ (by first | omega | (simp; done) | (simp; omega)) (by first | rfl | (simp; done) | (simp; omega)), by (repeat (first | with_reducible exact Below.refl _ _ | with_reducible refine balloc ?_ _ | with_reducible refine bdrewN ?_ _ | with_reducible refine Below.drew ?_ | with_reducible refine bthen ?_ (by with_reducible assumption) | with_reducible refine Below.setCell ?_ (by first | (simp; done) | (simp; omega)) _))⟩
      case round =>
        obtain ⟨k, hk, rfl, hown, hbel⟩ := hrel
        have hul := upTo_le (fun t => tripB p r s t) k
        by_cases hlt : (k : Int) < p
        · rcases bool_ways ((fun t => tripB p r s t) k) with ht | ht
          · have HU := Lib.hid (upTo_no (f := (fun t => tripB p r s t)) ht)
            simp only at ht
            go_wp2_with fail
            refine Calls.mono (specTriple_any _ _ _ _ _ hp (by omega) (by omega) (by omega)) ?_
            rintro e w1 ⟨rfl, hB1⟩
            (obtain ⟨hB1c, hB1f⟩ := bcell hB1; have hB1s := hB1.size; (try simp at hB1s); (try have hB1q1 := Nat.lt_of_succ_le hB1s); (try have hB1q2 := Nat.lt_of_succ_lt hB1q1); (try have hB1q3 := Nat.lt_of_succ_lt hB1q2); (try have hB1zw0 : w.heap.size < w1.heap.size := (by omega)); (try have hB1zw1 : w.heap.size + 1 < w1.heap.size := (by omega)); (try have hB1zw2 : w.heap.size + 1 + 1 < w1.heap.size := (by omega)); (try have hB1zw3 : w.heap.size + 1 + 1 + 1 < w1.heap.size := (by omega)); (try have hB1zw4 : w.heap.size + 1 + 1 + 1 + 1 < w1.heap.size := (by omega)))
            have ho1 := own_call hown hB1
            go_wp2
            go_roundw
            case rel => exact ⟨k + 1, by omega, by go_num, by rw [HU.out]; exact ho1, by (repeat (first | exact Below.refl _ _ | refine balloc ?_ _ | refine bdrewN ?_ _ | refine Below.drew ?_ | refine bthen ?_ hbel | refine bthen ?_ hB1 | refine Below.setCell ?_ (by first | (simp; done) | (simp; omega)) _))⟩
            case measure => have := HC0.out; simp [intOf]; omega
          · have HU := Lib.hid (upTo_yes (f := (fun t => tripB p r s t)) ht)
            simp only at ht
            go_wp2_with fail
            refine Calls.mono (specTriple_any _ _ _ _ _ hp (by omega) (by omega) (by omega)) ?_
            rintro e w1 ⟨rfl, hB1⟩
            (obtain ⟨hB1c, hB1f⟩ := bcell hB1; have hB1s := hB1.size; (try simp at hB1s); (try have hB1q1 := Nat.lt_of_succ_le hB1s); (try have hB1q2 := Nat.lt_of_succ_lt hB1q1); (try have hB1q3 := Nat.lt_of_succ_lt hB1q2); (try have hB1zw0 : w.heap.size < w1.heap.size := (by omega)); (try have hB1zw1 : w.heap.size + 1 < w1.heap.size := (by omega)); (try have hB1zw2 : w.heap.size + 1 + 1 < w1.heap.size := (by omega)); (try have hB1zw3 : w.heap.size + 1 + 1 + 1 < w1.heap.size := (by omega)); (try have hB1zw4 : w.heap.size + 1 + 1 + 1 + 1 < w1.heap.size := (by omega)))
            have ho1 := own_call hown hB1
            have hsz := Nat.le_trans hbel.size hB1.size
            go_wp2_with (at_builtin; refine wpList_append_own _ rfl _ _ 36 rfl w.heap.size 2 i0 (.int .i64 0) 1 8 Try.underlying36 hi hz0 hz1 hz2 rfl (by decide) _ _ _ rfl (ho1.alloc _) ⟨w1.heap.size, 0, none⟩ 1 1 [.int .i64 k] rfl rfl ?c1 (int_oneCell _) ?c3 ?c4 ?c5 ?_)
            case c1 =>
              intro j u hj
              match j, hj with
              | 0, hj => simp at hj; subst hj; simp [Addr.add]
            case c3 => unfold maxLen; omega
            case c4 => omega
            case c5 => simp; omega
            intro v' w2 hown' hgrow _
            have hb2 : Below w.heap.size w w2 := ((bthen hbel hB1).alloc (by omega) _).grown hgrow (by simp; omega) (fun g hg => (ho1.lt g hg).1)
            have HN := Lib.hid (own_snoc hown' (by rw [HU.out]; simp : _ = (upTo (fun t => tripB p r s t) (k + 1)).length))
            clear hown' hgrow ho1 hown hbel
            go_wp2
            go_roundw
            case rel => exact ⟨k + 1, by omega, by go_num, by rw [HU.out] at HN ⊢; exact HN.out, hb2⟩
            case measure => have := HC0.out; simp [intOf]; omega
        · obtain ⟨m, hm⟩ : ∃ m, m = p.toNat := ⟨_, rfl⟩
          obtain rfl : k = m := by have := HC0.out; omega
          have HL := Lib.hid (show upTo (fun t => tripB p r s t) k = upTo (fun t => tripB p r s t) p.toNat from by rw [hm])
          clear hm
          go_wp2
          (refine bodyPost_ret (v := .tuple #[u9, .int .i64 (ttC p r s)]) (by simp [results, Try.results26, go_sem, HV.out.2]) rfl (slicePost_mk (by rw [HV.out.1, ← HL.out]; exact hown) hbel))

set_option linter.unusedSimpArgs false in
set_option maxRecDepth 20000 in
set_option maxHeartbeats 4000000 in
theorem implThirdSpreads_any (p r s : Int) (w : World) :
    Calls Try.prog 27 #[.int .i64 p, .int .i64 r, .int .i64 s] w fun e w' =>
      SlicePost 2 1 (ttL p r s) (ttC p r s) w e w' := by
  go_enter Try.func27, Try.ntmps27
  rcases bool_ways (isP p) with hd1 | hd1
  · skip
    have c_1 : codeOf p (numsIn p [r, s]) = 1 := codeOf_no hd1
    have cN : ∀ b, codeOf p b = 1 := fun b => codeOf_no hd1
    go_wp2_with fail
    refine Calls.mono (areNums_any _ _ _ _ _ [r, s] _ rfl (by simp) (by exact cells_at (by simp) [r, s] _)) ?_
    rintro e w' ⟨rfl, rfl⟩
    go_wp2_with fail
    refine Calls.mono (codeFor_any _ _ _) ?_
    rintro e w' ⟨rfl, rfl⟩
    have HV := Lib.hid (tt_no (r := r) (s := s) hd1)
    go_wp2
    (refine bodyPost_ret (v := .tuple #[.slice none 0 0, .int .i64 (ttC p r s)]) (by simp [results, Try.results27, go_sem, HV.out.2]) rfl (slicePost_nil HV.out.1 ?_))
    (repeat (first | with_reducible exact Below.refl _ _ | with_reducible refine balloc ?_ _ | with_reducible refine bdrewN ?_ _ | with_reducible refine Below.drew ?_ | with_reducible refine bthen ?_ (by with_reducible assumption) | with_reducible refine Below.setCell ?_ (by first | (simp; done) | (simp; omega)) _))
  · have hp := hd1
    have hr := isP_range hp
    rcases bool_ways (numsIn p [r, s]) with hd2 | hd2
    · skip
      have c_1 : codeOf p (numsIn p [r, s]) = 2 := codeOf_out hp (by simp [hd2])
      have cT : codeOf p true = 0 := codeOf_in hp rfl
      have cF : codeOf p false = 2 := codeOf_out hp rfl
      go_wp2_with fail
      refine Calls.mono (areNums_any _ _ _ _ _ [r, s] _ rfl (by simp) (by exact cells_at (by simp) [r, s] _)) ?_
      rintro e w' ⟨rfl, rfl⟩
      go_wp2_with fail
      refine Calls.mono (codeFor_any _ _ _) ?_
      rintro e w' ⟨rfl, rfl⟩
      have HV := Lib.hid (tt_out (r := r) (s := s) hp (by simp [ttB, hd1, hd2]))
      go_wp2
      (refine bodyPost_ret (v := .tuple #[.slice none 0 0, .int .i64 (ttC p r s)]) (by simp [results, Try.results27, go_sem, HV.out.2]) rfl (slicePost_nil HV.out.1 ?_))
      (repeat (first | with_reducible exact Below.refl _ _ | with_reducible refine balloc ?_ _ | with_reducible refine bdrewN ?_ _ | with_reducible refine Below.drew ?_ | with_reducible refine bthen ?_ (by with_reducible assumption) | with_reducible refine Below.setCell ?_ (by first | (simp; done) | (simp; omega)) _))
    · have hd2q := nums2 hd2
      have c_1 : codeOf p (numsIn p [r, s]) = 0 := codeOf_in hp (by simp [hd2])
      have cT : codeOf p true = 0 := codeOf_in hp rfl
      go_wp2_with fail
      refine Calls.mono (areNums_any _ _ _ _ _ [r, s] _ rfl (by simp) (by exact cells_at (by simp) [r, s] _)) ?_
      rintro e w' ⟨rfl, rfl⟩
      go_wp2_with fail
      refine Calls.mono (codeFor_any _ _ _) ?_
      rintro e w' ⟨rfl, rfl⟩
      have HB : ttB p r s = true := by simp [ttB, hd1, hd2]
      have HS : ttS p r s = 0 := by rfl
      have HV := Lib.hid (tt_good (r := r) (s := s) hp HB HS)
      clear HB HS
      have hc0 : (p.toNat : Int) = p := Int.toNat_of_nonneg (by omega)
      have HC0 := Lib.hid hc0
      clear hc0
      obtain ⟨i0, hi, hz0, hz1, hz2⟩ := info_parts infoInt1
      go_wp2_with fail
      go_loopw [9, 10, 22] (fun v _ i wr => ∃ k : Nat, (k : Int) ≤ p ∧ i = .int .i64 k ∧ wr.ownsRow w.heap.size 2 1 v (upTo (fun t => tripB p r s t) k).length (ints (upTo (fun t => tripB p r s t) k)) ∧ Below w.heap.size w wr) (fun _ _ i _ => p.toNat - (intOf i).toNat)
      case atStart => exact ⟨0, by omega, rfl, World.ownsRow_nil _ _ _ _, by (repeat (first | with_reducible exact Below.refl _ _ | with_reducible refine balloc ?_ _ | with_reducible refine bdrewN ?_ _ | with_reducible refine Below.drew ?_ | with_reducible refine bthen ?_ (by with_reducible assumption) | with_reducible refine Below.setCell ?_ (by first | (simp; done) | (simp; omega)) _))⟩
      case round =>
        obtain ⟨k, hk, rfl, hown, hbel⟩ := hrel
        have hul := upTo_le (fun t => tripB p r s t) k
        by_cases hlt : (k : Int) < p
        · rcases bool_ways ((fun t => tripB p r s t) k) with ht | ht
          · have HU := Lib.hid (upTo_no (f := (fun t => tripB p r s t)) ht)
            simp only at ht
            go_wp2_with fail
            refine Calls.mono (implTriple_any _ _ _ _ _ hp (by omega) (by omega) (by omega)) ?_
            rintro e w1 ⟨rfl, hB1⟩
            (obtain ⟨hB1c, hB1f⟩ := bcell hB1; have hB1s := hB1.size; (try simp at hB1s); (try have hB1q1 := Nat.lt_of_succ_le hB1s); (try have hB1q2 := Nat.lt_of_succ_lt hB1q1); (try have hB1q3 := Nat.lt_of_succ_lt hB1q2); (try have hB1zw0 : w.heap.size < w1.heap.size := (by omega)); (try have hB1zw1 : w.heap.size + 1 < w1.heap.size := (by omega)); (try have hB1zw2 : w.heap.size + 1 + 1 < w1.heap.size := (by omega)); (try have hB1zw3 : w.heap.size + 1 + 1 + 1 < w1.heap.size := (by omega)); (try have hB1zw4 : w.heap.size + 1 + 1 + 1 + 1 < w1.heap.size := (by omega)))
            have ho1 := own_call hown hB1
            go_wp2
            go_roundw
            case rel => exact ⟨k + 1, by omega, by go_num, by rw [HU.out]; exact ho1, by (repeat (first | exact Below.refl _ _ | refine balloc ?_ _ | refine bdrewN ?_ _ | refine Below.drew ?_ | refine bthen ?_ hbel | refine bthen ?_ hB1 | refine Below.setCell ?_ (by first | (simp; done) | (simp; omega)) _))⟩
            case measure => have := HC0.out; simp [intOf]; omega
          · have HU := Lib.hid (upTo_yes (f := (fun t => tripB p r s t)) ht)
            simp only at ht
            go_wp2_with fail
            refine Calls.mono (implTriple_any _ _ _ _ _ hp (by omega) (by omega) (by omega)) ?_
            rintro e w1 ⟨rfl, hB1⟩
            (obtain ⟨hB1c, hB1f⟩ := bcell hB1; have hB1s := hB1.size; (try simp at hB1s); (try have hB1q1 := Nat.lt_of_succ_le hB1s); (try have hB1q2 := Nat.lt_of_succ_lt hB1q1); (try have hB1q3 := Nat.lt_of_succ_lt hB1q2); (try have hB1zw0 : w.heap.size < w1.heap.size := (by omega)); (try have hB1zw1 : w.heap.size + 1 < w1.heap.size := (by omega)); (try have hB1zw2 : w.heap.size + 1 + 1 < w1.heap.size := (by omega)); (try have hB1zw3 : w.heap.size + 1 + 1 + 1 < w1.heap.size := (by omega)); (try have hB1zw4 : w.heap.size + 1 + 1 + 1 + 1 < w1.heap.size := (by omega)))
            have ho1 := own_call hown hB1
            have hsz := Nat.le_trans hbel.size hB1.size
            go_wp2_with (at_builtin; refine wpList_append_own _ rfl _ _ 36 rfl w.heap.size 2 i0 (.int .i64 0) 1 8 Try.underlying36 hi hz0 hz1 hz2 rfl (by decide) _ _ _ rfl (ho1.alloc _) ⟨w1.heap.size, 0, none⟩ 1 1 [.int .i64 k] rfl rfl ?c1 (int_oneCell _) ?c3 ?c4 ?c5 ?_)
            case c1 =>
              intro j u hj
              match j, hj with
              | 0, hj => simp at hj; subst hj; simp [Addr.add]
            case c3 => unfold maxLen; omega
            case c4 => omega
            case c5 => simp; omega
            intro v' w2 hown' hgrow _
            have hb2 : Below w.heap.size w w2 := ((bthen hbel hB1).alloc (by omega) _).grown hgrow (by simp; omega) (fun g hg => (ho1.lt g hg).1)
            have HN := Lib.hid (own_snoc hown' (by rw [HU.out]; simp : _ = (upTo (fun t => tripB p r s t) (k + 1)).length))
            clear hown' hgrow ho1 hown hbel
            go_wp2
            go_roundw
            case rel => exact ⟨k + 1, by omega, by go_num, by rw [HU.out] at HN ⊢; exact HN.out, hb2⟩
            case measure => have := HC0.out; simp [intOf]; omega
        · obtain ⟨m, hm⟩ : ∃ m, m = p.toNat := ⟨_, rfl⟩
          obtain rfl : k = m := by have := HC0.out; omega
          have HL := Lib.hid (show upTo (fun t => tripB p r s t) k = upTo (fun t => tripB p r s t) p.toNat from by rw [hm])
          clear hm
          go_wp2
          (refine bodyPost_ret (v := .tuple #[u9, .int .i64 (ttC p r s)]) (by simp [results, Try.results27, go_sem, HV.out.2]) rfl (slicePost_mk (by rw [HV.out.1, ← HL.out]; exact hown) hbel))

theorem tt_len (p r s : Int) : (ttL p r s).length ≤ 4096 := by
  unfold ttL
  split
  · rename_i h
    have hp : isP p = true := by
      cases hh : isP p
      · simp [ttC, hh] at h
      · rfl
    have hr := isP_range hp
    exact Nat.le_trans (upTo_le _ _) (by omega)
  · simp

end Go.Proofs.Ytklfgelmieecmaa
