/-
  impl.makeLeading: a column made to lead a row.
-/
import Derived.Test.YtmpgpmcmhbpjeaaLayMat
import Derived.Test.YtmpgpmcmhbpjeaaImplInv
import Derived.Test.YtmpgpmcmhbpjeaaImplRest
import Derived.WalkKit
import Derived.Lib.Hide
namespace Go.Proofs.Ytmpgpmcmhbpjeaa
open Go.RowKit

/-- The row scaled up to column k; the rows below i0, and row i0 up to column k, cleared. -/
def scl (p : Int) (M : Nat → Nat → Int) (at_ c k i j : Nat) : Int := if i = at_ ∧ j < k then ldr p M at_ c j else M i j
def elm (p : Int) (M : Nat → Nat → Int) (at_ c i0 k i j : Nat) : Int := if i = at_ then ldr p M at_ c j else if i < i0 ∨ (i = i0 ∧ j < k) then (M i j - M i c * ldr p M at_ c j) % p else M i j

set_option linter.unusedVariables false in
set_option maxRecDepth 20000 in
set_option maxHeartbeats 4000000 in
theorem makeLeading_any (p : Int) (N m R B cap at_ c : Nat) (o : Nat → Nat) (M : Nat → Nat → Int) (w : World) (hp : isP p = true) (hL : LayM w R B N m o M) (hat : at_ < N) (hc : c < m) (hN : N ≤ 8) (hm : m ≤ 8)
    (hrng : ∀ i j, i < N → j < m → 0 ≤ M i j ∧ M i j < p) :
    Calls Try.prog 103 #[.int .i64 p, .slice (some ⟨R, 0, none⟩) N cap, .int .i64 at_, .int .i64 c] w fun e w' => (∃ v, e = .returned v) ∧ LayM w' R B N m o (ml p M at_ c) ∧ Apart B w w' := by
  have hr := isP_range hp
  have hpos : p ≠ 0 := by omega
  have hh := hL.head at_ hat
  have hpv := hL.num at_ c hat hc
  have hia : (0 : Int) ≤ (at_ : Int) ∧ (at_ : Int) < (N : Int) := by omega
  have hic : (0 : Int) ≤ (c : Int) ∧ (c : Int) < (m : Int) := by omega
  obtain ⟨x, hx⟩ : ∃ x, x = M at_ c := ⟨_, rfl⟩
  have rx := hrng at_ c hat hc
  rw [← hx] at hpv rx
  obtain ⟨d, hd⟩ : ∃ d, d = inv p x := ⟨_, rfl⟩
  have rd := inv_range x hp
  rw [← hd] at rd
  have HLD := Lib.hid (show ∀ j, ldr p M at_ c j = M at_ j * d % p from fun j => by rw [hd, hx]; rfl)
  have HD := Lib.hid hd
  have HX := Lib.hid hx
  clear hd hx
  have HRG := Lib.hid hrng
  clear hrng
  have rl : ∀ j, 0 ≤ ldr p M at_ c j ∧ ldr p M at_ c j < p := fun j => modR _ hp
  have HRL := Lib.hid rl
  clear rl
  have HL0 := Lib.hid (show LayM w R B N m o (scl p M at_ c 0) from hL.congr fun i j _ _ => by rw [scl, if_neg (by omega)])
  clear hL
  go_enter Try.func103, Try.ntmps103
  go_wp2_with fail
  refine Calls.mono (implInverse_any _ _ _ hp (by omega) (by omega)) ?_
  rw [← HD.out]
  rintro e w' ⟨rfl, rfl⟩
  go_wp2_with fail
  go_loopw [10, 11, 29] (fun _ _ i wr => ∃ k : Nat, k ≤ m ∧ i = .int .i64 k ∧ LayM wr R B N m o (scl p M at_ c k) ∧ Apart B w wr) (fun _ _ i _ => m - (intOf i).toNat)
  case atStart => exact ⟨0, by omega, rfl, HL0.out, Apart.refl _ _⟩
  case round =>
    obtain ⟨k, hk, rfl, hL, hap⟩ := hrel
    by_cases hlt : k < m
    · have hkm : (k : Int) < (m : Int) := by omega
      have hik : (0 : Int) ≤ (k : Int) ∧ (k : Int) < (m : Int) := by omega
      have hv := hL.num at_ k hat hlt
      have hf := hL.nfz at_ k hat hlt
      rw [scl, if_neg (by omega)] at hv
      have ry := HRG.out at_ k hat hlt
      have hl := HLD.out k
      have hS := hL.set hat hlt (ldr p M at_ c k)
      have HS := Lib.hid (hS.congr (M' := scl p M at_ c (k + 1)) fun i j _ _ => by
        unfold upd scl
        by_cases e : i = at_ ∧ j = k
        · obtain ⟨rfl, rfl⟩ := e
          rw [if_pos ⟨rfl, rfl⟩, if_pos ⟨rfl, by omega⟩]
        · rw [if_neg e]
          by_cases e2 : i = at_ ∧ j < k
          · rw [if_pos e2, if_pos ⟨e2.1, by omega⟩]
          · rw [if_neg e2, if_neg (fun e3 => by rcases Nat.lt_or_ge j k with q | q; exact e2 ⟨e3.1, q⟩; exact e ⟨e3.1, by omega⟩)])
      have HA := Lib.hid (hap.set (o at_ + k) (.int .i64 (ldr p M at_ c k)))
      clear hS hL hap
      rw [hl] at HS HA
      obtain ⟨y, hy⟩ : ∃ y, y = M at_ k := ⟨_, rfl⟩
      rw [← hy] at hv ry HS HA
      have mu := mulNN 30 30 900 (by decide) (a := y) (b := d) (by omega) (by omega)
      have d_1 := modR (y * d) hp
      clear hy hl
      go_wp2
      go_roundw
      case rel => exact ⟨k + 1, by omega, by go_num, HS.out, HA.out⟩
      case measure => simp [intOf]; omega
    · obtain rfl : k = m := by omega
      have HL1 := Lib.hid (show LayM wr R B N k o (elm p M at_ c 0 0) from hL.congr fun i j _ hj => by
        unfold scl elm
        by_cases e : i = at_
        · rw [if_pos ⟨e, hj⟩, if_pos e]
        · rw [if_neg (fun q => e q.1), if_neg e, if_neg (by omega)])
      have HAP := Lib.hid hap
      clear hL hap
      obtain ⟨w1, hw1⟩ : ∃ w1, w1 = wr := ⟨_, rfl⟩
      rw [← hw1] at HL1 HAP ⊢
      clear hw1
      have hh1 := HL1.out.head at_ hat
      go_wp2_with fail
      go_loopw [12, 13, 14, 15, 16, 45] (fun _ _ _ _ _ i wr => ∃ i0 : Nat, i0 ≤ N ∧ i = .int .i64 i0 ∧ LayM wr R B N k o (elm p M at_ c i0 0) ∧ Apart B w wr) (fun _ _ _ _ _ i _ => N - (intOf i).toNat)
      case atStart => exact ⟨0, by omega, rfl, HL1.out, HAP.out⟩
      case round =>
        obtain ⟨i0, hi0, rfl, hL, hap⟩ := hrel
        by_cases hlt2 : i0 < N
        · have hii : (0 : Int) ≤ (i0 : Int) ∧ (i0 : Int) < (N : Int) := by omega
          have hhi := hL.head i0 hlt2
          by_cases he : i0 = at_
          · subst he
            have HN := Lib.hid (show LayM wr R B N k o (elm p M i0 c (i0 + 1) 0) from hL.congr fun i j _ _ => by
              unfold elm
              by_cases e : i = i0
              · rw [if_pos e, if_pos e]
              · rw [if_neg e, if_neg e]
                by_cases e2 : i < i0
                · rw [if_pos (.inl e2), if_pos (.inl (by omega))]
                · rw [if_neg (by omega), if_neg (by omega)])
            clear hL
            go_wp2
            go_roundw
            case rel => exact ⟨i0 + 1, by omega, by go_num, HN.out, hap⟩
            case measure => simp [intOf]; omega
          · have hne : ((i0 : Int) == (at_ : Int)) = false := by rw [beq_eq_false_iff_ne]; omega
            have hneq : ¬ ((i0 : Int) = (at_ : Int)) := by omega
            have ht := hL.num i0 c hlt2 hc
            rw [elm, if_neg he, if_neg (by omega)] at ht
            have rt := HRG.out i0 c hlt2 hc
            obtain ⟨t, htt⟩ : ∃ t, t = M i0 c := ⟨_, rfl⟩
            rw [← htt] at ht rt
            have HT := Lib.hid htt
            clear htt
            obtain ⟨wo, rfl⟩ : ∃ wo : World, wo = wr := ⟨_, rfl⟩
            go_wp2_with fail
            go_loopw [15, 16, 59] (fun _ _ j wr => ∃ j0 : Nat, j0 ≤ k ∧ j = .int .i64 j0 ∧ LayM wr R B N k o (elm p M at_ c i0 j0) ∧ Apart B w wr) (fun _ _ j _ => k - (intOf j).toNat)
            case atStart => exact ⟨0, by omega, rfl, hL, hap⟩
            case round =>
              obtain ⟨j0, hj0, rfl, hL, hap⟩ := hrel
              by_cases hlt3 : j0 < k
              · have hij : (0 : Int) ≤ (j0 : Int) ∧ (j0 : Int) < (k : Int) := by omega
                have hv := hL.num i0 j0 hlt2 hlt3
                have hf := hL.nfz i0 j0 hlt2 hlt3
                have hv2 := hL.num at_ j0 hat hlt3
                rw [elm, if_neg he, if_neg (by omega)] at hv
                rw [elm, if_pos rfl] at hv2
                have ry := HRG.out i0 j0 hlt2 hlt3
                have rz := HRL.out j0
                have hS := hL.set hlt2 hlt3 ((M i0 j0 - M i0 c * ldr p M at_ c j0) % p)
                have HS := Lib.hid (hS.congr (M' := elm p M at_ c i0 (j0 + 1)) fun i j _ _ => by
                  unfold upd elm
                  by_cases e : i = i0 ∧ j = j0
                  · obtain ⟨rfl, rfl⟩ := e
                    rw [if_pos ⟨rfl, rfl⟩, if_neg he, if_pos (.inr ⟨rfl, by omega⟩)]
                  · rw [if_neg e]
                    by_cases e2 : i = at_
                    · rw [if_pos e2, if_pos e2]
                    · rw [if_neg e2, if_neg e2]
                      by_cases e3 : i < i0 ∨ (i = i0 ∧ j < j0)
                      · rw [if_pos e3, if_pos (by omega)]
                      · rw [if_neg e3, if_neg (by omega)])
                have HA := Lib.hid (hap.set (o i0 + j0) (.int .i64 ((M i0 j0 - M i0 c * ldr p M at_ c j0) % p)))
                clear hS hL hap
                rw [← HT.out] at HS HA
                obtain ⟨y, hy⟩ : ∃ y, y = M i0 j0 := ⟨_, rfl⟩
                obtain ⟨z, hz⟩ : ∃ z, z = ldr p M at_ c j0 := ⟨_, rfl⟩
                rw [← hz] at hv2 rz HS HA
                rw [← hy] at hv ry HS HA
                have mu := mulNN 30 30 900 (by decide) (a := t) (b := z) (by omega) (by omega)
                clear hy hz
                go_wp2_with fail
                refine Calls.mono (rest_any _ _ _ (by omega) (by omega) (by omega) (by omega)) ?_
                rintro e w' ⟨rfl, rfl⟩
                go_wp2
                go_roundw
                case rel => exact ⟨j0 + 1, by omega, by go_num, HS.out, HA.out⟩
                case measure => simp [intOf]; omega
              · obtain rfl : j0 = k := by omega
                have HN := Lib.hid (show LayM wr R B N j0 o (elm p M at_ c (i0 + 1) 0) from hL.congr fun i j _ hj => by
                  unfold elm
                  by_cases e : i = at_
                  · rw [if_pos e, if_pos e]
                  · rw [if_neg e, if_neg e]
                    by_cases e2 : i < i0 ∨ (i = i0 ∧ j < j0)
                    · rw [if_pos e2, if_pos (by omega)]
                    · rw [if_neg e2, if_neg (by omega)])
                clear hL
                go_wp2
                go_roundw
                case rel => exact ⟨i0 + 1, by omega, by go_num, HN.out, hap⟩
                case measure => simp [intOf]; omega
        · obtain rfl : i0 = N := by omega
          have HN := Lib.hid (show LayM wr R B i0 k o (ml p M at_ c) from hL.congr fun i j hi _ => by
            unfold elm ml
            by_cases e : i = at_
            · rw [if_pos e, if_pos e]
            · rw [if_neg e, if_neg e, if_pos (.inl hi)])
          clear hL
          go_wp2
          go_end0
          exact ⟨⟨_, rfl⟩, HN.out, hap⟩

end Go.Proofs.Ytmpgpmcmhbpjeaa
