/-
  spec.l09All: all places, in order.
-/
import Derived.Test.YtkkaicneabkkdaaPlCellsq
import Derived.Test.YtkkaicneabkkdaaMgq0

namespace Go.Proofs.Ytkkaicneabkkdaa
open Go.RowKit

theorem ownQ_snoc {w : World} {base : Nat} {v : Value} {n : Nat} {L : List Pl32} {x : Pl32} {x1 x2 x3 : Int} (hx : toQ x = (x1, x2, x3)) (h : w.ownsRow base 23 3 v (L.length + 1) (ints (flatQ L) ++ [.int .i64 x1, .int .i64 x2, .int .i64 x3])) (hn : n = (L ++ [x]).length) :
    w.ownsRow base 23 3 v n (ints (flatQ (L ++ [x]))) := by
  subst hn
  rw [flatQ_append, ints_append, hx, List.length_append]
  exact h

set_option maxRecDepth 20000 in
set_option maxHeartbeats 4000000 in
theorem specAllQ_any (p : Int) (w : World) (hp : isP p = true) :
    Calls Try.prog 85 #[.int .i64 p] w fun e w' => OnePost 23 3 (flatQ (allQ p.toNat)) (allQ p.toNat).length w e w' := by
  have hr := isP_range hp
  have hc0 : (p.toNat : Int) = p := Int.toNat_of_nonneg (by omega)
  have HC0 := Lib.hid hc0
  clear hc0
  obtain ⟨i0, hi, hz0, hz1, hz2⟩ := info_parts infoPl
  go_enter Try.func85, Try.ntmps85
  go_wp2_with fail
  have hl0 : (w.alloc (.cells #[.int .i64 0, .int .i64 0, .int .i64 1] 23)).ownsRow w.heap.size 23 3 (.slice (some ⟨w.heap.size, 0, none⟩) 1 1) (allQ1 0).length (ints (flatQ (allQ1 0))) :=
    World.ownsRow_lit w #[.int .i64 0, .int .i64 0, .int .i64 1] 1 (Nat.le_refl _) (by decide) (by decide)
  have hb0 : Below w.heap.size w (w.alloc (.cells #[.int .i64 0, .int .i64 0, .int .i64 1] 23)) := (Below.refl _ _).alloc (Nat.le_refl _) _
  go_loopw [3, 4] (fun v i wr => ∃ z : Nat, (z : Int) ≤ p ∧ i = .int .i64 z ∧ wr.ownsRow w.heap.size 23 3 v (allQ1 z).length (ints (flatQ (allQ1 z))) ∧ Below w.heap.size w wr) (fun _ i _ => p.toNat - (intOf i).toNat)
  case atStart => exact ⟨0, by omega, rfl, hl0, hb0⟩
  case round =>
    obtain ⟨z, hz, rfl, hown, hbel⟩ := hrel
    by_cases hlt : (z : Int) < p
    · have HS := Lib.hid (allQ1_succ z)
      have hq : toQ (q01 z) = (0, 1, (z : Int)) := by have := HC0.out; simp [toQ, q01, Fin.ofNat]; omega
      have HQ := Lib.hid hq
      have hlz := allQ1_len z
      have hsr := hbel.size
      clear hq
      go_wp2_with (at_builtin; refine wpList_append_own _ rfl _ _ 34 rfl w.heap.size 23 i0 _ 3 24 Try.underlying34 hi hz0 hz1 hz2 rfl (by decide) _ _ _ rfl (hown.alloc _) ⟨wr.heap.size, 0, none⟩ 1 1 [.int .i64 0, .int .i64 1, .int .i64 z] rfl rfl (pl_cells rfl) (pl_one _ _ _) ?c3 ?c4 ?c5 ?_)
      case c3 => unfold maxLen; omega
      case c4 => omega
      case c5 => simp; omega
      intro v' w3 hown' hgrow _
      have hb3 : Below w.heap.size w w3 := (hbel.alloc hsr _).grown hgrow (by simp; omega) (fun g' hg' => (hown.lt g' hg').1)
      have HO := Lib.hid (show w3.ownsRow w.heap.size 23 3 v' (allQ1 (z + 1)).length (ints (flatQ (allQ1 (z + 1)))) from by rw [HS.out]; exact ownQ_snoc HQ.out (by rw [hlz]; exact hown') rfl)
      clear hown' hgrow hown hbel
      go_wp2
      go_roundw
      case rel => exact ⟨z + 1, by omega, by go_num, HO.out, hb3⟩
      case measure => have := HC0.out; simp [intOf]; omega
    · have e : z = p.toNat := by have := HC0.out; omega
      subst e
      rw [← allQ2_nil] at hown
      have HO := Lib.hid hown
      clear hown
      obtain ⟨m, hm⟩ : ∃ m, m = p.toNat := ⟨_, rfl⟩
      have HM := Lib.hid hm
      rw [← hm] at HO HC0
      clear hm
      go_wp2
      go_loopw [3, 5, 6] (fun v i _ wr => ∃ x : Nat, (x : Int) ≤ p ∧ i = .int .i64 x ∧ wr.ownsRow w.heap.size 23 3 v (allQ2 m (allF m x 0)).length (ints (flatQ (allQ2 m (allF m x 0)))) ∧ Below w.heap.size w wr) (fun _ i _ _ => p.toNat - (intOf i).toNat)
      case atStart => exact ⟨0, by omega, rfl, HO.out, hbel⟩
      case round =>
        obtain ⟨x, hx, rfl, hown, hbel⟩ := hrel
        by_cases hltx : (x : Int) < p
        · have HR := Lib.hid (allF_row m x)
          have hxm : x < m := by have := HC0.out; omega
          have HXM := Lib.hid hxm
          clear hxm
          obtain ⟨wo, rfl⟩ : ∃ wo : World, wo = wr := ⟨_, rfl⟩
          go_wp2
          go_loopw [3, 6] (fun v i wr => ∃ y : Nat, (y : Int) ≤ p ∧ i = .int .i64 y ∧ wr.ownsRow w.heap.size 23 3 v (allQ2 m (allF m x y)).length (ints (flatQ (allQ2 m (allF m x y)))) ∧ Below w.heap.size w wr) (fun _ i _ => p.toNat - (intOf i).toNat)
          case atStart => exact ⟨0, by omega, rfl, hown, hbel⟩
          case round =>
            obtain ⟨y, hy, rfl, hown, hbel⟩ := hrel
            by_cases hlty : (y : Int) < p
            · have HS := Lib.hid (show allQ2 m (allF m x (y + 1)) = allQ2 m (allF m x y) ++ [q11 (toF ((x : Int), (y : Int)))] from by rw [allF_next, allQ2_snoc])
              have HQ := Lib.hid (show toQ (q11 (toF ((x : Int), (y : Int)))) = (1, (x : Int), (y : Int)) from by
                have h := toP_toF (x := x) (y := y) (by omega) (by omega)
                simp only [toP, Prod.mk.injEq] at h
                simp only [toQ, q11, h.1, h.2]; rfl)
              have hlz : (allQ2 m (allF m x y)).length ≤ 1023 := by
                have := HC0.out
                have := HXM.out
                rw [allQ2_len, allF_len]
                have : x * m ≤ 30 * 31 := Nat.mul_le_mul (by omega) (by omega)
                omega
              have hsr := hbel.size
              go_wp2_with (at_builtin; refine wpList_append_own _ rfl _ _ 34 rfl w.heap.size 23 i0 _ 3 24 Try.underlying34 hi hz0 hz1 hz2 rfl (by decide) _ _ _ rfl (hown.alloc _) ⟨wr.heap.size, 0, none⟩ 1 1 [.int .i64 1, .int .i64 x, .int .i64 y] rfl rfl (pl_cells rfl) (pl_one _ _ _) ?c3 ?c4 ?c5 ?_)
              case c3 => unfold maxLen; omega
              case c4 => omega
              case c5 => simp; omega
              intro v' w3 hown' hgrow _
              have hb3 : Below w.heap.size w w3 := (hbel.alloc hsr _).grown hgrow (by simp; omega) (fun g' hg' => (hown.lt g' hg').1)
              have HO := Lib.hid (show w3.ownsRow w.heap.size 23 3 v' (allQ2 m (allF m x (y + 1))).length (ints (flatQ (allQ2 m (allF m x (y + 1))))) from by rw [HS.out]; exact ownQ_snoc HQ.out hown' rfl)
              clear hown' hgrow hown hbel hlz
              go_wp2
              go_roundw
              case rel => exact ⟨y + 1, by omega, by go_num, HO.out, hb3⟩
              case measure => have := HC0.out; simp [intOf]; omega
            · have e : y = m := by have := HC0.out; omega
              subst e
              rw [HR.out] at hown
              go_wp2
              go_roundw
              case rel => exact ⟨x + 1, by omega, by go_num, hown, hbel⟩
              case measure => have := HC0.out; simp [intOf]; omega
        · have e : x = m := by have := HC0.out; omega
          subst e
          have HO2 := Lib.hid hown
          clear hown
          go_wp2
          (refine bodyPost_ret (v := u3) (by simp [results, Try.results85, go_sem]) rfl ⟨_, rfl, by rw [← HM.out]; exact HO2.out, hbel⟩)

end Go.Proofs.Ytkkaicneabkkdaa
