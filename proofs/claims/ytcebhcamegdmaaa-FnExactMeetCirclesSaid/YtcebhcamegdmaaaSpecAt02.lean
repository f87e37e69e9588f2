/-
  spec.l02At: the points at a quadrance, row by row.
-/
import Derived.Test.YtcebhcamegdmaaaSetMath
import Derived.Test.YtcebhcamegdmaaaSpecProd
import Derived.Test.YtcebhcamegdmaaaPtCells
import Derived.Test.YtcebhcamegdmaaaGrow
import Derived.Test.YtcebhcamegdmaaaBaseMath
namespace Go.Proofs.Ytcebhcamegdmaaa
open Go.RowKit

/-- What a call leaves that returns a slice of its own alone. -/
def OnePost (T : TypeId) (k : Nat) (L : List Int) (n : Nat) (w : World) (e : Ending) (w' : World) : Prop :=
  ∃ v, e = .returned v ∧ w'.ownsRow w.heap.size T k v n (ints L) ∧ Below w.heap.size w w'

set_option maxRecDepth 20000 in
set_option maxHeartbeats 4000000 in
theorem specAt02_any (p col a1 a2 q : Int) (w : World) (hp : isP p = true) (hc : colB col = true) (ha1 : 0 ≤ a1 ∧ a1 ≤ 31) (ha2 : 0 ≤ a2 ∧ a2 ≤ 31) :
    Calls Try.prog 71 #[.int .i64 p, .int .i64 col, .agg #[.int .i64 a1, .int .i64 a2], .int .i64 q] w fun e w' =>
      OnePost 26 2 (flat (gridL (fun x y => qdr p col a1 a2 x y == q) p.toNat p.toNat)) (gridL (fun x y => qdr p col a1 a2 x y == q) p.toNat p.toNat).length w e w' := by
  have hr := isP_range hp
  have hcr := colB_range hc
  have hc0 : (p.toNat : Int) = p := Int.toNat_of_nonneg (by omega)
  have HC0 := Lib.hid hc0
  clear hc0
  obtain ⟨g, hg⟩ : ∃ g : Int → Int → Int, g = fun x y => qdr p col a1 a2 x y := ⟨_, rfl⟩
  have hon : ∀ (x y : Int) (w : World), 0 ≤ x ∧ x ≤ 31 → 0 ≤ y ∧ y ≤ 31 → Calls Try.prog 89 #[.int .i64 p, .int .i64 col, .agg #[.int .i64 a1, .int .i64 a2], .agg #[.int .i64 x, .int .i64 y]] w fun e w' => e = .returned (.int .i64 (g x y)) ∧ Below w.heap.size w w' := fun x y w hx hy => by
    rw [hg]; exact specQuad_any p col a1 a2 x y w hp hc ha1 ha2 hx hy
  obtain ⟨f, hf⟩ : ∃ f : Int → Int → Bool, f = fun x y => g x y == q := ⟨_, rfl⟩
  have hfe : (fun x y => qdr p col a1 a2 x y == q) = f := by rw [hf, hg]
  rw [hfe]
  have HFE := Lib.hid (show ∀ x y, (g x y == q) = f x y from fun x y => by rw [hf])
  clear hf hg hfe
  have HON := Lib.hid hon
  clear hon
  obtain ⟨i0, hi, hz0, hz1, hz2⟩ := info_parts infoPt
  go_enter Try.func71, Try.ntmps71
  go_wp2_with fail
  have l0 : (w.alloc (.cells #[.int .i64 a1, .int .i64 a2] 26)).cell? ⟨w.heap.size, 0, none⟩ = some (.int .i64 a1) := kfresh rfl rfl
  have l1' : (w.alloc (.cells #[.int .i64 a1, .int .i64 a2] 26)).cell? ⟨w.heap.size, 1, none⟩ = some (.int .i64 a2) := kfresh rfl rfl
  have hbw : Below w.heap.size w (w.alloc (.cells #[.int .i64 a1, .int .i64 a2] 26)) := (Below.refl _ _).alloc (Nat.le_refl _) _
  have hsw : (w.alloc (.cells #[.int .i64 a1, .int .i64 a2] 26)).heap.size = w.heap.size + 1 := by simp
  obtain ⟨w0, hw0⟩ : ∃ w0, w0 = (w.alloc (.cells #[.int .i64 a1, .int .i64 a2] 26)) := ⟨_, rfl⟩
  rw [← hw0] at l0 l1' hbw hsw ⊢
  clear hw0
  have H0 := Lib.hid (And.intro l0 l1')
  clear l0 l1'
  go_loopw [9, 10, 11] (fun v i _ wr => ∃ x : Nat, (x : Int) ≤ p ∧ i = .int .i64 x ∧ wr.ownsRow (w.heap.size + 1) 26 2 v (gridL f p.toNat x).length (ints (flat (gridL f p.toNat x))) ∧ Below (w.heap.size + 1) w0 wr) (fun _ i _ _ => p.toNat - (intOf i).toNat)
  case atStart => exact ⟨0, by omega, rfl, (own_lit0 (base := w.heap.size + 1) (b := w.heap.size + 1) w0 26 2 (by omega) hsw.symm), (Below.refl _ _).alloc (by omega) _⟩
  case round =>
    obtain ⟨x, hx, rfl, hown, hbel⟩ := hrel
    have hgl := gridL_le f p.toNat x
    by_cases hlt : (x : Int) < p
    · have HG := Lib.hid (gridL_succ f p.toNat x)
      have hxm : x * p.toNat ≤ 961 := Nat.le_trans (Nat.mul_le_mul (by omega : x ≤ 31) (by omega : p.toNat ≤ 31)) (by decide)
      obtain ⟨wo, rfl⟩ : ∃ wo : World, wo = wr := ⟨_, rfl⟩
      go_wp2_with fail
      go_loopw [9, 11] (fun v i wr => ∃ y : Nat, (y : Int) ≤ p ∧ i = .int .i64 y ∧ wr.ownsRow (w.heap.size + 1) 26 2 v (gridL f p.toNat x ++ rowL f x y).length (ints (flat (gridL f p.toNat x ++ rowL f x y))) ∧ Below (w.heap.size + 1) w0 wr) (fun _ i _ => p.toNat - (intOf i).toNat)
      case atStart => exact ⟨0, by omega, rfl, by simpa [rowL] using hown, hbel⟩
      case round =>
        obtain ⟨y, hy, rfl, hown, hbel⟩ := hrel
        have hrl := rowL_le f x y
        by_cases hlty : (y : Int) < p
        · have k0 : wr.cell? ⟨w.heap.size, 0, none⟩ = some (.int .i64 a1) := (cell_old hbel (by omega) 0).trans H0.out.1
          have k1 : wr.cell? ⟨w.heap.size, 1, none⟩ = some (.int .i64 a2) := (cell_old hbel (by omega) 1).trans H0.out.2
          have hsr := hbel.size
          have hlw : w.heap.size < wr.heap.size := by omega
          obtain ⟨z, hz⟩ : ∃ z, z = g (x : Int) (y : Int) := ⟨_, rfl⟩
          have hfz : (z == q) = f x y := by rw [hz]; exact HFE.out _ _
          have hcall := fun w' => HON.out (x : Int) (y : Int) w' (by omega) (by omega)
          rw [← hz] at hcall
          clear hz
          rcases bool_ways (f x y) with ht | ht
          · have HU := Lib.hid (rowL_no ht)
            rw [ht] at hfz
            go_wp2_with fail
            refine Calls.mono (hcall _) ?_
            rintro e w2 ⟨rfl, hB2⟩
            (obtain ⟨hB2c, hB2f⟩ := bcell hB2; have hB2s := hB2.size; (try simp at hB2s); (try have hB2q1 := Nat.lt_of_succ_le hB2s); (try have hB2q2 := Nat.lt_of_succ_lt hB2q1); (try have hB2q3 := Nat.lt_of_succ_lt hB2q2); (try have hB2zw0 : w.heap.size < w2.heap.size := (by omega)); (try have hB2zw1 : w.heap.size + 1 < w2.heap.size := (by omega)); (try have hB2zw2 : w.heap.size + 1 + 1 < w2.heap.size := (by omega)); (try have hB2zw3 : w.heap.size + 1 + 1 + 1 < w2.heap.size := (by omega)); (try have hB2zw4 : w.heap.size + 1 + 1 + 1 + 1 < w2.heap.size := (by omega)); (try have hB2zwr0 : wr.heap.size < w2.heap.size := (by omega)); (try have hB2zwr1 : wr.heap.size + 1 < w2.heap.size := (by omega)); (try have hB2zwr2 : wr.heap.size + 1 + 1 < w2.heap.size := (by omega)); (try have hB2zwr3 : wr.heap.size + 1 + 1 + 1 < w2.heap.size := (by omega)); (try have hB2zwr4 : wr.heap.size + 1 + 1 + 1 + 1 < w2.heap.size := (by omega)))
            have ho1 := own_call (hown.alloc _) hB2
            go_wp2
            go_roundw
            case rel => exact ⟨y + 1, by omega, by go_num, by rw [HU.out]; exact ho1, (hbel.alloc (by omega) _).trans (hB2.mono (by simp; omega))⟩
            case measure => have := HC0.out; simp [intOf]; omega
          · have HU := Lib.hid (rowL_yes ht)
            rw [ht] at hfz
            go_wp2_with fail
            refine Calls.mono (hcall _) ?_
            rintro e w2 ⟨rfl, hB2⟩
            (obtain ⟨hB2c, hB2f⟩ := bcell hB2; have hB2s := hB2.size; (try simp at hB2s); (try have hB2q1 := Nat.lt_of_succ_le hB2s); (try have hB2q2 := Nat.lt_of_succ_lt hB2q1); (try have hB2q3 := Nat.lt_of_succ_lt hB2q2); (try have hB2zw0 : w.heap.size < w2.heap.size := (by omega)); (try have hB2zw1 : w.heap.size + 1 < w2.heap.size := (by omega)); (try have hB2zw2 : w.heap.size + 1 + 1 < w2.heap.size := (by omega)); (try have hB2zw3 : w.heap.size + 1 + 1 + 1 < w2.heap.size := (by omega)); (try have hB2zw4 : w.heap.size + 1 + 1 + 1 + 1 < w2.heap.size := (by omega)); (try have hB2zwr0 : wr.heap.size < w2.heap.size := (by omega)); (try have hB2zwr1 : wr.heap.size + 1 < w2.heap.size := (by omega)); (try have hB2zwr2 : wr.heap.size + 1 + 1 < w2.heap.size := (by omega)); (try have hB2zwr3 : wr.heap.size + 1 + 1 + 1 < w2.heap.size := (by omega)); (try have hB2zwr4 : wr.heap.size + 1 + 1 + 1 + 1 < w2.heap.size := (by omega)))
            have ho1 := own_call (hown.alloc _) hB2
            have hb2 : Below (w.heap.size + 1) w0 w2 := (hbel.alloc (by omega) _).trans (hB2.mono (by simp; omega))
            have hs2 := hb2.size
            go_wp2_with (at_builtin; refine wpList_append_own _ rfl _ _ 45 rfl (w.heap.size + 1) 26 i0 _ 2 16 Try.underlying45 hi hz0 hz1 hz2 rfl (by decide) _ _ _ rfl (ho1.alloc _) ⟨w2.heap.size, 0, none⟩ 1 1 [.int .i64 x, .int .i64 y] rfl rfl (pt_cells rfl) (pt_one _ _) ?c3 ?c4 ?c5 ?_)
            case c3 => rw [List.length_append]; unfold maxLen; omega
            case c4 => rw [List.length_append]; omega
            case c5 => simp; omega
            intro v' w3 hown' hgrow _
            have hb3 : Below (w.heap.size + 1) w0 w3 := (hb2.alloc (by omega) _).grown hgrow (by simp; omega) (fun g hg => (ho1.lt g hg).1)
            have HN := Lib.hid (show w3.ownsRow (w.heap.size + 1) 26 2 v' (gridL f p.toNat x ++ rowL f x (y + 1)).length (ints (flat (gridL f p.toNat x ++ rowL f x (y + 1)))) from by
              rw [HU.out, ← List.append_assoc, flat_append, ints_append, List.length_append, List.length_append]; exact hown')
            clear hown' hgrow ho1 hown hbel
            go_wp2
            go_roundw
            case rel => exact ⟨y + 1, by omega, by go_num, HN.out, hb3⟩
            case measure => have := HC0.out; simp [intOf]; omega
        · have hy' : y = p.toNat := by have := HC0.out; omega
          subst hy'
          have HN := Lib.hid (show wr.ownsRow (w.heap.size + 1) 26 2 _ (gridL f p.toNat (x + 1)).length (ints (flat (gridL f p.toNat (x + 1)))) from by rw [HG.out]; exact hown)
          clear hown
          go_wp2
          go_roundw
          case rel => exact ⟨x + 1, by omega, by go_num, HN.out, hbel⟩
          case measure => have := HC0.out; simp [intOf]; omega
    · have hx' : x = p.toNat := by have := HC0.out; omega
      subst hx'
      have HO := Lib.hid hown
      clear hown
      go_wp2
      (refine bodyPost_ret (v := u9) (by simp [results, Try.results71, go_sem]) rfl ⟨_, rfl, own_base HO.out (by omega), hbw.trans (hbel.mono (by omega))⟩)

end Go.Proofs.Ytcebhcamegdmaaa
