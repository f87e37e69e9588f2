/-
  Walks of a number by a spread polynomial; impl.walk.
-/
import Derived.Test.YtinfjbaloppgkaaSpecValues
namespace Go.Proofs.Ytinfjbaloppgkaa
open Go.RowKit

/-- The j-th number of the walk. -/
def wk (p n s : Int) : Nat → Int
  | 0 => s
  | j + 1 => sv p (wk p n s j) n.toNat
theorem wk_r {p n s : Int} (hp : isP p = true) (h0 : 0 ≤ s) (h1 : s < p) (j : Nat) : 0 ≤ wk p n s j ∧ wk p n s j < p := by
  induction j with
  | zero => exact ⟨h0, h1⟩
  | succ j ih => exact sv_r hp ih.1 ih.2 _
/-- The first m numbers of the walk. -/
def wkL (p n s : Int) (m : Nat) : List Int := (List.range m).map (wk p n s)
theorem wkL_succ (p n s : Int) (m : Nat) : wkL p n s (m + 1) = wkL p n s m ++ [wk p n s m] := by simp [wkL, List.range_succ]
theorem wkL_length (p n s : Int) (m : Nat) : (wkL p n s m).length = m := by simp [wkL]
theorem wkL_one (p n s : Int) : wkL p n s 1 = [s] := rfl
/-- A number looked up among the values. -/
theorem valL_at (p n : Int) {x : Int} (h0 : 0 ≤ x) (h1 : x < p) : (valL p n p.toNat).getD x.toNat 0 = sv p x n.toNat := by
  have hx : ((x.toNat : Nat) : Int) = x := Int.toNat_of_nonneg h0
  simp [valL, List.getD_eq_getElem?_getD, List.getElem?_map, List.getElem?_range (show x.toNat < p.toNat by omega), hx]
theorem own_list1 {w : World} {base b : Nat} {e : TypeId} {x : Int} (hb : base ≤ w.heap.size) (hq : b = w.heap.size) : (w.alloc (.cells #[.int .i64 x] e)).ownsRow base e 1 (.slice (some ⟨b, 0, none⟩) 1 1) 1 (ints [x]) :=
  own_lit (cs := [x]) hb hq (by decide) rfl

set_option maxRecDepth 20000 in
set_option maxHeartbeats 2000000 in
theorem implWalk_any (p n s k : Int) (w : World) (hp : isP p = true) (hn : 0 ≤ n) (hn2 : n ≤ 1000) (hs0 : 0 ≤ s) (hs1 : s < p) (hk0 : 0 ≤ k) (hk1 : k ≤ 100) :
    Calls Try.prog 73 #[.int .i64 p, .int .i64 n, .int .i64 s, .int .i64 k] w fun e w' => OwnList p (wkL p n s (k.toNat + 1)) w e w' := by
  have hr := isP_range hp
  obtain ⟨K, rfl⟩ := Int.eq_ofNat_of_zero_le hk0
  have hc0 : (p.toNat : Int) = p := Int.toNat_of_nonneg (by omega)
  have HC0 := Lib.hid hc0
  clear hc0
  obtain ⟨i0, hi, hz0, hz1, hz2⟩ := info_parts infoInt1
  rw [Int.toNat_natCast]
  go_enter Try.func73, Try.ntmps73
  go_wp2_with fail
  refine Calls.mono (valueList_any p n _ hp hn hn2) ?_
  rintro e w0 ⟨v0, n0, rfl, ho0, hB0⟩
  obtain rfl : n0 = p.toNat := by have h := ho0.1; rw [ints_length, valL_length, Nat.mul_one] at h; exact h.symm
  rcases own_ways ho0 with ⟨h0, _⟩ | ⟨_, g, cap, rfl, hg1, hg2, _⟩
  · omega
  have HO := Lib.hid ho0
  clear ho0
  go_wp2_with fail
  go_loopw [2, 10, 17] (fun x v i wr => ∃ j : Nat, j ≤ K ∧ x = .int .i64 (wk p n s j) ∧ i = .int .i64 j ∧ wr.ownsRow w0.heap.size 2 1 v (j + 1) (ints (wkL p n s (j + 1))) ∧ Below w0.heap.size w0 wr) (fun _ _ i _ => K - (intOf i).toNat)
  case atStart => exact ⟨0, by omega, rfl, rfl, own_list1 (Nat.le_refl _) rfl, by (repeat (first | with_reducible exact Below.refl _ _ | with_reducible refine balloc ?_ _ | with_reducible refine bdrewN ?_ _ | with_reducible refine Below.drew ?_ | with_reducible refine bthen ?_ (by with_reducible assumption) | with_reducible refine Below.setCell ?_ (by first | (simp; done) | (simp; omega)) _))⟩
  case round =>
    obtain ⟨j, hj, rfl, rfl, hown, hbel⟩ := hrel
    by_cases hlt : j < K
    · have hlt' : (j : Int) < (K : Int) := by omega
      have hx := wk_r (n := n) hp hs0 hs1 j
      have HX := Lib.hid (show wk p n s (j + 1) = sv p (wk p n s j) n.toNat from rfl)
      have HL := Lib.hid (wkL_succ p n s (j + 1))
      obtain ⟨x, hxx⟩ : ∃ x, x = wk p n s j := ⟨_, rfl⟩
      rw [← hxx] at hx HX ⊢
      clear hxx
      have hcell : wr.cell? ⟨g, x.toNat, none⟩ = some (.int .i64 (sv p x n.toNat)) := by
        rw [cell_back hbel hg2, own_cell HO.out (by have := HC0.out; omega), valL_at p n hx.1 hx.2]
      have hidx : (0 : Int) ≤ x ∧ x < (p.toNat : Int) := by have := HC0.out; omega
      obtain ⟨y, hy⟩ : ∃ y, y = sv p x n.toNat := ⟨_, rfl⟩
      rw [← hy] at hcell HX
      clear hy
      have hsz := hbel.size
      go_wp2_with (at_builtin; refine wpList_append_own _ rfl _ _ 25 rfl w0.heap.size 2 i0 (.int .i64 0) 1 8 Try.underlying25 hi hz0 hz1 hz2 rfl (by decide) _ _ _ rfl (hown.alloc _) ⟨wr.heap.size, 0, none⟩ 1 1 [.int .i64 y] rfl rfl ?c1 (int_oneCell _) ?c3 ?c4 ?c5 ?_)
      case c1 =>
        intro j u hj
        match j, hj with
        | 0, hj => simp at hj; subst hj; simp [Addr.add]
      case c3 => unfold maxLen; omega
      case c4 => omega
      case c5 => simp; omega
      intro v' w2 hown' hgrow _
      have hb2 : Below w0.heap.size w0 w2 := (hbel.alloc (by omega) _).grown hgrow (by simp; omega) (fun g hg => (hown.lt g hg).1)
      have HN := Lib.hid (own_snoc hown' (rfl : j + 1 + 1 = j + 1 + 1))
      clear hown' hgrow hown hbel
      go_wp2
      go_roundw
      case rel => exact ⟨j + 1, by omega, by rw [HX.out], by go_num, by rw [HL.out, HX.out]; exact HN.out, hb2⟩
      case measure => simp [intOf]; omega
    · obtain rfl : j = K := by omega
      go_wp2
      (refine bodyPost_ret (v := u10) (by simp [results, Try.results73, go_sem]) rfl (ownList_mk (own_base hown hB0.size) (bthen hB0 hbel)))

end Go.Proofs.Ytinfjbaloppgkaa
