/-
  The laws' own copies of slices of numbers: laws.toInt64S.
-/
import Derived.Test.YtijmmagdkbnhdaaMod
import Derived.Test.YtijmmagdkbnhdaaCoefMath
import Derived.Test.YtijmmagdkbnhdaaGrow
import Derived.Test.YtijmmagdkbnhdaaSlice
import Derived.OwnWalk
import Derived.LoopN
namespace Go.Proofs.Ytijmmagdkbnhdaa
open Go.RowKit

set_option linter.unusedSimpArgs false in
theorem made_tabI (m : Nat) : (madeCells #[Value.int .i64 0] m).toList = ints (tab m fun _ => 0) := by
  simp [madeCells, ints, tab, Nat.mod_one]
/-- A slice of n numbers, as an argument gives it. -/
def SliceIn (w : World) (v : Value) (n : Nat) (f : Nat → Int) : Prop :=
  (n = 0 ∧ ∃ a c, v = .slice a 0 c) ∨ (0 < n ∧ ∃ b o c, v = .slice (some ⟨b, o, none⟩) n c ∧ b < w.heap.size ∧ ∀ i, i < n → w.cell? ⟨b, o + i, none⟩ = some (.int .i64 (f i)))
set_option linter.unusedSimpArgs false in
theorem sliceIn_below {w w' : World} {v : Value} {n : Nat} {f : Nat → Int} (h : SliceIn w v n f) (hb : Below w.heap.size w w') : SliceIn w' v n f := by
  rcases h with h | ⟨h0, b, o, c, h1, h2, h3⟩
  · exact .inl h
  · exact .inr ⟨h0, b, o, c, h1, by have := hb.size; omega, fun i hi => (cell_back hb h2 _).trans (h3 i hi)⟩

set_option maxRecDepth 20000 in
set_option maxHeartbeats 4000000 in
set_option linter.unusedSimpArgs false in
theorem toInts_any (v : Value) (n : Nat) (f : Nat → Int) (w : World) (hn : n ≤ 1048576) (hv : SliceIn w v n f) :
    Calls Try.prog 23 #[v] w fun e w' => e = .returned (.slice (some ⟨w.heap.size, 0, none⟩) n n) ∧ w'.ownsRow w.heap.size 2 1 (.slice (some ⟨w.heap.size, 0, none⟩) n n) n (ints (tab n f)) ∧ Below w.heap.size w w' := by
  obtain ⟨i0, hi, hz0, hz1, hz2⟩ := info_parts infoInt1
  rcases hv with ⟨rfl, a, c, rfl⟩ | ⟨h0, b, o, c, rfl, hb, hc⟩
  · go_enter Try.func23, Try.ntmps23
    go_wp2_with (at_make; refine wpList_make_full _ rfl _ _ 40 rfl w.heap.size 2 i0 (.int .i64 0) 1 Try.underlying40 hi hz0 hz1 .i64 .i64 _ _ 0 rfl rfl (by rfl) (by rfl) (by omega) (by unfold maxLen; omega) (Nat.le_refl _) ?_)
    intro wm hom hgm
    have hom' : wm.ownsRow w.heap.size 2 1 (.slice (some ⟨w.heap.size, 0, none⟩) 0 0) 0 (ints (tab 0 f)) := by simpa [tab, ints, madeCells] using hom
    have hbm : Below w.heap.size w wm := (Below.refl _ _).grown hgm (Nat.le_refl _) (fun g hg => by cases hg)
    have HO := Lib.hid hom'
    clear hgm hom hom'
    go_wp2
    refine wp_loop_rounds 1 ?_
    rw [rounds_succ]
    go_wp2
    (refine bodyPost_ret (v := .slice (some ⟨w.heap.size, 0, none⟩) 0 0) (by simp [results, Try.results23, go_sem]) rfl ⟨rfl, HO.out, hbm⟩)
  · have HC := Lib.hid hc
    clear hc
    have hn0 : (0 : Int) ≤ (n : Int) := by omega
    go_enter Try.func23, Try.ntmps23
    go_wp2_with (at_make; refine wpList_make_full _ rfl _ _ 40 rfl w.heap.size 2 i0 (.int .i64 0) 1 Try.underlying40 hi hz0 hz1 .i64 .i64 _ _ n rfl rfl (by rfl) (by rfl) (by rw [hz2]; omega) (by unfold maxLen; omega) (Nat.le_refl _) ?_)
    intro wm hom hgm
    rw [made_tabI, show tab n (fun _ => 0) = tab n (fun i => if i < 0 then f i else 0) from tab_congr fun i _ => by rw [if_neg (by omega)]] at hom
    have hbm : Below w.heap.size w wm := (Below.refl _ _).grown hgm (Nat.le_refl _) (fun g hg => by cases hg)
    have HO := Lib.hid hom
    clear hgm hom
    go_wp2_with fail
    go_loopw [4] (fun i wr => ∃ k : Nat, k ≤ n ∧ i = .int .i64 k ∧ wr.ownsRow w.heap.size 2 1 (.slice (some ⟨w.heap.size, 0, none⟩) n n) n (ints (tab n (fun i => if i < k then f i else 0))) ∧ Below w.heap.size w wr) (fun i _ => n - (intOf i).toNat)
    case' atStart => exact ⟨0, by omega, rfl, HO.out, hbm⟩
    case' round =>
      obtain ⟨k, hk, rfl, hown, hbel⟩ := hrel
      by_cases hlt : k < n
      · have hlt' : (k : Int) < (n : Int) := by omega
        have hia : (0 : Int) ≤ (k : Int) ∧ (k : Int) < (n : Int) := by omega
        have hcn : wr.cell? ⟨b, o + k, none⟩ = some (.int .i64 (f k)) := (cell_back hbel hb _).trans (HC.out k hlt)
        have hca : wr.cell? ⟨w.heap.size, k, none⟩ = some (.int .i64 0) := by rw [own_cell hown (j := k) (by omega), tab_getD _ hlt, if_neg (by omega)]
        have hza := hown.frozenAt k
        have hst := hown.stored k (.int .i64 (f k))
        rw [tab_step (g := fun i => if i < k + 1 then f i else 0) (fun i _ => by
          by_cases e : i = k
          · subst e; rw [if_pos (by omega), if_pos rfl]
          · rw [if_neg e]; by_cases e2 : i < k
            · rw [if_pos e2, if_pos (by omega)]
            · rw [if_neg e2, if_neg (by omega)])] at hst
        have hb2 : Below w.heap.size w (wr.setCell ⟨w.heap.size, k, none⟩ (.int .i64 (f k))) := hbel.setCell (Nat.le_refl _) _
        have HO2 := Lib.hid hst.1
        have HB2 := Lib.hid hb2
        clear hst hown hbel hb2
        obtain ⟨x, hx⟩ : ∃ x, x = f k := ⟨_, rfl⟩
        rw [← hx] at hcn HO2 HB2
        clear hx
        go_wp2_with fail
        go_roundw
        case rel => exact ⟨k + 1, by omega, by go_num, HO2.out, HB2.out⟩
        case measure => simp [intOf]; omega
      obtain rfl : k = n := by omega
      have HO3 := Lib.hid (show wr.ownsRow w.heap.size 2 1 (.slice (some ⟨w.heap.size, 0, none⟩) k k) k (ints (tab k f)) from by
        rw [tab_congr (g := fun i => if i < k then f i else 0) (fun i hi => by rw [if_pos hi])]; exact hown)
      clear hown
      go_wp2_with fail
      (refine bodyPost_ret (v := .slice (some ⟨w.heap.size, 0, none⟩) k k) (by simp [results, Try.results23, go_sem]) rfl ⟨rfl, HO3.out, hbel⟩)

end Go.Proofs.Ytijmmagdkbnhdaa
