/-
  impl.ratiosBetween: a map from the combinations of two points to their ratios.
-/
import Derived.Test.YtklfgelmieecmaaPtKey
import Derived.Test.YtklfgelmieecmaaImplComb
import Derived.Test.YtklfgelmieecmaaSlice
namespace Go.Proofs.Ytklfgelmieecmaa
open Go.RowKit

/-- The map after k rounds. -/
def ratD (p a1 a2 b1 b2 : Int) : Nat → DataW Unit
  | 0 => .map []
  | k + 1 => (ratD p a1 a2 b1 b2 k).put (klP (cmb p a1 b1 (k : Int)) (cmb p a2 b2 (k : Int))) (.lit (.int .i64 (k : Int)))
/-- What the maker of the map leaves. -/
def RatMade (p a1 a2 b1 b2 : Int) (w : World) (e : Ending) (w' : World) : Prop :=
  ∃ B, e = .returned (.map (some B)) ∧ w'.ownsMap Try.prog 30 (Go.plainElem Try.prog 2) B p.toNat (ratD p a1 a2 b1 b2 p.toNat) ∧ Below w.heap.size w w'

theorem below_grown' {W w1 : World} (h : Below W.heap.size W w1) : W.grownBy w1 none := ⟨h.os, h.tape, h.output, h.size, fun k hk _ => h.block k hk⟩

set_option maxRecDepth 20000 in
set_option maxHeartbeats 2000000 in
theorem ratios_any (p a1 a2 b1 b2 : Int) (w : World) (hp : isP p = true) (ha1 : 0 ≤ a1 ∧ a1 ≤ 31) (ha2 : 0 ≤ a2 ∧ a2 ≤ 31) (hb1 : 0 ≤ b1 ∧ b1 ≤ 31) (hb2 : 0 ≤ b2 ∧ b2 ≤ 31) :
    Calls Try.prog 63 #[.int .i64 p, .agg #[.int .i64 a1, .int .i64 a2], .agg #[.int .i64 b1, .int .i64 b2]] w fun e w' => RatMade p a1 a2 b1 b2 w e w' := by
  have hr := isP_range hp
  have hc0 : (p.toNat : Int) = p := Int.toNat_of_nonneg (by omega)
  have HC0 := Lib.hid hc0
  clear hc0
  have hmm := @run_makeMap Try.prog
  go_enter Try.func63, Try.ntmps63
  go_wp2_with fail
  have q1 : ((w.alloc (.cells #[.int .i64 a1, .int .i64 a2] 30)).alloc (.cells #[.int .i64 b1, .int .i64 b2] 30)).cell? ⟨w.heap.size, 0, none⟩ = some (.int .i64 a1) := kalloc _ (kfresh rfl rfl)
  have q2 : ((w.alloc (.cells #[.int .i64 a1, .int .i64 a2] 30)).alloc (.cells #[.int .i64 b1, .int .i64 b2] 30)).cell? ⟨w.heap.size, 1, none⟩ = some (.int .i64 a2) := kalloc _ (kfresh rfl rfl)
  have q3 : ((w.alloc (.cells #[.int .i64 a1, .int .i64 a2] 30)).alloc (.cells #[.int .i64 b1, .int .i64 b2] 30)).cell? ⟨w.heap.size + 1, 0, none⟩ = some (.int .i64 b1) := kfresh (by simp) rfl
  have q4 : ((w.alloc (.cells #[.int .i64 a1, .int .i64 a2] 30)).alloc (.cells #[.int .i64 b1, .int .i64 b2] 30)).cell? ⟨w.heap.size + 1, 1, none⟩ = some (.int .i64 b2) := kfresh (by simp) rfl
  have hbw : Below w.heap.size w ((w.alloc (.cells #[.int .i64 a1, .int .i64 a2] 30)).alloc (.cells #[.int .i64 b1, .int .i64 b2] 30)) := ((Below.refl _ _).alloc (Nat.le_refl _) _).alloc (by simp) _
  have hsw : ((w.alloc (.cells #[.int .i64 a1, .int .i64 a2] 30)).alloc (.cells #[.int .i64 b1, .int .i64 b2] 30)).heap.size = w.heap.size + 1 + 1 := by simp
  obtain ⟨w0, hw0⟩ : ∃ w0, w0 = (w.alloc (.cells #[.int .i64 a1, .int .i64 a2] 30)).alloc (.cells #[.int .i64 b1, .int .i64 b2] 30) := ⟨_, rfl⟩
  have hmade := World.ownsMap_made (H := Unit) w0 Try.prog 30 (Go.plainElem Try.prog 2)
  rw [← hw0] at q1 q2 q3 q4 hbw hsw ⊢
  clear hw0
  have H0 := Lib.hid (And.intro q1 (And.intro q2 (And.intro q3 q4)))
  clear q1 q2 q3 q4
  go_loopw [8, 11] (fun _ i wr => ∃ k : Nat, (k : Int) ≤ p ∧ i = .int .i64 k ∧ wr.ownsMap Try.prog 30 (Go.plainElem Try.prog 2) (w.heap.size + 1 + 1) k (ratD p a1 a2 b1 b2 k) ∧ Below (w.heap.size + 1 + 1) w0 wr) (fun _ i _ => p.toNat - (intOf i).toNat)
  case atStart => exact ⟨0, by omega, rfl, by rw [← hsw]; exact hmade, (Below.refl _ _).alloc (by omega) _⟩
  case round =>
    obtain ⟨k, hk, rfl, hown, hbel⟩ := hrel
    by_cases hlt : (k : Int) < p
    · have k0 : wr.cell? ⟨w.heap.size, 0, none⟩ = some (.int .i64 a1) := (cell_old hbel (by omega) 0).trans H0.out.1
      have k1 : wr.cell? ⟨w.heap.size, 1, none⟩ = some (.int .i64 a2) := (cell_old hbel (by omega) 1).trans H0.out.2.1
      have k2 : wr.cell? ⟨w.heap.size + 1, 0, none⟩ = some (.int .i64 b1) := (cell_old hbel (by omega) 0).trans H0.out.2.2.1
      have k3 : wr.cell? ⟨w.heap.size + 1, 1, none⟩ = some (.int .i64 b2) := (cell_old hbel (by omega) 1).trans H0.out.2.2.2
      have hsr := hbel.size
      have rx := modR31 (a1 + (k : Int) * (b1 - a1)) hp
      have ry := modR31 (a2 + (k : Int) * (b2 - a2)) hp
      have HS := Lib.hid (show ratD p a1 a2 b1 b2 (k + 1) = (ratD p a1 a2 b1 b2 k).put (klP (cmb p a1 b1 (k : Int)) (cmb p a2 b2 (k : Int))) (.lit (.int .i64 (k : Int))) from rfl)
      have hcall := fun w' => implComb_any p a1 a2 b1 b2 (k : Int) w' hp ha1 ha2 hb1 hb2 (by omega)
      obtain ⟨x, hx⟩ : ∃ x, x = cmb p a1 b1 (k : Int) := ⟨_, rfl⟩
      obtain ⟨y, hy⟩ : ∃ y, y = cmb p a2 b2 (k : Int) := ⟨_, rfl⟩
      rw [show (a1 + (k : Int) * (b1 - a1)) % p = x from hx.symm] at rx
      rw [show (a2 + (k : Int) * (b2 - a2)) % p = y from hy.symm] at ry
      rw [← hx, ← hy] at hcall HS
      clear hx hy
      go_wp2_with fail
      refine Calls.mono (hcall _) ?_
      rintro e w1 ⟨rfl, hB1⟩
      clear hcall
      have hown1 := hown.kept (below_grown' hB1) (by simp)
      go_wp2_with (at_mapUpdate; refine wpList_mapUpdate_own _ rfl _ _ _ 68 rfl 30 2 ptLaw Try.underlying68 _ (w.heap.size + 1 + 1) k _ rfl hown1 (by unfold maxLen; omega) _ _ _ rfl rfl (keyOf_pt rx ry) _ [] (Go.plainElem_int Try.underlying2 (wf31 (by omega))) ?_)
      intro w2 hown2 hgrow2
      have hb2 : Below (w.heap.size + 1 + 1) w0 w2 := (hbel.trans (hB1.mono (by omega))).grown hgrow2 (by have := hB1.size; omega) (fun g e => by cases e; omega)
      have HN := Lib.hid (show w2.ownsMap Try.prog 30 (Go.plainElem Try.prog 2) (w.heap.size + 1 + 1) (k + 1) (ratD p a1 a2 b1 b2 (k + 1)) from by rw [HS.out]; exact hown2)
      clear hown hown1 hown2 hgrow2
      go_wp2
      go_roundw
      case rel => exact ⟨k + 1, by omega, by go_num, HN.out, hb2⟩
      case measure => have := HC0.out; simp [intOf]; omega
    · have hk' : k = p.toNat := by have := HC0.out; omega
      subst hk'
      have HO := Lib.hid hown
      clear hown
      go_wp2
      go_ret
      exact ⟨_, rfl, HO.out, hbw.trans (hbel.mono (by omega))⟩

end Go.Proofs.Ytklfgelmieecmaa
