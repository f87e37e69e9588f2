/-
  The model's source of drawn numbers: spec.l01Next.
-/
import Derived.Test.YtodabjolblamgaaRows
import Derived.Test.YtodabjolblamgaaSlice
import Derived.Test.YtodabjolblamgaaBaseMath
import Derived.WalkKit
import Derived.LoopN
import Derived.Deep.QuietTactic
import Derived.Deep.RegionHeld3
import Derived.BigQuiet
import Derived.Lib.Hide
import Derived.Laws.Bits64b
import Derived.WalkSmall
import Derived.Maps.AppendAt
namespace Go.Proofs.Ytodabjolblamgaa
open Go.RowKit

/-- A code that can be read: its bytes lie in old blocks. -/
def CodeAt (w : World) (base : Nat) (a : Option Addr) (m : Nat) : Prop :=
  m ≤ 4611686018427387904 ∧ ∀ j, j < m → ∃ cb co x, a = some ⟨cb, co, none⟩ ∧ cb < base ∧ w.cell? ⟨cb, co + j, none⟩ = some (.int .u8 x) ∧ 0 ≤ x ∧ x < 256
/-- A source in block b. -/
def Src (w : World) (base b : Nat) (a : Option Addr) (m c : Nat) : Prop :=
  base ≤ b ∧ b < w.heap.size ∧ CodeAt w base a m ∧ ∃ (t : Nat) (h : Int), w.cell? ⟨b, 0, none⟩ = some (.slice a m c) ∧ w.cell? ⟨b, 1, none⟩ = some (.int .i64 (t : Int)) ∧ w.cell? ⟨b, 2, none⟩ = some (.int .u64 h) ∧ w.frozen? ⟨b, 1, none⟩ = false ∧ w.frozen? ⟨b, 2, none⟩ = false ∧ t ≤ m ∧ 0 ≤ h ∧ h < 18446744073709551616

/-- What a draw leaves. -/
def NextPost (base b m c : Nat) (a : Option Addr) (n : Int) (w : World) (e : Ending) (w' : World) : Prop :=
  ∃ x : Int, e = .returned (.int .i64 x) ∧ 0 ≤ x ∧ (1 ≤ n → x < n) ∧ (n < 1 → x = 0) ∧ Src w' base b a m c ∧ Below base w w' ∧ w.grownBy w' (some b)
theorem grown_set (w : World) (b j : Nat) (u : Value) : w.grownBy (w.setCell ⟨b, j, none⟩ u) (some b) :=
  ⟨rfl, rfl, rfl, by simp [World.setCell], fun k _ hne => Below.heap_setCell w ⟨b, j, none⟩ u k (fun e => hne (congrArg some e))⟩
theorem grown_drewN (w : World) (n : Nat) (r : Option Nat) : w.grownBy (w.drewN n) r := ⟨rfl, rfl, rfl, Nat.le_refl _, fun _ _ _ => rfl⟩
theorem grown_refl (w : World) (r : Option Nat) : w.grownBy w r := ⟨rfl, rfl, rfl, Nat.le_refl _, fun _ _ _ => rfl⟩
theorem mask_r (y : Int) (h0 : 0 ≤ y) (h1 : y < 18446744073709551616) : 0 ≤ bits .and .u64 (y / 8589934592) 16777215 ∧ bits .and .u64 (y / 8589934592) 16777215 ≤ 16777215 := by
  have h2 := bits_and_u64_nat (y / 8589934592).toNat 16777215 (by omega) (by decide)
  rw [Int.toNat_of_nonneg (by omega)] at h2
  have h3 := Nat.and_le_right (n := (y / 8589934592).toNat) (m := 16777215)
  rw [show ((16777215 : Nat) : Int) = 16777215 from rfl] at h2
  rw [h2]
  omega

set_option linter.unusedSimpArgs false in
set_option linter.unusedVariables false in
set_option maxRecDepth 20000 in
set_option maxHeartbeats 2000000 in
theorem next_any (n : Int) (base b m c : Nat) (a : Option Addr) (w : World) (hs : Src w base b a m c) (hn : n ≤ 9223372036854775807) :
    Calls Try.prog 82 #[.pointer (some ⟨b, 0, none⟩), .int .i64 n] w fun e w' => NextPost base b m c a n w e w' := by
  obtain ⟨hb1, hb2, hcode, t, h, k0, k1, k2, f1, f2, ht, hh0, hh1⟩ := hs
  by_cases hlt : n < 1
  · have HS := Lib.hid (show Src w base b a m c from ⟨hb1, hb2, hcode, t, h, k0, k1, k2, f1, f2, ht, hh0, hh1⟩)
    go_enter Try.func82, Try.ntmps82
    go_wp2
    go_ret
    exact ⟨0, rfl, by omega, by omega, fun _ => rfl, HS.out, Below.refl _ _, grown_refl _ _⟩
  · obtain ⟨h2, hh2⟩ : ∃ h2, IntKind.u64.wrap (IntKind.u64.wrap (h * 6364136223846793005) + 1442695040888963407) = h2 := ⟨_, rfl⟩
    have hr2 : 0 ≤ h2 ∧ h2 < 18446744073709551616 := by rw [← hh2, IntKind.wrap_u64]; omega
    have hx0 := mask_r h2 hr2.1 hr2.2
    obtain ⟨x, hx⟩ : ∃ x, bits BinOp.and IntKind.u64 (h2 / 8589934592) 16777215 = x := ⟨_, rfl⟩
    rw [hx] at hx0
    have hw : wrap64 x = x := by unfold wrap64; omega
    obtain ⟨w1, hw1⟩ : ∃ w1, w1 = w.setCell ⟨b, 2, none⟩ (.int .u64 h2) := ⟨_, rfl⟩
    have q0 : w1.cell? ⟨b, 0, none⟩ = some (.slice a m c) := by rw [hw1]; exact kother (by decide) k0
    have q1 : w1.cell? ⟨b, 1, none⟩ = some (.int .i64 (t : Int)) := by rw [hw1]; exact kother (by decide) k1
    have q2 : w1.cell? ⟨b, 2, none⟩ = some (.int .u64 h2) := by rw [hw1]; exact ksame k2
    have g1 : w1.frozen? ⟨b, 1, none⟩ = false := by rw [hw1]; exact fset f1
    have g2 : w1.frozen? ⟨b, 2, none⟩ = false := by rw [hw1]; exact fset f2
    have hB1 : Below base w w1 := by rw [hw1]; exact (Below.refl _ _).setCell hb1 _
    have hG1 : w.grownBy w1 (some b) := by rw [hw1]; exact grown_set _ _ _ _
    have hz1 : b < w1.heap.size := by rw [hw1]; simpa [World.setCell] using hb2
    have hcode1 : CodeAt w1 base a m := ⟨hcode.1, fun j hj => by
      obtain ⟨cb, co, y, e, hcb, hcy, hy⟩ := hcode.2 j hj
      exact ⟨cb, co, y, e, hcb, (cell_old hB1 hcb _).trans hcy, hy⟩⟩
    have hmm := hcode.1
    have HC := Lib.hid hcode1
    clear hcode hcode1
    go_enter Try.func82, Try.ntmps82
    go_wp2_with fail
    rw [← hw1]
    clear hw1 k0 k1 k2 f1 f2
    by_cases htm : t < m
    · obtain ⟨cb, co, y, rfl, hcb, hcy, hy0, hy1⟩ := HC.out.2 t htm
      have htm' : (t : Int) < (m : Int) := by omega
      have hidx : (0 : Int) ≤ (t : Int) ∧ (t : Int) < (m : Int) := by omega
      have e1 : IntKind.i64.wrap ((t : Int) + 1) = ((t + 1 : Nat) : Int) := by rw [IntWalk.i64_in _ (by omega)]; omega
      have e2 : IntKind.i64.wrap (x + y) = x + y := wrapI _ (by omega)
      have e3 : wrap64 y = y := by unfold wrap64; omega
      have e4 : IntKind.i64.wrap y = y := IntWalk.i64_in _ (by omega)
      have hcy1 : w1.cell? ⟨cb, co + t, none⟩ = some (.int .u8 y) := hcy
      have hb2n : b ≠ cb := by omega
      have HS := Lib.hid (fun k => (show Src ((w1.drewN k).setCell ⟨b, 1, none⟩ (.int .i64 ((t : Int) + 1))) base b (some ⟨cb, co, none⟩) m c ∧ Below base w ((w1.drewN k).setCell ⟨b, 1, none⟩ (.int .i64 ((t : Int) + 1))) from
        ⟨⟨hb1, by simpa [World.setCell] using hz1, ⟨hmm, fun j hj => by
          obtain ⟨cb', co', y', e, hcb', hcy', hy'⟩ := HC.out.2 j hj
          exact ⟨cb', co', y', e, hcb', (cell_old ((Below.refl base (w1.drewN k)).setCell hb1 _) hcb' _).trans hcy', hy'⟩⟩, t + 1, h2, kother (W := w1.drewN k) (by decide) q0, by rw [Int.natCast_add]; exact ksame (W := w1.drewN k) q1, kother (W := w1.drewN k) (by decide) q2, fset (W := w1.drewN k) g1, fset (W := w1.drewN k) g2, by omega, hr2.1, hr2.2⟩, (below_drewN hB1 k).setCell hb1 _⟩))
      have hmod := Int.emod_nonneg (x + y) (show n ≠ 0 by omega)
      have hmod2 := Int.emod_lt_of_pos (x + y) (show 0 < n by omega)
      have HM := Lib.hid (And.intro hmod hmod2)
      clear hmod hmod2
      go_quiet (fail)
      go_wp2
      go_quiet (fail)
      go_wp2
      go_ret
      exact ⟨_, rfl, HM.out.1, fun _ => HM.out.2, fun h => absurd h (by omega), (HS.out _).1, (HS.out _).2, (hG1.trans (grown_drewN _ _ _)).trans (grown_set _ _ _ _)⟩
    · have htm' : ¬ (t : Int) < (m : Int) := by omega
      have HS := Lib.hid (show Src w1 base b a m c ∧ Below base w w1 from ⟨⟨hb1, hz1, HC.out, t, h2, q0, q1, q2, g1, g2, ht, hr2.1, hr2.2⟩, hB1⟩)
      have hmod := Int.emod_nonneg x (show n ≠ 0 by omega)
      have hmod2 := Int.emod_lt_of_pos x (show 0 < n by omega)
      have HM := Lib.hid (And.intro hmod hmod2)
      clear hmod hmod2
      go_quiet (fail)
      go_wp2
      go_ret
      exact ⟨_, rfl, HM.out.1, fun _ => HM.out.2, fun h => absurd h (by omega), HS.out.1, below_drewN HS.out.2 _, hG1.trans (grown_drewN _ _ _)⟩

/-- What a pick out of a list leaves. -/
def PickPost (base b m c : Nat) (a : Option Addr) (xs : List Int) (w : World) (e : Ending) (w' : World) : Prop :=
  ∃ j : Nat, j < xs.length ∧ e = .returned (.int .i64 (xs.getD j 0)) ∧ Src w' base b a m c ∧ Below base w w' ∧ w.grownBy w' (some b)
set_option linter.unusedSimpArgs false in
set_option linter.unusedVariables false in
set_option maxRecDepth 20000 in
set_option maxHeartbeats 2000000 in
theorem pick_any (base b m c g k : Nat) (e : TypeId) (a : Option Addr) (v : Value) (xs : List Int) (bb : Nat) (w : World) (hs : Src w base b a m c) (ho : w.ownsRow bb e 1 v k (ints xs)) (hk : 0 < k) (hap : ∀ g, v.ownBlock = some g → g ≠ b) :
    Calls Try.prog 120 #[.pointer (some ⟨b, 0, none⟩), v] w fun e w' => PickPost base b m c a xs w e w' := by
  have hl : xs.length = k := by have := ho.1; rw [ints_length] at this; omega
  rcases own_ways ho with ⟨h0, _⟩ | ⟨h0, g, gc, rfl, hg1, hg2, hgm⟩
  · omega
  have HO := Lib.hid ho
  have HL := Lib.hid hl
  have hgb := hap g rfl
  clear ho hl hap
  go_enter Try.func120, Try.ntmps120
  go_wp2_with fail
  refine Calls.mono (next_any (k : Int) base b m c a _ hs (by omega)) ?_
  rintro e w1 ⟨x, rfl, hx0, hx1, _, hs1, hB1, hG1⟩
  obtain ⟨j, rfl⟩ := Int.eq_ofNat_of_zero_le hx0
  have hjk : j < k := by have := hx1 (by omega); omega
  have hidx : (0 : Int) ≤ (j : Int) ∧ (j : Int) < (k : Int) := by omega
  have hcell : w1.cell? ⟨g, j, none⟩ = some (.int .i64 (xs.getD j 0)) := own_cell (HO.out.kept hG1 (.inr (by simp [Value.ownBlock, hgb]))) (by omega)
  have HR := Lib.hid (And.intro hs1 (And.intro hB1 hG1))
  clear hs1 hB1 hG1 hx0 hx1
  go_wp2
  go_ret
  exact ⟨j, by have := HL.out; omega, rfl, HR.out.1, HR.out.2.1, HR.out.2.2⟩

/-- What a draw of some number leaves. -/
def SomePost (base b m c : Nat) (a : Option Addr) (w : World) (e : Ending) (w' : World) : Prop :=
  ∃ x : Int, e = .returned (.int .i64 x) ∧ -4611686018427387904 ≤ x ∧ x ≤ 4611686018427387904 ∧ Src w' base b a m c ∧ Below base w w' ∧ w.grownBy w' (some b)
theorem src_alloc {w : World} {base b m c : Nat} {a : Option Addr} (h : Src w base b a m c) (o : Obj) : Src (w.alloc o) base b a m c := by
  obtain ⟨h1, h2, hc, t, x, k0, k1, k2, f1, f2, r⟩ := h
  exact ⟨h1, by simp; omega, ⟨hc.1, fun j hj => by obtain ⟨cb, co, y, e, hcb, hcy, hy⟩ := hc.2 j hj; exact ⟨cb, co, y, e, hcb, kalloc _ hcy, hy⟩⟩, t, x, kalloc _ k0, kalloc _ k1, kalloc _ k2, falloc (by exact h2) f1, falloc (by exact h2) f2, r⟩
set_option linter.unusedSimpArgs false in
set_option linter.unusedVariables false in
set_option maxRecDepth 20000 in
set_option maxHeartbeats 2000000 in
theorem near_any (most : Int) (base b m c : Nat) (a : Option Addr) (w : World) (hs : Src w base b a m c) (h0 : 0 ≤ most) (h1 : most ≤ 100000) :
    Calls Try.prog 107 #[.pointer (some ⟨b, 0, none⟩), .int .i64 most] w fun e w' => SomePost base b m c a w e w' := by
  have e1 : IntKind.i64.wrap (most + 1) = most + 1 := wrapI _ (by omega)
  go_enter Try.func107, Try.ntmps107
  go_wp2_with fail
  refine Calls.mono (next_any 14 base b m c a _ hs (by omega)) ?_
  rintro e w1 ⟨x, rfl, hx0, hx1, _, hs1, hB1, hG1⟩
  have hbw := hs1.2.1
  by_cases hz : x = 0
  · subst hz
    go_wp2_with fail
    refine Calls.mono (pick_any base b m c w1.heap.size 4 2 a _ [-1, most + 1, 1099511627776, -4611686018427387904] w1.heap.size _ (src_alloc hs1 _) (own_lit (cs := [-1, most + 1, 1099511627776, -4611686018427387904]) (k := 1) (by first | exact Nat.le_refl _ | (simp; done)) (by first | rfl | (simp; done)) (by omega) (by rfl)) (by omega) (fun g hg => by simp [Value.ownBlock] at hg; omega)) ?_
    rintro e w2 ⟨j, hj, rfl, hs2, hB2, hG2⟩
    have hr : -4611686018427387904 ≤ [-1, most + 1, 1099511627776, -4611686018427387904].getD j 0 ∧ [-1, most + 1, 1099511627776, -4611686018427387904].getD j 0 ≤ 4611686018427387904 := by
      have hj4 : j < 4 := by simpa using hj
      rcases (show j = 0 ∨ j = 1 ∨ j = 2 ∨ j = 3 by omega) with rfl | rfl | rfl | rfl
      · exact ⟨show (-4611686018427387904 : Int) ≤ -1 by decide, show (-1 : Int) ≤ _ by decide⟩
      · exact ⟨show (-4611686018427387904 : Int) ≤ most + 1 by omega, show most + 1 ≤ _ by omega⟩
      · exact ⟨show (-4611686018427387904 : Int) ≤ 1099511627776 by decide, show (1099511627776 : Int) ≤ _ by decide⟩
      · exact ⟨show (-4611686018427387904 : Int) ≤ -4611686018427387904 by decide, show (-4611686018427387904 : Int) ≤ _ by decide⟩
    obtain ⟨y, hy⟩ : ∃ y, y = [-1, most + 1, 1099511627776, -4611686018427387904].getD j 0 := ⟨_, rfl⟩
    rw [← hy] at hr ⊢
    clear hy
    go_wp2
    go_ret
    exact ⟨y, rfl, hr.1, hr.2, hs2, hB1.trans (((Below.refl base w1).alloc (by have := hs1.1; omega) _).trans hB2), hG1.trans ((World.grownBy_alloc w1 _ _).trans hG2)⟩
  · have hz' : (x == 0) = false := by rw [beq_eq_false_iff_ne]; exact hz
    go_wp2_with fail
    refine Calls.mono (next_any (most + 1) base b m c a _ hs1 (by omega)) ?_
    rintro e w2 ⟨y, rfl, hy0, hy1, _, hs2, hB2, hG2⟩
    have := hy1 (by omega)
    go_wp2
    go_ret
    exact ⟨y, rfl, by omega, by omega, hs2, hB1.trans hB2, hG1.trans hG2⟩

/-- What a draw of a field leaves. -/
def FieldPost (base b m c : Nat) (a : Option Addr) (w : World) (e : Ending) (w' : World) : Prop :=
  ∃ x : Int, e = .returned (.int .i64 x) ∧ isP x = true ∧ Src w' base b a m c ∧ Below base w w' ∧ w.grownBy w' (some b)
set_option linter.unusedSimpArgs false in
set_option linter.unusedVariables false in
set_option maxRecDepth 20000 in
set_option maxHeartbeats 2000000 in
theorem drawField_any (base b m c : Nat) (a : Option Addr) (w : World) (hs : Src w base b a m c) :
    Calls Try.prog 66 #[.pointer (some ⟨b, 0, none⟩)] w fun e w' => FieldPost base b m c a w e w' := by
  have hbw := hs.2.1
  go_enter Try.func66, Try.ntmps66
  go_wp2_with fail
  refine Calls.mono (pick_any base b m c w.heap.size 13 2 a _ [3, 5, 5, 7, 7, 11, 13, 13, 17, 19, 23, 29, 31] w.heap.size _ (src_alloc hs _) (own_lit (cs := [3, 5, 5, 7, 7, 11, 13, 13, 17, 19, 23, 29, 31]) (k := 1) (by first | exact Nat.le_refl _ | (simp; done)) (by first | rfl | (simp; done)) (by omega) (by rfl)) (by omega) (fun g hg => by simp [Value.ownBlock] at hg; omega)) ?_
  rintro e w2 ⟨j, hj, rfl, hs2, hB2, hG2⟩
  have hr : isP ([3, 5, 5, 7, 7, 11, 13, 13, 17, 19, 23, 29, 31].getD j 0) = true := by
    have hj13 : j < 13 := by simpa using hj
    exact (by decide : ∀ j : Fin 13, isP ([3, 5, 5, 7, 7, 11, 13, 13, 17, 19, 23, 29, 31].getD j.val 0) = true) ⟨j, hj13⟩
  obtain ⟨y, hy⟩ : ∃ y, y = [3, 5, 5, 7, 7, 11, 13, 13, 17, 19, 23, 29, (31 : Int)].getD j 0 := ⟨_, rfl⟩
  rw [← hy] at hr ⊢
  clear hy
  go_wp2
  go_ret
  exact ⟨y, rfl, hr, hs2, ((Below.refl base w).alloc (by have := hs.1; omega) _).trans hB2, (World.grownBy_alloc w _ _).trans hG2⟩
set_option linter.unusedSimpArgs false in
set_option linter.unusedVariables false in
set_option maxRecDepth 20000 in
set_option maxHeartbeats 2000000 in
theorem badField_any (p : Int) (base b m c : Nat) (a : Option Addr) (w : World) (hs : Src w base b a m c) (h0 : -4611686018427387904 ≤ p) (h1 : p ≤ 4611686018427387904) :
    Calls Try.prog 70 #[.pointer (some ⟨b, 0, none⟩), .int .i64 p] w fun e w' => SomePost base b m c a w e w' := by
  go_enter Try.func70, Try.ntmps70
  go_wp2_with fail
  refine Calls.mono (next_any 40 base b m c a _ hs (by omega)) ?_
  rintro e w1 ⟨x, rfl, hx0, hx1, _, hs1, hB1, hG1⟩
  have hbw := hs1.2.1
  by_cases hz : x = 0
  · subst hz
    go_wp2_with fail
    refine Calls.mono (pick_any base b m c w1.heap.size 8 2 a _ [2, 1, 0, -3, 9, 15, 37, 1099511627776] w1.heap.size _ (src_alloc hs1 _) (own_lit (cs := [2, 1, 0, -3, 9, 15, 37, 1099511627776]) (k := 1) (by first | exact Nat.le_refl _ | (simp; done)) (by first | rfl | (simp; done)) (by omega) (by rfl)) (by omega) (fun g hg => by simp [Value.ownBlock] at hg; omega)) ?_
    rintro e w2 ⟨j, hj, rfl, hs2, hB2, hG2⟩
    have hr : -4611686018427387904 ≤ [2, 1, 0, -3, 9, 15, 37, 1099511627776].getD j 0 ∧ [2, 1, 0, -3, 9, 15, 37, 1099511627776].getD j 0 ≤ (4611686018427387904 : Int) := by
      have hj8 : j < 8 := by simpa using hj
      exact (by decide : ∀ j : Fin 8, (-4611686018427387904 : Int) ≤ [2, 1, 0, -3, 9, 15, 37, 1099511627776].getD j.val 0 ∧ [2, 1, 0, -3, 9, 15, 37, 1099511627776].getD j.val 0 ≤ (4611686018427387904 : Int)) ⟨j, hj8⟩
    obtain ⟨y, hy⟩ : ∃ y, y = [2, 1, 0, -3, 9, 15, 37, (1099511627776 : Int)].getD j 0 := ⟨_, rfl⟩
    rw [← hy] at hr ⊢
    clear hy
    go_wp2
    go_ret
    exact ⟨y, rfl, hr.1, hr.2, hs2, hB1.trans (((Below.refl base w1).alloc (by have := hs1.1; omega) _).trans hB2), hG1.trans ((World.grownBy_alloc w1 _ _).trans hG2)⟩
  · have hz' : (x == 0) = false := by rw [beq_eq_false_iff_ne]; exact hz
    go_wp2
    go_ret
    exact ⟨p, rfl, h0, h1, hs1, hB1, hG1⟩

end Go.Proofs.Ytodabjolblamgaa
