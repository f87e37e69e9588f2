/-
  impl.pointsOf's iterator: p points, each a combination of the first two.
-/
import Derived.RangeFuncNested
import Derived.RangeFuncBound
import Derived.RangeFuncCalls
import Derived.RangeFuncLeaves
import Derived.Shelf.Abstract
import Derived.Test.YtklfgelmieecmabOnMath
import Derived.Test.YtklfgelmieecmabImplComb
import Derived.OwnWalkIn
import Derived.TacticsInMore
import Derived.LoopNIn
import Derived.LoopIn
namespace Go.Proofs.Ytklfgelmieecmab
open Go.RowKit Go.Shelf

attribute [local go_sem] Oper.semAt_some

theorem cbs_succ (p s1 s2 n1 n2 : Int) (k : Nat) : cbs p s1 s2 n1 n2 (k + 1) = cbs p s1 s2 n1 n2 k ++ [(cmb p s1 n1 (k : Int), cmb p s2 n2 (k : Int))] := by simp [cbs, List.range_succ]
theorem cbs_length (p s1 s2 n1 n2 : Int) (k : Nat) : (cbs p s1 s2 n1 n2 k).length = k := by simp [cbs]
theorem cbs_pre (p s1 s2 n1 n2 : Int) {k m : Nat} (h : k ≤ m) : cbs p s1 s2 n1 n2 k <+: cbs p s1 s2 n1 n2 m := by
  refine ⟨((List.range (m - k)).map fun i => ((cmb p s1 n1 ((k + i : Nat) : Int), cmb p s2 n2 ((k + i : Nat) : Int)) : Int × Int)), ?_⟩
  have e : List.range m = List.range k ++ (List.range (m - k)).map (k + ·) := by
    conv => lhs; rw [show m = k + (m - k) by omega, List.range_add]
  simp [cbs, e, List.map_map, Function.comp_def]
/-- A point as a value. -/
def ptV (x : Int × Int) : Value := .agg #[.int .i64 x.1, .int .i64 x.2]
theorem below_grown {W w1 : World} (h : Below W.heap.size W w1) : W.grownBy w1 none := ⟨h.os, h.tape, h.output, h.size, fun k hk _ => h.block k hk⟩

/-- The blocks from lo to hi lie as they lay; none has gone. -/
def Btw (lo hi : Nat) (W W' : World) : Prop := W.heap.size ≤ W'.heap.size ∧ ∀ k, lo ≤ k → k < hi → W'.heap[k]? = W.heap[k]?
theorem btw_refl (lo hi : Nat) (W : World) : Btw lo hi W W := ⟨Nat.le_refl _, fun _ _ _ => rfl⟩
theorem btw_trans {lo hi : Nat} {A B C : World} (h : Btw lo hi A B) (k : Btw lo hi B C) : Btw lo hi A C := ⟨Nat.le_trans h.1 k.1, fun i h1 h2 => (k.2 i h1 h2).trans (h.2 i h1 h2)⟩
theorem btw_below {lo hi B : Nat} {W W' : World} (h : Below B W W') (hB : hi ≤ B) : Btw lo hi W W' := ⟨h.size, fun k _ hk => h.block k (by omega)⟩
theorem btw_alloc {lo hi : Nat} (W : World) (o : Obj) (h : hi ≤ W.heap.size) : Btw lo hi W (W.alloc o) := btw_below ((Below.refl hi W).alloc h o) (Nat.le_refl _)
theorem btw_grown {lo hi : Nat} {W W' : World} {row : Option Nat} (h : W.grownBy W' row) (hi' : hi ≤ W.heap.size) (hr : ∀ g, row = some g → g < lo ∨ hi ≤ g) : Btw lo hi W W' :=
  ⟨h.size, fun k h1 h2 => h.block k (by omega) (fun e => by have := hr k e.symm; omega)⟩
theorem btw_setCell {lo hi : Nat} (W : World) (a : Addr) (v : Value) (h : a.block < lo ∨ hi ≤ a.block) : Btw lo hi W (W.setCell a v) :=
  ⟨by simp [World.setCell], fun k h1 h2 => Below.heap_setCell W a v k (by omega)⟩
theorem btw_putObj {lo hi : Nat} {w : World} (h : hi ≤ w.heap.size) (W : World) (l : Nat) (o o' : Obj) (hl : w.heap.size ≤ l) (_ : W.heap[l]? = some o) (_ : o.isCells = false) (_ : o.isWalk = false) : Btw lo hi W (W.putObj l o') := by
  have hg := grownBy_putObj' W l o'
  exact ⟨hg.size, fun k h1 h2 => hg.block k (by
    rcases Nat.lt_or_ge k W.heap.size with h3 | h3
    · exact h3
    · have := (Array.getElem?_eq_some_iff.1 (by assumption : W.heap[l]? = some o)).1; omega) (fun e => by cases e; omega)⟩
theorem btw_cell {lo hi : Nat} {W W' : World} (h : Btw lo hi W W') {b : Nat} (h1 : lo ≤ b) (h2 : b < hi) (j : Nat) : W'.cell? ⟨b, j, none⟩ = W.cell? ⟨b, j, none⟩ := World.cell?_of_block (a := ⟨b, j, none⟩) (h.2 b h1 h2)

set_option maxRecDepth 100000 in
set_option maxRecDepth 20000 in
set_option maxHeartbeats 1000000 in
theorem seqPts_in (n l b0 b1 b2 lo hi : Nat) (p s1 s2 n1 n2 : Int) (hn : 1 ≤ n) (hp : isP p = true) (hs1 : 0 ≤ s1 ∧ s1 ≤ 31) (hs2 : 0 ≤ s2 ∧ s2 ≤ 31) (hn1 : 0 ≤ n1 ∧ n1 ≤ 31) (hn2 : 0 ≤ n2 ∧ n2 ≤ 31) (J Jx : List (Int × Int) → World → Prop)
    (W : World) (hJ : AbidesFrom W.heap.size J)
    (hY : ∀ pre x W1, J pre W1 → pre.length < p.toNat → YieldAt Fence.wide (n - 1) Try.prog l #[ptV x] W1 fun e W' =>
      (e = .returned (.bool true) ∧ J (pre ++ [x]) W' ∧ Btw lo hi W1 W') ∨ (e = .returned (.bool false) ∧ Jx (pre ++ [x]) W'))
    (h0 : W.cell? ⟨b0, 0, none⟩ = some (.int .i64 p)) (h1 : W.cell? ⟨b1, 0, none⟩ = some (.int .i64 s1)) (h2 : W.cell? ⟨b1, 1, none⟩ = some (.int .i64 s2)) (h3 : W.cell? ⟨b2, 0, none⟩ = some (.int .i64 n1)) (h4 : W.cell? ⟨b2, 1, none⟩ = some (.int .i64 n2))
    (g0 : lo ≤ b0 ∧ b0 < hi) (g1 : lo ≤ b1 ∧ b1 < hi) (g2 : lo ≤ b2 ∧ b2 < hi) (hhi : hi ≤ W.heap.size) (hst : J [] W) :
    CallsIn Fence.wide n Try.prog 83 #[.func (.yield l) #[] #[], .pointer (some ⟨b0, 0, none⟩), .pointer (some ⟨b1, 0, none⟩), .pointer (some ⟨b2, 0, none⟩)] W fun e W' => (∃ v, e = .returned v) ∧
      ((∃ ys, ys = cbs p s1 s2 n1 n2 p.toNat ∧ J ys W') ∨ (∃ pre, pre <+: cbs p s1 s2 n1 n2 p.toNat ∧ Jx pre W')) := by
  have hr := isP_range hp
  have hc0 : (p.toNat : Int) = p := Int.toNat_of_nonneg (by omega)
  have HC0 := Lib.hid hc0
  clear hc0
  refine callsIn_of_wp Try.func83 rfl trivial ?_ rfl
  simp only [Try.ntmps83, List.size_toArray, List.length_cons, List.length_nil, Nat.reduceAdd, Nat.reduceSub, Array.replicate_succ, Array.replicate_zero, List.push_toArray, List.append_toArray, List.nil_append, List.cons_append]
  gi_wp2
  gi_loopw [5, 7] (fun _ i wr => ∃ k : Nat, (k : Int) ≤ p ∧ i = .int .i64 k ∧ J (cbs p s1 s2 n1 n2 k) wr ∧ Btw lo hi W wr) (fun _ i _ => p.toNat - (intOf i).toNat)
  case atStart => exact ⟨0, by omega, rfl, hst, btw_refl _ _ _⟩
  case round =>
    obtain ⟨k, hk, rfl, hJk, hbel⟩ := hrel
    by_cases hlt : (k : Int) < p
    · have c0 : wr.cell? ⟨b0, 0, none⟩ = some (.int .i64 p) := (btw_cell hbel g0.1 g0.2 0).trans h0
      have c1 : wr.cell? ⟨b1, 0, none⟩ = some (.int .i64 s1) := (btw_cell hbel g1.1 g1.2 0).trans h1
      have c2 : wr.cell? ⟨b1, 1, none⟩ = some (.int .i64 s2) := (btw_cell hbel g1.1 g1.2 1).trans h2
      have c3 : wr.cell? ⟨b2, 0, none⟩ = some (.int .i64 n1) := (btw_cell hbel g2.1 g2.2 0).trans h3
      have c4 : wr.cell? ⟨b2, 1, none⟩ = some (.int .i64 n2) := (btw_cell hbel g2.1 g2.2 1).trans h4
      have HS := Lib.hid (cbs_succ p s1 s2 n1 n2 k)
      have hkn : k < p.toNat := by have := HC0.out; omega
      obtain ⟨x1, hx1⟩ : ∃ x, x = cmb p s1 n1 (k : Int) := ⟨_, rfl⟩
      obtain ⟨x2, hx2⟩ : ∃ x, x = cmb p s2 n2 (k : Int) := ⟨_, rfl⟩
      rw [← hx1, ← hx2] at HS
      have Hx1 := Lib.hid hx1
      have Hx2 := Lib.hid hx2
      clear hx1 hx2
      have hcall := fun w' => implComb_any p s1 s2 n1 n2 (k : Int) w' hp hs1 hs2 hn1 hn2 (by omega)
      rw [← Hx1.out, ← Hx2.out] at hcall
      gi_wp2_with fail
      refine ⟨trivial, CallsIn.mono (callsIn_wide.2 (hcall _)) ?_⟩
      rintro e w1 ⟨rfl, hB1⟩
      obtain ⟨fn, tmps, assign, body, hy, hR⟩ := hY (cbs p s1 s2 n1 n2 k) (x1, x2) w1 (hJ _ _ _ none hJk (below_grown hB1) (fun _ h => by cases h)) (by rw [cbs_length]; exact hkn)
      dsimp only [ptV] at hy
      clear hcall
      gi_wp2
      refine hR.mono ?_
      rintro e W3 (⟨rfl, hJ3, hk3⟩ | ⟨rfl, hJx3⟩)
      · gi_wp2
        go_roundw
        case rel => exact ⟨k + 1, by omega, by go_num, by rw [HS.out]; exact hJ3, btw_trans (btw_trans hbel (btw_below hB1 (by have := hbel.1; omega))) hk3⟩
        case measure => have := HC0.out; simp [intOf]; omega
      · gi_wp2
        refine bodyPost_ret (results_none rfl _ _ _) rfl ?_
        exact ⟨⟨_, rfl⟩, .inr ⟨_, by rw [← HS.out]; exact cbs_pre _ _ _ _ _ (by omega), hJx3⟩⟩
    · have e : k = p.toNat := by have := HC0.out; omega
      have HE := Lib.hid e
      clear e
      gi_wp2
      go_end0
      exact ⟨⟨_, rfl⟩, .inl (by rw [← HE.out]; exact hJk)⟩

end Go.Proofs.Ytklfgelmieecmab
