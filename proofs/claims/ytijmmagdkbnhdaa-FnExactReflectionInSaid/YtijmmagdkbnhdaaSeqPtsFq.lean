/-
  impl.pointsOf's iterator, as a row of points whose numbers are small.
-/
import Derived.Test.YtijmmagdkbnhdaaMgq0
import Derived.Test.YtijmmagdkbnhdaaSeqAllq
import Derived.Test.YtijmmagdkbnhdaaImplCombq

namespace Go.Proofs.Ytijmmagdkbnhdaa
open Go.RowKit Go.Shelf

attribute [local go_sem] Oper.semAt_some

theorem toP_toFi {x y : Int} (hx : 0 ≤ x ∧ x ≤ 31) (hy : 0 ≤ y ∧ y ≤ 31) : toP (toF (x, y)) = (x, y) := by
  have h := toP_toF (x := x.toNat) (y := y.toNat) (by omega) (by omega)
  rwa [Int.toNat_of_nonneg hx.1, Int.toNat_of_nonneg hy.1] at h
/-- The combinations of two points with the numbers below k. -/
def cbF (p s1 s2 n1 n2 : Int) (k : Nat) : List Pt32 := (cbs p s1 s2 n1 n2 k).map toF
theorem cbF_succ (p s1 s2 n1 n2 : Int) (k : Nat) : cbF p s1 s2 n1 n2 (k + 1) = cbF p s1 s2 n1 n2 k ++ [toF (cmb p s1 n1 (k : Int), cmb p s2 n2 (k : Int))] := by simp [cbF, cbs, List.range_succ]
theorem cbF_length (p s1 s2 n1 n2 : Int) (k : Nat) : (cbF p s1 s2 n1 n2 k).length = k := by simp [cbF, cbs]
theorem cbF_pre (p s1 s2 n1 n2 : Int) {k m : Nat} (h : k ≤ m) : cbF p s1 s2 n1 n2 k <+: cbF p s1 s2 n1 n2 m := by
  refine ⟨((List.range (m - k)).map fun i => toF ((cmb p s1 n1 ((k + i : Nat) : Int), cmb p s2 n2 ((k + i : Nat) : Int)) : Int × Int)), ?_⟩
  have e : List.range m = List.range k ++ (List.range (m - k)).map (k + ·) := by
    conv => lhs; rw [show m = k + (m - k) by omega, List.range_add]
  simp [cbF, cbs, e, List.map_map, Function.comp_def]
theorem cbF_back {p : Int} (s1 s2 n1 n2 : Int) (k : Nat) (hp : isP p = true) : (cbF p s1 s2 n1 n2 k).map toP = cbs p s1 s2 n1 n2 k := by
  rw [cbF, List.map_map]
  conv => rhs; rw [← List.map_id (cbs p s1 s2 n1 n2 k)]
  refine List.map_congr_left fun z hz => ?_
  obtain ⟨t, _, rfl⟩ := List.mem_map.1 hz
  exact toP_toFi (modR31 _ hp) (modR31 _ hp)
set_option maxRecDepth 100000 in
set_option maxRecDepth 20000 in
set_option maxHeartbeats 1000000 in
theorem seqPtsF_in (n l b0 b1 b2 lo hi : Nat) (p s1 s2 n1 n2 : Int) (hn : 1 ≤ n) (hp : isP p = true) (hs1 : 0 ≤ s1 ∧ s1 ≤ 31) (hs2 : 0 ≤ s2 ∧ s2 ≤ 31) (hn1 : 0 ≤ n1 ∧ n1 ≤ 31) (hn2 : 0 ≤ n2 ∧ n2 ≤ 31) (J Jx : List Pt32 → World → Prop)
    (W : World) (hJ : AbidesFrom W.heap.size J)
    (hY : ∀ pre x W1, J pre W1 → pre.length < p.toNat → YieldAt Fence.wide (n - 1) Try.prog l #[ptV (toP x)] W1 fun e W' =>
      (e = .returned (.bool true) ∧ J (pre ++ [x]) W' ∧ Btw lo hi W1 W') ∨ (e = .returned (.bool false) ∧ Jx (pre ++ [x]) W'))
    (h0 : W.cell? ⟨b0, 0, none⟩ = some (.int .i64 p)) (h1 : W.cell? ⟨b1, 0, none⟩ = some (.int .i64 s1)) (h2 : W.cell? ⟨b1, 1, none⟩ = some (.int .i64 s2)) (h3 : W.cell? ⟨b2, 0, none⟩ = some (.int .i64 n1)) (h4 : W.cell? ⟨b2, 1, none⟩ = some (.int .i64 n2))
    (g0 : lo ≤ b0 ∧ b0 < hi) (g1 : lo ≤ b1 ∧ b1 < hi) (g2 : lo ≤ b2 ∧ b2 < hi) (hhi : hi ≤ W.heap.size) (hst : J [] W) :
    CallsIn Fence.wide n Try.prog 145 #[.func (.yield l) #[] #[], .pointer (some ⟨b0, 0, none⟩), .pointer (some ⟨b1, 0, none⟩), .pointer (some ⟨b2, 0, none⟩)] W fun e W' => (∃ v, e = .returned v) ∧
      ((∃ ys, ys = cbF p s1 s2 n1 n2 p.toNat ∧ J ys W') ∨ (∃ pre, pre <+: cbF p s1 s2 n1 n2 p.toNat ∧ Jx pre W')) := by
  have hr := isP_range hp
  have hc0 : (p.toNat : Int) = p := Int.toNat_of_nonneg (by omega)
  have HC0 := Lib.hid hc0
  clear hc0
  refine callsIn_of_wp Try.func145 rfl trivial ?_ rfl
  simp only [Try.ntmps145, List.size_toArray, List.length_cons, List.length_nil, Nat.reduceAdd, Nat.reduceSub, Array.replicate_succ, Array.replicate_zero, List.push_toArray, List.append_toArray, List.nil_append, List.cons_append]
  gi_wp2
  gi_loopw [5, 7] (fun _ i wr => ∃ k : Nat, (k : Int) ≤ p ∧ i = .int .i64 k ∧ J (cbF p s1 s2 n1 n2 k) wr ∧ Btw lo hi W wr) (fun _ i _ => p.toNat - (intOf i).toNat)
  case atStart => exact ⟨0, by omega, rfl, hst, btw_refl _ _ _⟩
  case round =>
    obtain ⟨k, hk, rfl, hJk, hbel⟩ := hrel
    by_cases hlt : (k : Int) < p
    · have c0 : wr.cell? ⟨b0, 0, none⟩ = some (.int .i64 p) := (btw_cell hbel g0.1 g0.2 0).trans h0
      have c1 : wr.cell? ⟨b1, 0, none⟩ = some (.int .i64 s1) := (btw_cell hbel g1.1 g1.2 0).trans h1
      have c2 : wr.cell? ⟨b1, 1, none⟩ = some (.int .i64 s2) := (btw_cell hbel g1.1 g1.2 1).trans h2
      have c3 : wr.cell? ⟨b2, 0, none⟩ = some (.int .i64 n1) := (btw_cell hbel g2.1 g2.2 0).trans h3
      have c4 : wr.cell? ⟨b2, 1, none⟩ = some (.int .i64 n2) := (btw_cell hbel g2.1 g2.2 1).trans h4
      have HS := Lib.hid (cbF_succ p s1 s2 n1 n2 k)
      have hkn : k < p.toNat := by have := HC0.out; omega
      obtain ⟨x1, hx1⟩ : ∃ x, x = cmb p s1 n1 (k : Int) := ⟨_, rfl⟩
      obtain ⟨x2, hx2⟩ : ∃ x, x = cmb p s2 n2 (k : Int) := ⟨_, rfl⟩
      have hr1 : 0 ≤ x1 ∧ x1 ≤ 31 := by rw [hx1]; exact modR31 _ hp
      have hr2 : 0 ≤ x2 ∧ x2 ≤ 31 := by rw [hx2]; exact modR31 _ hp
      rw [← hx1, ← hx2] at HS
      have Hx1 := Lib.hid hx1
      have Hx2 := Lib.hid hx2
      clear hx1 hx2
      have hcall := fun w' => implComb_any p s1 s2 n1 n2 (k : Int) w' hp hs1 hs2 hn1 hn2 (by omega)
      rw [← Hx1.out, ← Hx2.out] at hcall
      gi_wp2_with fail
      refine ⟨trivial, CallsIn.mono (callsIn_wide.2 (hcall _)) ?_⟩
      rintro e w1 ⟨rfl, hB1⟩
      obtain ⟨fn, tmps, assign, body, hy, hR⟩ := hY (cbF p s1 s2 n1 n2 k) (toF (x1, x2)) w1 (hJ _ _ _ none hJk (below_grown hB1) (fun _ h => by cases h)) (by rw [cbF_length]; exact hkn)
      rw [toP_toFi hr1 hr2] at hy
      dsimp only [ptV] at hy
      clear hcall
      gi_wp2
      refine hR.mono ?_
      rintro e W3 (⟨rfl, hJ3, hk3⟩ | ⟨rfl, hJx3⟩)
      · gi_wp2
        go_roundw
        case rel => exact ⟨k + 1, by omega, by go_num, by rw [HS.out]; exact hJ3, btw_trans (btw_trans hbel (btw_below hB1 (by have := hbel.1; omega))) hk3⟩
        case measure => have := HC0.out; simp [intOf]; omega
      · gi_wp2
        refine bodyPost_ret (results_none rfl _ _ _) rfl ?_
        exact ⟨⟨_, rfl⟩, .inr ⟨_, by rw [← HS.out]; exact cbF_pre _ _ _ _ _ (by omega), hJx3⟩⟩
    · have e : k = p.toNat := by have := HC0.out; omega
      have HE := Lib.hid e
      clear e
      gi_wp2
      go_end0
      exact ⟨⟨_, rfl⟩, .inl (by rw [← HE.out]; exact hJk)⟩


/-- The iterator's contract. -/
theorem seqPtsF_stops (n b0 b1 b2 lo hi : Nat) (p s1 s2 n1 n2 : Int) (hn : 1 ≤ n) (hp : isP p = true) (hs1 : 0 ≤ s1 ∧ s1 ≤ 31) (hs2 : 0 ≤ s2 ∧ s2 ≤ 31) (hn1 : 0 ≤ n1 ∧ n1 ≤ 31) (hn2 : 0 ≤ n2 ∧ n2 ≤ 31) (w : World)
    (h0 : w.cell? ⟨b0, 0, none⟩ = some (.int .i64 p)) (h1 : w.cell? ⟨b1, 0, none⟩ = some (.int .i64 s1)) (h2 : w.cell? ⟨b1, 1, none⟩ = some (.int .i64 s2)) (h3 : w.cell? ⟨b2, 0, none⟩ = some (.int .i64 n1)) (h4 : w.cell? ⟨b2, 1, none⟩ = some (.int .i64 n2))
    (g0 : lo ≤ b0 ∧ b0 < hi) (g1 : lo ≤ b1 ∧ b1 < hi) (g2 : lo ≤ b2 ∧ b2 < hi) (hhi : hi ≤ w.heap.size) :
    SeqStopsK Fence.wide n Try.prog 145 #[.pointer (some ⟨b0, 0, none⟩), .pointer (some ⟨b1, 0, none⟩), .pointer (some ⟨b2, 0, none⟩)] (fun x => #[ptV (toP x)]) (Btw lo hi)
      (fun ys => ys = cbF p s1 s2 n1 n2 p.toNat) (fun pre => pre <+: cbF p s1 s2 n1 n2 p.toNat) p.toNat w := fun l J Jx W hW hJ _ hY hst => by
  have hs := hW.size
  have c : ∀ b j, b < hi → W.cell? ⟨b, j, none⟩ = w.cell? ⟨b, j, none⟩ := fun b j hb => cell_old hW (by omega) j
  exact seqPtsF_in n l b0 b1 b2 lo hi p s1 s2 n1 n2 hn hp hs1 hs2 hn1 hn2 J Jx W hJ hY ((c _ _ g0.2).trans h0) ((c _ _ g1.2).trans h1) ((c _ _ g1.2).trans h2) ((c _ _ g2.2).trans h3) ((c _ _ g2.2).trans h4) g0 g1 g2 (by omega) hst

end Go.Proofs.Ytijmmagdkbnhdaa
