/-
  spec.l07Put: a move put into a list in order.
-/
import Derived.Test.YtibfbdgenamlkaaMgq0
import Derived.Test.YtibfbdgenamlkaaSpecLess7q
import Derived.Test.YtibfbdgenamlkaaRows
import Derived.Test.YtibfbdgenamlkaaGrowq
import Derived.Test.YtibfbdgenamlkaaArrEqq
import Derived.Test.YtibfbdgenamlkaaStepAppq
import Derived.Deep.RegionHeld3
import Derived.Deep.DeepCutAuto

namespace Go.Proofs.Ytibfbdgenamlkaa
open Go.RowKit

def flat6 (xs : List T6) : List Int := xs.flatMap fun x => [x.1, x.2.1, x.2.2.1, x.2.2.2.1, x.2.2.2.2.1, x.2.2.2.2.2]
theorem flat6_cons (x : T6) (xs : List T6) : flat6 (x :: xs) = x.1 :: x.2.1 :: x.2.2.1 :: x.2.2.2.1 :: x.2.2.2.2.1 :: x.2.2.2.2.2 :: flat6 xs := rfl
theorem flat6_length (xs : List T6) : (flat6 xs).length = xs.length * 6 := by
  induction xs with
  | nil => rfl
  | cons x xs ih => rw [flat6_cons]; simp only [List.length_cons, ih]; omega
theorem flat6_append (xs ys : List T6) : flat6 (xs ++ ys) = flat6 xs ++ flat6 ys := by simp [flat6]
theorem flat6_getD (xs : List T6) (j : Nat) (h : j < xs.length) : (flat6 xs).getD (j * 6) 0 = xs[j].1 ∧ (flat6 xs).getD (j * 6 + 1) 0 = xs[j].2.1 ∧ (flat6 xs).getD (j * 6 + 2) 0 = xs[j].2.2.1 ∧ (flat6 xs).getD (j * 6 + 3) 0 = xs[j].2.2.2.1 ∧ (flat6 xs).getD (j * 6 + 4) 0 = xs[j].2.2.2.2.1 ∧ (flat6 xs).getD (j * 6 + 5) 0 = xs[j].2.2.2.2.2 := by
  induction xs generalizing j with
  | nil => simp at h
  | cons x xs ih =>
    cases j with
    | zero => simp [flat6]
    | succ j =>
      have := ih j (by simpa using h)
      rw [flat6_cons, Nat.succ_mul, show j * 6 + 6 + 5 = (j * 6 + 5) + 1 + 1 + 1 + 1 + 1 + 1 by omega, show j * 6 + 6 + 4 = (j * 6 + 4) + 1 + 1 + 1 + 1 + 1 + 1 by omega, show j * 6 + 6 + 3 = (j * 6 + 3) + 1 + 1 + 1 + 1 + 1 + 1 by omega, show j * 6 + 6 + 2 = (j * 6 + 2) + 1 + 1 + 1 + 1 + 1 + 1 by omega, show j * 6 + 6 + 1 = (j * 6 + 1) + 1 + 1 + 1 + 1 + 1 + 1 by omega, show j * 6 + 6 = (j * 6) + 1 + 1 + 1 + 1 + 1 + 1 by omega]
      simpa using this
theorem ints_one6 (ys : List Int) : ∀ u ∈ ints ys, u.oneCell' = true := fun u hu => by
  obtain ⟨y, _, rfl⟩ := List.mem_map.1 hu
  rfl
theorem flat6_take (xs : List T6) : ∀ k : Nat, flat6 (xs.take k) = (flat6 xs).take (k * 6) := by
  induction xs with
  | nil => intro k; simp [flat6]
  | cons x xs ih =>
    intro k
    cases k with
    | zero => simp [flat6]
    | succ k => rw [List.take_succ_cons, flat6_cons, ih k, flat6_cons, Nat.succ_mul]; rfl
theorem flat6_drop (xs : List T6) : ∀ k : Nat, flat6 (xs.drop k) = (flat6 xs).drop (k * 6) := by
  induction xs with
  | nil => intro k; simp [flat6]
  | cons x xs ih =>
    intro k
    cases k with
    | zero => simp
    | succ k => rw [List.drop_succ_cons, ih k, flat6_cons, Nat.succ_mul]; rfl
theorem infoMv : (Try.prog.info? 62).map (fun i => (i.zero, i.size, i.bytes)) = some (some (.agg #[.int .i64 0, .int .i64 0, .int .i64 0, .int .i64 0, .int .i64 0, .int .i64 0]), 6, 48) := by kernel_rfl
theorem mv_one (a b c d e f : Int) : ∀ u ∈ [Value.int .i64 a, Value.int .i64 b, Value.int .i64 c, Value.int .i64 d, Value.int .i64 e, Value.int .i64 f], u.oneCell' = true := by
  intro u hu
  simp only [List.mem_cons, List.not_mem_nil, or_false] at hu
  rcases hu with rfl | rfl | rfl | rfl | rfl | rfl <;> rfl
theorem addr_add6 (g o j : Nat) : ((⟨g, o, none⟩ : Addr).add j) = ⟨g, o + j, none⟩ := by
  simp only [Addr.add]
  split
  · rename_i h; subst h; rfl
  · rfl
theorem row_take6 {W : World} {xs : List T6} {g n k : Nat} (hc : ∀ j : Nat, j < n * 6 → W.cell? ⟨g, j, none⟩ = some (.int .i64 ((flat6 xs).getD j 0))) (hk : k ≤ n) (hn : n = xs.length) :
    ∀ j u, (ints (flat6 (xs.take k)))[j]? = some u → W.cell? ((⟨g, 0, none⟩ : Addr).add j) = some u := by
  intro j u hj
  rw [flat6_take, ints, List.getElem?_map, List.getElem?_take] at hj
  split at hj
  · have hl : j < (flat6 xs).length := by rw [flat6_length]; omega
    rw [List.getElem?_eq_getElem hl] at hj
    simp only [Option.map_some, Option.some.injEq] at hj
    subst hj
    have := hc j (by omega)
    rw [List.getD_eq_getElem?_getD, List.getElem?_eq_getElem hl] at this
    rw [addr_add6]; simpa using this
  · cases hj
theorem row_drop6 {W : World} {xs : List T6} {g n k : Nat} (hc : ∀ j : Nat, j < n * 6 → W.cell? ⟨g, j, none⟩ = some (.int .i64 ((flat6 xs).getD j 0))) (hn : n = xs.length) :
    ∀ j u, (ints (flat6 (xs.drop k)))[j]? = some u → W.cell? ((⟨g, k * 6, none⟩ : Addr).add j) = some u := by
  intro j u hj
  rw [flat6_drop, ints, List.getElem?_map, List.getElem?_drop] at hj
  by_cases hl : k * 6 + j < (flat6 xs).length
  · rw [List.getElem?_eq_getElem hl] at hj
    simp only [Option.map_some, Option.some.injEq] at hj
    subst hj
    have := hc (k * 6 + j) (by rw [flat6_length] at hl; omega)
    rw [List.getD_eq_getElem?_getD, List.getElem?_eq_getElem hl] at this
    rw [addr_add6]; simpa using this
  · rw [List.getElem?_eq_none (by omega)] at hj
    cases hj
theorem own_some6 {w : World} {base : Nat} {e : TypeId} {k n : Nat} {v : Value} {xs : List Value} (h : w.ownsRow base e k v n xs) (hn : 0 < n) : ∃ g cap, v = .slice (some ⟨g, 0, none⟩) n cap := by
  rcases own_ways h with ⟨rfl, _⟩ | ⟨_, g, cap, rfl, _⟩
  · omega
  · exact ⟨_, _, rfl⟩
theorem drop_at6 {xs : List T6} {k : Nat} (h : k < xs.length) : xs.drop k = xs[k] :: xs.drop (k + 1) := List.drop_eq_getElem_cons h

set_option linter.unusedSimpArgs false in
set_option maxRecDepth 20000 in
set_option maxHeartbeats 8000000 in
theorem put7_any (xs : List T6) (l1 l2 l3 l4 l5 l6 : Int) (g n cap base : Nat) (w : World) (hn : n = xs.length) (hlen : xs.length ≤ 1000) (hs : xs.Pairwise lt6) (hnm : (l1, l2, l3, l4, l5, l6) ∉ xs) (hbase : base ≤ w.heap.size)
    (hown : w.ownsRow base 62 6 (.slice (some ⟨g, 0, none⟩) n cap) n (ints (flat6 xs))) :
    Calls Try.prog 30 #[.slice (some ⟨g, 0, none⟩) n cap, .agg #[.int .i64 l1, .int .i64 l2, .int .i64 l3, .int .i64 l4, .int .i64 l5, .int .i64 l6]] w fun e w' => ∃ g' cap', e = .returned (.slice (some ⟨g', 0, none⟩) (insM xs (l1, l2, l3, l4, l5, l6)).length cap') ∧
      w'.ownsRow base 62 6 (.slice (some ⟨g', 0, none⟩) (insM xs (l1, l2, l3, l4, l5, l6)).length cap') (insM xs (l1, l2, l3, l4, l5, l6)).length (ints (flat6 (insM xs (l1, l2, l3, l4, l5, l6)))) ∧ Below w.heap.size w w' := by
  have hgl : g < w.heap.size := (hown.lt g rfl).2
  have HN := Lib.hid hn
  clear hn
  have HNM := Lib.hid hnm
  clear hnm
  have hn31 : n ≤ 1000 := by rw [HN.out]; exact hlen
  obtain ⟨i0, hi, hz0, hz1, hz2⟩ := info_parts infoMv
  go_enter Try.func30, Try.ntmps30
  go_wp2_with fail
  have q0 : (w.alloc (.cells #[.int .i64 l1, .int .i64 l2, .int .i64 l3, .int .i64 l4, .int .i64 l5, .int .i64 l6] 62)).cell? ⟨w.heap.size, 0, none⟩ = some (.int .i64 l1) := kfresh rfl rfl
  have q1 : (w.alloc (.cells #[.int .i64 l1, .int .i64 l2, .int .i64 l3, .int .i64 l4, .int .i64 l5, .int .i64 l6] 62)).cell? ⟨w.heap.size, 1, none⟩ = some (.int .i64 l2) := kfresh rfl rfl
  have q2 : (w.alloc (.cells #[.int .i64 l1, .int .i64 l2, .int .i64 l3, .int .i64 l4, .int .i64 l5, .int .i64 l6] 62)).cell? ⟨w.heap.size, 2, none⟩ = some (.int .i64 l3) := kfresh rfl rfl
  have q3 : (w.alloc (.cells #[.int .i64 l1, .int .i64 l2, .int .i64 l3, .int .i64 l4, .int .i64 l5, .int .i64 l6] 62)).cell? ⟨w.heap.size, 3, none⟩ = some (.int .i64 l4) := kfresh rfl rfl
  have q4 : (w.alloc (.cells #[.int .i64 l1, .int .i64 l2, .int .i64 l3, .int .i64 l4, .int .i64 l5, .int .i64 l6] 62)).cell? ⟨w.heap.size, 4, none⟩ = some (.int .i64 l5) := kfresh rfl rfl
  have q5 : (w.alloc (.cells #[.int .i64 l1, .int .i64 l2, .int .i64 l3, .int .i64 l4, .int .i64 l5, .int .i64 l6] 62)).cell? ⟨w.heap.size, 5, none⟩ = some (.int .i64 l6) := kfresh rfl rfl
  have hown1 := hown.alloc (.cells #[.int .i64 l1, .int .i64 l2, .int .i64 l3, .int .i64 l4, .int .i64 l5, .int .i64 l6] 62)
  have hb1 : Below w.heap.size w (w.alloc (.cells #[.int .i64 l1, .int .i64 l2, .int .i64 l3, .int .i64 l4, .int .i64 l5, .int .i64 l6] 62)) := (Below.refl _ _).alloc (Nat.le_refl _) _
  have hsz1 : (w.alloc (.cells #[.int .i64 l1, .int .i64 l2, .int .i64 l3, .int .i64 l4, .int .i64 l5, .int .i64 l6] 62)).heap.size = w.heap.size + 1 := by simp
  obtain ⟨wn, hwn⟩ : ∃ wn, wn = (w.alloc (.cells #[.int .i64 l1, .int .i64 l2, .int .i64 l3, .int .i64 l4, .int .i64 l5, .int .i64 l6] 62)) := ⟨_, rfl⟩
  rw [← hwn] at q0 q1 q2 q3 q4 q5 hown1 hb1 hsz1 ⊢
  clear hwn hown
  go_loopw [5] (fun i wr => ∃ k : Nat, k ≤ n ∧ i = .int .i64 k ∧ (∀ z ∈ xs.drop k, lt6 (l1, l2, l3, l4, l5, l6) z) ∧ Below wn.heap.size wn wr) (fun i _ => (intOf i).toNat)
  case atStart => exact ⟨n, Nat.le_refl _, rfl, by rw [HN.out]; simp, Below.refl _ _⟩
  case round =>
    obtain ⟨k, hk, rfl, hdr, hbel⟩ := hrel
    have HD := Lib.hid hdr
    clear hdr
    cases k with
    | zero =>
      go_upto_region 2 with fail
      (refine wp_region_held_drew (S := (fun W => Below wn.heap.size wn W)) (by kernel_rfl) (by exact Below.drew hbel) (fun hHeld => ?_))
      (refine wpAnyH_take (i := 0) (v := ?_) rfl (by kernel_rfl) (by kernel_rfl) (by kernel_rfl) (fun _ _ _ h => h) (Or.inl ⟨by rfl, ?_⟩) (by with_reducible assumption) ?_; rotate_left; (focus (intro wz hSw; (try dsimp only at hSw); go_simp; try with_reducible rfl)); try simp only [Act.put, List.getElem_toArray, List.getElem_cons_zero, List.getElem_cons_succ, List.setIfInBounds_toArray, List.set_cons_zero, List.set_cons_succ])
      (refine wpAnyH_take (i := 1) (v := ?_) rfl (by kernel_rfl) (by kernel_rfl) (by kernel_rfl) (fun _ _ _ h => h) (Or.inl ⟨by rfl, ?_⟩) (by with_reducible assumption) ?_; rotate_left; (focus (intro wz hSw; (try dsimp only at hSw); go_simp; try with_reducible rfl)); try simp only [Act.put, List.getElem_toArray, List.getElem_cons_zero, List.getElem_cons_succ, List.setIfInBounds_toArray, List.set_cons_zero, List.set_cons_succ])
      (refine wpAnyH_take (i := 2) (v := ?_) rfl (by kernel_rfl) (by kernel_rfl) (by kernel_rfl) (fun _ _ _ h => h) (Or.inl ⟨by rfl, ?_⟩) (by with_reducible assumption) ?_; rotate_left; (focus (intro wz hSw; (try dsimp only at hSw); go_simp; try with_reducible rfl)); try simp only [Act.put, List.getElem_toArray, List.getElem_cons_zero, List.getElem_cons_succ, List.setIfInBounds_toArray, List.set_cons_zero, List.set_cons_succ])
      (refine wpAnyH_take (i := 3) (v := undef) rfl (by kernel_rfl) (by kernel_rfl) (by kernel_rfl) (fun _ _ _ h => h) (Or.inr ⟨by rfl, rfl⟩) (by with_reducible assumption) ?_; try simp only [Act.put, List.getElem_toArray, List.getElem_cons_zero, List.getElem_cons_succ, List.setIfInBounds_toArray, List.set_cons_zero, List.set_cons_succ])
      (refine wpAnyH_take (i := 4) (v := undef) rfl (by kernel_rfl) (by kernel_rfl) (by kernel_rfl) (fun _ _ _ h => h) (Or.inr ⟨by rfl, rfl⟩) (by with_reducible assumption) ?_; try simp only [Act.put, List.getElem_toArray, List.getElem_cons_zero, List.getElem_cons_succ, List.setIfInBounds_toArray, List.set_cons_zero, List.set_cons_succ])
      (refine wpAnyH_take (i := 5) (v := undef) rfl (by kernel_rfl) (by kernel_rfl) (by kernel_rfl) (fun _ _ _ h => h) (Or.inr ⟨by rfl, rfl⟩) (by with_reducible assumption) ?_; try simp only [Act.put, List.getElem_toArray, List.getElem_cons_zero, List.getElem_cons_succ, List.setIfInBounds_toArray, List.set_cons_zero, List.set_cons_succ])
      (refine wpAnyH_take (i := 6) (v := undef) rfl (by kernel_rfl) (by kernel_rfl) (by kernel_rfl) (fun _ _ _ h => h) (Or.inr ⟨by rfl, rfl⟩) (by with_reducible assumption) ?_; try simp only [Act.put, List.getElem_toArray, List.getElem_cons_zero, List.getElem_cons_succ, List.setIfInBounds_toArray, List.set_cons_zero, List.set_cons_succ])
      (refine wpAnyH_take (i := 7) (v := undef) rfl (by kernel_rfl) (by kernel_rfl) (by kernel_rfl) (fun _ _ _ h => h) (Or.inr ⟨by rfl, rfl⟩) (by with_reducible assumption) ?_; try simp only [Act.put, List.getElem_toArray, List.getElem_cons_zero, List.getElem_cons_succ, List.setIfInBounds_toArray, List.set_cons_zero, List.set_cons_succ])
      (refine wpAnyH_take (i := 8) (v := undef) rfl (by kernel_rfl) (by kernel_rfl) (by kernel_rfl) (fun _ _ _ h => h) (Or.inr ⟨by rfl, rfl⟩) (by with_reducible assumption) ?_; try simp only [Act.put, List.getElem_toArray, List.getElem_cons_zero, List.getElem_cons_succ, List.setIfInBounds_toArray, List.set_cons_zero, List.set_cons_succ])
      (refine wpAnyH_take (i := 9) (v := undef) rfl (by kernel_rfl) (by kernel_rfl) (by kernel_rfl) (fun _ _ _ h => h) (Or.inr ⟨by rfl, rfl⟩) (by with_reducible assumption) ?_; try simp only [Act.put, List.getElem_toArray, List.getElem_cons_zero, List.getElem_cons_succ, List.setIfInBounds_toArray, List.set_cons_zero, List.set_cons_succ])
      (refine wpAnyH_take (i := 10) (v := ?_) rfl (by kernel_rfl) (by kernel_rfl) (by kernel_rfl) (fun _ _ _ h => h) (Or.inl ⟨by rfl, ?_⟩) (by with_reducible assumption) ?_; rotate_left; (focus (intro wz hSw; (try dsimp only at hSw); go_simp; try with_reducible rfl)); try simp only [Act.put, List.getElem_toArray, List.getElem_cons_zero, List.getElem_cons_succ, List.setIfInBounds_toArray, List.set_cons_zero, List.set_cons_succ])
      refine wpAnyH_done (by kernel_rfl) ?_ _
      go_upto_region 4 with fail
      have hbX : Below wn.heap.size wn wr.drew := Below.drew hbel
      obtain ⟨wq, hwq⟩ : ∃ X, X = wr.drew := ⟨_, rfl⟩
      rw [← hwq] at hbX ⊢
      clear hwq
      have hownX := own_call hown1 hbX
      have hcap : n ≤ cap := by
        rcases hownX.2 with ⟨e, _⟩ | ⟨g', cap', cur, e, _, _, hle, _⟩
        · cases e
        · cases e; first | exact hle | omega
      have hcX : ∀ W : World, Below wq.heap.size wq W → ∀ j : Nat, j < n * 6 → W.cell? ⟨g, j, none⟩ = some (.int .i64 ((flat6 xs).getD j 0)) := fun W h j hj => own_cell (own_call hownX h) hj
      have kk0 := (cell_old hbX (by omega) 0).trans q0
      have kk1 := (cell_old hbX (by omega) 1).trans q1
      have kk2 := (cell_old hbX (by omega) 2).trans q2
      have kk3 := (cell_old hbX (by omega) 3).trans q3
      have kk4 := (cell_old hbX (by omega) 4).trans q4
      have kk5 := (cell_old hbX (by omega) 5).trans q5
      have bb0 : ∀ W : World, Below wq.heap.size wq W → W.cell? ⟨w.heap.size, 0, none⟩ = some (.int .i64 l1) := fun W h => bholds kk0 h
      have bb1 : ∀ W : World, Below wq.heap.size wq W → W.cell? ⟨w.heap.size, 1, none⟩ = some (.int .i64 l2) := fun W h => bholds kk1 h
      have bb2 : ∀ W : World, Below wq.heap.size wq W → W.cell? ⟨w.heap.size, 2, none⟩ = some (.int .i64 l3) := fun W h => bholds kk2 h
      have bb3 : ∀ W : World, Below wq.heap.size wq W → W.cell? ⟨w.heap.size, 3, none⟩ = some (.int .i64 l4) := fun W h => bholds kk3 h
      have bb4 : ∀ W : World, Below wq.heap.size wq W → W.cell? ⟨w.heap.size, 4, none⟩ = some (.int .i64 l5) := fun W h => bholds kk4 h
      have bb5 : ∀ W : World, Below wq.heap.size wq W → W.cell? ⟨w.heap.size, 5, none⟩ = some (.int .i64 l6) := fun W h => bholds kk5 h
      go_cut [6] (fun s6 wx => ∃ g6 c6 : Nat, s6 = .slice (some ⟨g6, 0, none⟩) (0 + 1) c6 ∧ wx.ownsRow wq.heap.size 62 6 s6 (0 + 1) (ints (flat6 ((xs.take 0) ++ [(l1, l2, l3, l4, l5, l6)]))) ∧ Below wq.heap.size wq wx)
      case first =>
        (refine wp_region_held_drew (S := (fun W => Below wq.heap.size wq W)) (by kernel_rfl) (by exact Below.drew (Below.refl _ _)) (fun hHeld => ?_))
        (refine wpAnyH_take (i := 1) (v := ?_) rfl (by kernel_rfl) (by kernel_rfl) (by kernel_rfl) (fun _ _ _ h => h) (Or.inl ⟨by rfl, ?_⟩) (by with_reducible assumption) ?_; rotate_left; (focus (intro wz hSw; (try dsimp only at hSw); go_simp; try with_reducible rfl)); try simp only [Act.put, List.getElem_toArray, List.getElem_cons_zero, List.getElem_cons_succ, List.setIfInBounds_toArray, List.set_cons_zero, List.set_cons_succ])
        (refine wpAnyH_take (i := 2) (v := ?_) rfl (by kernel_rfl) (by kernel_rfl) (by kernel_rfl) (fun _ _ _ h => h) (Or.inl ⟨by rfl, ?_⟩) (by with_reducible assumption) ?_; rotate_left; (focus (intro wz hSw; (try dsimp only at hSw); go_simp; try with_reducible rfl)); try simp only [Act.put, List.getElem_toArray, List.getElem_cons_zero, List.getElem_cons_succ, List.setIfInBounds_toArray, List.set_cons_zero, List.set_cons_succ])
        (refine wpAnyH_take (i := 3) (v := ?_) rfl (by kernel_rfl) (by kernel_rfl) (by kernel_rfl) (fun _ _ _ h => h) (Or.inl ⟨by rfl, ?_⟩) (by with_reducible assumption) ?_; rotate_left; (focus (intro wz hSw; (try dsimp only at hSw); go_simp; try with_reducible rfl)); try simp only [Act.put, List.getElem_toArray, List.getElem_cons_zero, List.getElem_cons_succ, List.setIfInBounds_toArray, List.set_cons_zero, List.set_cons_succ])
        (refine wpAnyH_take (i := 5) (v := ?_) rfl (by kernel_rfl) (by kernel_rfl) (by kernel_rfl) (fun _ _ _ h => h) (Or.inl ⟨by rfl, ?_⟩) (by with_reducible assumption) ?_; rotate_left; (focus (intro wz hSw; (try dsimp only at hSw); go_simp; try with_reducible rfl)); try simp only [Act.put, List.getElem_toArray, List.getElem_cons_zero, List.getElem_cons_succ, List.setIfInBounds_toArray, List.set_cons_zero, List.set_cons_succ])
        refine wpAnyH_ready (rs := [0, 6]) (by kernel_rfl) (by simp) ?_
        refine AllReadyH.cons rfl (fun K hK => ?_) (AllReadyH.cons rfl (fun K hK => ?_) AllReadyH.nil)
        · go_simp
          have o0 : (wq.alloc (.cells #[] 62)).drew.ownsRow wq.heap.size 62 6 (.slice (some ⟨wq.heap.size, 0, none⟩) 0 0) 0 (ints []) := own_drew (own_lit0 wq _ _ (Nat.le_refl _) rfl)
          have B_u0 : Below wq.heap.size wq (wq.alloc (.cells #[] 62)).drew := (by (repeat (first | with_reducible exact Below.refl _ _ | with_reducible refine balloc ?_ _ | with_reducible refine bdrewN ?_ _ | with_reducible refine Below.drew ?_ | with_reducible refine bthen ?_ (by with_reducible assumption) | with_reducible refine Below.setCell ?_ (by first | (simp; done) | (simp; omega)) _)))
          have sz_u0 : (wq.alloc (.cells #[] 62)).drew.heap.size = wq.heap.size + 1 := by simp
          refine hK.out _ _ B_u0 (fun hHeld => ?_)
          clear hHeld hK K
          try simp only [Act.put, List.getElem_toArray, List.getElem_cons_zero, List.getElem_cons_succ, List.setIfInBounds_toArray, List.set_cons_zero, List.set_cons_succ]
          obtain ⟨u0, hu0⟩ : ∃ X, X = (wq.alloc (.cells #[] 62)).drew := ⟨_, rfl⟩
          rw [← hu0] at o0 B_u0 sz_u0 ⊢
          clear hu0
          refine wpAnyH_ready (rs := [4, 6]) (by kernel_rfl) (by simp) ?_
          refine AllReadyH.cons rfl (fun K hK => ?_) (AllReadyH.cons rfl (fun K hK => ?_) AllReadyH.nil)
          · refine step_append_own rfl _ _ 23 rfl wq.heap.size 62 i0 (.agg #[.int .i64 0, .int .i64 0, .int .i64 0, .int .i64 0, .int .i64 0, .int .i64 0]) 6 48 Try.underlying23 hi hz0 hz1 hz2 rfl (by decide) (.slice (some ⟨wq.heap.size, 0, none⟩) 0 0) 0 (ints []) rfl o0 ⟨g, 0, none⟩ 0 _ (ints (flat6 (xs.take 0))) rfl (by rw [ints_length, flat6_length, List.length_take]; congr 1 <;> omega) (row_take6 (fun j hj => hcX _ B_u0 j hj) (by omega) HN.out) (ints_one6 _) (by unfold maxLen; omega) (by omega) B_u0.size ?_
            intro v1 u1 o1 gr1
            have B_u1 : Below wq.heap.size wq u1 := Below.grown B_u0 gr1 B_u0.size (fun q e => (o0.lt q e).1)
            rw [show ints [] ++ ints (flat6 (xs.take 0)) = ints (flat6 (xs.take 0)) from rfl] at o1
            clear gr1
            refine hK.out _ _ B_u1 (fun hHeld => ?_)
            clear hHeld hK K
            try simp only [Act.put, List.getElem_toArray, List.getElem_cons_zero, List.getElem_cons_succ, List.setIfInBounds_toArray, List.set_cons_zero, List.set_cons_succ]
            refine wpAnyH_ready (rs := [6]) (by kernel_rfl) (by simp) ?_
            refine AllReadyH.cons rfl (fun K hK => ?_) AllReadyH.nil
            go_simp
            have B_u2 : Below wq.heap.size wq (u1.alloc (.cells #[.int .i64 l1, .int .i64 l2, .int .i64 l3, .int .i64 l4, .int .i64 l5, .int .i64 l6] 62)) := B_u1.alloc B_u1.size _
            have cf : (u1.alloc (.cells #[.int .i64 l1, .int .i64 l2, .int .i64 l3, .int .i64 l4, .int .i64 l5, .int .i64 l6] 62)).cell? ⟨u1.heap.size, 0, none⟩ = some (.int .i64 l1) ∧ (u1.alloc (.cells #[.int .i64 l1, .int .i64 l2, .int .i64 l3, .int .i64 l4, .int .i64 l5, .int .i64 l6] 62)).cell? ⟨u1.heap.size, 1, none⟩ = some (.int .i64 l2) ∧ (u1.alloc (.cells #[.int .i64 l1, .int .i64 l2, .int .i64 l3, .int .i64 l4, .int .i64 l5, .int .i64 l6] 62)).cell? ⟨u1.heap.size, 2, none⟩ = some (.int .i64 l3) ∧ (u1.alloc (.cells #[.int .i64 l1, .int .i64 l2, .int .i64 l3, .int .i64 l4, .int .i64 l5, .int .i64 l6] 62)).cell? ⟨u1.heap.size, 3, none⟩ = some (.int .i64 l4) ∧ (u1.alloc (.cells #[.int .i64 l1, .int .i64 l2, .int .i64 l3, .int .i64 l4, .int .i64 l5, .int .i64 l6] 62)).cell? ⟨u1.heap.size, 4, none⟩ = some (.int .i64 l5) ∧ (u1.alloc (.cells #[.int .i64 l1, .int .i64 l2, .int .i64 l3, .int .i64 l4, .int .i64 l5, .int .i64 l6] 62)).cell? ⟨u1.heap.size, 5, none⟩ = some (.int .i64 l6) := ⟨kfresh rfl rfl, kfresh rfl rfl, kfresh rfl rfl, kfresh rfl rfl, kfresh rfl rfl, kfresh rfl rfl⟩
            have sz_u2 : (u1.alloc (.cells #[.int .i64 l1, .int .i64 l2, .int .i64 l3, .int .i64 l4, .int .i64 l5, .int .i64 l6] 62)).heap.size = u1.heap.size + 1 := by simp
            have o1' := o1.alloc (.cells #[.int .i64 l1, .int .i64 l2, .int .i64 l3, .int .i64 l4, .int .i64 l5, .int .i64 l6] 62)
            refine hK.out _ _ B_u2 (fun hHeld => ?_)
            clear hHeld hK K
            try simp only [Act.put, List.getElem_toArray, List.getElem_cons_zero, List.getElem_cons_succ, List.setIfInBounds_toArray, List.set_cons_zero, List.set_cons_succ]
            obtain ⟨u2, hu2⟩ : ∃ X, X = (u1.alloc (.cells #[.int .i64 l1, .int .i64 l2, .int .i64 l3, .int .i64 l4, .int .i64 l5, .int .i64 l6] 62)) := ⟨_, rfl⟩
            rw [← hu2] at cf B_u2 o1' ⊢
            clear hu2
            refine wpAnyH_ready (rs := [7]) (by kernel_rfl) (by simp) ?_
            refine AllReadyH.cons rfl (fun K hK => ?_) AllReadyH.nil
            refine step_append_own rfl _ _ 23 rfl wq.heap.size 62 i0 (.agg #[.int .i64 0, .int .i64 0, .int .i64 0, .int .i64 0, .int .i64 0, .int .i64 0]) 6 48 Try.underlying23 hi hz0 hz1 hz2 rfl (by decide) v1 (0 + 0) (ints (flat6 (xs.take 0))) rfl o1' ⟨u1.heap.size, 0, none⟩ 1 1 [.int .i64 l1, .int .i64 l2, .int .i64 l3, .int .i64 l4, .int .i64 l5, .int .i64 l6] rfl rfl (fun j u hj => ?nw) (mv_one _ _ _ _ _ _) (by unfold maxLen; omega) (by omega) B_u2.size ?_
            case nw => (match j, hj with
              | 0, hj => simp at hj; subst hj; exact cf.1
              | 1, hj => simp at hj; subst hj; exact cf.2.1
              | 2, hj => simp at hj; subst hj; exact cf.2.2.1
              | 3, hj => simp at hj; subst hj; exact cf.2.2.2.1
              | 4, hj => simp at hj; subst hj; exact cf.2.2.2.2.1
              | 5, hj => simp at hj; subst hj; exact cf.2.2.2.2.2
              | j + 6, hj => simp at hj)
            intro v2 wf o2 gr2
            have B_wf : Below wq.heap.size wq wf := Below.grown B_u2 gr2 B_u2.size (fun q e => (o1'.lt q e).1)
            clear gr2
            refine hK.out _ _ B_wf (fun hHeld => ?_)
            clear hHeld hK K
            try simp only [Act.put, List.getElem_toArray, List.getElem_cons_zero, List.getElem_cons_succ, List.setIfInBounds_toArray, List.set_cons_zero, List.set_cons_succ]
            (refine wpAnyH_take (i := 8) (v := ?_) rfl (by kernel_rfl) (by kernel_rfl) (by kernel_rfl) (fun _ _ _ h => h) (Or.inl ⟨by rfl, ?_⟩) (by with_reducible assumption) ?_; rotate_left; (focus (intro wz hSw; (try dsimp only at hSw); go_simp; try with_reducible rfl)); try simp only [Act.put, List.getElem_toArray, List.getElem_cons_zero, List.getElem_cons_succ, List.setIfInBounds_toArray, List.set_cons_zero, List.set_cons_succ])
            refine wpAnyH_done (by kernel_rfl) ?_ _
            have o3 : wf.ownsRow wq.heap.size 62 6 v2 (0 + 1) (ints (flat6 ((xs.take 0) ++ [(l1, l2, l3, l4, l5, l6)]))) := by rw [flat6_append, ints_append, Nat.zero_add] at *; exact o2
            obtain ⟨g6, c6, rfl⟩ := own_some6 o3 (by omega)
            go_wp2_with fail
            go_meet
            exact ⟨_, _, rfl, o3, B_wf⟩
          · go_simp
            have B_u2 : Below wq.heap.size wq (u0.alloc (.cells #[.int .i64 l1, .int .i64 l2, .int .i64 l3, .int .i64 l4, .int .i64 l5, .int .i64 l6] 62)) := B_u0.alloc B_u0.size _
            have sz_u2 : (u0.alloc (.cells #[.int .i64 l1, .int .i64 l2, .int .i64 l3, .int .i64 l4, .int .i64 l5, .int .i64 l6] 62)).heap.size = u0.heap.size + 1 := by simp
            have cf : (u0.alloc (.cells #[.int .i64 l1, .int .i64 l2, .int .i64 l3, .int .i64 l4, .int .i64 l5, .int .i64 l6] 62)).cell? ⟨wq.heap.size + 1, 0, none⟩ = some (.int .i64 l1) ∧ (u0.alloc (.cells #[.int .i64 l1, .int .i64 l2, .int .i64 l3, .int .i64 l4, .int .i64 l5, .int .i64 l6] 62)).cell? ⟨wq.heap.size + 1, 1, none⟩ = some (.int .i64 l2) ∧ (u0.alloc (.cells #[.int .i64 l1, .int .i64 l2, .int .i64 l3, .int .i64 l4, .int .i64 l5, .int .i64 l6] 62)).cell? ⟨wq.heap.size + 1, 2, none⟩ = some (.int .i64 l3) ∧ (u0.alloc (.cells #[.int .i64 l1, .int .i64 l2, .int .i64 l3, .int .i64 l4, .int .i64 l5, .int .i64 l6] 62)).cell? ⟨wq.heap.size + 1, 3, none⟩ = some (.int .i64 l4) ∧ (u0.alloc (.cells #[.int .i64 l1, .int .i64 l2, .int .i64 l3, .int .i64 l4, .int .i64 l5, .int .i64 l6] 62)).cell? ⟨wq.heap.size + 1, 4, none⟩ = some (.int .i64 l5) ∧ (u0.alloc (.cells #[.int .i64 l1, .int .i64 l2, .int .i64 l3, .int .i64 l4, .int .i64 l5, .int .i64 l6] 62)).cell? ⟨wq.heap.size + 1, 5, none⟩ = some (.int .i64 l6) := ⟨kfresh sz_u0.symm rfl, kfresh sz_u0.symm rfl, kfresh sz_u0.symm rfl, kfresh sz_u0.symm rfl, kfresh sz_u0.symm rfl, kfresh sz_u0.symm rfl⟩
            have o0' := o0.alloc (.cells #[.int .i64 l1, .int .i64 l2, .int .i64 l3, .int .i64 l4, .int .i64 l5, .int .i64 l6] 62)
            refine hK.out _ _ B_u2 (fun hHeld => ?_)
            clear hHeld hK K
            try simp only [Act.put, List.getElem_toArray, List.getElem_cons_zero, List.getElem_cons_succ, List.setIfInBounds_toArray, List.set_cons_zero, List.set_cons_succ]
            obtain ⟨u2, hu2⟩ : ∃ X, X = (u0.alloc (.cells #[.int .i64 l1, .int .i64 l2, .int .i64 l3, .int .i64 l4, .int .i64 l5, .int .i64 l6] 62)) := ⟨_, rfl⟩
            rw [← hu2] at cf B_u2 o0' ⊢
            clear hu2
            refine wpAnyH_ready (rs := [4]) (by kernel_rfl) (by simp) ?_
            refine AllReadyH.cons rfl (fun K hK => ?_) AllReadyH.nil
            refine step_append_own rfl _ _ 23 rfl wq.heap.size 62 i0 (.agg #[.int .i64 0, .int .i64 0, .int .i64 0, .int .i64 0, .int .i64 0, .int .i64 0]) 6 48 Try.underlying23 hi hz0 hz1 hz2 rfl (by decide) (.slice (some ⟨wq.heap.size, 0, none⟩) 0 0) 0 (ints []) rfl o0' ⟨g, 0, none⟩ 0 _ (ints (flat6 (xs.take 0))) rfl (by rw [ints_length, flat6_length, List.length_take]; congr 1 <;> omega) (row_take6 (fun j hj => hcX _ B_u2 j hj) (by omega) HN.out) (ints_one6 _) (by unfold maxLen; omega) (by omega) B_u2.size ?_
            intro v1 u3 o1 gr1
            have B_u3 : Below wq.heap.size wq u3 := Below.grown B_u2 gr1 B_u2.size (fun q e => (o0'.lt q e).1)
            rw [show ints [] ++ ints (flat6 (xs.take 0)) = ints (flat6 (xs.take 0)) from rfl] at o1
            have c_u3 : u3.cell? ⟨(wq.heap.size + 1), 0, none⟩ = some (.int .i64 l1) ∧ u3.cell? ⟨(wq.heap.size + 1), 1, none⟩ = some (.int .i64 l2) ∧ u3.cell? ⟨(wq.heap.size + 1), 2, none⟩ = some (.int .i64 l3) ∧ u3.cell? ⟨(wq.heap.size + 1), 3, none⟩ = some (.int .i64 l4) ∧ u3.cell? ⟨(wq.heap.size + 1), 4, none⟩ = some (.int .i64 l5) ∧ u3.cell? ⟨(wq.heap.size + 1), 5, none⟩ = some (.int .i64 l6) := by
              have hb := gr1.block (wq.heap.size + 1) (World.block_lt_of_cell? _ ⟨(wq.heap.size + 1), 0, none⟩ cf.1) (by intro e; first | (simp [Value.ownBlock] at e; done) | (simp [Value.ownBlock] at e; omega))
              exact ⟨(World.cell?_of_block (a := ⟨(wq.heap.size + 1), 0, none⟩) hb).trans cf.1, (World.cell?_of_block (a := ⟨(wq.heap.size + 1), 1, none⟩) hb).trans cf.2.1, (World.cell?_of_block (a := ⟨(wq.heap.size + 1), 2, none⟩) hb).trans cf.2.2.1, (World.cell?_of_block (a := ⟨(wq.heap.size + 1), 3, none⟩) hb).trans cf.2.2.2.1, (World.cell?_of_block (a := ⟨(wq.heap.size + 1), 4, none⟩) hb).trans cf.2.2.2.2.1, (World.cell?_of_block (a := ⟨(wq.heap.size + 1), 5, none⟩) hb).trans cf.2.2.2.2.2⟩
            clear gr1
            refine hK.out _ _ B_u3 (fun hHeld => ?_)
            clear hHeld hK K
            try simp only [Act.put, List.getElem_toArray, List.getElem_cons_zero, List.getElem_cons_succ, List.setIfInBounds_toArray, List.set_cons_zero, List.set_cons_succ]
            refine wpAnyH_ready (rs := [7]) (by kernel_rfl) (by simp) ?_
            refine AllReadyH.cons rfl (fun K hK => ?_) AllReadyH.nil
            refine step_append_own rfl _ _ 23 rfl wq.heap.size 62 i0 (.agg #[.int .i64 0, .int .i64 0, .int .i64 0, .int .i64 0, .int .i64 0, .int .i64 0]) 6 48 Try.underlying23 hi hz0 hz1 hz2 rfl (by decide) v1 (0 + 0) (ints (flat6 (xs.take 0))) rfl o1 ⟨wq.heap.size + 1, 0, none⟩ 1 1 [.int .i64 l1, .int .i64 l2, .int .i64 l3, .int .i64 l4, .int .i64 l5, .int .i64 l6] rfl rfl (fun j u hj => ?nw) (mv_one _ _ _ _ _ _) (by unfold maxLen; omega) (by omega) B_u3.size ?_
            case nw => (match j, hj with
              | 0, hj => simp at hj; subst hj; exact c_u3.1
              | 1, hj => simp at hj; subst hj; exact c_u3.2.1
              | 2, hj => simp at hj; subst hj; exact c_u3.2.2.1
              | 3, hj => simp at hj; subst hj; exact c_u3.2.2.2.1
              | 4, hj => simp at hj; subst hj; exact c_u3.2.2.2.2.1
              | 5, hj => simp at hj; subst hj; exact c_u3.2.2.2.2.2
              | j + 6, hj => simp at hj)
            intro v2 wf o2 gr2
            have B_wf : Below wq.heap.size wq wf := Below.grown B_u3 gr2 B_u3.size (fun q e => (o1.lt q e).1)
            clear gr2
            refine hK.out _ _ B_wf (fun hHeld => ?_)
            clear hHeld hK K
            try simp only [Act.put, List.getElem_toArray, List.getElem_cons_zero, List.getElem_cons_succ, List.setIfInBounds_toArray, List.set_cons_zero, List.set_cons_succ]
            (refine wpAnyH_take (i := 8) (v := ?_) rfl (by kernel_rfl) (by kernel_rfl) (by kernel_rfl) (fun _ _ _ h => h) (Or.inl ⟨by rfl, ?_⟩) (by with_reducible assumption) ?_; rotate_left; (focus (intro wz hSw; (try dsimp only at hSw); go_simp; try with_reducible rfl)); try simp only [Act.put, List.getElem_toArray, List.getElem_cons_zero, List.getElem_cons_succ, List.setIfInBounds_toArray, List.set_cons_zero, List.set_cons_succ])
            refine wpAnyH_done (by kernel_rfl) ?_ _
            have o3 : wf.ownsRow wq.heap.size 62 6 v2 (0 + 1) (ints (flat6 ((xs.take 0) ++ [(l1, l2, l3, l4, l5, l6)]))) := by rw [flat6_append, ints_append, Nat.zero_add] at *; exact o2
            obtain ⟨g6, c6, rfl⟩ := own_some6 o3 (by omega)
            go_wp2_with fail
            go_meet
            exact ⟨_, _, rfl, o3, B_wf⟩
        · go_simp
          have B_u0 : Below wq.heap.size wq (wq.alloc (.cells #[.int .i64 l1, .int .i64 l2, .int .i64 l3, .int .i64 l4, .int .i64 l5, .int .i64 l6] 62)).drew := (by (repeat (first | with_reducible exact Below.refl _ _ | with_reducible refine balloc ?_ _ | with_reducible refine bdrewN ?_ _ | with_reducible refine Below.drew ?_ | with_reducible refine bthen ?_ (by with_reducible assumption) | with_reducible refine Below.setCell ?_ (by first | (simp; done) | (simp; omega)) _)))
          have cf : (wq.alloc (.cells #[.int .i64 l1, .int .i64 l2, .int .i64 l3, .int .i64 l4, .int .i64 l5, .int .i64 l6] 62)).drew.cell? ⟨wq.heap.size, 0, none⟩ = some (.int .i64 l1) ∧ (wq.alloc (.cells #[.int .i64 l1, .int .i64 l2, .int .i64 l3, .int .i64 l4, .int .i64 l5, .int .i64 l6] 62)).drew.cell? ⟨wq.heap.size, 1, none⟩ = some (.int .i64 l2) ∧ (wq.alloc (.cells #[.int .i64 l1, .int .i64 l2, .int .i64 l3, .int .i64 l4, .int .i64 l5, .int .i64 l6] 62)).drew.cell? ⟨wq.heap.size, 2, none⟩ = some (.int .i64 l3) ∧ (wq.alloc (.cells #[.int .i64 l1, .int .i64 l2, .int .i64 l3, .int .i64 l4, .int .i64 l5, .int .i64 l6] 62)).drew.cell? ⟨wq.heap.size, 3, none⟩ = some (.int .i64 l4) ∧ (wq.alloc (.cells #[.int .i64 l1, .int .i64 l2, .int .i64 l3, .int .i64 l4, .int .i64 l5, .int .i64 l6] 62)).drew.cell? ⟨wq.heap.size, 4, none⟩ = some (.int .i64 l5) ∧ (wq.alloc (.cells #[.int .i64 l1, .int .i64 l2, .int .i64 l3, .int .i64 l4, .int .i64 l5, .int .i64 l6] 62)).drew.cell? ⟨wq.heap.size, 5, none⟩ = some (.int .i64 l6) := ⟨kdrew (kfresh rfl rfl), kdrew (kfresh rfl rfl), kdrew (kfresh rfl rfl), kdrew (kfresh rfl rfl), kdrew (kfresh rfl rfl), kdrew (kfresh rfl rfl)⟩
          have sz_u0 : (wq.alloc (.cells #[.int .i64 l1, .int .i64 l2, .int .i64 l3, .int .i64 l4, .int .i64 l5, .int .i64 l6] 62)).drew.heap.size = wq.heap.size + 1 := by simp
          refine hK.out _ _ B_u0 (fun hHeld => ?_)
          clear hHeld hK K
          try simp only [Act.put, List.getElem_toArray, List.getElem_cons_zero, List.getElem_cons_succ, List.setIfInBounds_toArray, List.set_cons_zero, List.set_cons_succ]
          obtain ⟨u0, hu0⟩ : ∃ X, X = (wq.alloc (.cells #[.int .i64 l1, .int .i64 l2, .int .i64 l3, .int .i64 l4, .int .i64 l5, .int .i64 l6] 62)).drew := ⟨_, rfl⟩
          rw [← hu0] at cf B_u0 sz_u0 ⊢
          clear hu0
          refine wpAnyH_ready (rs := [0]) (by kernel_rfl) (by simp) ?_
          refine AllReadyH.cons rfl (fun K hK => ?_) AllReadyH.nil
          go_simp
          have o0 : (u0.alloc (.cells #[] 62)).ownsRow wq.heap.size 62 6 (.slice (some ⟨wq.heap.size + 1, 0, none⟩) 0 0) 0 (ints []) := own_lit0 _ _ _ B_u0.size sz_u0.symm
          have B_u1 : Below wq.heap.size wq (u0.alloc (.cells #[] 62)) := B_u0.alloc B_u0.size _
          have cf1 : (u0.alloc (.cells #[] 62)).cell? ⟨wq.heap.size, 0, none⟩ = some (.int .i64 l1) ∧ (u0.alloc (.cells #[] 62)).cell? ⟨wq.heap.size, 1, none⟩ = some (.int .i64 l2) ∧ (u0.alloc (.cells #[] 62)).cell? ⟨wq.heap.size, 2, none⟩ = some (.int .i64 l3) ∧ (u0.alloc (.cells #[] 62)).cell? ⟨wq.heap.size, 3, none⟩ = some (.int .i64 l4) ∧ (u0.alloc (.cells #[] 62)).cell? ⟨wq.heap.size, 4, none⟩ = some (.int .i64 l5) ∧ (u0.alloc (.cells #[] 62)).cell? ⟨wq.heap.size, 5, none⟩ = some (.int .i64 l6) := ⟨kalloc _ cf.1, kalloc _ cf.2.1, kalloc _ cf.2.2.1, kalloc _ cf.2.2.2.1, kalloc _ cf.2.2.2.2.1, kalloc _ cf.2.2.2.2.2⟩
          refine hK.out _ _ B_u1 (fun hHeld => ?_)
          clear hHeld hK K
          try simp only [Act.put, List.getElem_toArray, List.getElem_cons_zero, List.getElem_cons_succ, List.setIfInBounds_toArray, List.set_cons_zero, List.set_cons_succ]
          obtain ⟨u1, hu1⟩ : ∃ X, X = (u0.alloc (.cells #[] 62)) := ⟨_, rfl⟩
          rw [← hu1] at o0 B_u1 cf1 ⊢
          clear hu1
          clear cf
          have cf := cf1
          clear cf1
          refine wpAnyH_ready (rs := [4]) (by kernel_rfl) (by simp) ?_
          refine AllReadyH.cons rfl (fun K hK => ?_) AllReadyH.nil
          refine step_append_own rfl _ _ 23 rfl wq.heap.size 62 i0 (.agg #[.int .i64 0, .int .i64 0, .int .i64 0, .int .i64 0, .int .i64 0, .int .i64 0]) 6 48 Try.underlying23 hi hz0 hz1 hz2 rfl (by decide) (.slice (some ⟨wq.heap.size + 1, 0, none⟩) 0 0) 0 (ints []) rfl o0 ⟨g, 0, none⟩ 0 _ (ints (flat6 (xs.take 0))) rfl (by rw [ints_length, flat6_length, List.length_take]; congr 1 <;> omega) (row_take6 (fun j hj => hcX _ B_u1 j hj) (by omega) HN.out) (ints_one6 _) (by unfold maxLen; omega) (by omega) B_u1.size ?_
          intro v1 u3 o1 gr1
          have B_u3 : Below wq.heap.size wq u3 := Below.grown B_u1 gr1 B_u1.size (fun q e => (o0.lt q e).1)
          rw [show ints [] ++ ints (flat6 (xs.take 0)) = ints (flat6 (xs.take 0)) from rfl] at o1
          have c_u3 : u3.cell? ⟨wq.heap.size, 0, none⟩ = some (.int .i64 l1) ∧ u3.cell? ⟨wq.heap.size, 1, none⟩ = some (.int .i64 l2) ∧ u3.cell? ⟨wq.heap.size, 2, none⟩ = some (.int .i64 l3) ∧ u3.cell? ⟨wq.heap.size, 3, none⟩ = some (.int .i64 l4) ∧ u3.cell? ⟨wq.heap.size, 4, none⟩ = some (.int .i64 l5) ∧ u3.cell? ⟨wq.heap.size, 5, none⟩ = some (.int .i64 l6) := by
            have hb := gr1.block wq.heap.size (World.block_lt_of_cell? _ ⟨wq.heap.size, 0, none⟩ cf.1) (by intro e; first | (simp [Value.ownBlock] at e; done) | (simp [Value.ownBlock] at e; omega))
            exact ⟨(World.cell?_of_block (a := ⟨wq.heap.size, 0, none⟩) hb).trans cf.1, (World.cell?_of_block (a := ⟨wq.heap.size, 1, none⟩) hb).trans cf.2.1, (World.cell?_of_block (a := ⟨wq.heap.size, 2, none⟩) hb).trans cf.2.2.1, (World.cell?_of_block (a := ⟨wq.heap.size, 3, none⟩) hb).trans cf.2.2.2.1, (World.cell?_of_block (a := ⟨wq.heap.size, 4, none⟩) hb).trans cf.2.2.2.2.1, (World.cell?_of_block (a := ⟨wq.heap.size, 5, none⟩) hb).trans cf.2.2.2.2.2⟩
          clear gr1
          refine hK.out _ _ B_u3 (fun hHeld => ?_)
          clear hHeld hK K
          try simp only [Act.put, List.getElem_toArray, List.getElem_cons_zero, List.getElem_cons_succ, List.setIfInBounds_toArray, List.set_cons_zero, List.set_cons_succ]
          refine wpAnyH_ready (rs := [7]) (by kernel_rfl) (by simp) ?_
          refine AllReadyH.cons rfl (fun K hK => ?_) AllReadyH.nil
          refine step_append_own rfl _ _ 23 rfl wq.heap.size 62 i0 (.agg #[.int .i64 0, .int .i64 0, .int .i64 0, .int .i64 0, .int .i64 0, .int .i64 0]) 6 48 Try.underlying23 hi hz0 hz1 hz2 rfl (by decide) v1 (0 + 0) (ints (flat6 (xs.take 0))) rfl o1 ⟨wq.heap.size, 0, none⟩ 1 1 [.int .i64 l1, .int .i64 l2, .int .i64 l3, .int .i64 l4, .int .i64 l5, .int .i64 l6] rfl rfl (fun j u hj => ?nw) (mv_one _ _ _ _ _ _) (by unfold maxLen; omega) (by omega) B_u3.size ?_
          case nw => (match j, hj with
            | 0, hj => simp at hj; subst hj; exact c_u3.1
            | 1, hj => simp at hj; subst hj; exact c_u3.2.1
            | 2, hj => simp at hj; subst hj; exact c_u3.2.2.1
            | 3, hj => simp at hj; subst hj; exact c_u3.2.2.2.1
            | 4, hj => simp at hj; subst hj; exact c_u3.2.2.2.2.1
            | 5, hj => simp at hj; subst hj; exact c_u3.2.2.2.2.2
            | j + 6, hj => simp at hj)
          intro v2 wf o2 gr2
          have B_wf : Below wq.heap.size wq wf := Below.grown B_u3 gr2 B_u3.size (fun q e => (o1.lt q e).1)
          clear gr2
          refine hK.out _ _ B_wf (fun hHeld => ?_)
          clear hHeld hK K
          try simp only [Act.put, List.getElem_toArray, List.getElem_cons_zero, List.getElem_cons_succ, List.setIfInBounds_toArray, List.set_cons_zero, List.set_cons_succ]
          (refine wpAnyH_take (i := 8) (v := ?_) rfl (by kernel_rfl) (by kernel_rfl) (by kernel_rfl) (fun _ _ _ h => h) (Or.inl ⟨by rfl, ?_⟩) (by with_reducible assumption) ?_; rotate_left; (focus (intro wz hSw; (try dsimp only at hSw); go_simp; try with_reducible rfl)); try simp only [Act.put, List.getElem_toArray, List.getElem_cons_zero, List.getElem_cons_succ, List.setIfInBounds_toArray, List.set_cons_zero, List.set_cons_succ])
          refine wpAnyH_done (by kernel_rfl) ?_ _
          have o3 : wf.ownsRow wq.heap.size 62 6 v2 (0 + 1) (ints (flat6 ((xs.take 0) ++ [(l1, l2, l3, l4, l5, l6)]))) := by rw [flat6_append, ints_append, Nat.zero_add] at *; exact o2
          obtain ⟨g6, c6, rfl⟩ := own_some6 o3 (by omega)
          go_wp2_with fail
          go_meet
          exact ⟨_, _, rfl, o3, B_wf⟩
      case' rest => obtain ⟨g6, c6, rfl, o6, B6⟩ := hcut
      obtain ⟨w6, rfl⟩ : ∃ w6 : World, w6 = wc := ⟨_, rfl⟩
      have hc6 := hcX w6 B6
      go_wp2_with (at_builtin; refine wpList_append_own _ rfl _ _ 23 rfl wq.heap.size 62 i0 (.agg #[.int .i64 0, .int .i64 0, .int .i64 0, .int .i64 0, .int .i64 0, .int .i64 0]) 6 48 Try.underlying23 hi hz0 hz1 hz2 rfl (by decide) _ _ _ rfl o6 ⟨g, 0, none⟩ n cap (ints (flat6 (xs.drop 0))) rfl (by rw [ints_length, flat6_length, List.length_drop]; congr 1 <;> (have := HN.out; omega)) (row_drop6 (k := 0) hc6 HN.out) (ints_one6 _) ?c3 ?c4 ?c5 ?_)
      case c3 => unfold maxLen; omega
      case c4 => omega
      case c5 => exact B6.size
      intro v8 w8 o8 gr8 _
      have B8 : Below wq.heap.size wq w8 := B6.grown gr8 B6.size (fun q e => (o6.lt q e).1)
      have HI := Lib.hid (put6_at (l := (l1, l2, l3, l4, l5, l6)) hs (k := 0) HD.out (by simp))
      have HL : (insM xs (l1, l2, l3, l4, l5, l6)).length = 0 + 1 + n := by rw [HI.out, List.length_append, List.length_cons, List.length_take, List.length_drop]; have := HN.out; omega
      have o9 : w8.ownsRow base 62 6 v8 (insM xs (l1, l2, l3, l4, l5, l6)).length (ints (flat6 (insM xs (l1, l2, l3, l4, l5, l6)))) := by
        rw [HL, HI.out]
        have e : flat6 ((xs.take 0) ++ (l1, l2, l3, l4, l5, l6) :: xs.drop 0) = flat6 ((xs.take 0) ++ [(l1, l2, l3, l4, l5, l6)]) ++ flat6 (xs.drop 0) := by simp [flat6]
        rw [e, ints_append]
        exact own_base o8 (by have := hbX.size; omega)
      obtain ⟨g9, c9, rfl⟩ := own_some6 o9 (by omega)
      clear o8 gr8
      go_wp2
      (refine bodyPost_ret (v := .slice (some ⟨g9, 0, none⟩) (insM xs (l1, l2, l3, l4, l5, l6)).length c9) (by simp [results, Try.results30, go_sem]) rfl ⟨g9, c9, rfl, o9, (hb1.trans (hbX.mono hb1.size)).trans (B8.mono (by have := hb1.size; have := hbX.size; omega))⟩)
    | succ k =>
      have hkx : k < xs.length := by have := HN.out; omega
      have hget := flat6_getD xs k hkx
      have hX : ∀ W : World, Below wn.heap.size wn W → ∀ j : Nat, j < n * 6 → W.cell? ⟨g, j, none⟩ = some (.int .i64 ((flat6 xs).getD j 0)) := fun W h j hj => own_cell (own_call hown1 h) hj
      obtain ⟨x, hx⟩ : ∃ x, x = xs[k] := ⟨_, rfl⟩
      rw [← hx] at hget
      have hdk : xs.drop k = x :: xs.drop (k + 1) := by rw [hx]; exact drop_at6 hkx
      have htk : xs.take (k + 1) = xs.take k ++ [x] := by rw [hx, List.take_succ_eq_append_getElem hkx]
      have hmx : x ∈ xs := by rw [hx]; exact List.getElem_mem _
      obtain ⟨x1, x2, x3, x4, x5, x6⟩ := x
      simp only at hget
      have HDK := Lib.hid hdk
      have HTK := Lib.hid htk
      have HMX := Lib.hid hmx
      clear hdk htk hmx hx
      have c0 : ∀ W : World, Below wn.heap.size wn W → W.cell? ⟨g, k * 6, none⟩ = some (.int .i64 x1) := fun W h => (hX W h (k * 6) (by omega)).trans (by rw [hget.1])
      have c1 : ∀ W : World, Below wn.heap.size wn W → W.cell? ⟨g, k * 6 + 1, none⟩ = some (.int .i64 x2) := fun W h => (hX W h (k * 6 + 1) (by omega)).trans (by rw [hget.2.1])
      have c2 : ∀ W : World, Below wn.heap.size wn W → W.cell? ⟨g, k * 6 + 2, none⟩ = some (.int .i64 x3) := fun W h => (hX W h (k * 6 + 2) (by omega)).trans (by rw [hget.2.2.1])
      have c3 : ∀ W : World, Below wn.heap.size wn W → W.cell? ⟨g, k * 6 + 3, none⟩ = some (.int .i64 x4) := fun W h => (hX W h (k * 6 + 3) (by omega)).trans (by rw [hget.2.2.2.1])
      have c4 : ∀ W : World, Below wn.heap.size wn W → W.cell? ⟨g, k * 6 + 4, none⟩ = some (.int .i64 x5) := fun W h => (hX W h (k * 6 + 4) (by omega)).trans (by rw [hget.2.2.2.2.1])
      have c5 : ∀ W : World, Below wn.heap.size wn W → W.cell? ⟨g, k * 6 + 5, none⟩ = some (.int .i64 x6) := fun W h => (hX W h (k * 6 + 5) (by omega)).trans (by rw [hget.2.2.2.2.2])
      have d0 : ∀ W : World, Below wn.heap.size wn W → W.cell? ⟨w.heap.size, 0, none⟩ = some (.int .i64 l1) := fun W h => bholds q0 h
      have d1 : ∀ W : World, Below wn.heap.size wn W → W.cell? ⟨w.heap.size, 1, none⟩ = some (.int .i64 l2) := fun W h => bholds q1 h
      have d2 : ∀ W : World, Below wn.heap.size wn W → W.cell? ⟨w.heap.size, 2, none⟩ = some (.int .i64 l3) := fun W h => bholds q2 h
      have d3 : ∀ W : World, Below wn.heap.size wn W → W.cell? ⟨w.heap.size, 3, none⟩ = some (.int .i64 l4) := fun W h => bholds q3 h
      have d4 : ∀ W : World, Below wn.heap.size wn W → W.cell? ⟨w.heap.size, 4, none⟩ = some (.int .i64 l5) := fun W h => bholds q4 h
      have d5 : ∀ W : World, Below wn.heap.size wn W → W.cell? ⟨w.heap.size, 5, none⟩ = some (.int .i64 l6) := fun W h => bholds q5 h
      have hkn : (k : Int) + 1 - 1 = k := by omega
      have hkn' : (k : Int) < (n : Int) := by omega
      have hwk : IntKind.i64.wrap (k : Int) = (k : Int) := IntWalk.i64_in _ (by omega)
      have hk0 : 0 ≤ (k : Int) := by omega
      clear hget hX
      go_upto_region 2 with fail
      (refine wp_region_held_drew (S := (fun W => W.cell? ⟨g, k * 6, none⟩ = some (.int .i64 x1) ∧ W.cell? ⟨g, k * 6 + 1, none⟩ = some (.int .i64 x2) ∧ W.cell? ⟨g, k * 6 + 2, none⟩ = some (.int .i64 x3) ∧ W.cell? ⟨g, k * 6 + 3, none⟩ = some (.int .i64 x4) ∧ W.cell? ⟨g, k * 6 + 4, none⟩ = some (.int .i64 x5) ∧ W.cell? ⟨g, k * 6 + 5, none⟩ = some (.int .i64 x6) ∧ W.cell? ⟨w.heap.size, 0, none⟩ = some (.int .i64 l1) ∧ W.cell? ⟨w.heap.size, 1, none⟩ = some (.int .i64 l2) ∧ W.cell? ⟨w.heap.size, 2, none⟩ = some (.int .i64 l3) ∧ W.cell? ⟨w.heap.size, 3, none⟩ = some (.int .i64 l4) ∧ W.cell? ⟨w.heap.size, 4, none⟩ = some (.int .i64 l5) ∧ W.cell? ⟨w.heap.size, 5, none⟩ = some (.int .i64 l6) ∧ Below wn.heap.size wn W)) (by kernel_rfl) (by exact (⟨c0 _ (Below.drew hbel), c1 _ (Below.drew hbel), c2 _ (Below.drew hbel), c3 _ (Below.drew hbel), c4 _ (Below.drew hbel), c5 _ (Below.drew hbel), d0 _ (Below.drew hbel), d1 _ (Below.drew hbel), d2 _ (Below.drew hbel), d3 _ (Below.drew hbel), d4 _ (Below.drew hbel), d5 _ (Below.drew hbel), Below.drew hbel⟩)) (fun hHeld => ?_))
      (refine wpAnyH_take (i := 0) (v := ?_) rfl (by kernel_rfl) (by kernel_rfl) (by kernel_rfl) (fun _ _ _ h => h) (Or.inl ⟨by rfl, ?_⟩) (by with_reducible assumption) ?_; rotate_left; (focus (intro wz hSw; (try dsimp only at hSw); go_simp; try with_reducible rfl)); try simp only [Act.put, List.getElem_toArray, List.getElem_cons_zero, List.getElem_cons_succ, List.setIfInBounds_toArray, List.set_cons_zero, List.set_cons_succ])
      (refine wpAnyH_take (i := 1) (v := ?_) rfl (by kernel_rfl) (by kernel_rfl) (by kernel_rfl) (fun _ _ _ h => h) (Or.inl ⟨by rfl, ?_⟩) (by with_reducible assumption) ?_; rotate_left; (focus (intro wz hSw; (try dsimp only at hSw); go_simp; try with_reducible rfl)); try simp only [Act.put, List.getElem_toArray, List.getElem_cons_zero, List.getElem_cons_succ, List.setIfInBounds_toArray, List.set_cons_zero, List.set_cons_succ])
      (refine wpAnyH_take (i := 2) (v := ?_) rfl (by kernel_rfl) (by kernel_rfl) (by kernel_rfl) (fun _ _ _ h => h) (Or.inl ⟨by rfl, ?_⟩) (by with_reducible assumption) ?_; rotate_left; (focus (intro wz hSw; (try dsimp only at hSw); go_simp; try with_reducible rfl)); try simp only [Act.put, List.getElem_toArray, List.getElem_cons_zero, List.getElem_cons_succ, List.setIfInBounds_toArray, List.set_cons_zero, List.set_cons_succ])
      (refine wpAnyH_take (i := 3) (v := ?_) rfl (by kernel_rfl) (by kernel_rfl) (by kernel_rfl) (fun _ _ _ h => h) (Or.inl ⟨by rfl, ?_⟩) (by with_reducible assumption) ?_; rotate_left; (focus (intro wz hSw; (try dsimp only at hSw); go_simp; try with_reducible rfl)); try simp only [Act.put, List.getElem_toArray, List.getElem_cons_zero, List.getElem_cons_succ, List.setIfInBounds_toArray, List.set_cons_zero, List.set_cons_succ])
      (refine wpAnyH_take (i := 4) (v := ?_) rfl (by kernel_rfl) (by kernel_rfl) (by kernel_rfl) (fun _ _ _ h => h) (Or.inl ⟨by rfl, ?_⟩) (by with_reducible assumption) ?_; rotate_left; (focus (intro wz hSw; (try dsimp only at hSw); go_simp; try with_reducible rfl)); try simp only [Act.put, List.getElem_toArray, List.getElem_cons_zero, List.getElem_cons_succ, List.setIfInBounds_toArray, List.set_cons_zero, List.set_cons_succ])
      (refine wpAnyH_take (i := 5) (v := ?_) rfl (by kernel_rfl) (by kernel_rfl) (by kernel_rfl) (fun _ _ _ h => h) (Or.inl ⟨by rfl, ?_⟩) (by with_reducible assumption) ?_; rotate_left; (focus (intro wz hSw; (try dsimp only at hSw); go_simp; try with_reducible rfl)); try simp only [Act.put, List.getElem_toArray, List.getElem_cons_zero, List.getElem_cons_succ, List.setIfInBounds_toArray, List.set_cons_zero, List.set_cons_succ])
      (refine wpAnyH_take (i := 6) (v := ?_) rfl (by kernel_rfl) (by kernel_rfl) (by kernel_rfl) (fun _ _ _ h => h) (Or.inl ⟨by rfl, ?_⟩) (by with_reducible assumption) ?_; rotate_left; (focus (intro wz hSw; (try dsimp only at hSw); go_simp; try with_reducible rfl)); try simp only [Act.put, List.getElem_toArray, List.getElem_cons_zero, List.getElem_cons_succ, List.setIfInBounds_toArray, List.set_cons_zero, List.set_cons_succ])
      (refine wpAnyH_take (i := 7) (v := ?_) rfl (by kernel_rfl) (by kernel_rfl) (by kernel_rfl) (fun _ _ _ h => h) (Or.inl ⟨by rfl, ?_⟩) (by with_reducible assumption) ?_; rotate_left; (focus (intro wz hSw; (try dsimp only at hSw); go_simp; try with_reducible rfl)); try simp only [Act.put, List.getElem_toArray, List.getElem_cons_zero, List.getElem_cons_succ, List.setIfInBounds_toArray, List.set_cons_zero, List.set_cons_succ])
      (refine wpAnyH_take (i := 8) (v := ?_) rfl (by kernel_rfl) (by kernel_rfl) (by kernel_rfl) (fun _ _ _ h => h) (Or.inl ⟨by rfl, ?_⟩) (by with_reducible assumption) ?_; rotate_left; (focus (intro wz hSw; (try dsimp only at hSw); go_simp; try with_reducible rfl)); try simp only [Act.put, List.getElem_toArray, List.getElem_cons_zero, List.getElem_cons_succ, List.setIfInBounds_toArray, List.set_cons_zero, List.set_cons_succ])
      (refine wpAnyH_ready (rs := [9]) (by kernel_rfl) (by simp) ?_; refine AllReadyH.cons rfl (fun K hK => ?_) AllReadyH.nil; (go_simp; refine Calls.mono (less7_any _ _ _ _ _ _ _ _ _ _ _ _ _) ?_; rintro e wb ⟨rfl, hBb⟩); refine hK.out _ _ (by exact (⟨c0 _ (hHeld.2.2.2.2.2.2.2.2.2.2.2.2.trans (hBb.mono hHeld.2.2.2.2.2.2.2.2.2.2.2.2.size)), c1 _ (hHeld.2.2.2.2.2.2.2.2.2.2.2.2.trans (hBb.mono hHeld.2.2.2.2.2.2.2.2.2.2.2.2.size)), c2 _ (hHeld.2.2.2.2.2.2.2.2.2.2.2.2.trans (hBb.mono hHeld.2.2.2.2.2.2.2.2.2.2.2.2.size)), c3 _ (hHeld.2.2.2.2.2.2.2.2.2.2.2.2.trans (hBb.mono hHeld.2.2.2.2.2.2.2.2.2.2.2.2.size)), c4 _ (hHeld.2.2.2.2.2.2.2.2.2.2.2.2.trans (hBb.mono hHeld.2.2.2.2.2.2.2.2.2.2.2.2.size)), c5 _ (hHeld.2.2.2.2.2.2.2.2.2.2.2.2.trans (hBb.mono hHeld.2.2.2.2.2.2.2.2.2.2.2.2.size)), d0 _ (hHeld.2.2.2.2.2.2.2.2.2.2.2.2.trans (hBb.mono hHeld.2.2.2.2.2.2.2.2.2.2.2.2.size)), d1 _ (hHeld.2.2.2.2.2.2.2.2.2.2.2.2.trans (hBb.mono hHeld.2.2.2.2.2.2.2.2.2.2.2.2.size)), d2 _ (hHeld.2.2.2.2.2.2.2.2.2.2.2.2.trans (hBb.mono hHeld.2.2.2.2.2.2.2.2.2.2.2.2.size)), d3 _ (hHeld.2.2.2.2.2.2.2.2.2.2.2.2.trans (hBb.mono hHeld.2.2.2.2.2.2.2.2.2.2.2.2.size)), d4 _ (hHeld.2.2.2.2.2.2.2.2.2.2.2.2.trans (hBb.mono hHeld.2.2.2.2.2.2.2.2.2.2.2.2.size)), d5 _ (hHeld.2.2.2.2.2.2.2.2.2.2.2.2.trans (hBb.mono hHeld.2.2.2.2.2.2.2.2.2.2.2.2.size)), hHeld.2.2.2.2.2.2.2.2.2.2.2.2.trans (hBb.mono hHeld.2.2.2.2.2.2.2.2.2.2.2.2.size)⟩)) (fun hHeld => ?_); clear hK K; try simp only [Act.put, List.setIfInBounds_toArray, List.set_cons_zero, List.set_cons_succ])
      have hbb : Below wn.heap.size wn wb := hHeld.2.2.2.2.2.2.2.2.2.2.2.2
      (refine wpAnyH_take (i := 10) (v := ?_) rfl (by kernel_rfl) (by kernel_rfl) (by kernel_rfl) (fun _ _ _ h => h) (Or.inl ⟨by rfl, ?_⟩) (by with_reducible assumption) ?_; rotate_left; (focus (intro wz hSw; (try dsimp only at hSw); go_simp; try with_reducible rfl)); try simp only [Act.put, List.getElem_toArray, List.getElem_cons_zero, List.getElem_cons_succ, List.setIfInBounds_toArray, List.set_cons_zero, List.set_cons_succ])
      refine wpAnyH_done (by kernel_rfl) ?_ _
      obtain ⟨bo, hbo⟩ : ∃ b, b = lsB l1 l2 l3 l4 l5 l6 x1 x2 x3 x4 x5 x6 := ⟨_, rfl⟩
      have HBO := Lib.hid (show bo = decide (lt6 (l1, l2, l3, l4, l5, l6) (x1, x2, x3, x4, x5, x6)) from hbo)
      rw [← hbo]
      clear hbo
      cases bo
      · have hnl : ¬ lt6 (l1, l2, l3, l4, l5, l6) (x1, x2, x3, x4, x5, x6) := of_decide_eq_false HBO.out.symm
        have HNL := Lib.hid hnl
        clear hnl
        have hne : (l1, l2, l3, l4, l5, l6) ≠ (x1, x2, x3, x4, x5, x6) := fun e => HNM.out (by rw [e]; exact HMX.out)
        have hxl : lt6 (x1, x2, x3, x4, x5, x6) (l1, l2, l3, l4, l5, l6) := lt6_not HNL.out hne
        have hlow : ∀ z ∈ xs.take (k + 1), lt6 z (l1, l2, l3, l4, l5, l6) := by
          rw [HTK.out]
          intro z hz
          rcases List.mem_append.1 hz with hz | hz
          · refine lt6_trans ?_ hxl
            have hsp : (xs.take (k + 1)).Pairwise lt6 := hs.sublist (List.take_sublist _ _)
            rw [HTK.out, List.pairwise_append] at hsp
            exact hsp.2.2 z hz _ (by simp)
          · rw [List.mem_singleton.1 hz]; exact hxl
        clear hne hxl
        go_upto_region 4 with fail
        have hbX : Below wn.heap.size wn wb := hbb
        obtain ⟨wq, hwq⟩ : ∃ X, X = wb := ⟨_, rfl⟩
        rw [← hwq] at hbX ⊢
        clear hwq
        have hownX := own_call hown1 hbX
        have hcap : n ≤ cap := by
          rcases hownX.2 with ⟨e, _⟩ | ⟨g', cap', cur, e, _, _, hle, _⟩
          · cases e
          · cases e; first | exact hle | omega
        have hcX : ∀ W : World, Below wq.heap.size wq W → ∀ j : Nat, j < n * 6 → W.cell? ⟨g, j, none⟩ = some (.int .i64 ((flat6 xs).getD j 0)) := fun W h j hj => own_cell (own_call hownX h) hj
        have hsl0 : 0 ≤ (k : Int) + 1 := by omega
        have hsl1 : (k : Int) + 1 ≤ (cap : Int) := by omega
        have hsl2 : (k : Int) + 1 ≤ (n : Int) := by omega
        have hsl3 : (n : Int) ≤ (cap : Int) := by omega
        have hslw : IntKind.i64.wrap ((k : Int) + 1) = (k : Int) + 1 := IntWalk.i64_in _ (by omega)
        have hsln : k + 1 ≤ cap := by omega
        have hslm : k + 1 ≤ n := by omega
        have kk0 := (cell_old hbX (by omega) 0).trans q0
        have kk1 := (cell_old hbX (by omega) 1).trans q1
        have kk2 := (cell_old hbX (by omega) 2).trans q2
        have kk3 := (cell_old hbX (by omega) 3).trans q3
        have kk4 := (cell_old hbX (by omega) 4).trans q4
        have kk5 := (cell_old hbX (by omega) 5).trans q5
        have bb0 : ∀ W : World, Below wq.heap.size wq W → W.cell? ⟨w.heap.size, 0, none⟩ = some (.int .i64 l1) := fun W h => bholds kk0 h
        have bb1 : ∀ W : World, Below wq.heap.size wq W → W.cell? ⟨w.heap.size, 1, none⟩ = some (.int .i64 l2) := fun W h => bholds kk1 h
        have bb2 : ∀ W : World, Below wq.heap.size wq W → W.cell? ⟨w.heap.size, 2, none⟩ = some (.int .i64 l3) := fun W h => bholds kk2 h
        have bb3 : ∀ W : World, Below wq.heap.size wq W → W.cell? ⟨w.heap.size, 3, none⟩ = some (.int .i64 l4) := fun W h => bholds kk3 h
        have bb4 : ∀ W : World, Below wq.heap.size wq W → W.cell? ⟨w.heap.size, 4, none⟩ = some (.int .i64 l5) := fun W h => bholds kk4 h
        have bb5 : ∀ W : World, Below wq.heap.size wq W → W.cell? ⟨w.heap.size, 5, none⟩ = some (.int .i64 l6) := fun W h => bholds kk5 h
        go_cut [6] (fun s6 wx => ∃ g6 c6 : Nat, s6 = .slice (some ⟨g6, 0, none⟩) ((k + 1) + 1) c6 ∧ wx.ownsRow wq.heap.size 62 6 s6 ((k + 1) + 1) (ints (flat6 ((xs.take (k + 1)) ++ [(l1, l2, l3, l4, l5, l6)]))) ∧ Below wq.heap.size wq wx)
        case first =>
          (refine wp_region_held_drew (S := (fun W => Below wq.heap.size wq W)) (by kernel_rfl) (by exact Below.drew (Below.refl _ _)) (fun hHeld => ?_))
          (refine wpAnyH_take (i := 1) (v := ?_) rfl (by kernel_rfl) (by kernel_rfl) (by kernel_rfl) (fun _ _ _ h => h) (Or.inl ⟨by rfl, ?_⟩) (by with_reducible assumption) ?_; rotate_left; (focus (intro wz hSw; (try dsimp only at hSw); go_simp; try with_reducible rfl)); try simp only [Act.put, List.getElem_toArray, List.getElem_cons_zero, List.getElem_cons_succ, List.setIfInBounds_toArray, List.set_cons_zero, List.set_cons_succ])
          (refine wpAnyH_take (i := 2) (v := ?_) rfl (by kernel_rfl) (by kernel_rfl) (by kernel_rfl) (fun _ _ _ h => h) (Or.inl ⟨by rfl, ?_⟩) (by with_reducible assumption) ?_; rotate_left; (focus (intro wz hSw; (try dsimp only at hSw); go_simp; try with_reducible rfl)); try simp only [Act.put, List.getElem_toArray, List.getElem_cons_zero, List.getElem_cons_succ, List.setIfInBounds_toArray, List.set_cons_zero, List.set_cons_succ])
          (refine wpAnyH_take (i := 3) (v := ?_) rfl (by kernel_rfl) (by kernel_rfl) (by kernel_rfl) (fun _ _ _ h => h) (Or.inl ⟨by rfl, ?_⟩) (by with_reducible assumption) ?_; rotate_left; (focus (intro wz hSw; (try dsimp only at hSw); go_simp; try with_reducible rfl)); try simp only [Act.put, List.getElem_toArray, List.getElem_cons_zero, List.getElem_cons_succ, List.setIfInBounds_toArray, List.set_cons_zero, List.set_cons_succ])
          (refine wpAnyH_take (i := 5) (v := ?_) rfl (by kernel_rfl) (by kernel_rfl) (by kernel_rfl) (fun _ _ _ h => h) (Or.inl ⟨by rfl, ?_⟩) (by with_reducible assumption) ?_; rotate_left; (focus (intro wz hSw; (try dsimp only at hSw); go_simp; try with_reducible rfl)); try simp only [Act.put, List.getElem_toArray, List.getElem_cons_zero, List.getElem_cons_succ, List.setIfInBounds_toArray, List.set_cons_zero, List.set_cons_succ])
          refine wpAnyH_ready (rs := [0, 6]) (by kernel_rfl) (by simp) ?_
          refine AllReadyH.cons rfl (fun K hK => ?_) (AllReadyH.cons rfl (fun K hK => ?_) AllReadyH.nil)
          · go_simp
            have o0 : (wq.alloc (.cells #[] 62)).drew.ownsRow wq.heap.size 62 6 (.slice (some ⟨wq.heap.size, 0, none⟩) 0 0) 0 (ints []) := own_drew (own_lit0 wq _ _ (Nat.le_refl _) rfl)
            have B_u0 : Below wq.heap.size wq (wq.alloc (.cells #[] 62)).drew := (by (repeat (first | with_reducible exact Below.refl _ _ | with_reducible refine balloc ?_ _ | with_reducible refine bdrewN ?_ _ | with_reducible refine Below.drew ?_ | with_reducible refine bthen ?_ (by with_reducible assumption) | with_reducible refine Below.setCell ?_ (by first | (simp; done) | (simp; omega)) _)))
            have sz_u0 : (wq.alloc (.cells #[] 62)).drew.heap.size = wq.heap.size + 1 := by simp
            refine hK.out _ _ B_u0 (fun hHeld => ?_)
            clear hHeld hK K
            try simp only [Act.put, List.getElem_toArray, List.getElem_cons_zero, List.getElem_cons_succ, List.setIfInBounds_toArray, List.set_cons_zero, List.set_cons_succ]
            obtain ⟨u0, hu0⟩ : ∃ X, X = (wq.alloc (.cells #[] 62)).drew := ⟨_, rfl⟩
            rw [← hu0] at o0 B_u0 sz_u0 ⊢
            clear hu0
            refine wpAnyH_ready (rs := [4, 6]) (by kernel_rfl) (by simp) ?_
            refine AllReadyH.cons rfl (fun K hK => ?_) (AllReadyH.cons rfl (fun K hK => ?_) AllReadyH.nil)
            · refine step_append_own rfl _ _ 23 rfl wq.heap.size 62 i0 (.agg #[.int .i64 0, .int .i64 0, .int .i64 0, .int .i64 0, .int .i64 0, .int .i64 0]) 6 48 Try.underlying23 hi hz0 hz1 hz2 rfl (by decide) (.slice (some ⟨wq.heap.size, 0, none⟩) 0 0) 0 (ints []) rfl o0 ⟨g, 0, none⟩ (k + 1) _ (ints (flat6 (xs.take (k + 1)))) rfl (by rw [ints_length, flat6_length, List.length_take]; congr 1 <;> omega) (row_take6 (fun j hj => hcX _ B_u0 j hj) (by omega) HN.out) (ints_one6 _) (by unfold maxLen; omega) (by omega) B_u0.size ?_
              intro v1 u1 o1 gr1
              have B_u1 : Below wq.heap.size wq u1 := Below.grown B_u0 gr1 B_u0.size (fun q e => (o0.lt q e).1)
              rw [show ints [] ++ ints (flat6 (xs.take (k + 1))) = ints (flat6 (xs.take (k + 1))) from rfl] at o1
              clear gr1
              refine hK.out _ _ B_u1 (fun hHeld => ?_)
              clear hHeld hK K
              try simp only [Act.put, List.getElem_toArray, List.getElem_cons_zero, List.getElem_cons_succ, List.setIfInBounds_toArray, List.set_cons_zero, List.set_cons_succ]
              refine wpAnyH_ready (rs := [6]) (by kernel_rfl) (by simp) ?_
              refine AllReadyH.cons rfl (fun K hK => ?_) AllReadyH.nil
              go_simp
              have B_u2 : Below wq.heap.size wq (u1.alloc (.cells #[.int .i64 l1, .int .i64 l2, .int .i64 l3, .int .i64 l4, .int .i64 l5, .int .i64 l6] 62)) := B_u1.alloc B_u1.size _
              have cf : (u1.alloc (.cells #[.int .i64 l1, .int .i64 l2, .int .i64 l3, .int .i64 l4, .int .i64 l5, .int .i64 l6] 62)).cell? ⟨u1.heap.size, 0, none⟩ = some (.int .i64 l1) ∧ (u1.alloc (.cells #[.int .i64 l1, .int .i64 l2, .int .i64 l3, .int .i64 l4, .int .i64 l5, .int .i64 l6] 62)).cell? ⟨u1.heap.size, 1, none⟩ = some (.int .i64 l2) ∧ (u1.alloc (.cells #[.int .i64 l1, .int .i64 l2, .int .i64 l3, .int .i64 l4, .int .i64 l5, .int .i64 l6] 62)).cell? ⟨u1.heap.size, 2, none⟩ = some (.int .i64 l3) ∧ (u1.alloc (.cells #[.int .i64 l1, .int .i64 l2, .int .i64 l3, .int .i64 l4, .int .i64 l5, .int .i64 l6] 62)).cell? ⟨u1.heap.size, 3, none⟩ = some (.int .i64 l4) ∧ (u1.alloc (.cells #[.int .i64 l1, .int .i64 l2, .int .i64 l3, .int .i64 l4, .int .i64 l5, .int .i64 l6] 62)).cell? ⟨u1.heap.size, 4, none⟩ = some (.int .i64 l5) ∧ (u1.alloc (.cells #[.int .i64 l1, .int .i64 l2, .int .i64 l3, .int .i64 l4, .int .i64 l5, .int .i64 l6] 62)).cell? ⟨u1.heap.size, 5, none⟩ = some (.int .i64 l6) := ⟨kfresh rfl rfl, kfresh rfl rfl, kfresh rfl rfl, kfresh rfl rfl, kfresh rfl rfl, kfresh rfl rfl⟩
              have sz_u2 : (u1.alloc (.cells #[.int .i64 l1, .int .i64 l2, .int .i64 l3, .int .i64 l4, .int .i64 l5, .int .i64 l6] 62)).heap.size = u1.heap.size + 1 := by simp
              have o1' := o1.alloc (.cells #[.int .i64 l1, .int .i64 l2, .int .i64 l3, .int .i64 l4, .int .i64 l5, .int .i64 l6] 62)
              refine hK.out _ _ B_u2 (fun hHeld => ?_)
              clear hHeld hK K
              try simp only [Act.put, List.getElem_toArray, List.getElem_cons_zero, List.getElem_cons_succ, List.setIfInBounds_toArray, List.set_cons_zero, List.set_cons_succ]
              obtain ⟨u2, hu2⟩ : ∃ X, X = (u1.alloc (.cells #[.int .i64 l1, .int .i64 l2, .int .i64 l3, .int .i64 l4, .int .i64 l5, .int .i64 l6] 62)) := ⟨_, rfl⟩
              rw [← hu2] at cf B_u2 o1' ⊢
              clear hu2
              refine wpAnyH_ready (rs := [7]) (by kernel_rfl) (by simp) ?_
              refine AllReadyH.cons rfl (fun K hK => ?_) AllReadyH.nil
              refine step_append_own rfl _ _ 23 rfl wq.heap.size 62 i0 (.agg #[.int .i64 0, .int .i64 0, .int .i64 0, .int .i64 0, .int .i64 0, .int .i64 0]) 6 48 Try.underlying23 hi hz0 hz1 hz2 rfl (by decide) v1 (0 + (k + 1)) (ints (flat6 (xs.take (k + 1)))) rfl o1' ⟨u1.heap.size, 0, none⟩ 1 1 [.int .i64 l1, .int .i64 l2, .int .i64 l3, .int .i64 l4, .int .i64 l5, .int .i64 l6] rfl rfl (fun j u hj => ?nw) (mv_one _ _ _ _ _ _) (by unfold maxLen; omega) (by omega) B_u2.size ?_
              case nw => (match j, hj with
                | 0, hj => simp at hj; subst hj; exact cf.1
                | 1, hj => simp at hj; subst hj; exact cf.2.1
                | 2, hj => simp at hj; subst hj; exact cf.2.2.1
                | 3, hj => simp at hj; subst hj; exact cf.2.2.2.1
                | 4, hj => simp at hj; subst hj; exact cf.2.2.2.2.1
                | 5, hj => simp at hj; subst hj; exact cf.2.2.2.2.2
                | j + 6, hj => simp at hj)
              intro v2 wf o2 gr2
              have B_wf : Below wq.heap.size wq wf := Below.grown B_u2 gr2 B_u2.size (fun q e => (o1'.lt q e).1)
              clear gr2
              refine hK.out _ _ B_wf (fun hHeld => ?_)
              clear hHeld hK K
              try simp only [Act.put, List.getElem_toArray, List.getElem_cons_zero, List.getElem_cons_succ, List.setIfInBounds_toArray, List.set_cons_zero, List.set_cons_succ]
              (refine wpAnyH_take (i := 8) (v := ?_) rfl (by kernel_rfl) (by kernel_rfl) (by kernel_rfl) (fun _ _ _ h => h) (Or.inl ⟨by rfl, ?_⟩) (by with_reducible assumption) ?_; rotate_left; (focus (intro wz hSw; (try dsimp only at hSw); go_simp; try with_reducible rfl)); try simp only [Act.put, List.getElem_toArray, List.getElem_cons_zero, List.getElem_cons_succ, List.setIfInBounds_toArray, List.set_cons_zero, List.set_cons_succ])
              refine wpAnyH_done (by kernel_rfl) ?_ _
              have o3 : wf.ownsRow wq.heap.size 62 6 v2 ((k + 1) + 1) (ints (flat6 ((xs.take (k + 1)) ++ [(l1, l2, l3, l4, l5, l6)]))) := by rw [flat6_append, ints_append, Nat.zero_add] at *; exact o2
              obtain ⟨g6, c6, rfl⟩ := own_some6 o3 (by omega)
              go_wp2_with fail
              go_meet
              exact ⟨_, _, rfl, o3, B_wf⟩
            · go_simp
              have B_u2 : Below wq.heap.size wq (u0.alloc (.cells #[.int .i64 l1, .int .i64 l2, .int .i64 l3, .int .i64 l4, .int .i64 l5, .int .i64 l6] 62)) := B_u0.alloc B_u0.size _
              have sz_u2 : (u0.alloc (.cells #[.int .i64 l1, .int .i64 l2, .int .i64 l3, .int .i64 l4, .int .i64 l5, .int .i64 l6] 62)).heap.size = u0.heap.size + 1 := by simp
              have cf : (u0.alloc (.cells #[.int .i64 l1, .int .i64 l2, .int .i64 l3, .int .i64 l4, .int .i64 l5, .int .i64 l6] 62)).cell? ⟨wq.heap.size + 1, 0, none⟩ = some (.int .i64 l1) ∧ (u0.alloc (.cells #[.int .i64 l1, .int .i64 l2, .int .i64 l3, .int .i64 l4, .int .i64 l5, .int .i64 l6] 62)).cell? ⟨wq.heap.size + 1, 1, none⟩ = some (.int .i64 l2) ∧ (u0.alloc (.cells #[.int .i64 l1, .int .i64 l2, .int .i64 l3, .int .i64 l4, .int .i64 l5, .int .i64 l6] 62)).cell? ⟨wq.heap.size + 1, 2, none⟩ = some (.int .i64 l3) ∧ (u0.alloc (.cells #[.int .i64 l1, .int .i64 l2, .int .i64 l3, .int .i64 l4, .int .i64 l5, .int .i64 l6] 62)).cell? ⟨wq.heap.size + 1, 3, none⟩ = some (.int .i64 l4) ∧ (u0.alloc (.cells #[.int .i64 l1, .int .i64 l2, .int .i64 l3, .int .i64 l4, .int .i64 l5, .int .i64 l6] 62)).cell? ⟨wq.heap.size + 1, 4, none⟩ = some (.int .i64 l5) ∧ (u0.alloc (.cells #[.int .i64 l1, .int .i64 l2, .int .i64 l3, .int .i64 l4, .int .i64 l5, .int .i64 l6] 62)).cell? ⟨wq.heap.size + 1, 5, none⟩ = some (.int .i64 l6) := ⟨kfresh sz_u0.symm rfl, kfresh sz_u0.symm rfl, kfresh sz_u0.symm rfl, kfresh sz_u0.symm rfl, kfresh sz_u0.symm rfl, kfresh sz_u0.symm rfl⟩
              have o0' := o0.alloc (.cells #[.int .i64 l1, .int .i64 l2, .int .i64 l3, .int .i64 l4, .int .i64 l5, .int .i64 l6] 62)
              refine hK.out _ _ B_u2 (fun hHeld => ?_)
              clear hHeld hK K
              try simp only [Act.put, List.getElem_toArray, List.getElem_cons_zero, List.getElem_cons_succ, List.setIfInBounds_toArray, List.set_cons_zero, List.set_cons_succ]
              obtain ⟨u2, hu2⟩ : ∃ X, X = (u0.alloc (.cells #[.int .i64 l1, .int .i64 l2, .int .i64 l3, .int .i64 l4, .int .i64 l5, .int .i64 l6] 62)) := ⟨_, rfl⟩
              rw [← hu2] at cf B_u2 o0' ⊢
              clear hu2
              refine wpAnyH_ready (rs := [4]) (by kernel_rfl) (by simp) ?_
              refine AllReadyH.cons rfl (fun K hK => ?_) AllReadyH.nil
              refine step_append_own rfl _ _ 23 rfl wq.heap.size 62 i0 (.agg #[.int .i64 0, .int .i64 0, .int .i64 0, .int .i64 0, .int .i64 0, .int .i64 0]) 6 48 Try.underlying23 hi hz0 hz1 hz2 rfl (by decide) (.slice (some ⟨wq.heap.size, 0, none⟩) 0 0) 0 (ints []) rfl o0' ⟨g, 0, none⟩ (k + 1) _ (ints (flat6 (xs.take (k + 1)))) rfl (by rw [ints_length, flat6_length, List.length_take]; congr 1 <;> omega) (row_take6 (fun j hj => hcX _ B_u2 j hj) (by omega) HN.out) (ints_one6 _) (by unfold maxLen; omega) (by omega) B_u2.size ?_
              intro v1 u3 o1 gr1
              have B_u3 : Below wq.heap.size wq u3 := Below.grown B_u2 gr1 B_u2.size (fun q e => (o0'.lt q e).1)
              rw [show ints [] ++ ints (flat6 (xs.take (k + 1))) = ints (flat6 (xs.take (k + 1))) from rfl] at o1
              have c_u3 : u3.cell? ⟨(wq.heap.size + 1), 0, none⟩ = some (.int .i64 l1) ∧ u3.cell? ⟨(wq.heap.size + 1), 1, none⟩ = some (.int .i64 l2) ∧ u3.cell? ⟨(wq.heap.size + 1), 2, none⟩ = some (.int .i64 l3) ∧ u3.cell? ⟨(wq.heap.size + 1), 3, none⟩ = some (.int .i64 l4) ∧ u3.cell? ⟨(wq.heap.size + 1), 4, none⟩ = some (.int .i64 l5) ∧ u3.cell? ⟨(wq.heap.size + 1), 5, none⟩ = some (.int .i64 l6) := by
                have hb := gr1.block (wq.heap.size + 1) (World.block_lt_of_cell? _ ⟨(wq.heap.size + 1), 0, none⟩ cf.1) (by intro e; first | (simp [Value.ownBlock] at e; done) | (simp [Value.ownBlock] at e; omega))
                exact ⟨(World.cell?_of_block (a := ⟨(wq.heap.size + 1), 0, none⟩) hb).trans cf.1, (World.cell?_of_block (a := ⟨(wq.heap.size + 1), 1, none⟩) hb).trans cf.2.1, (World.cell?_of_block (a := ⟨(wq.heap.size + 1), 2, none⟩) hb).trans cf.2.2.1, (World.cell?_of_block (a := ⟨(wq.heap.size + 1), 3, none⟩) hb).trans cf.2.2.2.1, (World.cell?_of_block (a := ⟨(wq.heap.size + 1), 4, none⟩) hb).trans cf.2.2.2.2.1, (World.cell?_of_block (a := ⟨(wq.heap.size + 1), 5, none⟩) hb).trans cf.2.2.2.2.2⟩
              clear gr1
              refine hK.out _ _ B_u3 (fun hHeld => ?_)
              clear hHeld hK K
              try simp only [Act.put, List.getElem_toArray, List.getElem_cons_zero, List.getElem_cons_succ, List.setIfInBounds_toArray, List.set_cons_zero, List.set_cons_succ]
              refine wpAnyH_ready (rs := [7]) (by kernel_rfl) (by simp) ?_
              refine AllReadyH.cons rfl (fun K hK => ?_) AllReadyH.nil
              refine step_append_own rfl _ _ 23 rfl wq.heap.size 62 i0 (.agg #[.int .i64 0, .int .i64 0, .int .i64 0, .int .i64 0, .int .i64 0, .int .i64 0]) 6 48 Try.underlying23 hi hz0 hz1 hz2 rfl (by decide) v1 (0 + (k + 1)) (ints (flat6 (xs.take (k + 1)))) rfl o1 ⟨wq.heap.size + 1, 0, none⟩ 1 1 [.int .i64 l1, .int .i64 l2, .int .i64 l3, .int .i64 l4, .int .i64 l5, .int .i64 l6] rfl rfl (fun j u hj => ?nw) (mv_one _ _ _ _ _ _) (by unfold maxLen; omega) (by omega) B_u3.size ?_
              case nw => (match j, hj with
                | 0, hj => simp at hj; subst hj; exact c_u3.1
                | 1, hj => simp at hj; subst hj; exact c_u3.2.1
                | 2, hj => simp at hj; subst hj; exact c_u3.2.2.1
                | 3, hj => simp at hj; subst hj; exact c_u3.2.2.2.1
                | 4, hj => simp at hj; subst hj; exact c_u3.2.2.2.2.1
                | 5, hj => simp at hj; subst hj; exact c_u3.2.2.2.2.2
                | j + 6, hj => simp at hj)
              intro v2 wf o2 gr2
              have B_wf : Below wq.heap.size wq wf := Below.grown B_u3 gr2 B_u3.size (fun q e => (o1.lt q e).1)
              clear gr2
              refine hK.out _ _ B_wf (fun hHeld => ?_)
              clear hHeld hK K
              try simp only [Act.put, List.getElem_toArray, List.getElem_cons_zero, List.getElem_cons_succ, List.setIfInBounds_toArray, List.set_cons_zero, List.set_cons_succ]
              (refine wpAnyH_take (i := 8) (v := ?_) rfl (by kernel_rfl) (by kernel_rfl) (by kernel_rfl) (fun _ _ _ h => h) (Or.inl ⟨by rfl, ?_⟩) (by with_reducible assumption) ?_; rotate_left; (focus (intro wz hSw; (try dsimp only at hSw); go_simp; try with_reducible rfl)); try simp only [Act.put, List.getElem_toArray, List.getElem_cons_zero, List.getElem_cons_succ, List.setIfInBounds_toArray, List.set_cons_zero, List.set_cons_succ])
              refine wpAnyH_done (by kernel_rfl) ?_ _
              have o3 : wf.ownsRow wq.heap.size 62 6 v2 ((k + 1) + 1) (ints (flat6 ((xs.take (k + 1)) ++ [(l1, l2, l3, l4, l5, l6)]))) := by rw [flat6_append, ints_append, Nat.zero_add] at *; exact o2
              obtain ⟨g6, c6, rfl⟩ := own_some6 o3 (by omega)
              go_wp2_with fail
              go_meet
              exact ⟨_, _, rfl, o3, B_wf⟩
          · go_simp
            have B_u0 : Below wq.heap.size wq (wq.alloc (.cells #[.int .i64 l1, .int .i64 l2, .int .i64 l3, .int .i64 l4, .int .i64 l5, .int .i64 l6] 62)).drew := (by (repeat (first | with_reducible exact Below.refl _ _ | with_reducible refine balloc ?_ _ | with_reducible refine bdrewN ?_ _ | with_reducible refine Below.drew ?_ | with_reducible refine bthen ?_ (by with_reducible assumption) | with_reducible refine Below.setCell ?_ (by first | (simp; done) | (simp; omega)) _)))
            have cf : (wq.alloc (.cells #[.int .i64 l1, .int .i64 l2, .int .i64 l3, .int .i64 l4, .int .i64 l5, .int .i64 l6] 62)).drew.cell? ⟨wq.heap.size, 0, none⟩ = some (.int .i64 l1) ∧ (wq.alloc (.cells #[.int .i64 l1, .int .i64 l2, .int .i64 l3, .int .i64 l4, .int .i64 l5, .int .i64 l6] 62)).drew.cell? ⟨wq.heap.size, 1, none⟩ = some (.int .i64 l2) ∧ (wq.alloc (.cells #[.int .i64 l1, .int .i64 l2, .int .i64 l3, .int .i64 l4, .int .i64 l5, .int .i64 l6] 62)).drew.cell? ⟨wq.heap.size, 2, none⟩ = some (.int .i64 l3) ∧ (wq.alloc (.cells #[.int .i64 l1, .int .i64 l2, .int .i64 l3, .int .i64 l4, .int .i64 l5, .int .i64 l6] 62)).drew.cell? ⟨wq.heap.size, 3, none⟩ = some (.int .i64 l4) ∧ (wq.alloc (.cells #[.int .i64 l1, .int .i64 l2, .int .i64 l3, .int .i64 l4, .int .i64 l5, .int .i64 l6] 62)).drew.cell? ⟨wq.heap.size, 4, none⟩ = some (.int .i64 l5) ∧ (wq.alloc (.cells #[.int .i64 l1, .int .i64 l2, .int .i64 l3, .int .i64 l4, .int .i64 l5, .int .i64 l6] 62)).drew.cell? ⟨wq.heap.size, 5, none⟩ = some (.int .i64 l6) := ⟨kdrew (kfresh rfl rfl), kdrew (kfresh rfl rfl), kdrew (kfresh rfl rfl), kdrew (kfresh rfl rfl), kdrew (kfresh rfl rfl), kdrew (kfresh rfl rfl)⟩
            have sz_u0 : (wq.alloc (.cells #[.int .i64 l1, .int .i64 l2, .int .i64 l3, .int .i64 l4, .int .i64 l5, .int .i64 l6] 62)).drew.heap.size = wq.heap.size + 1 := by simp
            refine hK.out _ _ B_u0 (fun hHeld => ?_)
            clear hHeld hK K
            try simp only [Act.put, List.getElem_toArray, List.getElem_cons_zero, List.getElem_cons_succ, List.setIfInBounds_toArray, List.set_cons_zero, List.set_cons_succ]
            obtain ⟨u0, hu0⟩ : ∃ X, X = (wq.alloc (.cells #[.int .i64 l1, .int .i64 l2, .int .i64 l3, .int .i64 l4, .int .i64 l5, .int .i64 l6] 62)).drew := ⟨_, rfl⟩
            rw [← hu0] at cf B_u0 sz_u0 ⊢
            clear hu0
            refine wpAnyH_ready (rs := [0]) (by kernel_rfl) (by simp) ?_
            refine AllReadyH.cons rfl (fun K hK => ?_) AllReadyH.nil
            go_simp
            have o0 : (u0.alloc (.cells #[] 62)).ownsRow wq.heap.size 62 6 (.slice (some ⟨wq.heap.size + 1, 0, none⟩) 0 0) 0 (ints []) := own_lit0 _ _ _ B_u0.size sz_u0.symm
            have B_u1 : Below wq.heap.size wq (u0.alloc (.cells #[] 62)) := B_u0.alloc B_u0.size _
            have cf1 : (u0.alloc (.cells #[] 62)).cell? ⟨wq.heap.size, 0, none⟩ = some (.int .i64 l1) ∧ (u0.alloc (.cells #[] 62)).cell? ⟨wq.heap.size, 1, none⟩ = some (.int .i64 l2) ∧ (u0.alloc (.cells #[] 62)).cell? ⟨wq.heap.size, 2, none⟩ = some (.int .i64 l3) ∧ (u0.alloc (.cells #[] 62)).cell? ⟨wq.heap.size, 3, none⟩ = some (.int .i64 l4) ∧ (u0.alloc (.cells #[] 62)).cell? ⟨wq.heap.size, 4, none⟩ = some (.int .i64 l5) ∧ (u0.alloc (.cells #[] 62)).cell? ⟨wq.heap.size, 5, none⟩ = some (.int .i64 l6) := ⟨kalloc _ cf.1, kalloc _ cf.2.1, kalloc _ cf.2.2.1, kalloc _ cf.2.2.2.1, kalloc _ cf.2.2.2.2.1, kalloc _ cf.2.2.2.2.2⟩
            refine hK.out _ _ B_u1 (fun hHeld => ?_)
            clear hHeld hK K
            try simp only [Act.put, List.getElem_toArray, List.getElem_cons_zero, List.getElem_cons_succ, List.setIfInBounds_toArray, List.set_cons_zero, List.set_cons_succ]
            obtain ⟨u1, hu1⟩ : ∃ X, X = (u0.alloc (.cells #[] 62)) := ⟨_, rfl⟩
            rw [← hu1] at o0 B_u1 cf1 ⊢
            clear hu1
            clear cf
            have cf := cf1
            clear cf1
            refine wpAnyH_ready (rs := [4]) (by kernel_rfl) (by simp) ?_
            refine AllReadyH.cons rfl (fun K hK => ?_) AllReadyH.nil
            refine step_append_own rfl _ _ 23 rfl wq.heap.size 62 i0 (.agg #[.int .i64 0, .int .i64 0, .int .i64 0, .int .i64 0, .int .i64 0, .int .i64 0]) 6 48 Try.underlying23 hi hz0 hz1 hz2 rfl (by decide) (.slice (some ⟨wq.heap.size + 1, 0, none⟩) 0 0) 0 (ints []) rfl o0 ⟨g, 0, none⟩ (k + 1) _ (ints (flat6 (xs.take (k + 1)))) rfl (by rw [ints_length, flat6_length, List.length_take]; congr 1 <;> omega) (row_take6 (fun j hj => hcX _ B_u1 j hj) (by omega) HN.out) (ints_one6 _) (by unfold maxLen; omega) (by omega) B_u1.size ?_
            intro v1 u3 o1 gr1
            have B_u3 : Below wq.heap.size wq u3 := Below.grown B_u1 gr1 B_u1.size (fun q e => (o0.lt q e).1)
            rw [show ints [] ++ ints (flat6 (xs.take (k + 1))) = ints (flat6 (xs.take (k + 1))) from rfl] at o1
            have c_u3 : u3.cell? ⟨wq.heap.size, 0, none⟩ = some (.int .i64 l1) ∧ u3.cell? ⟨wq.heap.size, 1, none⟩ = some (.int .i64 l2) ∧ u3.cell? ⟨wq.heap.size, 2, none⟩ = some (.int .i64 l3) ∧ u3.cell? ⟨wq.heap.size, 3, none⟩ = some (.int .i64 l4) ∧ u3.cell? ⟨wq.heap.size, 4, none⟩ = some (.int .i64 l5) ∧ u3.cell? ⟨wq.heap.size, 5, none⟩ = some (.int .i64 l6) := by
              have hb := gr1.block wq.heap.size (World.block_lt_of_cell? _ ⟨wq.heap.size, 0, none⟩ cf.1) (by intro e; first | (simp [Value.ownBlock] at e; done) | (simp [Value.ownBlock] at e; omega))
              exact ⟨(World.cell?_of_block (a := ⟨wq.heap.size, 0, none⟩) hb).trans cf.1, (World.cell?_of_block (a := ⟨wq.heap.size, 1, none⟩) hb).trans cf.2.1, (World.cell?_of_block (a := ⟨wq.heap.size, 2, none⟩) hb).trans cf.2.2.1, (World.cell?_of_block (a := ⟨wq.heap.size, 3, none⟩) hb).trans cf.2.2.2.1, (World.cell?_of_block (a := ⟨wq.heap.size, 4, none⟩) hb).trans cf.2.2.2.2.1, (World.cell?_of_block (a := ⟨wq.heap.size, 5, none⟩) hb).trans cf.2.2.2.2.2⟩
            clear gr1
            refine hK.out _ _ B_u3 (fun hHeld => ?_)
            clear hHeld hK K
            try simp only [Act.put, List.getElem_toArray, List.getElem_cons_zero, List.getElem_cons_succ, List.setIfInBounds_toArray, List.set_cons_zero, List.set_cons_succ]
            refine wpAnyH_ready (rs := [7]) (by kernel_rfl) (by simp) ?_
            refine AllReadyH.cons rfl (fun K hK => ?_) AllReadyH.nil
            refine step_append_own rfl _ _ 23 rfl wq.heap.size 62 i0 (.agg #[.int .i64 0, .int .i64 0, .int .i64 0, .int .i64 0, .int .i64 0, .int .i64 0]) 6 48 Try.underlying23 hi hz0 hz1 hz2 rfl (by decide) v1 (0 + (k + 1)) (ints (flat6 (xs.take (k + 1)))) rfl o1 ⟨wq.heap.size, 0, none⟩ 1 1 [.int .i64 l1, .int .i64 l2, .int .i64 l3, .int .i64 l4, .int .i64 l5, .int .i64 l6] rfl rfl (fun j u hj => ?nw) (mv_one _ _ _ _ _ _) (by unfold maxLen; omega) (by omega) B_u3.size ?_
            case nw => (match j, hj with
              | 0, hj => simp at hj; subst hj; exact c_u3.1
              | 1, hj => simp at hj; subst hj; exact c_u3.2.1
              | 2, hj => simp at hj; subst hj; exact c_u3.2.2.1
              | 3, hj => simp at hj; subst hj; exact c_u3.2.2.2.1
              | 4, hj => simp at hj; subst hj; exact c_u3.2.2.2.2.1
              | 5, hj => simp at hj; subst hj; exact c_u3.2.2.2.2.2
              | j + 6, hj => simp at hj)
            intro v2 wf o2 gr2
            have B_wf : Below wq.heap.size wq wf := Below.grown B_u3 gr2 B_u3.size (fun q e => (o1.lt q e).1)
            clear gr2
            refine hK.out _ _ B_wf (fun hHeld => ?_)
            clear hHeld hK K
            try simp only [Act.put, List.getElem_toArray, List.getElem_cons_zero, List.getElem_cons_succ, List.setIfInBounds_toArray, List.set_cons_zero, List.set_cons_succ]
            (refine wpAnyH_take (i := 8) (v := ?_) rfl (by kernel_rfl) (by kernel_rfl) (by kernel_rfl) (fun _ _ _ h => h) (Or.inl ⟨by rfl, ?_⟩) (by with_reducible assumption) ?_; rotate_left; (focus (intro wz hSw; (try dsimp only at hSw); go_simp; try with_reducible rfl)); try simp only [Act.put, List.getElem_toArray, List.getElem_cons_zero, List.getElem_cons_succ, List.setIfInBounds_toArray, List.set_cons_zero, List.set_cons_succ])
            refine wpAnyH_done (by kernel_rfl) ?_ _
            have o3 : wf.ownsRow wq.heap.size 62 6 v2 ((k + 1) + 1) (ints (flat6 ((xs.take (k + 1)) ++ [(l1, l2, l3, l4, l5, l6)]))) := by rw [flat6_append, ints_append, Nat.zero_add] at *; exact o2
            obtain ⟨g6, c6, rfl⟩ := own_some6 o3 (by omega)
            go_wp2_with fail
            go_meet
            exact ⟨_, _, rfl, o3, B_wf⟩
        case' rest => obtain ⟨g6, c6, rfl, o6, B6⟩ := hcut
        obtain ⟨w6, rfl⟩ : ∃ w6 : World, w6 = wc := ⟨_, rfl⟩
        have hc6 := hcX w6 B6
        by_cases hcp : cap = k + 1
        · have hn0 : xs.length ≤ (k + 1) := by have := HN.out; omega
          subst hcp
          go_wp2_with (at_builtin; refine wpList_append_own _ rfl _ _ 23 rfl wq.heap.size 62 i0 (.agg #[.int .i64 0, .int .i64 0, .int .i64 0, .int .i64 0, .int .i64 0, .int .i64 0]) 6 48 Try.underlying23 hi hz0 hz1 hz2 rfl (by decide) _ _ _ rfl o6 ⟨g, 0, none⟩ 0 0 (ints (flat6 (xs.drop (k + 1)))) rfl (by rw [ints_length, flat6_length, List.length_drop]; congr 1 <;> (have := HN.out; omega)) (by rw [List.drop_of_length_le hn0]; intro j u hj; simp [flat6, ints] at hj) (ints_one6 _) ?c3 ?c4 ?c5 ?_)
          case c3 => unfold maxLen; omega
          case c4 => omega
          case c5 => exact B6.size
          intro v8 w8 o8 gr8 _
          have B8 : Below wq.heap.size wq w8 := B6.grown gr8 B6.size (fun q e => (o6.lt q e).1)
          have HI := Lib.hid (put6_at (l := (l1, l2, l3, l4, l5, l6)) hs (k := (k + 1)) HD.out hlow)
          have HL : (insM xs (l1, l2, l3, l4, l5, l6)).length = (k + 1) + 1 + 0 := by rw [HI.out, List.length_append, List.length_cons, List.length_take, List.length_drop]; have := HN.out; omega
          have o9 : w8.ownsRow base 62 6 v8 (insM xs (l1, l2, l3, l4, l5, l6)).length (ints (flat6 (insM xs (l1, l2, l3, l4, l5, l6)))) := by
            rw [HL, HI.out]
            have e : flat6 ((xs.take (k + 1)) ++ (l1, l2, l3, l4, l5, l6) :: xs.drop (k + 1)) = flat6 ((xs.take (k + 1)) ++ [(l1, l2, l3, l4, l5, l6)]) ++ flat6 (xs.drop (k + 1)) := by simp [flat6]
            rw [e, ints_append]
            exact own_base o8 (by have := hbX.size; omega)
          obtain ⟨g9, c9, rfl⟩ := own_some6 o9 (by omega)
          clear o8 gr8
          go_wp2
          (refine bodyPost_ret (v := .slice (some ⟨g9, 0, none⟩) (insM xs (l1, l2, l3, l4, l5, l6)).length c9) (by simp [results, Try.results30, go_sem]) rfl ⟨g9, c9, rfl, o9, (hb1.trans (hbX.mono hb1.size)).trans (B8.mono (by have := hb1.size; have := hbX.size; omega))⟩)
        · go_wp2_with (at_builtin; refine wpList_append_own _ rfl _ _ 23 rfl wq.heap.size 62 i0 (.agg #[.int .i64 0, .int .i64 0, .int .i64 0, .int .i64 0, .int .i64 0, .int .i64 0]) 6 48 Try.underlying23 hi hz0 hz1 hz2 rfl (by decide) _ _ _ rfl o6 ⟨g, (k + 1) * 6, none⟩ (n - (k + 1)) (cap - (k + 1)) (ints (flat6 (xs.drop (k + 1)))) rfl (by rw [ints_length, flat6_length, List.length_drop]; congr 1 <;> (have := HN.out; omega)) (row_drop6 (k := (k + 1)) hc6 HN.out) (ints_one6 _) ?c3 ?c4 ?c5 ?_)
          case c3 => unfold maxLen; omega
          case c4 => omega
          case c5 => exact B6.size
          intro v8 w8 o8 gr8 _
          have B8 : Below wq.heap.size wq w8 := B6.grown gr8 B6.size (fun q e => (o6.lt q e).1)
          have HI := Lib.hid (put6_at (l := (l1, l2, l3, l4, l5, l6)) hs (k := (k + 1)) HD.out hlow)
          have HL : (insM xs (l1, l2, l3, l4, l5, l6)).length = (k + 1) + 1 + (n - (k + 1)) := by rw [HI.out, List.length_append, List.length_cons, List.length_take, List.length_drop]; have := HN.out; omega
          have o9 : w8.ownsRow base 62 6 v8 (insM xs (l1, l2, l3, l4, l5, l6)).length (ints (flat6 (insM xs (l1, l2, l3, l4, l5, l6)))) := by
            rw [HL, HI.out]
            have e : flat6 ((xs.take (k + 1)) ++ (l1, l2, l3, l4, l5, l6) :: xs.drop (k + 1)) = flat6 ((xs.take (k + 1)) ++ [(l1, l2, l3, l4, l5, l6)]) ++ flat6 (xs.drop (k + 1)) := by simp [flat6]
            rw [e, ints_append]
            exact own_base o8 (by have := hbX.size; omega)
          obtain ⟨g9, c9, rfl⟩ := own_some6 o9 (by omega)
          clear o8 gr8
          go_wp2
          (refine bodyPost_ret (v := .slice (some ⟨g9, 0, none⟩) (insM xs (l1, l2, l3, l4, l5, l6)).length c9) (by simp [results, Try.results30, go_sem]) rfl ⟨g9, c9, rfl, o9, (hb1.trans (hbX.mono hb1.size)).trans (B8.mono (by have := hb1.size; have := hbX.size; omega))⟩)
      · have hlt : lt6 (l1, l2, l3, l4, l5, l6) (x1, x2, x3, x4, x5, x6) := of_decide_eq_true HBO.out.symm
        have HD2 := Lib.hid (show ∀ z ∈ xs.drop k, lt6 (l1, l2, l3, l4, l5, l6) z from by rw [HDK.out]; intro z hz; rcases List.mem_cons.1 hz with rfl | hz; exact hlt; exact HD.out z hz)
        clear hlt
        go_wp2
        go_roundw
        case rel => exact ⟨k, by omega, by go_num, HD2.out, hbb⟩
        case measure => simp [intOf]

end Go.Proofs.Ytibfbdgenamlkaa
