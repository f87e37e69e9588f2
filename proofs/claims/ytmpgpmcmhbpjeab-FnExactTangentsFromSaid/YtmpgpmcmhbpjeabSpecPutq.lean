/-
  spec.l06Put: a line put into a list in order.
-/
import Derived.Test.YtmpgpmcmhbpjeabMgq0
import Derived.Deep.RegionHeld3
import Derived.Deep.DeepCutAuto

namespace Go.Proofs.Ytmpgpmcmhbpjeab
open Go.RowKit

theorem flat3_getD (xs : List T3) (j : Nat) (h : j < xs.length) : (flat3 xs).getD (j * 3) 0 = xs[j].1 ∧ (flat3 xs).getD (j * 3 + 1) 0 = xs[j].2.1 ∧ (flat3 xs).getD (j * 3 + 2) 0 = xs[j].2.2 := by
  induction xs generalizing j with
  | nil => simp at h
  | cons x xs ih =>
    cases j with
    | zero => simp [flat3]
    | succ j =>
      have := ih j (by simpa using h)
      have e : flat3 (x :: xs) = x.1 :: x.2.1 :: x.2.2 :: flat3 xs := rfl
      rw [e, Nat.succ_mul, show j * 3 + 3 + 2 = ((j * 3 + 2) + 1 + 1) + 1 by omega, show j * 3 + 3 + 1 = ((j * 3 + 1) + 1 + 1) + 1 by omega, show j * 3 + 3 = ((j * 3) + 1 + 1) + 1 by omega]
      simpa using this
theorem equalLine (w : World) (a b c a' b' c' : Int) : (Op.equalIn 10000 49 (.agg #[.int .i64 a, .int .i64 b, .int .i64 c]) (.agg #[.int .i64 a', .int .i64 b', .int .i64 c'])).run Try.prog w = .ok (a == a' && b == b' && c == c') w := by
  obtain ⟨i, hi, _⟩ := Option.map_eq_some_iff.1 infoInt
  exact equal_arr3 w (by kernel_rfl) Try.underlying2 hi (by kernel_rfl) a b c a' b' c'
theorem ints_one (ys : List Int) : ∀ u ∈ ints ys, u.oneCell' = true := fun u hu => by
  obtain ⟨y, _, rfl⟩ := List.mem_map.1 hu
  rfl
theorem flat3_take (xs : List T3) : ∀ k : Nat, flat3 (xs.take k) = (flat3 xs).take (k * 3) := by
  induction xs with
  | nil => intro k; simp [flat3]
  | cons x xs ih =>
    intro k
    cases k with
    | zero => simp [flat3]
    | succ k =>
      have e : flat3 (x :: xs) = x.1 :: x.2.1 :: x.2.2 :: flat3 xs := rfl
      have e' : flat3 (x :: xs.take k) = x.1 :: x.2.1 :: x.2.2 :: flat3 (xs.take k) := rfl
      rw [List.take_succ_cons, e', ih k, e, Nat.succ_mul]; rfl
theorem flat3_drop (xs : List T3) : ∀ k : Nat, flat3 (xs.drop k) = (flat3 xs).drop (k * 3) := by
  induction xs with
  | nil => intro k; simp [flat3]
  | cons x xs ih =>
    intro k
    cases k with
    | zero => simp
    | succ k =>
      have e : flat3 (x :: xs) = x.1 :: x.2.1 :: x.2.2 :: flat3 xs := rfl
      rw [List.drop_succ_cons, ih k, e, Nat.succ_mul]; rfl
theorem addr_add (g o j : Nat) : ((⟨g, o, none⟩ : Addr).add j) = ⟨g, o + j, none⟩ := by
  simp only [Addr.add]
  split
  · rename_i h; subst h; rfl
  · rfl
theorem row_take {W : World} {xs : List T3} {g n k : Nat} (hc : ∀ j : Nat, j < n * 3 → W.cell? ⟨g, j, none⟩ = some (.int .i64 ((flat3 xs).getD j 0))) (hk : k ≤ n) (hn : n = xs.length) :
    ∀ j u, (ints (flat3 (xs.take k)))[j]? = some u → W.cell? ((⟨g, 0, none⟩ : Addr).add j) = some u := by
  intro j u hj
  rw [flat3_take, ints, List.getElem?_map, List.getElem?_take] at hj
  split at hj
  · have hl : j < (flat3 xs).length := by rw [flat3_length]; omega
    rw [List.getElem?_eq_getElem hl] at hj
    simp only [Option.map_some, Option.some.injEq] at hj
    subst hj
    have := hc j (by omega)
    rw [List.getD_eq_getElem?_getD, List.getElem?_eq_getElem hl] at this
    rw [addr_add]; simpa using this
  · cases hj
theorem row_drop {W : World} {xs : List T3} {g n k : Nat} (hc : ∀ j : Nat, j < n * 3 → W.cell? ⟨g, j, none⟩ = some (.int .i64 ((flat3 xs).getD j 0))) (hn : n = xs.length) :
    ∀ j u, (ints (flat3 (xs.drop k)))[j]? = some u → W.cell? ((⟨g, k * 3, none⟩ : Addr).add j) = some u := by
  intro j u hj
  rw [flat3_drop, ints, List.getElem?_map, List.getElem?_drop] at hj
  by_cases hl : k * 3 + j < (flat3 xs).length
  · rw [List.getElem?_eq_getElem hl] at hj
    simp only [Option.map_some, Option.some.injEq] at hj
    subst hj
    have := hc (k * 3 + j) (by rw [flat3_length] at hl; omega)
    rw [List.getD_eq_getElem?_getD, List.getElem?_eq_getElem hl] at this
    rw [addr_add]; simpa using this
  · rw [List.getElem?_eq_none (by omega)] at hj
    cases hj
theorem own_some {w : World} {base : Nat} {e : TypeId} {k n : Nat} {v : Value} {xs : List Value} (h : w.ownsRow base e k v n xs) (hn : 0 < n) : ∃ g cap, v = .slice (some ⟨g, 0, none⟩) n cap := by
  rcases own_ways h with ⟨rfl, _⟩ | ⟨_, g, cap, rfl, _⟩
  · omega
  · exact ⟨_, _, rfl⟩
theorem drop_at {xs : List T3} {k : Nat} (h : k < xs.length) : xs.drop k = xs[k] :: xs.drop (k + 1) := List.drop_eq_getElem_cons h

set_option linter.unusedSimpArgs false in
set_option maxRecDepth 20000 in
set_option maxHeartbeats 4000000 in
theorem put_any (xs : List T3) (l1 l2 l3 : Int) (g n cap base : Nat) (w : World) (hn : n = xs.length) (hlen : xs.length ≤ 1000) (hs : xs.Pairwise lt3) (hbase : base ≤ w.heap.size)
    (hown : w.ownsRow base 49 3 (.slice (some ⟨g, 0, none⟩) n cap) n (ints (flat3 xs))) :
    Calls Try.prog 24 #[.slice (some ⟨g, 0, none⟩) n cap, .agg #[.int .i64 l1, .int .i64 l2, .int .i64 l3]] w fun e w' => ∃ g' cap', e = .returned (.slice (some ⟨g', 0, none⟩) (insL xs (l1, l2, l3)).length cap') ∧
      w'.ownsRow base 49 3 (.slice (some ⟨g', 0, none⟩) (insL xs (l1, l2, l3)).length cap') (insL xs (l1, l2, l3)).length (ints (flat3 (insL xs (l1, l2, l3)))) ∧ Below w.heap.size w w' := by
  have hgl : g < w.heap.size := (hown.lt g rfl).2
  have HN := Lib.hid hn
  clear hn
  have hn31 : n ≤ 1000 := by rw [HN.out]; exact hlen
  have heq := equalLine
  obtain ⟨i0, hi, hz0, hz1, hz2⟩ := info_parts infoLn
  go_enter Try.func24, Try.ntmps24
  go_wp2_with fail
  have q0 : (w.alloc (.cells #[.int .i64 l1, .int .i64 l2, .int .i64 l3] 49)).cell? ⟨w.heap.size, 0, none⟩ = some (.int .i64 l1) := kfresh rfl rfl
  have q1 : (w.alloc (.cells #[.int .i64 l1, .int .i64 l2, .int .i64 l3] 49)).cell? ⟨w.heap.size, 1, none⟩ = some (.int .i64 l2) := kfresh rfl rfl
  have q2 : (w.alloc (.cells #[.int .i64 l1, .int .i64 l2, .int .i64 l3] 49)).cell? ⟨w.heap.size, 2, none⟩ = some (.int .i64 l3) := kfresh rfl rfl
  have hown1 := hown.alloc (.cells #[.int .i64 l1, .int .i64 l2, .int .i64 l3] 49)
  have hb1 : Below w.heap.size w (w.alloc (.cells #[.int .i64 l1, .int .i64 l2, .int .i64 l3] 49)) := (Below.refl _ _).alloc (Nat.le_refl _) _
  have hsz1 : (w.alloc (.cells #[.int .i64 l1, .int .i64 l2, .int .i64 l3] 49)).heap.size = w.heap.size + 1 := by simp
  obtain ⟨wn, hwn⟩ : ∃ wn, wn = (w.alloc (.cells #[.int .i64 l1, .int .i64 l2, .int .i64 l3] 49)) := ⟨_, rfl⟩
  rw [← hwn] at q0 q1 q2 hown1 hb1 hsz1 ⊢
  clear hwn hown
  go_loopw [5] (fun i wr => ∃ k : Nat, k ≤ n ∧ i = .int .i64 k ∧ (∀ z ∈ xs.drop k, lt3 (l1, l2, l3) z) ∧ Below wn.heap.size wn wr) (fun i _ => (intOf i).toNat)
  case atStart => exact ⟨n, Nat.le_refl _, rfl, by rw [HN.out]; simp, Below.refl _ _⟩
  case round =>
    obtain ⟨k, hk, rfl, hdr, hbel⟩ := hrel
    have HD := Lib.hid hdr
    clear hdr
    cases k with
    | zero =>
      go_upto_region 2 with fail
      (refine wp_region_held_drew (S := (fun W => Below wn.heap.size wn W)) (by kernel_rfl) (by exact Below.drew hbel) (fun hHeld => ?_))
      (refine wpAnyH_take (i := 0) (v := ?_) rfl (by kernel_rfl) (by kernel_rfl) (by kernel_rfl) (fun _ _ _ h => h) (Or.inl ⟨by rfl, ?_⟩) (by with_reducible assumption) ?_; rotate_left; (focus (intro wz hSw; (try dsimp only at hSw); go_simp; try with_reducible rfl)); try simp only [Act.put, List.getElem_toArray, List.getElem_cons_zero, List.getElem_cons_succ, List.setIfInBounds_toArray, List.set_cons_zero, List.set_cons_succ])
      (refine wpAnyH_take (i := 1) (v := ?_) rfl (by kernel_rfl) (by kernel_rfl) (by kernel_rfl) (fun _ _ _ h => h) (Or.inl ⟨by rfl, ?_⟩) (by with_reducible assumption) ?_; rotate_left; (focus (intro wz hSw; (try dsimp only at hSw); go_simp; try with_reducible rfl)); try simp only [Act.put, List.getElem_toArray, List.getElem_cons_zero, List.getElem_cons_succ, List.setIfInBounds_toArray, List.set_cons_zero, List.set_cons_succ])
      (refine wpAnyH_take (i := 2) (v := ?_) rfl (by kernel_rfl) (by kernel_rfl) (by kernel_rfl) (fun _ _ _ h => h) (Or.inl ⟨by rfl, ?_⟩) (by with_reducible assumption) ?_; rotate_left; (focus (intro wz hSw; (try dsimp only at hSw); go_simp; try with_reducible rfl)); try simp only [Act.put, List.getElem_toArray, List.getElem_cons_zero, List.getElem_cons_succ, List.setIfInBounds_toArray, List.set_cons_zero, List.set_cons_succ])
      (refine wpAnyH_take (i := 3) (v := undef) rfl (by kernel_rfl) (by kernel_rfl) (by kernel_rfl) (fun _ _ _ h => h) (Or.inr ⟨by rfl, rfl⟩) (by with_reducible assumption) ?_; try simp only [Act.put, List.getElem_toArray, List.getElem_cons_zero, List.getElem_cons_succ, List.setIfInBounds_toArray, List.set_cons_zero, List.set_cons_succ])
      (refine wpAnyH_take (i := 4) (v := undef) rfl (by kernel_rfl) (by kernel_rfl) (by kernel_rfl) (fun _ _ _ h => h) (Or.inr ⟨by rfl, rfl⟩) (by with_reducible assumption) ?_; try simp only [Act.put, List.getElem_toArray, List.getElem_cons_zero, List.getElem_cons_succ, List.setIfInBounds_toArray, List.set_cons_zero, List.set_cons_succ])
      (refine wpAnyH_take (i := 5) (v := undef) rfl (by kernel_rfl) (by kernel_rfl) (by kernel_rfl) (fun _ _ _ h => h) (Or.inr ⟨by rfl, rfl⟩) (by with_reducible assumption) ?_; try simp only [Act.put, List.getElem_toArray, List.getElem_cons_zero, List.getElem_cons_succ, List.setIfInBounds_toArray, List.set_cons_zero, List.set_cons_succ])
      (refine wpAnyH_take (i := 6) (v := undef) rfl (by kernel_rfl) (by kernel_rfl) (by kernel_rfl) (fun _ _ _ h => h) (Or.inr ⟨by rfl, rfl⟩) (by with_reducible assumption) ?_; try simp only [Act.put, List.getElem_toArray, List.getElem_cons_zero, List.getElem_cons_succ, List.setIfInBounds_toArray, List.set_cons_zero, List.set_cons_succ])
      (refine wpAnyH_take (i := 7) (v := undef) rfl (by kernel_rfl) (by kernel_rfl) (by kernel_rfl) (fun _ _ _ h => h) (Or.inr ⟨by rfl, rfl⟩) (by with_reducible assumption) ?_; try simp only [Act.put, List.getElem_toArray, List.getElem_cons_zero, List.getElem_cons_succ, List.setIfInBounds_toArray, List.set_cons_zero, List.set_cons_succ])
      (refine wpAnyH_take (i := 8) (v := undef) rfl (by kernel_rfl) (by kernel_rfl) (by kernel_rfl) (fun _ _ _ h => h) (Or.inr ⟨by rfl, rfl⟩) (by with_reducible assumption) ?_; try simp only [Act.put, List.getElem_toArray, List.getElem_cons_zero, List.getElem_cons_succ, List.setIfInBounds_toArray, List.set_cons_zero, List.set_cons_succ])
      (refine wpAnyH_take (i := 9) (v := undef) rfl (by kernel_rfl) (by kernel_rfl) (by kernel_rfl) (fun _ _ _ h => h) (Or.inr ⟨by rfl, rfl⟩) (by with_reducible assumption) ?_; try simp only [Act.put, List.getElem_toArray, List.getElem_cons_zero, List.getElem_cons_succ, List.setIfInBounds_toArray, List.set_cons_zero, List.set_cons_succ])
      (refine wpAnyH_take (i := 10) (v := ?_) rfl (by kernel_rfl) (by kernel_rfl) (by kernel_rfl) (fun _ _ _ h => h) (Or.inl ⟨by rfl, ?_⟩) (by with_reducible assumption) ?_; rotate_left; (focus (intro wz hSw; (try dsimp only at hSw); go_simp; try with_reducible rfl)); try simp only [Act.put, List.getElem_toArray, List.getElem_cons_zero, List.getElem_cons_succ, List.setIfInBounds_toArray, List.set_cons_zero, List.set_cons_succ])
      refine wpAnyH_done (by kernel_rfl) ?_ _
      go_upto_region 4 with fail
      (refine wp_region_held_drew (S := (fun W => Below wn.heap.size wn W)) (by kernel_rfl) (by exact Below.drew (Below.drew hbel)) (fun hHeld => ?_))
      (refine wpAnyH_take (i := 0) (v := ?_) rfl (by kernel_rfl) (by kernel_rfl) (by kernel_rfl) (fun _ _ _ h => h) (Or.inl ⟨by rfl, ?_⟩) (by with_reducible assumption) ?_; rotate_left; (focus (intro wz hSw; (try dsimp only at hSw); go_simp; try with_reducible rfl)); try simp only [Act.put, List.getElem_toArray, List.getElem_cons_zero, List.getElem_cons_succ, List.setIfInBounds_toArray, List.set_cons_zero, List.set_cons_succ])
      (refine wpAnyH_take (i := 1) (v := ?_) rfl (by kernel_rfl) (by kernel_rfl) (by kernel_rfl) (fun _ _ _ h => h) (Or.inl ⟨by rfl, ?_⟩) (by with_reducible assumption) ?_; rotate_left; (focus (intro wz hSw; (try dsimp only at hSw); go_simp; try with_reducible rfl)); try simp only [Act.put, List.getElem_toArray, List.getElem_cons_zero, List.getElem_cons_succ, List.setIfInBounds_toArray, List.set_cons_zero, List.set_cons_succ])
      (refine wpAnyH_take (i := 2) (v := ?_) rfl (by kernel_rfl) (by kernel_rfl) (by kernel_rfl) (fun _ _ _ h => h) (Or.inl ⟨by rfl, ?_⟩) (by with_reducible assumption) ?_; rotate_left; (focus (intro wz hSw; (try dsimp only at hSw); go_simp; try with_reducible rfl)); try simp only [Act.put, List.getElem_toArray, List.getElem_cons_zero, List.getElem_cons_succ, List.setIfInBounds_toArray, List.set_cons_zero, List.set_cons_succ])
      (refine wpAnyH_take (i := 3) (v := undef) rfl (by kernel_rfl) (by kernel_rfl) (by kernel_rfl) (fun _ _ _ h => h) (Or.inr ⟨by rfl, rfl⟩) (by with_reducible assumption) ?_; try simp only [Act.put, List.getElem_toArray, List.getElem_cons_zero, List.getElem_cons_succ, List.setIfInBounds_toArray, List.set_cons_zero, List.set_cons_succ])
      (refine wpAnyH_take (i := 4) (v := undef) rfl (by kernel_rfl) (by kernel_rfl) (by kernel_rfl) (fun _ _ _ h => h) (Or.inr ⟨by rfl, rfl⟩) (by with_reducible assumption) ?_; try simp only [Act.put, List.getElem_toArray, List.getElem_cons_zero, List.getElem_cons_succ, List.setIfInBounds_toArray, List.set_cons_zero, List.set_cons_succ])
      (refine wpAnyH_take (i := 5) (v := undef) rfl (by kernel_rfl) (by kernel_rfl) (by kernel_rfl) (fun _ _ _ h => h) (Or.inr ⟨by rfl, rfl⟩) (by with_reducible assumption) ?_; try simp only [Act.put, List.getElem_toArray, List.getElem_cons_zero, List.getElem_cons_succ, List.setIfInBounds_toArray, List.set_cons_zero, List.set_cons_succ])
      (refine wpAnyH_take (i := 6) (v := undef) rfl (by kernel_rfl) (by kernel_rfl) (by kernel_rfl) (fun _ _ _ h => h) (Or.inr ⟨by rfl, rfl⟩) (by with_reducible assumption) ?_; try simp only [Act.put, List.getElem_toArray, List.getElem_cons_zero, List.getElem_cons_succ, List.setIfInBounds_toArray, List.set_cons_zero, List.set_cons_succ])
      (refine wpAnyH_take (i := 7) (v := undef) rfl (by kernel_rfl) (by kernel_rfl) (by kernel_rfl) (fun _ _ _ h => h) (Or.inr ⟨by rfl, rfl⟩) (by with_reducible assumption) ?_; try simp only [Act.put, List.getElem_toArray, List.getElem_cons_zero, List.getElem_cons_succ, List.setIfInBounds_toArray, List.set_cons_zero, List.set_cons_succ])
      (refine wpAnyH_take (i := 8) (v := undef) rfl (by kernel_rfl) (by kernel_rfl) (by kernel_rfl) (fun _ _ _ h => h) (Or.inr ⟨by rfl, rfl⟩) (by with_reducible assumption) ?_; try simp only [Act.put, List.getElem_toArray, List.getElem_cons_zero, List.getElem_cons_succ, List.setIfInBounds_toArray, List.set_cons_zero, List.set_cons_succ])
      (refine wpAnyH_take (i := 9) (v := undef) rfl (by kernel_rfl) (by kernel_rfl) (by kernel_rfl) (fun _ _ _ h => h) (Or.inr ⟨by rfl, rfl⟩) (by with_reducible assumption) ?_; try simp only [Act.put, List.getElem_toArray, List.getElem_cons_zero, List.getElem_cons_succ, List.setIfInBounds_toArray, List.set_cons_zero, List.set_cons_succ])
      (refine wpAnyH_take (i := 10) (v := ?_) rfl (by kernel_rfl) (by kernel_rfl) (by kernel_rfl) (fun _ _ _ h => h) (Or.inl ⟨by rfl, ?_⟩) (by with_reducible assumption) ?_; rotate_left; (focus (intro wz hSw; (try dsimp only at hSw); go_simp; try with_reducible rfl)); try simp only [Act.put, List.getElem_toArray, List.getElem_cons_zero, List.getElem_cons_succ, List.setIfInBounds_toArray, List.set_cons_zero, List.set_cons_succ])
      refine wpAnyH_done (by kernel_rfl) ?_ _
      go_upto_region 6 with fail
      have hbX : Below wn.heap.size wn wr.drew.drew := Below.drew (Below.drew hbel)
      obtain ⟨wq, hwq⟩ : ∃ X, X = wr.drew.drew := ⟨_, rfl⟩
      rw [← hwq] at hbX ⊢
      clear hwq
      have hownX := own_call hown1 hbX
      have hcap : n ≤ cap := by
        rcases hownX.2 with ⟨e, _⟩ | ⟨g', cap', cur, e, _, _, hle, _⟩
        · cases e
        · cases e; first | exact hle | omega
      have hcX : ∀ W : World, Below wq.heap.size wq W → ∀ j : Nat, j < n * 3 → W.cell? ⟨g, j, none⟩ = some (.int .i64 ((flat3 xs).getD j 0)) := fun W h j hj => own_cell (own_call hownX h) hj
      have kk0 := (cell_old hbX (by omega) 0).trans q0
      have kk1 := (cell_old hbX (by omega) 1).trans q1
      have kk2 := (cell_old hbX (by omega) 2).trans q2
      have bb0 : ∀ W : World, Below wq.heap.size wq W → W.cell? ⟨w.heap.size, 0, none⟩ = some (.int .i64 l1) := fun W h => bholds kk0 h
      have bb1 : ∀ W : World, Below wq.heap.size wq W → W.cell? ⟨w.heap.size, 1, none⟩ = some (.int .i64 l2) := fun W h => bholds kk1 h
      have bb2 : ∀ W : World, Below wq.heap.size wq W → W.cell? ⟨w.heap.size, 2, none⟩ = some (.int .i64 l3) := fun W h => bholds kk2 h
      go_cut [6] (fun s6 wx => ∃ g6 c6 : Nat, s6 = .slice (some ⟨g6, 0, none⟩) (0 + 1) c6 ∧ wx.ownsRow wq.heap.size 49 3 s6 (0 + 1) (ints (flat3 ((xs.take 0) ++ [(l1, l2, l3)]))) ∧ Below wq.heap.size wq wx)
      case first =>
        (refine wp_region_held_drew (S := (fun W => Below wq.heap.size wq W)) (by kernel_rfl) (by exact Below.drew (Below.refl _ _)) (fun hHeld => ?_))
        (refine wpAnyH_take (i := 1) (v := ?_) rfl (by kernel_rfl) (by kernel_rfl) (by kernel_rfl) (fun _ _ _ h => h) (Or.inl ⟨by rfl, ?_⟩) (by with_reducible assumption) ?_; rotate_left; (focus (intro wz hSw; (try dsimp only at hSw); go_simp; try with_reducible rfl)); try simp only [Act.put, List.getElem_toArray, List.getElem_cons_zero, List.getElem_cons_succ, List.setIfInBounds_toArray, List.set_cons_zero, List.set_cons_succ])
        (refine wpAnyH_take (i := 2) (v := ?_) rfl (by kernel_rfl) (by kernel_rfl) (by kernel_rfl) (fun _ _ _ h => h) (Or.inl ⟨by rfl, ?_⟩) (by with_reducible assumption) ?_; rotate_left; (focus (intro wz hSw; (try dsimp only at hSw); go_simp; try with_reducible rfl)); try simp only [Act.put, List.getElem_toArray, List.getElem_cons_zero, List.getElem_cons_succ, List.setIfInBounds_toArray, List.set_cons_zero, List.set_cons_succ])
        (refine wpAnyH_take (i := 3) (v := ?_) rfl (by kernel_rfl) (by kernel_rfl) (by kernel_rfl) (fun _ _ _ h => h) (Or.inl ⟨by rfl, ?_⟩) (by with_reducible assumption) ?_; rotate_left; (focus (intro wz hSw; (try dsimp only at hSw); go_simp; try with_reducible rfl)); try simp only [Act.put, List.getElem_toArray, List.getElem_cons_zero, List.getElem_cons_succ, List.setIfInBounds_toArray, List.set_cons_zero, List.set_cons_succ])
        (refine wpAnyH_take (i := 5) (v := ?_) rfl (by kernel_rfl) (by kernel_rfl) (by kernel_rfl) (fun _ _ _ h => h) (Or.inl ⟨by rfl, ?_⟩) (by with_reducible assumption) ?_; rotate_left; (focus (intro wz hSw; (try dsimp only at hSw); go_simp; try with_reducible rfl)); try simp only [Act.put, List.getElem_toArray, List.getElem_cons_zero, List.getElem_cons_succ, List.setIfInBounds_toArray, List.set_cons_zero, List.set_cons_succ])
        refine wpAnyH_ready (rs := [0, 6]) (by kernel_rfl) (by simp) ?_
        refine AllReadyH.cons rfl (fun K hK => ?_) (AllReadyH.cons rfl (fun K hK => ?_) AllReadyH.nil)
        · go_simp
          have o0 : (wq.alloc (.cells #[] 49)).drew.ownsRow wq.heap.size 49 3 (.slice (some ⟨wq.heap.size, 0, none⟩) 0 0) 0 (ints []) := own_drew (own_lit0 wq _ _ (Nat.le_refl _) rfl)
          have B_u0 : Below wq.heap.size wq (wq.alloc (.cells #[] 49)).drew := (by (repeat (first | with_reducible exact Below.refl _ _ | with_reducible refine balloc ?_ _ | with_reducible refine bdrewN ?_ _ | with_reducible refine Below.drew ?_ | with_reducible refine bthen ?_ (by with_reducible assumption) | with_reducible refine Below.setCell ?_ (by first | (simp; done) | (simp; omega)) _)))
          have sz_u0 : (wq.alloc (.cells #[] 49)).drew.heap.size = wq.heap.size + 1 := by simp
          refine hK.out _ _ B_u0 (fun hHeld => ?_)
          clear hHeld hK K
          try simp only [Act.put, List.getElem_toArray, List.getElem_cons_zero, List.getElem_cons_succ, List.setIfInBounds_toArray, List.set_cons_zero, List.set_cons_succ]
          obtain ⟨u0, hu0⟩ : ∃ X, X = (wq.alloc (.cells #[] 49)).drew := ⟨_, rfl⟩
          rw [← hu0] at o0 B_u0 sz_u0 ⊢
          clear hu0
          refine wpAnyH_ready (rs := [4, 6]) (by kernel_rfl) (by simp) ?_
          refine AllReadyH.cons rfl (fun K hK => ?_) (AllReadyH.cons rfl (fun K hK => ?_) AllReadyH.nil)
          · refine step_append_own rfl _ _ 25 rfl wq.heap.size 49 i0 (.agg #[.int .i64 0, .int .i64 0, .int .i64 0]) 3 24 Try.underlying25 hi hz0 hz1 hz2 rfl (by decide) (.slice (some ⟨wq.heap.size, 0, none⟩) 0 0) 0 (ints []) rfl o0 ⟨g, 0, none⟩ 0 _ (ints (flat3 (xs.take 0))) rfl (by rw [ints_length, flat3_length, List.length_take]; congr 1 <;> omega) (row_take (fun j hj => hcX _ B_u0 j hj) (by omega) HN.out) (ints_one _) (by unfold maxLen; omega) (by omega) B_u0.size ?_
            intro v1 u1 o1 gr1
            have B_u1 : Below wq.heap.size wq u1 := Below.grown B_u0 gr1 B_u0.size (fun q e => (o0.lt q e).1)
            rw [show ints [] ++ ints (flat3 (xs.take 0)) = ints (flat3 (xs.take 0)) from rfl] at o1
            clear gr1
            refine hK.out _ _ B_u1 (fun hHeld => ?_)
            clear hHeld hK K
            try simp only [Act.put, List.getElem_toArray, List.getElem_cons_zero, List.getElem_cons_succ, List.setIfInBounds_toArray, List.set_cons_zero, List.set_cons_succ]
            refine wpAnyH_ready (rs := [6]) (by kernel_rfl) (by simp) ?_
            refine AllReadyH.cons rfl (fun K hK => ?_) AllReadyH.nil
            go_simp
            have B_u2 : Below wq.heap.size wq (u1.alloc (.cells #[.int .i64 l1, .int .i64 l2, .int .i64 l3] 49)) := B_u1.alloc B_u1.size _
            have cf : (u1.alloc (.cells #[.int .i64 l1, .int .i64 l2, .int .i64 l3] 49)).cell? ⟨u1.heap.size, 0, none⟩ = some (.int .i64 l1) ∧ (u1.alloc (.cells #[.int .i64 l1, .int .i64 l2, .int .i64 l3] 49)).cell? ⟨u1.heap.size, 1, none⟩ = some (.int .i64 l2) ∧ (u1.alloc (.cells #[.int .i64 l1, .int .i64 l2, .int .i64 l3] 49)).cell? ⟨u1.heap.size, 2, none⟩ = some (.int .i64 l3) := ⟨kfresh rfl rfl, kfresh rfl rfl, kfresh rfl rfl⟩
            have sz_u2 : (u1.alloc (.cells #[.int .i64 l1, .int .i64 l2, .int .i64 l3] 49)).heap.size = u1.heap.size + 1 := by simp
            have o1' := o1.alloc (.cells #[.int .i64 l1, .int .i64 l2, .int .i64 l3] 49)
            refine hK.out _ _ B_u2 (fun hHeld => ?_)
            clear hHeld hK K
            try simp only [Act.put, List.getElem_toArray, List.getElem_cons_zero, List.getElem_cons_succ, List.setIfInBounds_toArray, List.set_cons_zero, List.set_cons_succ]
            obtain ⟨u2, hu2⟩ : ∃ X, X = (u1.alloc (.cells #[.int .i64 l1, .int .i64 l2, .int .i64 l3] 49)) := ⟨_, rfl⟩
            rw [← hu2] at cf B_u2 o1' ⊢
            clear hu2
            refine wpAnyH_ready (rs := [7]) (by kernel_rfl) (by simp) ?_
            refine AllReadyH.cons rfl (fun K hK => ?_) AllReadyH.nil
            refine step_append_own rfl _ _ 25 rfl wq.heap.size 49 i0 (.agg #[.int .i64 0, .int .i64 0, .int .i64 0]) 3 24 Try.underlying25 hi hz0 hz1 hz2 rfl (by decide) v1 (0 + 0) (ints (flat3 (xs.take 0))) rfl o1' ⟨u1.heap.size, 0, none⟩ 1 1 [.int .i64 l1, .int .i64 l2, .int .i64 l3] rfl rfl (fun j u hj => ?nw) (ln_one _ _ _) (by unfold maxLen; omega) (by omega) B_u2.size ?_
            case nw => (match j, hj with
              | 0, hj => simp at hj; subst hj; exact cf.1
              | 1, hj => simp at hj; subst hj; exact cf.2.1
              | 2, hj => simp at hj; subst hj; exact cf.2.2
              | j + 3, hj => simp at hj)
            intro v2 wf o2 gr2
            have B_wf : Below wq.heap.size wq wf := Below.grown B_u2 gr2 B_u2.size (fun q e => (o1'.lt q e).1)
            clear gr2
            refine hK.out _ _ B_wf (fun hHeld => ?_)
            clear hHeld hK K
            try simp only [Act.put, List.getElem_toArray, List.getElem_cons_zero, List.getElem_cons_succ, List.setIfInBounds_toArray, List.set_cons_zero, List.set_cons_succ]
            (refine wpAnyH_take (i := 8) (v := ?_) rfl (by kernel_rfl) (by kernel_rfl) (by kernel_rfl) (fun _ _ _ h => h) (Or.inl ⟨by rfl, ?_⟩) (by with_reducible assumption) ?_; rotate_left; (focus (intro wz hSw; (try dsimp only at hSw); go_simp; try with_reducible rfl)); try simp only [Act.put, List.getElem_toArray, List.getElem_cons_zero, List.getElem_cons_succ, List.setIfInBounds_toArray, List.set_cons_zero, List.set_cons_succ])
            refine wpAnyH_done (by kernel_rfl) ?_ _
            have o3 : wf.ownsRow wq.heap.size 49 3 v2 (0 + 1) (ints (flat3 ((xs.take 0) ++ [(l1, l2, l3)]))) := by rw [flat3_append, ints_append, Nat.zero_add] at *; exact o2
            obtain ⟨g6, c6, rfl⟩ := own_some o3 (by omega)
            go_wp2_with fail
            go_meet
            exact ⟨_, _, rfl, o3, B_wf⟩
          · go_simp
            have B_u2 : Below wq.heap.size wq (u0.alloc (.cells #[.int .i64 l1, .int .i64 l2, .int .i64 l3] 49)) := B_u0.alloc B_u0.size _
            have sz_u2 : (u0.alloc (.cells #[.int .i64 l1, .int .i64 l2, .int .i64 l3] 49)).heap.size = u0.heap.size + 1 := by simp
            have cf : (u0.alloc (.cells #[.int .i64 l1, .int .i64 l2, .int .i64 l3] 49)).cell? ⟨wq.heap.size + 1, 0, none⟩ = some (.int .i64 l1) ∧ (u0.alloc (.cells #[.int .i64 l1, .int .i64 l2, .int .i64 l3] 49)).cell? ⟨wq.heap.size + 1, 1, none⟩ = some (.int .i64 l2) ∧ (u0.alloc (.cells #[.int .i64 l1, .int .i64 l2, .int .i64 l3] 49)).cell? ⟨wq.heap.size + 1, 2, none⟩ = some (.int .i64 l3) := ⟨kfresh sz_u0.symm rfl, kfresh sz_u0.symm rfl, kfresh sz_u0.symm rfl⟩
            have o0' := o0.alloc (.cells #[.int .i64 l1, .int .i64 l2, .int .i64 l3] 49)
            refine hK.out _ _ B_u2 (fun hHeld => ?_)
            clear hHeld hK K
            try simp only [Act.put, List.getElem_toArray, List.getElem_cons_zero, List.getElem_cons_succ, List.setIfInBounds_toArray, List.set_cons_zero, List.set_cons_succ]
            obtain ⟨u2, hu2⟩ : ∃ X, X = (u0.alloc (.cells #[.int .i64 l1, .int .i64 l2, .int .i64 l3] 49)) := ⟨_, rfl⟩
            rw [← hu2] at cf B_u2 o0' ⊢
            clear hu2
            refine wpAnyH_ready (rs := [4]) (by kernel_rfl) (by simp) ?_
            refine AllReadyH.cons rfl (fun K hK => ?_) AllReadyH.nil
            refine step_append_own rfl _ _ 25 rfl wq.heap.size 49 i0 (.agg #[.int .i64 0, .int .i64 0, .int .i64 0]) 3 24 Try.underlying25 hi hz0 hz1 hz2 rfl (by decide) (.slice (some ⟨wq.heap.size, 0, none⟩) 0 0) 0 (ints []) rfl o0' ⟨g, 0, none⟩ 0 _ (ints (flat3 (xs.take 0))) rfl (by rw [ints_length, flat3_length, List.length_take]; congr 1 <;> omega) (row_take (fun j hj => hcX _ B_u2 j hj) (by omega) HN.out) (ints_one _) (by unfold maxLen; omega) (by omega) B_u2.size ?_
            intro v1 u3 o1 gr1
            have B_u3 : Below wq.heap.size wq u3 := Below.grown B_u2 gr1 B_u2.size (fun q e => (o0'.lt q e).1)
            rw [show ints [] ++ ints (flat3 (xs.take 0)) = ints (flat3 (xs.take 0)) from rfl] at o1
            have c_u3 : u3.cell? ⟨(wq.heap.size + 1), 0, none⟩ = some (.int .i64 l1) ∧ u3.cell? ⟨(wq.heap.size + 1), 1, none⟩ = some (.int .i64 l2) ∧ u3.cell? ⟨(wq.heap.size + 1), 2, none⟩ = some (.int .i64 l3) := by
              have hb := gr1.block (wq.heap.size + 1) (World.block_lt_of_cell? _ ⟨(wq.heap.size + 1), 0, none⟩ cf.1) (by intro e; first | (simp [Value.ownBlock] at e; done) | (simp [Value.ownBlock] at e; omega))
              exact ⟨(World.cell?_of_block (a := ⟨(wq.heap.size + 1), 0, none⟩) hb).trans cf.1, (World.cell?_of_block (a := ⟨(wq.heap.size + 1), 1, none⟩) hb).trans cf.2.1, (World.cell?_of_block (a := ⟨(wq.heap.size + 1), 2, none⟩) hb).trans cf.2.2⟩
            clear gr1
            refine hK.out _ _ B_u3 (fun hHeld => ?_)
            clear hHeld hK K
            try simp only [Act.put, List.getElem_toArray, List.getElem_cons_zero, List.getElem_cons_succ, List.setIfInBounds_toArray, List.set_cons_zero, List.set_cons_succ]
            refine wpAnyH_ready (rs := [7]) (by kernel_rfl) (by simp) ?_
            refine AllReadyH.cons rfl (fun K hK => ?_) AllReadyH.nil
            refine step_append_own rfl _ _ 25 rfl wq.heap.size 49 i0 (.agg #[.int .i64 0, .int .i64 0, .int .i64 0]) 3 24 Try.underlying25 hi hz0 hz1 hz2 rfl (by decide) v1 (0 + 0) (ints (flat3 (xs.take 0))) rfl o1 ⟨wq.heap.size + 1, 0, none⟩ 1 1 [.int .i64 l1, .int .i64 l2, .int .i64 l3] rfl rfl (fun j u hj => ?nw) (ln_one _ _ _) (by unfold maxLen; omega) (by omega) B_u3.size ?_
            case nw => (match j, hj with
              | 0, hj => simp at hj; subst hj; exact c_u3.1
              | 1, hj => simp at hj; subst hj; exact c_u3.2.1
              | 2, hj => simp at hj; subst hj; exact c_u3.2.2
              | j + 3, hj => simp at hj)
            intro v2 wf o2 gr2
            have B_wf : Below wq.heap.size wq wf := Below.grown B_u3 gr2 B_u3.size (fun q e => (o1.lt q e).1)
            clear gr2
            refine hK.out _ _ B_wf (fun hHeld => ?_)
            clear hHeld hK K
            try simp only [Act.put, List.getElem_toArray, List.getElem_cons_zero, List.getElem_cons_succ, List.setIfInBounds_toArray, List.set_cons_zero, List.set_cons_succ]
            (refine wpAnyH_take (i := 8) (v := ?_) rfl (by kernel_rfl) (by kernel_rfl) (by kernel_rfl) (fun _ _ _ h => h) (Or.inl ⟨by rfl, ?_⟩) (by with_reducible assumption) ?_; rotate_left; (focus (intro wz hSw; (try dsimp only at hSw); go_simp; try with_reducible rfl)); try simp only [Act.put, List.getElem_toArray, List.getElem_cons_zero, List.getElem_cons_succ, List.setIfInBounds_toArray, List.set_cons_zero, List.set_cons_succ])
            refine wpAnyH_done (by kernel_rfl) ?_ _
            have o3 : wf.ownsRow wq.heap.size 49 3 v2 (0 + 1) (ints (flat3 ((xs.take 0) ++ [(l1, l2, l3)]))) := by rw [flat3_append, ints_append, Nat.zero_add] at *; exact o2
            obtain ⟨g6, c6, rfl⟩ := own_some o3 (by omega)
            go_wp2_with fail
            go_meet
            exact ⟨_, _, rfl, o3, B_wf⟩
        · go_simp
          have B_u0 : Below wq.heap.size wq (wq.alloc (.cells #[.int .i64 l1, .int .i64 l2, .int .i64 l3] 49)).drew := (by (repeat (first | with_reducible exact Below.refl _ _ | with_reducible refine balloc ?_ _ | with_reducible refine bdrewN ?_ _ | with_reducible refine Below.drew ?_ | with_reducible refine bthen ?_ (by with_reducible assumption) | with_reducible refine Below.setCell ?_ (by first | (simp; done) | (simp; omega)) _)))
          have cf : (wq.alloc (.cells #[.int .i64 l1, .int .i64 l2, .int .i64 l3] 49)).drew.cell? ⟨wq.heap.size, 0, none⟩ = some (.int .i64 l1) ∧ (wq.alloc (.cells #[.int .i64 l1, .int .i64 l2, .int .i64 l3] 49)).drew.cell? ⟨wq.heap.size, 1, none⟩ = some (.int .i64 l2) ∧ (wq.alloc (.cells #[.int .i64 l1, .int .i64 l2, .int .i64 l3] 49)).drew.cell? ⟨wq.heap.size, 2, none⟩ = some (.int .i64 l3) := ⟨kdrew (kfresh rfl rfl), kdrew (kfresh rfl rfl), kdrew (kfresh rfl rfl)⟩
          have sz_u0 : (wq.alloc (.cells #[.int .i64 l1, .int .i64 l2, .int .i64 l3] 49)).drew.heap.size = wq.heap.size + 1 := by simp
          refine hK.out _ _ B_u0 (fun hHeld => ?_)
          clear hHeld hK K
          try simp only [Act.put, List.getElem_toArray, List.getElem_cons_zero, List.getElem_cons_succ, List.setIfInBounds_toArray, List.set_cons_zero, List.set_cons_succ]
          obtain ⟨u0, hu0⟩ : ∃ X, X = (wq.alloc (.cells #[.int .i64 l1, .int .i64 l2, .int .i64 l3] 49)).drew := ⟨_, rfl⟩
          rw [← hu0] at cf B_u0 sz_u0 ⊢
          clear hu0
          refine wpAnyH_ready (rs := [0]) (by kernel_rfl) (by simp) ?_
          refine AllReadyH.cons rfl (fun K hK => ?_) AllReadyH.nil
          go_simp
          have o0 : (u0.alloc (.cells #[] 49)).ownsRow wq.heap.size 49 3 (.slice (some ⟨wq.heap.size + 1, 0, none⟩) 0 0) 0 (ints []) := own_lit0 _ _ _ B_u0.size sz_u0.symm
          have B_u1 : Below wq.heap.size wq (u0.alloc (.cells #[] 49)) := B_u0.alloc B_u0.size _
          have cf1 : (u0.alloc (.cells #[] 49)).cell? ⟨wq.heap.size, 0, none⟩ = some (.int .i64 l1) ∧ (u0.alloc (.cells #[] 49)).cell? ⟨wq.heap.size, 1, none⟩ = some (.int .i64 l2) ∧ (u0.alloc (.cells #[] 49)).cell? ⟨wq.heap.size, 2, none⟩ = some (.int .i64 l3) := ⟨kalloc _ cf.1, kalloc _ cf.2.1, kalloc _ cf.2.2⟩
          refine hK.out _ _ B_u1 (fun hHeld => ?_)
          clear hHeld hK K
          try simp only [Act.put, List.getElem_toArray, List.getElem_cons_zero, List.getElem_cons_succ, List.setIfInBounds_toArray, List.set_cons_zero, List.set_cons_succ]
          obtain ⟨u1, hu1⟩ : ∃ X, X = (u0.alloc (.cells #[] 49)) := ⟨_, rfl⟩
          rw [← hu1] at o0 B_u1 cf1 ⊢
          clear hu1
          clear cf
          have cf := cf1
          clear cf1
          refine wpAnyH_ready (rs := [4]) (by kernel_rfl) (by simp) ?_
          refine AllReadyH.cons rfl (fun K hK => ?_) AllReadyH.nil
          refine step_append_own rfl _ _ 25 rfl wq.heap.size 49 i0 (.agg #[.int .i64 0, .int .i64 0, .int .i64 0]) 3 24 Try.underlying25 hi hz0 hz1 hz2 rfl (by decide) (.slice (some ⟨wq.heap.size + 1, 0, none⟩) 0 0) 0 (ints []) rfl o0 ⟨g, 0, none⟩ 0 _ (ints (flat3 (xs.take 0))) rfl (by rw [ints_length, flat3_length, List.length_take]; congr 1 <;> omega) (row_take (fun j hj => hcX _ B_u1 j hj) (by omega) HN.out) (ints_one _) (by unfold maxLen; omega) (by omega) B_u1.size ?_
          intro v1 u3 o1 gr1
          have B_u3 : Below wq.heap.size wq u3 := Below.grown B_u1 gr1 B_u1.size (fun q e => (o0.lt q e).1)
          rw [show ints [] ++ ints (flat3 (xs.take 0)) = ints (flat3 (xs.take 0)) from rfl] at o1
          have c_u3 : u3.cell? ⟨wq.heap.size, 0, none⟩ = some (.int .i64 l1) ∧ u3.cell? ⟨wq.heap.size, 1, none⟩ = some (.int .i64 l2) ∧ u3.cell? ⟨wq.heap.size, 2, none⟩ = some (.int .i64 l3) := by
            have hb := gr1.block wq.heap.size (World.block_lt_of_cell? _ ⟨wq.heap.size, 0, none⟩ cf.1) (by intro e; first | (simp [Value.ownBlock] at e; done) | (simp [Value.ownBlock] at e; omega))
            exact ⟨(World.cell?_of_block (a := ⟨wq.heap.size, 0, none⟩) hb).trans cf.1, (World.cell?_of_block (a := ⟨wq.heap.size, 1, none⟩) hb).trans cf.2.1, (World.cell?_of_block (a := ⟨wq.heap.size, 2, none⟩) hb).trans cf.2.2⟩
          clear gr1
          refine hK.out _ _ B_u3 (fun hHeld => ?_)
          clear hHeld hK K
          try simp only [Act.put, List.getElem_toArray, List.getElem_cons_zero, List.getElem_cons_succ, List.setIfInBounds_toArray, List.set_cons_zero, List.set_cons_succ]
          refine wpAnyH_ready (rs := [7]) (by kernel_rfl) (by simp) ?_
          refine AllReadyH.cons rfl (fun K hK => ?_) AllReadyH.nil
          refine step_append_own rfl _ _ 25 rfl wq.heap.size 49 i0 (.agg #[.int .i64 0, .int .i64 0, .int .i64 0]) 3 24 Try.underlying25 hi hz0 hz1 hz2 rfl (by decide) v1 (0 + 0) (ints (flat3 (xs.take 0))) rfl o1 ⟨wq.heap.size, 0, none⟩ 1 1 [.int .i64 l1, .int .i64 l2, .int .i64 l3] rfl rfl (fun j u hj => ?nw) (ln_one _ _ _) (by unfold maxLen; omega) (by omega) B_u3.size ?_
          case nw => (match j, hj with
            | 0, hj => simp at hj; subst hj; exact c_u3.1
            | 1, hj => simp at hj; subst hj; exact c_u3.2.1
            | 2, hj => simp at hj; subst hj; exact c_u3.2.2
            | j + 3, hj => simp at hj)
          intro v2 wf o2 gr2
          have B_wf : Below wq.heap.size wq wf := Below.grown B_u3 gr2 B_u3.size (fun q e => (o1.lt q e).1)
          clear gr2
          refine hK.out _ _ B_wf (fun hHeld => ?_)
          clear hHeld hK K
          try simp only [Act.put, List.getElem_toArray, List.getElem_cons_zero, List.getElem_cons_succ, List.setIfInBounds_toArray, List.set_cons_zero, List.set_cons_succ]
          (refine wpAnyH_take (i := 8) (v := ?_) rfl (by kernel_rfl) (by kernel_rfl) (by kernel_rfl) (fun _ _ _ h => h) (Or.inl ⟨by rfl, ?_⟩) (by with_reducible assumption) ?_; rotate_left; (focus (intro wz hSw; (try dsimp only at hSw); go_simp; try with_reducible rfl)); try simp only [Act.put, List.getElem_toArray, List.getElem_cons_zero, List.getElem_cons_succ, List.setIfInBounds_toArray, List.set_cons_zero, List.set_cons_succ])
          refine wpAnyH_done (by kernel_rfl) ?_ _
          have o3 : wf.ownsRow wq.heap.size 49 3 v2 (0 + 1) (ints (flat3 ((xs.take 0) ++ [(l1, l2, l3)]))) := by rw [flat3_append, ints_append, Nat.zero_add] at *; exact o2
          obtain ⟨g6, c6, rfl⟩ := own_some o3 (by omega)
          go_wp2_with fail
          go_meet
          exact ⟨_, _, rfl, o3, B_wf⟩
      case' rest => obtain ⟨g6, c6, rfl, o6, B6⟩ := hcut
      obtain ⟨w6, rfl⟩ : ∃ w6 : World, w6 = wc := ⟨_, rfl⟩
      have hc6 := hcX w6 B6
      go_wp2_with (at_builtin; refine wpList_append_own _ rfl _ _ 25 rfl wq.heap.size 49 i0 (.agg #[.int .i64 0, .int .i64 0, .int .i64 0]) 3 24 Try.underlying25 hi hz0 hz1 hz2 rfl (by decide) _ _ _ rfl o6 ⟨g, 0, none⟩ n cap (ints (flat3 (xs.drop 0))) rfl (by rw [ints_length, flat3_length, List.length_drop]; congr 1 <;> (have := HN.out; omega)) (row_drop (k := 0) hc6 HN.out) (ints_one _) ?c3 ?c4 ?c5 ?_)
      case c3 => unfold maxLen; omega
      case c4 => omega
      case c5 => exact B6.size
      intro v8 w8 o8 gr8 _
      have B8 : Below wq.heap.size wq w8 := B6.grown gr8 B6.size (fun q e => (o6.lt q e).1)
      have HI := Lib.hid (put_at (l := (l1, l2, l3)) hs (k := 0) HD.out (by simp))
      have HL : (insL xs (l1, l2, l3)).length = 0 + 1 + n := by rw [HI.out, List.length_append, List.length_cons, List.length_take, List.length_drop]; have := HN.out; omega
      have o9 : w8.ownsRow base 49 3 v8 (insL xs (l1, l2, l3)).length (ints (flat3 (insL xs (l1, l2, l3)))) := by
        rw [HL, HI.out]
        have e : flat3 ((xs.take 0) ++ (l1, l2, l3) :: xs.drop 0) = flat3 ((xs.take 0) ++ [(l1, l2, l3)]) ++ flat3 (xs.drop 0) := by simp [flat3]
        rw [e, ints_append]
        exact own_base o8 (by have := hbX.size; omega)
      obtain ⟨g9, c9, rfl⟩ := own_some o9 (by omega)
      clear o8 gr8
      go_wp2
      (refine bodyPost_ret (v := .slice (some ⟨g9, 0, none⟩) (insL xs (l1, l2, l3)).length c9) (by simp [results, Try.results24, go_sem]) rfl ⟨g9, c9, rfl, o9, (hb1.trans (hbX.mono hb1.size)).trans (B8.mono (by have := hb1.size; have := hbX.size; omega))⟩)
    | succ k =>
      have hkx : k < xs.length := by have := HN.out; omega
      have hget := flat3_getD xs k hkx
      have hX : ∀ W : World, Below wn.heap.size wn W → ∀ j : Nat, j < n * 3 → W.cell? ⟨g, j, none⟩ = some (.int .i64 ((flat3 xs).getD j 0)) := fun W h j hj => own_cell (own_call hown1 h) hj
      obtain ⟨x, hx⟩ : ∃ x, x = xs[k] := ⟨_, rfl⟩
      rw [← hx] at hget
      have hdk : xs.drop k = x :: xs.drop (k + 1) := by rw [hx]; exact drop_at hkx
      have htk : xs.take (k + 1) = xs.take k ++ [x] := by rw [hx, List.take_succ_eq_append_getElem hkx]
      have hmx : x ∈ xs := by rw [hx]; exact List.getElem_mem _
      obtain ⟨x1, x2, x3⟩ := x
      simp only at hget
      have HDK := Lib.hid hdk
      have HTK := Lib.hid htk
      have HMX := Lib.hid hmx
      clear hdk htk hmx hx
      have c0 : ∀ W : World, Below wn.heap.size wn W → W.cell? ⟨g, k * 3, none⟩ = some (.int .i64 x1) := fun W h => (hX W h (k * 3) (by omega)).trans (by rw [hget.1])
      have c1 : ∀ W : World, Below wn.heap.size wn W → W.cell? ⟨g, k * 3 + 1, none⟩ = some (.int .i64 x2) := fun W h => (hX W h (k * 3 + 1) (by omega)).trans (by rw [hget.2.1])
      have c2 : ∀ W : World, Below wn.heap.size wn W → W.cell? ⟨g, k * 3 + 2, none⟩ = some (.int .i64 x3) := fun W h => (hX W h (k * 3 + 2) (by omega)).trans (by rw [hget.2.2])
      have d0 : ∀ W : World, Below wn.heap.size wn W → W.cell? ⟨w.heap.size, 0, none⟩ = some (.int .i64 l1) := fun W h => bholds q0 h
      have d1 : ∀ W : World, Below wn.heap.size wn W → W.cell? ⟨w.heap.size, 1, none⟩ = some (.int .i64 l2) := fun W h => bholds q1 h
      have d2 : ∀ W : World, Below wn.heap.size wn W → W.cell? ⟨w.heap.size, 2, none⟩ = some (.int .i64 l3) := fun W h => bholds q2 h
      have hkn : (k : Int) + 1 - 1 = k := by omega
      have hkn' : (k : Int) < (n : Int) := by omega
      have hwk : IntKind.i64.wrap (k : Int) = (k : Int) := IntWalk.i64_in _ (by omega)
      have hk0 : 0 ≤ (k : Int) := by omega
      clear hget hX
      go_upto_region 2 with fail
      (refine wp_region_held_drew (S := (fun W => W.cell? ⟨g, k * 3, none⟩ = some (.int .i64 x1) ∧ W.cell? ⟨g, k * 3 + 1, none⟩ = some (.int .i64 x2) ∧ W.cell? ⟨g, k * 3 + 2, none⟩ = some (.int .i64 x3) ∧ W.cell? ⟨w.heap.size, 0, none⟩ = some (.int .i64 l1) ∧ W.cell? ⟨w.heap.size, 1, none⟩ = some (.int .i64 l2) ∧ W.cell? ⟨w.heap.size, 2, none⟩ = some (.int .i64 l3) ∧ Below wn.heap.size wn W)) (by kernel_rfl) (by exact (⟨c0 _ (Below.drew hbel), c1 _ (Below.drew hbel), c2 _ (Below.drew hbel), d0 _ (Below.drew hbel), d1 _ (Below.drew hbel), d2 _ (Below.drew hbel), Below.drew hbel⟩)) (fun hHeld => ?_))
      (refine wpAnyH_take (i := 0) (v := ?_) rfl (by kernel_rfl) (by kernel_rfl) (by kernel_rfl) (fun _ _ _ h => h) (Or.inl ⟨by rfl, ?_⟩) (by with_reducible assumption) ?_; rotate_left; (focus (intro wz hSw; (try dsimp only at hSw); go_simp; try with_reducible rfl)); try simp only [Act.put, List.getElem_toArray, List.getElem_cons_zero, List.getElem_cons_succ, List.setIfInBounds_toArray, List.set_cons_zero, List.set_cons_succ])
      (refine wpAnyH_take (i := 1) (v := ?_) rfl (by kernel_rfl) (by kernel_rfl) (by kernel_rfl) (fun _ _ _ h => h) (Or.inl ⟨by rfl, ?_⟩) (by with_reducible assumption) ?_; rotate_left; (focus (intro wz hSw; (try dsimp only at hSw); go_simp; try with_reducible rfl)); try simp only [Act.put, List.getElem_toArray, List.getElem_cons_zero, List.getElem_cons_succ, List.setIfInBounds_toArray, List.set_cons_zero, List.set_cons_succ])
      (refine wpAnyH_take (i := 2) (v := ?_) rfl (by kernel_rfl) (by kernel_rfl) (by kernel_rfl) (fun _ _ _ h => h) (Or.inl ⟨by rfl, ?_⟩) (by with_reducible assumption) ?_; rotate_left; (focus (intro wz hSw; (try dsimp only at hSw); go_simp; try with_reducible rfl)); try simp only [Act.put, List.getElem_toArray, List.getElem_cons_zero, List.getElem_cons_succ, List.setIfInBounds_toArray, List.set_cons_zero, List.set_cons_succ])
      (refine wpAnyH_take (i := 3) (v := ?_) rfl (by kernel_rfl) (by kernel_rfl) (by kernel_rfl) (fun _ _ _ h => h) (Or.inl ⟨by rfl, ?_⟩) (by with_reducible assumption) ?_; rotate_left; (focus (intro wz hSw; (try dsimp only at hSw); go_simp; try with_reducible rfl)); try simp only [Act.put, List.getElem_toArray, List.getElem_cons_zero, List.getElem_cons_succ, List.setIfInBounds_toArray, List.set_cons_zero, List.set_cons_succ])
      (refine wpAnyH_take (i := 4) (v := ?_) rfl (by kernel_rfl) (by kernel_rfl) (by kernel_rfl) (fun _ _ _ h => h) (Or.inl ⟨by rfl, ?_⟩) (by with_reducible assumption) ?_; rotate_left; (focus (intro wz hSw; (try dsimp only at hSw); go_simp; try with_reducible rfl)); try simp only [Act.put, List.getElem_toArray, List.getElem_cons_zero, List.getElem_cons_succ, List.setIfInBounds_toArray, List.set_cons_zero, List.set_cons_succ])
      (refine wpAnyH_take (i := 5) (v := ?_) rfl (by kernel_rfl) (by kernel_rfl) (by kernel_rfl) (fun _ _ _ h => h) (Or.inl ⟨by rfl, ?_⟩) (by with_reducible assumption) ?_; rotate_left; (focus (intro wz hSw; (try dsimp only at hSw); go_simp; try with_reducible rfl)); try simp only [Act.put, List.getElem_toArray, List.getElem_cons_zero, List.getElem_cons_succ, List.setIfInBounds_toArray, List.set_cons_zero, List.set_cons_succ])
      (refine wpAnyH_take (i := 6) (v := ?_) rfl (by kernel_rfl) (by kernel_rfl) (by kernel_rfl) (fun _ _ _ h => h) (Or.inl ⟨by rfl, ?_⟩) (by with_reducible assumption) ?_; rotate_left; (focus (intro wz hSw; (try dsimp only at hSw); go_simp; try with_reducible rfl)); try simp only [Act.put, List.getElem_toArray, List.getElem_cons_zero, List.getElem_cons_succ, List.setIfInBounds_toArray, List.set_cons_zero, List.set_cons_succ])
      (refine wpAnyH_take (i := 7) (v := ?_) rfl (by kernel_rfl) (by kernel_rfl) (by kernel_rfl) (fun _ _ _ h => h) (Or.inl ⟨by rfl, ?_⟩) (by with_reducible assumption) ?_; rotate_left; (focus (intro wz hSw; (try dsimp only at hSw); go_simp; try with_reducible rfl)); try simp only [Act.put, List.getElem_toArray, List.getElem_cons_zero, List.getElem_cons_succ, List.setIfInBounds_toArray, List.set_cons_zero, List.set_cons_succ])
      (refine wpAnyH_take (i := 8) (v := ?_) rfl (by kernel_rfl) (by kernel_rfl) (by kernel_rfl) (fun _ _ _ h => h) (Or.inl ⟨by rfl, ?_⟩) (by with_reducible assumption) ?_; rotate_left; (focus (intro wz hSw; (try dsimp only at hSw); go_simp; try with_reducible rfl)); try simp only [Act.put, List.getElem_toArray, List.getElem_cons_zero, List.getElem_cons_succ, List.setIfInBounds_toArray, List.set_cons_zero, List.set_cons_succ])
      (refine wpAnyH_ready (rs := [9]) (by kernel_rfl) (by simp) ?_; refine AllReadyH.cons rfl (fun K hK => ?_) AllReadyH.nil; (go_simp; refine Calls.mono (before_any _ _ _ _ _ _ _) ?_; rintro e wb ⟨rfl, hBb⟩); refine hK.out _ _ (by exact (⟨c0 _ (hHeld.2.2.2.2.2.2.trans (hBb.mono hHeld.2.2.2.2.2.2.size)), c1 _ (hHeld.2.2.2.2.2.2.trans (hBb.mono hHeld.2.2.2.2.2.2.size)), c2 _ (hHeld.2.2.2.2.2.2.trans (hBb.mono hHeld.2.2.2.2.2.2.size)), d0 _ (hHeld.2.2.2.2.2.2.trans (hBb.mono hHeld.2.2.2.2.2.2.size)), d1 _ (hHeld.2.2.2.2.2.2.trans (hBb.mono hHeld.2.2.2.2.2.2.size)), d2 _ (hHeld.2.2.2.2.2.2.trans (hBb.mono hHeld.2.2.2.2.2.2.size)), hHeld.2.2.2.2.2.2.trans (hBb.mono hHeld.2.2.2.2.2.2.size)⟩)) (fun hHeld => ?_); clear hK K; try simp only [Act.put, List.setIfInBounds_toArray, List.set_cons_zero, List.set_cons_succ])
      have hbb : Below wn.heap.size wn wb := hHeld.2.2.2.2.2.2
      (refine wpAnyH_take (i := 10) (v := ?_) rfl (by kernel_rfl) (by kernel_rfl) (by kernel_rfl) (fun _ _ _ h => h) (Or.inl ⟨by rfl, ?_⟩) (by with_reducible assumption) ?_; rotate_left; (focus (intro wz hSw; (try dsimp only at hSw); go_simp; try with_reducible rfl)); try simp only [Act.put, List.getElem_toArray, List.getElem_cons_zero, List.getElem_cons_succ, List.setIfInBounds_toArray, List.set_cons_zero, List.set_cons_succ])
      refine wpAnyH_done (by kernel_rfl) ?_ _
      obtain ⟨bo, hbo⟩ : ∃ b, b = bfB l1 l2 l3 x1 x2 x3 := ⟨_, rfl⟩
      have HBO := Lib.hid (show bo = decide (lt3 (l1, l2, l3) (x1, x2, x3)) from hbo)
      rw [← hbo]
      clear hbo
      cases bo
      · have hnl : ¬ lt3 (l1, l2, l3) (x1, x2, x3) := of_decide_eq_false HBO.out.symm
        have HNL := Lib.hid hnl
        clear hnl
        go_upto_region 4 with fail
        (refine wp_region_held_drew (S := (fun W => W.cell? ⟨g, k * 3, none⟩ = some (.int .i64 x1) ∧ W.cell? ⟨g, k * 3 + 1, none⟩ = some (.int .i64 x2) ∧ W.cell? ⟨g, k * 3 + 2, none⟩ = some (.int .i64 x3) ∧ W.cell? ⟨w.heap.size, 0, none⟩ = some (.int .i64 l1) ∧ W.cell? ⟨w.heap.size, 1, none⟩ = some (.int .i64 l2) ∧ W.cell? ⟨w.heap.size, 2, none⟩ = some (.int .i64 l3) ∧ Below wn.heap.size wn W)) (by kernel_rfl) (by exact (⟨c0 _ (Below.drew hbb), c1 _ (Below.drew hbb), c2 _ (Below.drew hbb), d0 _ (Below.drew hbb), d1 _ (Below.drew hbb), d2 _ (Below.drew hbb), Below.drew hbb⟩)) (fun hHeld => ?_))
        (refine wpAnyH_take (i := 0) (v := ?_) rfl (by kernel_rfl) (by kernel_rfl) (by kernel_rfl) (fun _ _ _ h => h) (Or.inl ⟨by rfl, ?_⟩) (by with_reducible assumption) ?_; rotate_left; (focus (intro wz hSw; (try dsimp only at hSw); go_simp; try with_reducible rfl)); try simp only [Act.put, List.getElem_toArray, List.getElem_cons_zero, List.getElem_cons_succ, List.setIfInBounds_toArray, List.set_cons_zero, List.set_cons_succ])
        (refine wpAnyH_take (i := 1) (v := ?_) rfl (by kernel_rfl) (by kernel_rfl) (by kernel_rfl) (fun _ _ _ h => h) (Or.inl ⟨by rfl, ?_⟩) (by with_reducible assumption) ?_; rotate_left; (focus (intro wz hSw; (try dsimp only at hSw); go_simp; try with_reducible rfl)); try simp only [Act.put, List.getElem_toArray, List.getElem_cons_zero, List.getElem_cons_succ, List.setIfInBounds_toArray, List.set_cons_zero, List.set_cons_succ])
        (refine wpAnyH_take (i := 2) (v := ?_) rfl (by kernel_rfl) (by kernel_rfl) (by kernel_rfl) (fun _ _ _ h => h) (Or.inl ⟨by rfl, ?_⟩) (by with_reducible assumption) ?_; rotate_left; (focus (intro wz hSw; (try dsimp only at hSw); go_simp; try with_reducible rfl)); try simp only [Act.put, List.getElem_toArray, List.getElem_cons_zero, List.getElem_cons_succ, List.setIfInBounds_toArray, List.set_cons_zero, List.set_cons_succ])
        (refine wpAnyH_take (i := 3) (v := ?_) rfl (by kernel_rfl) (by kernel_rfl) (by kernel_rfl) (fun _ _ _ h => h) (Or.inl ⟨by rfl, ?_⟩) (by with_reducible assumption) ?_; rotate_left; (focus (intro wz hSw; (try dsimp only at hSw); go_simp; try with_reducible rfl)); try simp only [Act.put, List.getElem_toArray, List.getElem_cons_zero, List.getElem_cons_succ, List.setIfInBounds_toArray, List.set_cons_zero, List.set_cons_succ])
        (refine wpAnyH_take (i := 4) (v := ?_) rfl (by kernel_rfl) (by kernel_rfl) (by kernel_rfl) (fun _ _ _ h => h) (Or.inl ⟨by rfl, ?_⟩) (by with_reducible assumption) ?_; rotate_left; (focus (intro wz hSw; (try dsimp only at hSw); go_simp; try with_reducible rfl)); try simp only [Act.put, List.getElem_toArray, List.getElem_cons_zero, List.getElem_cons_succ, List.setIfInBounds_toArray, List.set_cons_zero, List.set_cons_succ])
        (refine wpAnyH_take (i := 5) (v := ?_) rfl (by kernel_rfl) (by kernel_rfl) (by kernel_rfl) (fun _ _ _ h => h) (Or.inl ⟨by rfl, ?_⟩) (by with_reducible assumption) ?_; rotate_left; (focus (intro wz hSw; (try dsimp only at hSw); go_simp; try with_reducible rfl)); try simp only [Act.put, List.getElem_toArray, List.getElem_cons_zero, List.getElem_cons_succ, List.setIfInBounds_toArray, List.set_cons_zero, List.set_cons_succ])
        (refine wpAnyH_take (i := 6) (v := ?_) rfl (by kernel_rfl) (by kernel_rfl) (by kernel_rfl) (fun _ _ _ h => h) (Or.inl ⟨by rfl, ?_⟩) (by with_reducible assumption) ?_; rotate_left; (focus (intro wz hSw; (try dsimp only at hSw); go_simp; try with_reducible rfl)); try simp only [Act.put, List.getElem_toArray, List.getElem_cons_zero, List.getElem_cons_succ, List.setIfInBounds_toArray, List.set_cons_zero, List.set_cons_succ])
        (refine wpAnyH_take (i := 7) (v := ?_) rfl (by kernel_rfl) (by kernel_rfl) (by kernel_rfl) (fun _ _ _ h => h) (Or.inl ⟨by rfl, ?_⟩) (by with_reducible assumption) ?_; rotate_left; (focus (intro wz hSw; (try dsimp only at hSw); go_simp; try with_reducible rfl)); try simp only [Act.put, List.getElem_toArray, List.getElem_cons_zero, List.getElem_cons_succ, List.setIfInBounds_toArray, List.set_cons_zero, List.set_cons_succ])
        (refine wpAnyH_take (i := 8) (v := ?_) rfl (by kernel_rfl) (by kernel_rfl) (by kernel_rfl) (fun _ _ _ h => h) (Or.inl ⟨by rfl, ?_⟩) (by with_reducible assumption) ?_; rotate_left; (focus (intro wz hSw; (try dsimp only at hSw); go_simp; try with_reducible rfl)); try simp only [Act.put, List.getElem_toArray, List.getElem_cons_zero, List.getElem_cons_succ, List.setIfInBounds_toArray, List.set_cons_zero, List.set_cons_succ])
        (refine wpAnyH_take (i := 9) (v := ?_) rfl (by kernel_rfl) (by kernel_rfl) (by kernel_rfl) (fun _ _ _ h => h) (Or.inl ⟨by rfl, ?_⟩) (by with_reducible assumption) ?_; rotate_left; (focus (intro wz hSw; (try dsimp only at hSw); go_simp; try with_reducible rfl)); try simp only [Act.put, List.getElem_toArray, List.getElem_cons_zero, List.getElem_cons_succ, List.setIfInBounds_toArray, List.set_cons_zero, List.set_cons_succ])
        (refine wpAnyH_take (i := 10) (v := ?_) rfl (by kernel_rfl) (by kernel_rfl) (by kernel_rfl) (fun _ _ _ h => h) (Or.inl ⟨by rfl, ?_⟩) (by with_reducible assumption) ?_; rotate_left; (focus (intro wz hSw; (try dsimp only at hSw); go_simp; try with_reducible rfl)); try simp only [Act.put, List.getElem_toArray, List.getElem_cons_zero, List.getElem_cons_succ, List.setIfInBounds_toArray, List.set_cons_zero, List.set_cons_succ])
        refine wpAnyH_done (by kernel_rfl) ?_ _
        obtain ⟨bq, hbq⟩ : ∃ b, b = (x1 == l1 && x2 == l2 && x3 == l3) := ⟨_, rfl⟩
        have HBQ := Lib.hid hbq
        rw [← hbq]
        clear hbq
        cases bq
        · have hne : (l1, l2, l3) ≠ (x1, x2, x3) := fun e => by have := HBQ.out; simp only [Prod.mk.injEq] at e; simp [e.1, e.2.1, e.2.2] at this
          have hxl : lt3 (x1, x2, x3) (l1, l2, l3) := lt3_not HNL.out hne
          have hlow : ∀ z ∈ xs.take (k + 1), lt3 z (l1, l2, l3) := by
            rw [HTK.out]
            intro z hz
            rcases List.mem_append.1 hz with hz | hz
            · refine lt3_trans ?_ hxl
              have hsp : (xs.take (k + 1)).Pairwise lt3 := hs.sublist (List.take_sublist _ _)
              rw [HTK.out, List.pairwise_append] at hsp
              exact hsp.2.2 z hz _ (by simp)
            · rw [List.mem_singleton.1 hz]; exact hxl
          clear hne hxl
          go_upto_region 6 with fail
          have hbX : Below wn.heap.size wn wb.drew := Below.drew hbb
          obtain ⟨wq, hwq⟩ : ∃ X, X = wb.drew := ⟨_, rfl⟩
          rw [← hwq] at hbX ⊢
          clear hwq
          have hownX := own_call hown1 hbX
          have hcap : n ≤ cap := by
            rcases hownX.2 with ⟨e, _⟩ | ⟨g', cap', cur, e, _, _, hle, _⟩
            · cases e
            · cases e; first | exact hle | omega
          have hcX : ∀ W : World, Below wq.heap.size wq W → ∀ j : Nat, j < n * 3 → W.cell? ⟨g, j, none⟩ = some (.int .i64 ((flat3 xs).getD j 0)) := fun W h j hj => own_cell (own_call hownX h) hj
          have hsl0 : 0 ≤ (k : Int) + 1 := by omega
          have hsl1 : (k : Int) + 1 ≤ (cap : Int) := by omega
          have hsl2 : (k : Int) + 1 ≤ (n : Int) := by omega
          have hsl3 : (n : Int) ≤ (cap : Int) := by omega
          have hslw : IntKind.i64.wrap ((k : Int) + 1) = (k : Int) + 1 := IntWalk.i64_in _ (by omega)
          have hsln : k + 1 ≤ cap := by omega
          have hslm : k + 1 ≤ n := by omega
          have kk0 := (cell_old hbX (by omega) 0).trans q0
          have kk1 := (cell_old hbX (by omega) 1).trans q1
          have kk2 := (cell_old hbX (by omega) 2).trans q2
          have bb0 : ∀ W : World, Below wq.heap.size wq W → W.cell? ⟨w.heap.size, 0, none⟩ = some (.int .i64 l1) := fun W h => bholds kk0 h
          have bb1 : ∀ W : World, Below wq.heap.size wq W → W.cell? ⟨w.heap.size, 1, none⟩ = some (.int .i64 l2) := fun W h => bholds kk1 h
          have bb2 : ∀ W : World, Below wq.heap.size wq W → W.cell? ⟨w.heap.size, 2, none⟩ = some (.int .i64 l3) := fun W h => bholds kk2 h
          go_cut [6] (fun s6 wx => ∃ g6 c6 : Nat, s6 = .slice (some ⟨g6, 0, none⟩) ((k + 1) + 1) c6 ∧ wx.ownsRow wq.heap.size 49 3 s6 ((k + 1) + 1) (ints (flat3 ((xs.take (k + 1)) ++ [(l1, l2, l3)]))) ∧ Below wq.heap.size wq wx)
          case first =>
            (refine wp_region_held_drew (S := (fun W => Below wq.heap.size wq W)) (by kernel_rfl) (by exact Below.drew (Below.refl _ _)) (fun hHeld => ?_))
            (refine wpAnyH_take (i := 1) (v := ?_) rfl (by kernel_rfl) (by kernel_rfl) (by kernel_rfl) (fun _ _ _ h => h) (Or.inl ⟨by rfl, ?_⟩) (by with_reducible assumption) ?_; rotate_left; (focus (intro wz hSw; (try dsimp only at hSw); go_simp; try with_reducible rfl)); try simp only [Act.put, List.getElem_toArray, List.getElem_cons_zero, List.getElem_cons_succ, List.setIfInBounds_toArray, List.set_cons_zero, List.set_cons_succ])
            (refine wpAnyH_take (i := 2) (v := ?_) rfl (by kernel_rfl) (by kernel_rfl) (by kernel_rfl) (fun _ _ _ h => h) (Or.inl ⟨by rfl, ?_⟩) (by with_reducible assumption) ?_; rotate_left; (focus (intro wz hSw; (try dsimp only at hSw); go_simp; try with_reducible rfl)); try simp only [Act.put, List.getElem_toArray, List.getElem_cons_zero, List.getElem_cons_succ, List.setIfInBounds_toArray, List.set_cons_zero, List.set_cons_succ])
            (refine wpAnyH_take (i := 3) (v := ?_) rfl (by kernel_rfl) (by kernel_rfl) (by kernel_rfl) (fun _ _ _ h => h) (Or.inl ⟨by rfl, ?_⟩) (by with_reducible assumption) ?_; rotate_left; (focus (intro wz hSw; (try dsimp only at hSw); go_simp; try with_reducible rfl)); try simp only [Act.put, List.getElem_toArray, List.getElem_cons_zero, List.getElem_cons_succ, List.setIfInBounds_toArray, List.set_cons_zero, List.set_cons_succ])
            (refine wpAnyH_take (i := 5) (v := ?_) rfl (by kernel_rfl) (by kernel_rfl) (by kernel_rfl) (fun _ _ _ h => h) (Or.inl ⟨by rfl, ?_⟩) (by with_reducible assumption) ?_; rotate_left; (focus (intro wz hSw; (try dsimp only at hSw); go_simp; try with_reducible rfl)); try simp only [Act.put, List.getElem_toArray, List.getElem_cons_zero, List.getElem_cons_succ, List.setIfInBounds_toArray, List.set_cons_zero, List.set_cons_succ])
            refine wpAnyH_ready (rs := [0, 6]) (by kernel_rfl) (by simp) ?_
            refine AllReadyH.cons rfl (fun K hK => ?_) (AllReadyH.cons rfl (fun K hK => ?_) AllReadyH.nil)
            · go_simp
              have o0 : (wq.alloc (.cells #[] 49)).drew.ownsRow wq.heap.size 49 3 (.slice (some ⟨wq.heap.size, 0, none⟩) 0 0) 0 (ints []) := own_drew (own_lit0 wq _ _ (Nat.le_refl _) rfl)
              have B_u0 : Below wq.heap.size wq (wq.alloc (.cells #[] 49)).drew := (by (repeat (first | with_reducible exact Below.refl _ _ | with_reducible refine balloc ?_ _ | with_reducible refine bdrewN ?_ _ | with_reducible refine Below.drew ?_ | with_reducible refine bthen ?_ (by with_reducible assumption) | with_reducible refine Below.setCell ?_ (by first | (simp; done) | (simp; omega)) _)))
              have sz_u0 : (wq.alloc (.cells #[] 49)).drew.heap.size = wq.heap.size + 1 := by simp
              refine hK.out _ _ B_u0 (fun hHeld => ?_)
              clear hHeld hK K
              try simp only [Act.put, List.getElem_toArray, List.getElem_cons_zero, List.getElem_cons_succ, List.setIfInBounds_toArray, List.set_cons_zero, List.set_cons_succ]
              obtain ⟨u0, hu0⟩ : ∃ X, X = (wq.alloc (.cells #[] 49)).drew := ⟨_, rfl⟩
              rw [← hu0] at o0 B_u0 sz_u0 ⊢
              clear hu0
              refine wpAnyH_ready (rs := [4, 6]) (by kernel_rfl) (by simp) ?_
              refine AllReadyH.cons rfl (fun K hK => ?_) (AllReadyH.cons rfl (fun K hK => ?_) AllReadyH.nil)
              · refine step_append_own rfl _ _ 25 rfl wq.heap.size 49 i0 (.agg #[.int .i64 0, .int .i64 0, .int .i64 0]) 3 24 Try.underlying25 hi hz0 hz1 hz2 rfl (by decide) (.slice (some ⟨wq.heap.size, 0, none⟩) 0 0) 0 (ints []) rfl o0 ⟨g, 0, none⟩ (k + 1) _ (ints (flat3 (xs.take (k + 1)))) rfl (by rw [ints_length, flat3_length, List.length_take]; congr 1 <;> omega) (row_take (fun j hj => hcX _ B_u0 j hj) (by omega) HN.out) (ints_one _) (by unfold maxLen; omega) (by omega) B_u0.size ?_
                intro v1 u1 o1 gr1
                have B_u1 : Below wq.heap.size wq u1 := Below.grown B_u0 gr1 B_u0.size (fun q e => (o0.lt q e).1)
                rw [show ints [] ++ ints (flat3 (xs.take (k + 1))) = ints (flat3 (xs.take (k + 1))) from rfl] at o1
                clear gr1
                refine hK.out _ _ B_u1 (fun hHeld => ?_)
                clear hHeld hK K
                try simp only [Act.put, List.getElem_toArray, List.getElem_cons_zero, List.getElem_cons_succ, List.setIfInBounds_toArray, List.set_cons_zero, List.set_cons_succ]
                refine wpAnyH_ready (rs := [6]) (by kernel_rfl) (by simp) ?_
                refine AllReadyH.cons rfl (fun K hK => ?_) AllReadyH.nil
                go_simp
                have B_u2 : Below wq.heap.size wq (u1.alloc (.cells #[.int .i64 l1, .int .i64 l2, .int .i64 l3] 49)) := B_u1.alloc B_u1.size _
                have cf : (u1.alloc (.cells #[.int .i64 l1, .int .i64 l2, .int .i64 l3] 49)).cell? ⟨u1.heap.size, 0, none⟩ = some (.int .i64 l1) ∧ (u1.alloc (.cells #[.int .i64 l1, .int .i64 l2, .int .i64 l3] 49)).cell? ⟨u1.heap.size, 1, none⟩ = some (.int .i64 l2) ∧ (u1.alloc (.cells #[.int .i64 l1, .int .i64 l2, .int .i64 l3] 49)).cell? ⟨u1.heap.size, 2, none⟩ = some (.int .i64 l3) := ⟨kfresh rfl rfl, kfresh rfl rfl, kfresh rfl rfl⟩
                have sz_u2 : (u1.alloc (.cells #[.int .i64 l1, .int .i64 l2, .int .i64 l3] 49)).heap.size = u1.heap.size + 1 := by simp
                have o1' := o1.alloc (.cells #[.int .i64 l1, .int .i64 l2, .int .i64 l3] 49)
                refine hK.out _ _ B_u2 (fun hHeld => ?_)
                clear hHeld hK K
                try simp only [Act.put, List.getElem_toArray, List.getElem_cons_zero, List.getElem_cons_succ, List.setIfInBounds_toArray, List.set_cons_zero, List.set_cons_succ]
                obtain ⟨u2, hu2⟩ : ∃ X, X = (u1.alloc (.cells #[.int .i64 l1, .int .i64 l2, .int .i64 l3] 49)) := ⟨_, rfl⟩
                rw [← hu2] at cf B_u2 o1' ⊢
                clear hu2
                refine wpAnyH_ready (rs := [7]) (by kernel_rfl) (by simp) ?_
                refine AllReadyH.cons rfl (fun K hK => ?_) AllReadyH.nil
                refine step_append_own rfl _ _ 25 rfl wq.heap.size 49 i0 (.agg #[.int .i64 0, .int .i64 0, .int .i64 0]) 3 24 Try.underlying25 hi hz0 hz1 hz2 rfl (by decide) v1 (0 + (k + 1)) (ints (flat3 (xs.take (k + 1)))) rfl o1' ⟨u1.heap.size, 0, none⟩ 1 1 [.int .i64 l1, .int .i64 l2, .int .i64 l3] rfl rfl (fun j u hj => ?nw) (ln_one _ _ _) (by unfold maxLen; omega) (by omega) B_u2.size ?_
                case nw => (match j, hj with
                  | 0, hj => simp at hj; subst hj; exact cf.1
                  | 1, hj => simp at hj; subst hj; exact cf.2.1
                  | 2, hj => simp at hj; subst hj; exact cf.2.2
                  | j + 3, hj => simp at hj)
                intro v2 wf o2 gr2
                have B_wf : Below wq.heap.size wq wf := Below.grown B_u2 gr2 B_u2.size (fun q e => (o1'.lt q e).1)
                clear gr2
                refine hK.out _ _ B_wf (fun hHeld => ?_)
                clear hHeld hK K
                try simp only [Act.put, List.getElem_toArray, List.getElem_cons_zero, List.getElem_cons_succ, List.setIfInBounds_toArray, List.set_cons_zero, List.set_cons_succ]
                (refine wpAnyH_take (i := 8) (v := ?_) rfl (by kernel_rfl) (by kernel_rfl) (by kernel_rfl) (fun _ _ _ h => h) (Or.inl ⟨by rfl, ?_⟩) (by with_reducible assumption) ?_; rotate_left; (focus (intro wz hSw; (try dsimp only at hSw); go_simp; try with_reducible rfl)); try simp only [Act.put, List.getElem_toArray, List.getElem_cons_zero, List.getElem_cons_succ, List.setIfInBounds_toArray, List.set_cons_zero, List.set_cons_succ])
                refine wpAnyH_done (by kernel_rfl) ?_ _
                have o3 : wf.ownsRow wq.heap.size 49 3 v2 ((k + 1) + 1) (ints (flat3 ((xs.take (k + 1)) ++ [(l1, l2, l3)]))) := by rw [flat3_append, ints_append, Nat.zero_add] at *; exact o2
                obtain ⟨g6, c6, rfl⟩ := own_some o3 (by omega)
                go_wp2_with fail
                go_meet
                exact ⟨_, _, rfl, o3, B_wf⟩
              · go_simp
                have B_u2 : Below wq.heap.size wq (u0.alloc (.cells #[.int .i64 l1, .int .i64 l2, .int .i64 l3] 49)) := B_u0.alloc B_u0.size _
                have sz_u2 : (u0.alloc (.cells #[.int .i64 l1, .int .i64 l2, .int .i64 l3] 49)).heap.size = u0.heap.size + 1 := by simp
                have cf : (u0.alloc (.cells #[.int .i64 l1, .int .i64 l2, .int .i64 l3] 49)).cell? ⟨wq.heap.size + 1, 0, none⟩ = some (.int .i64 l1) ∧ (u0.alloc (.cells #[.int .i64 l1, .int .i64 l2, .int .i64 l3] 49)).cell? ⟨wq.heap.size + 1, 1, none⟩ = some (.int .i64 l2) ∧ (u0.alloc (.cells #[.int .i64 l1, .int .i64 l2, .int .i64 l3] 49)).cell? ⟨wq.heap.size + 1, 2, none⟩ = some (.int .i64 l3) := ⟨kfresh sz_u0.symm rfl, kfresh sz_u0.symm rfl, kfresh sz_u0.symm rfl⟩
                have o0' := o0.alloc (.cells #[.int .i64 l1, .int .i64 l2, .int .i64 l3] 49)
                refine hK.out _ _ B_u2 (fun hHeld => ?_)
                clear hHeld hK K
                try simp only [Act.put, List.getElem_toArray, List.getElem_cons_zero, List.getElem_cons_succ, List.setIfInBounds_toArray, List.set_cons_zero, List.set_cons_succ]
                obtain ⟨u2, hu2⟩ : ∃ X, X = (u0.alloc (.cells #[.int .i64 l1, .int .i64 l2, .int .i64 l3] 49)) := ⟨_, rfl⟩
                rw [← hu2] at cf B_u2 o0' ⊢
                clear hu2
                refine wpAnyH_ready (rs := [4]) (by kernel_rfl) (by simp) ?_
                refine AllReadyH.cons rfl (fun K hK => ?_) AllReadyH.nil
                refine step_append_own rfl _ _ 25 rfl wq.heap.size 49 i0 (.agg #[.int .i64 0, .int .i64 0, .int .i64 0]) 3 24 Try.underlying25 hi hz0 hz1 hz2 rfl (by decide) (.slice (some ⟨wq.heap.size, 0, none⟩) 0 0) 0 (ints []) rfl o0' ⟨g, 0, none⟩ (k + 1) _ (ints (flat3 (xs.take (k + 1)))) rfl (by rw [ints_length, flat3_length, List.length_take]; congr 1 <;> omega) (row_take (fun j hj => hcX _ B_u2 j hj) (by omega) HN.out) (ints_one _) (by unfold maxLen; omega) (by omega) B_u2.size ?_
                intro v1 u3 o1 gr1
                have B_u3 : Below wq.heap.size wq u3 := Below.grown B_u2 gr1 B_u2.size (fun q e => (o0'.lt q e).1)
                rw [show ints [] ++ ints (flat3 (xs.take (k + 1))) = ints (flat3 (xs.take (k + 1))) from rfl] at o1
                have c_u3 : u3.cell? ⟨(wq.heap.size + 1), 0, none⟩ = some (.int .i64 l1) ∧ u3.cell? ⟨(wq.heap.size + 1), 1, none⟩ = some (.int .i64 l2) ∧ u3.cell? ⟨(wq.heap.size + 1), 2, none⟩ = some (.int .i64 l3) := by
                  have hb := gr1.block (wq.heap.size + 1) (World.block_lt_of_cell? _ ⟨(wq.heap.size + 1), 0, none⟩ cf.1) (by intro e; first | (simp [Value.ownBlock] at e; done) | (simp [Value.ownBlock] at e; omega))
                  exact ⟨(World.cell?_of_block (a := ⟨(wq.heap.size + 1), 0, none⟩) hb).trans cf.1, (World.cell?_of_block (a := ⟨(wq.heap.size + 1), 1, none⟩) hb).trans cf.2.1, (World.cell?_of_block (a := ⟨(wq.heap.size + 1), 2, none⟩) hb).trans cf.2.2⟩
                clear gr1
                refine hK.out _ _ B_u3 (fun hHeld => ?_)
                clear hHeld hK K
                try simp only [Act.put, List.getElem_toArray, List.getElem_cons_zero, List.getElem_cons_succ, List.setIfInBounds_toArray, List.set_cons_zero, List.set_cons_succ]
                refine wpAnyH_ready (rs := [7]) (by kernel_rfl) (by simp) ?_
                refine AllReadyH.cons rfl (fun K hK => ?_) AllReadyH.nil
                refine step_append_own rfl _ _ 25 rfl wq.heap.size 49 i0 (.agg #[.int .i64 0, .int .i64 0, .int .i64 0]) 3 24 Try.underlying25 hi hz0 hz1 hz2 rfl (by decide) v1 (0 + (k + 1)) (ints (flat3 (xs.take (k + 1)))) rfl o1 ⟨wq.heap.size + 1, 0, none⟩ 1 1 [.int .i64 l1, .int .i64 l2, .int .i64 l3] rfl rfl (fun j u hj => ?nw) (ln_one _ _ _) (by unfold maxLen; omega) (by omega) B_u3.size ?_
                case nw => (match j, hj with
                  | 0, hj => simp at hj; subst hj; exact c_u3.1
                  | 1, hj => simp at hj; subst hj; exact c_u3.2.1
                  | 2, hj => simp at hj; subst hj; exact c_u3.2.2
                  | j + 3, hj => simp at hj)
                intro v2 wf o2 gr2
                have B_wf : Below wq.heap.size wq wf := Below.grown B_u3 gr2 B_u3.size (fun q e => (o1.lt q e).1)
                clear gr2
                refine hK.out _ _ B_wf (fun hHeld => ?_)
                clear hHeld hK K
                try simp only [Act.put, List.getElem_toArray, List.getElem_cons_zero, List.getElem_cons_succ, List.setIfInBounds_toArray, List.set_cons_zero, List.set_cons_succ]
                (refine wpAnyH_take (i := 8) (v := ?_) rfl (by kernel_rfl) (by kernel_rfl) (by kernel_rfl) (fun _ _ _ h => h) (Or.inl ⟨by rfl, ?_⟩) (by with_reducible assumption) ?_; rotate_left; (focus (intro wz hSw; (try dsimp only at hSw); go_simp; try with_reducible rfl)); try simp only [Act.put, List.getElem_toArray, List.getElem_cons_zero, List.getElem_cons_succ, List.setIfInBounds_toArray, List.set_cons_zero, List.set_cons_succ])
                refine wpAnyH_done (by kernel_rfl) ?_ _
                have o3 : wf.ownsRow wq.heap.size 49 3 v2 ((k + 1) + 1) (ints (flat3 ((xs.take (k + 1)) ++ [(l1, l2, l3)]))) := by rw [flat3_append, ints_append, Nat.zero_add] at *; exact o2
                obtain ⟨g6, c6, rfl⟩ := own_some o3 (by omega)
                go_wp2_with fail
                go_meet
                exact ⟨_, _, rfl, o3, B_wf⟩
            · go_simp
              have B_u0 : Below wq.heap.size wq (wq.alloc (.cells #[.int .i64 l1, .int .i64 l2, .int .i64 l3] 49)).drew := (by (repeat (first | with_reducible exact Below.refl _ _ | with_reducible refine balloc ?_ _ | with_reducible refine bdrewN ?_ _ | with_reducible refine Below.drew ?_ | with_reducible refine bthen ?_ (by with_reducible assumption) | with_reducible refine Below.setCell ?_ (by first | (simp; done) | (simp; omega)) _)))
              have cf : (wq.alloc (.cells #[.int .i64 l1, .int .i64 l2, .int .i64 l3] 49)).drew.cell? ⟨wq.heap.size, 0, none⟩ = some (.int .i64 l1) ∧ (wq.alloc (.cells #[.int .i64 l1, .int .i64 l2, .int .i64 l3] 49)).drew.cell? ⟨wq.heap.size, 1, none⟩ = some (.int .i64 l2) ∧ (wq.alloc (.cells #[.int .i64 l1, .int .i64 l2, .int .i64 l3] 49)).drew.cell? ⟨wq.heap.size, 2, none⟩ = some (.int .i64 l3) := ⟨kdrew (kfresh rfl rfl), kdrew (kfresh rfl rfl), kdrew (kfresh rfl rfl)⟩
              have sz_u0 : (wq.alloc (.cells #[.int .i64 l1, .int .i64 l2, .int .i64 l3] 49)).drew.heap.size = wq.heap.size + 1 := by simp
              refine hK.out _ _ B_u0 (fun hHeld => ?_)
              clear hHeld hK K
              try simp only [Act.put, List.getElem_toArray, List.getElem_cons_zero, List.getElem_cons_succ, List.setIfInBounds_toArray, List.set_cons_zero, List.set_cons_succ]
              obtain ⟨u0, hu0⟩ : ∃ X, X = (wq.alloc (.cells #[.int .i64 l1, .int .i64 l2, .int .i64 l3] 49)).drew := ⟨_, rfl⟩
              rw [← hu0] at cf B_u0 sz_u0 ⊢
              clear hu0
              refine wpAnyH_ready (rs := [0]) (by kernel_rfl) (by simp) ?_
              refine AllReadyH.cons rfl (fun K hK => ?_) AllReadyH.nil
              go_simp
              have o0 : (u0.alloc (.cells #[] 49)).ownsRow wq.heap.size 49 3 (.slice (some ⟨wq.heap.size + 1, 0, none⟩) 0 0) 0 (ints []) := own_lit0 _ _ _ B_u0.size sz_u0.symm
              have B_u1 : Below wq.heap.size wq (u0.alloc (.cells #[] 49)) := B_u0.alloc B_u0.size _
              have cf1 : (u0.alloc (.cells #[] 49)).cell? ⟨wq.heap.size, 0, none⟩ = some (.int .i64 l1) ∧ (u0.alloc (.cells #[] 49)).cell? ⟨wq.heap.size, 1, none⟩ = some (.int .i64 l2) ∧ (u0.alloc (.cells #[] 49)).cell? ⟨wq.heap.size, 2, none⟩ = some (.int .i64 l3) := ⟨kalloc _ cf.1, kalloc _ cf.2.1, kalloc _ cf.2.2⟩
              refine hK.out _ _ B_u1 (fun hHeld => ?_)
              clear hHeld hK K
              try simp only [Act.put, List.getElem_toArray, List.getElem_cons_zero, List.getElem_cons_succ, List.setIfInBounds_toArray, List.set_cons_zero, List.set_cons_succ]
              obtain ⟨u1, hu1⟩ : ∃ X, X = (u0.alloc (.cells #[] 49)) := ⟨_, rfl⟩
              rw [← hu1] at o0 B_u1 cf1 ⊢
              clear hu1
              clear cf
              have cf := cf1
              clear cf1
              refine wpAnyH_ready (rs := [4]) (by kernel_rfl) (by simp) ?_
              refine AllReadyH.cons rfl (fun K hK => ?_) AllReadyH.nil
              refine step_append_own rfl _ _ 25 rfl wq.heap.size 49 i0 (.agg #[.int .i64 0, .int .i64 0, .int .i64 0]) 3 24 Try.underlying25 hi hz0 hz1 hz2 rfl (by decide) (.slice (some ⟨wq.heap.size + 1, 0, none⟩) 0 0) 0 (ints []) rfl o0 ⟨g, 0, none⟩ (k + 1) _ (ints (flat3 (xs.take (k + 1)))) rfl (by rw [ints_length, flat3_length, List.length_take]; congr 1 <;> omega) (row_take (fun j hj => hcX _ B_u1 j hj) (by omega) HN.out) (ints_one _) (by unfold maxLen; omega) (by omega) B_u1.size ?_
              intro v1 u3 o1 gr1
              have B_u3 : Below wq.heap.size wq u3 := Below.grown B_u1 gr1 B_u1.size (fun q e => (o0.lt q e).1)
              rw [show ints [] ++ ints (flat3 (xs.take (k + 1))) = ints (flat3 (xs.take (k + 1))) from rfl] at o1
              have c_u3 : u3.cell? ⟨wq.heap.size, 0, none⟩ = some (.int .i64 l1) ∧ u3.cell? ⟨wq.heap.size, 1, none⟩ = some (.int .i64 l2) ∧ u3.cell? ⟨wq.heap.size, 2, none⟩ = some (.int .i64 l3) := by
                have hb := gr1.block wq.heap.size (World.block_lt_of_cell? _ ⟨wq.heap.size, 0, none⟩ cf.1) (by intro e; first | (simp [Value.ownBlock] at e; done) | (simp [Value.ownBlock] at e; omega))
                exact ⟨(World.cell?_of_block (a := ⟨wq.heap.size, 0, none⟩) hb).trans cf.1, (World.cell?_of_block (a := ⟨wq.heap.size, 1, none⟩) hb).trans cf.2.1, (World.cell?_of_block (a := ⟨wq.heap.size, 2, none⟩) hb).trans cf.2.2⟩
              clear gr1
              refine hK.out _ _ B_u3 (fun hHeld => ?_)
              clear hHeld hK K
              try simp only [Act.put, List.getElem_toArray, List.getElem_cons_zero, List.getElem_cons_succ, List.setIfInBounds_toArray, List.set_cons_zero, List.set_cons_succ]
              refine wpAnyH_ready (rs := [7]) (by kernel_rfl) (by simp) ?_
              refine AllReadyH.cons rfl (fun K hK => ?_) AllReadyH.nil
              refine step_append_own rfl _ _ 25 rfl wq.heap.size 49 i0 (.agg #[.int .i64 0, .int .i64 0, .int .i64 0]) 3 24 Try.underlying25 hi hz0 hz1 hz2 rfl (by decide) v1 (0 + (k + 1)) (ints (flat3 (xs.take (k + 1)))) rfl o1 ⟨wq.heap.size, 0, none⟩ 1 1 [.int .i64 l1, .int .i64 l2, .int .i64 l3] rfl rfl (fun j u hj => ?nw) (ln_one _ _ _) (by unfold maxLen; omega) (by omega) B_u3.size ?_
              case nw => (match j, hj with
                | 0, hj => simp at hj; subst hj; exact c_u3.1
                | 1, hj => simp at hj; subst hj; exact c_u3.2.1
                | 2, hj => simp at hj; subst hj; exact c_u3.2.2
                | j + 3, hj => simp at hj)
              intro v2 wf o2 gr2
              have B_wf : Below wq.heap.size wq wf := Below.grown B_u3 gr2 B_u3.size (fun q e => (o1.lt q e).1)
              clear gr2
              refine hK.out _ _ B_wf (fun hHeld => ?_)
              clear hHeld hK K
              try simp only [Act.put, List.getElem_toArray, List.getElem_cons_zero, List.getElem_cons_succ, List.setIfInBounds_toArray, List.set_cons_zero, List.set_cons_succ]
              (refine wpAnyH_take (i := 8) (v := ?_) rfl (by kernel_rfl) (by kernel_rfl) (by kernel_rfl) (fun _ _ _ h => h) (Or.inl ⟨by rfl, ?_⟩) (by with_reducible assumption) ?_; rotate_left; (focus (intro wz hSw; (try dsimp only at hSw); go_simp; try with_reducible rfl)); try simp only [Act.put, List.getElem_toArray, List.getElem_cons_zero, List.getElem_cons_succ, List.setIfInBounds_toArray, List.set_cons_zero, List.set_cons_succ])
              refine wpAnyH_done (by kernel_rfl) ?_ _
              have o3 : wf.ownsRow wq.heap.size 49 3 v2 ((k + 1) + 1) (ints (flat3 ((xs.take (k + 1)) ++ [(l1, l2, l3)]))) := by rw [flat3_append, ints_append, Nat.zero_add] at *; exact o2
              obtain ⟨g6, c6, rfl⟩ := own_some o3 (by omega)
              go_wp2_with fail
              go_meet
              exact ⟨_, _, rfl, o3, B_wf⟩
          case' rest => obtain ⟨g6, c6, rfl, o6, B6⟩ := hcut
          obtain ⟨w6, rfl⟩ : ∃ w6 : World, w6 = wc := ⟨_, rfl⟩
          have hc6 := hcX w6 B6
          by_cases hcp : cap = k + 1
          · have hn0 : xs.length ≤ (k + 1) := by have := HN.out; omega
            subst hcp
            go_wp2_with (at_builtin; refine wpList_append_own _ rfl _ _ 25 rfl wq.heap.size 49 i0 (.agg #[.int .i64 0, .int .i64 0, .int .i64 0]) 3 24 Try.underlying25 hi hz0 hz1 hz2 rfl (by decide) _ _ _ rfl o6 ⟨g, 0, none⟩ 0 0 (ints (flat3 (xs.drop (k + 1)))) rfl (by rw [ints_length, flat3_length, List.length_drop]; congr 1 <;> (have := HN.out; omega)) (by rw [List.drop_of_length_le hn0]; intro j u hj; simp [flat3, ints] at hj) (ints_one _) ?c3 ?c4 ?c5 ?_)
            case c3 => unfold maxLen; omega
            case c4 => omega
            case c5 => exact B6.size
            intro v8 w8 o8 gr8 _
            have B8 : Below wq.heap.size wq w8 := B6.grown gr8 B6.size (fun q e => (o6.lt q e).1)
            have HI := Lib.hid (put_at (l := (l1, l2, l3)) hs (k := (k + 1)) HD.out hlow)
            have HL : (insL xs (l1, l2, l3)).length = (k + 1) + 1 + 0 := by rw [HI.out, List.length_append, List.length_cons, List.length_take, List.length_drop]; have := HN.out; omega
            have o9 : w8.ownsRow base 49 3 v8 (insL xs (l1, l2, l3)).length (ints (flat3 (insL xs (l1, l2, l3)))) := by
              rw [HL, HI.out]
              have e : flat3 ((xs.take (k + 1)) ++ (l1, l2, l3) :: xs.drop (k + 1)) = flat3 ((xs.take (k + 1)) ++ [(l1, l2, l3)]) ++ flat3 (xs.drop (k + 1)) := by simp [flat3]
              rw [e, ints_append]
              exact own_base o8 (by have := hbX.size; omega)
            obtain ⟨g9, c9, rfl⟩ := own_some o9 (by omega)
            clear o8 gr8
            go_wp2
            (refine bodyPost_ret (v := .slice (some ⟨g9, 0, none⟩) (insL xs (l1, l2, l3)).length c9) (by simp [results, Try.results24, go_sem]) rfl ⟨g9, c9, rfl, o9, (hb1.trans (hbX.mono hb1.size)).trans (B8.mono (by have := hb1.size; have := hbX.size; omega))⟩)
          · go_wp2_with (at_builtin; refine wpList_append_own _ rfl _ _ 25 rfl wq.heap.size 49 i0 (.agg #[.int .i64 0, .int .i64 0, .int .i64 0]) 3 24 Try.underlying25 hi hz0 hz1 hz2 rfl (by decide) _ _ _ rfl o6 ⟨g, (k + 1) * 3, none⟩ (n - (k + 1)) (cap - (k + 1)) (ints (flat3 (xs.drop (k + 1)))) rfl (by rw [ints_length, flat3_length, List.length_drop]; congr 1 <;> (have := HN.out; omega)) (row_drop (k := (k + 1)) hc6 HN.out) (ints_one _) ?c3 ?c4 ?c5 ?_)
            case c3 => unfold maxLen; omega
            case c4 => omega
            case c5 => exact B6.size
            intro v8 w8 o8 gr8 _
            have B8 : Below wq.heap.size wq w8 := B6.grown gr8 B6.size (fun q e => (o6.lt q e).1)
            have HI := Lib.hid (put_at (l := (l1, l2, l3)) hs (k := (k + 1)) HD.out hlow)
            have HL : (insL xs (l1, l2, l3)).length = (k + 1) + 1 + (n - (k + 1)) := by rw [HI.out, List.length_append, List.length_cons, List.length_take, List.length_drop]; have := HN.out; omega
            have o9 : w8.ownsRow base 49 3 v8 (insL xs (l1, l2, l3)).length (ints (flat3 (insL xs (l1, l2, l3)))) := by
              rw [HL, HI.out]
              have e : flat3 ((xs.take (k + 1)) ++ (l1, l2, l3) :: xs.drop (k + 1)) = flat3 ((xs.take (k + 1)) ++ [(l1, l2, l3)]) ++ flat3 (xs.drop (k + 1)) := by simp [flat3]
              rw [e, ints_append]
              exact own_base o8 (by have := hbX.size; omega)
            obtain ⟨g9, c9, rfl⟩ := own_some o9 (by omega)
            clear o8 gr8
            go_wp2
            (refine bodyPost_ret (v := .slice (some ⟨g9, 0, none⟩) (insL xs (l1, l2, l3)).length c9) (by simp [results, Try.results24, go_sem]) rfl ⟨g9, c9, rfl, o9, (hb1.trans (hbX.mono hb1.size)).trans (B8.mono (by have := hb1.size; have := hbX.size; omega))⟩)
        · have HI := Lib.hid (show insL xs (l1, l2, l3) = xs from put_there hs (by have h := HBQ.out; simp at h; have h2 := HMX.out; rw [h.1.1, h.1.2, h.2] at h2; exact h2))
          have ho : (wb.drew).ownsRow base 49 3 (.slice (some ⟨g, 0, none⟩) n cap) n (ints (flat3 xs)) := own_call hown1 (Below.drew hbb)
          have hbf : Below w.heap.size w wb.drew := hb1.trans ((Below.drew hbb).mono hb1.size)
          go_wp2
          (refine bodyPost_ret (v := .slice (some ⟨g, 0, none⟩) n cap) (by simp [results, Try.results24, go_sem]) rfl ⟨g, cap, by rw [HI.out, ← HN.out], by rw [HI.out, ← HN.out]; exact ho, hbf⟩)
      · have hlt : lt3 (l1, l2, l3) (x1, x2, x3) := of_decide_eq_true HBO.out.symm
        have HD2 := Lib.hid (show ∀ z ∈ xs.drop k, lt3 (l1, l2, l3) z from by rw [HDK.out]; intro z hz; rcases List.mem_cons.1 hz with rfl | hz; exact hlt; exact HD.out z hz)
        clear hlt
        go_wp2
        go_roundw
        case rel => exact ⟨k, by omega, by go_num, HD2.out, hbb⟩
        case measure => simp [intOf]

end Go.Proofs.Ytmpgpmcmhbpjeab
