/-
  impl.allPoints and its iterator: all points of the plane, row by row.
-/
import Derived.Test.YtibfbdgenamlkaaBtw
import Derived.Test.YtibfbdgenamlkaaRows
import Derived.Lib.Hide
namespace Go.Proofs.Ytibfbdgenamlkaa
open Go.RowKit Go.Shelf

attribute [local go_sem] Oper.semAt_some

/-- All points: the rows below x, and of row x those below y. -/
def tt2 (_ _ : Int) : Bool := true
def allL (m x y : Nat) : List (Int × Int) := gridL tt2 m x ++ rowL tt2 x y
theorem rowT_len (x y : Nat) : (rowL tt2 x y).length = y := by rw [rowL, filter_all (f := fun b : Nat => tt2 (x : Int) (b : Int)) fun _ _ => rfl]; simp
theorem gridT_len (m x : Nat) : (gridL tt2 m x).length = x * m := by
  induction x with
  | zero => simp [gridL]
  | succ x ih => rw [gridL_succ, List.length_append, ih, rowT_len, Nat.add_mul, Nat.one_mul]
theorem allL_len (m x y : Nat) : (allL m x y).length = x * m + y := by rw [allL, List.length_append, gridT_len, rowT_len]
theorem allL_zero (m x : Nat) : allL m x 0 = gridL tt2 m x := by simp [allL, rowL]
theorem allL_next (m x y : Nat) : allL m x (y + 1) = allL m x y ++ [((x : Int), (y : Int))] := by
  rw [allL, rowL_yes (f := tt2) rfl, ← List.append_assoc]; rfl
theorem allL_row (m x : Nat) : allL m x m = allL m (x + 1) 0 := by rw [allL_zero, gridL_succ, allL]
theorem gridT_pre (m : Nat) {x n : Nat} (h : x ≤ n) : gridL tt2 m x <+: gridL tt2 m n := by
  induction n with
  | zero => rw [Nat.le_zero.1 h]; exact List.prefix_refl _
  | succ n ih =>
    by_cases e : x = n + 1
    · rw [e]; exact List.prefix_refl _
    · exact (ih (by omega)).trans ⟨_, (gridL_succ _ _ _).symm⟩
theorem rowT_pre (x : Nat) {y m : Nat} (h : y ≤ m) : rowL tt2 x y <+: rowL tt2 x m := by
  induction m with
  | zero => rw [Nat.le_zero.1 h]; exact List.prefix_refl _
  | succ m ih =>
    by_cases e : y = m + 1
    · rw [e]; exact List.prefix_refl _
    · exact (ih (by omega)).trans ⟨_, (rowL_yes (f := tt2) rfl).symm⟩
theorem allL_pre {m x y : Nat} (hx : x < m) (hy : y ≤ m) : allL m x y <+: gridL tt2 m m := by
  have h1 : allL m x y <+: gridL tt2 m (x + 1) := by
    rw [gridL_succ, allL]; exact (List.prefix_append_right_inj _).2 (rowT_pre x hy)
  exact h1.trans (gridT_pre m (by omega))

/-- A point whose numbers are small: what a loop over all points is handed. -/
abbrev Pt32 := Fin 32 × Fin 32
def toF (z : Int × Int) : Pt32 := (Fin.ofNat 32 z.1.toNat, Fin.ofNat 32 z.2.toNat)
def toP (x : Pt32) : Int × Int := ((x.1.val : Int), (x.2.val : Int))
def allF (m x y : Nat) : List Pt32 := (allL m x y).map toF
theorem allF_len (m x y : Nat) : (allF m x y).length = x * m + y := by rw [allF, List.length_map, allL_len]
theorem allF_next (m x y : Nat) : allF m x (y + 1) = allF m x y ++ [toF ((x : Int), (y : Int))] := by simp [allF, allL_next]
theorem allF_row (m x : Nat) : allF m x m = allF m (x + 1) 0 := by rw [allF, allL_row]; rfl
theorem toP_toF {x y : Nat} (hx : x < 32) (hy : y < 32) : toP (toF ((x : Int), (y : Int))) = ((x : Int), (y : Int)) := by
  simp [toP, toF, Fin.ofNat, Nat.mod_eq_of_lt hx, Nat.mod_eq_of_lt hy]
theorem allF_back {m x : Nat} (hm : m ≤ 32) (hx : x ≤ 32) : (allF m x 0).map toP = gridL tt2 m x := by
  rw [allF, allL_zero, List.map_map]
  have : ∀ z ∈ gridL tt2 m x, (toP ∘ toF) z = id z := by
    intro z hz
    rw [gridL, List.mem_flatMap] at hz
    obtain ⟨a, ha, hz⟩ := hz
    rw [rowL, List.mem_map] at hz
    obtain ⟨b, hb, rfl⟩ := hz
    have h1 := List.mem_range.1 ha
    have h2 := List.mem_range.1 (List.mem_filter.1 hb).1
    exact toP_toF (by omega) (by omega)
  rw [List.map_congr_left this, List.map_id]
theorem allF_pre {m x y : Nat} (hx : x < m) (hy : y ≤ m) : allF m x y <+: allF m m 0 := by
  have h := allL_pre hx hy
  obtain ⟨t, ht⟩ := h
  exact ⟨t.map toF, by rw [allF, allF, allL_zero, ← ht, List.map_append]⟩

set_option maxRecDepth 20000 in
set_option maxHeartbeats 400000 in
theorem allPoints_any (p : Int) (w : World) :
    Calls Try.prog 78 #[.int .i64 p] w fun e w' => e = .returned (.func (.func 95) #[] #[.pointer (some ⟨w.heap.size, 0, none⟩)]) ∧ w' = w.alloc (.cells #[.int .i64 p] 2) := by
  go_enter Try.func78, Try.ntmps78
  go_wp2
  go_ret
  exact ⟨rfl, rfl⟩

set_option maxRecDepth 100000 in
set_option maxRecDepth 20000 in
set_option maxHeartbeats 1000000 in
theorem seqAll_in (n l b0 lo hi : Nat) (p : Int) (hn : 1 ≤ n) (hp : isP p = true) (J Jx : List Pt32 → World → Prop)
    (W : World) (hY : ∀ pre x W1, J pre W1 → pre.length < p.toNat * p.toNat → YieldAt Fence.wide (n - 1) Try.prog l #[ptV (toP x)] W1 fun e W' =>
      (e = .returned (.bool true) ∧ J (pre ++ [x]) W' ∧ Btw lo hi W1 W') ∨ (e = .returned (.bool false) ∧ Jx (pre ++ [x]) W'))
    (h0 : W.cell? ⟨b0, 0, none⟩ = some (.int .i64 p)) (g0 : lo ≤ b0 ∧ b0 < hi) (hst : J [] W) :
    CallsIn Fence.wide n Try.prog 95 #[.func (.yield l) #[] #[], .pointer (some ⟨b0, 0, none⟩)] W fun e W' => (∃ v, e = .returned v) ∧
      ((∃ ys, ys = allF p.toNat p.toNat 0 ∧ J ys W') ∨ (∃ pre, pre <+: allF p.toNat p.toNat 0 ∧ Jx pre W')) := by
  have hr := isP_range hp
  have hc0 : (p.toNat : Int) = p := Int.toNat_of_nonneg (by omega)
  have HC0 := Lib.hid hc0
  clear hc0
  refine callsIn_of_wp Try.func95 rfl trivial ?_ rfl
  simp only [Try.ntmps95, List.size_toArray, List.length_cons, List.length_nil, Nat.reduceAdd, Nat.reduceSub, Array.replicate_succ, Array.replicate_zero, List.push_toArray, List.append_toArray, List.nil_append, List.cons_append]
  gi_wp2
  gi_loopw [3, 4, 6] (fun _ _ i wr => ∃ x : Nat, (x : Int) ≤ p ∧ i = .int .i64 x ∧ J (allF p.toNat x 0) wr ∧ Btw lo hi W wr) (fun _ _ i _ => p.toNat - (intOf i).toNat)
  case atStart => exact ⟨0, by omega, rfl, hst, btw_refl _ _ _⟩
  case round =>
    obtain ⟨x, hx, rfl, hJx', hbel⟩ := hrel
    obtain ⟨wo, rfl⟩ : ∃ wo : World, wo = wr := ⟨_, rfl⟩
    by_cases hlt : (x : Int) < p
    · have c0 : wo.cell? ⟨b0, 0, none⟩ = some (.int .i64 p) := (btw_cell hbel g0.1 g0.2 0).trans h0
      have HR := Lib.hid (allF_row p.toNat x)
      gi_wp2
      gi_loopw [4, 10] (fun _ j wr => ∃ y : Nat, (y : Int) ≤ p ∧ j = .int .i64 y ∧ J (allF p.toNat x y) wr ∧ Btw lo hi W wr) (fun _ j _ => p.toNat - (intOf j).toNat)
      case atStart => exact ⟨0, by omega, rfl, hJx', hbel⟩
      case round =>
        obtain ⟨y, hy, rfl, hJy, hbel⟩ := hrel
        by_cases hlty : (y : Int) < p
        · have HS := Lib.hid (allF_next p.toNat x y)
          have hxm : x < p.toNat ∧ y < p.toNat := by have := HC0.out; omega
          have hlen : (allF p.toNat x y).length < p.toNat * p.toNat := by
            rw [allF_len]
            have := Nat.mul_le_mul_right p.toNat (show x + 1 ≤ p.toNat by omega)
            rw [Nat.add_mul] at this; omega
          obtain ⟨fn, tmps, assign, body, hyy, hR⟩ := hY (allF p.toNat x y) (toF ((x : Int), (y : Int))) wr hJy hlen
          rw [toP_toF (by omega) (by omega)] at hyy
          dsimp only [ptV] at hyy
          clear hlen
          gi_wp2
          refine hR.mono ?_
          rintro e W3 (⟨rfl, hJ3, hk3⟩ | ⟨rfl, hJx3⟩)
          · gi_wp2
            go_roundw
            case rel => exact ⟨y + 1, by omega, by go_num, by rw [HS.out]; exact hJ3, btw_trans hbel hk3⟩
            case measure => have := HC0.out; simp [intOf]; omega
          · gi_wp2
            refine bodyPost_ret (results_none rfl _ _ _) rfl ?_
            exact ⟨⟨_, rfl⟩, .inr ⟨_, by rw [← HS.out]; exact allF_pre hxm.1 (by omega), hJx3⟩⟩
        · have e : y = p.toNat := by have := HC0.out; omega
          have HE := Lib.hid e
          clear e
          gi_wp2
          go_roundw
          case rel => exact ⟨x + 1, by omega, by go_num, by rw [← HR.out]; have h := hJy; rw [HE.out] at h; exact h, hbel⟩
          case measure => have := HC0.out; simp [intOf]; omega
    · have e : x = p.toNat := by have := HC0.out; omega
      have HE := Lib.hid e
      clear e
      gi_wp2
      go_end0
      exact ⟨⟨_, rfl⟩, .inl (by have := hJx'; rw [HE.out] at this; exact this)⟩

theorem seqAll_stops (n b0 lo hi : Nat) (p : Int) (hn : 1 ≤ n) (hp : isP p = true) (w : World)
    (h0 : w.cell? ⟨b0, 0, none⟩ = some (.int .i64 p)) (g0 : lo ≤ b0 ∧ b0 < hi) (hhi : hi ≤ w.heap.size) :
    SeqStopsK Fence.wide n Try.prog 95 #[.pointer (some ⟨b0, 0, none⟩)] (fun x => #[ptV (toP x)]) (Btw lo hi)
      (fun ys => ys = allF p.toNat p.toNat 0) (fun pre => pre <+: allF p.toNat p.toNat 0) (p.toNat * p.toNat) w := fun l J Jx W hW _ _ hY hst =>
  seqAll_in n l b0 lo hi p hn hp J Jx W hY ((cell_old hW (by omega) 0).trans h0) g0 hst

end Go.Proofs.Ytibfbdgenamlkaa
