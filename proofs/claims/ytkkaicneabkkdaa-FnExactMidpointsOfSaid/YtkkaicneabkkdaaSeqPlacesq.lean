/-
  impl.allPlaces and its iterator: all places, in order.
-/
import Derived.Test.YtkkaicneabkkdaaKeepGq

namespace Go.Proofs.Ytkkaicneabkkdaa
open Go.RowKit Go.Shelf

attribute [local go_sem] Oper.semAt_some

/-- A place whose numbers are small: what a loop over all places is handed. -/
abbrev Pl32 := Fin 32 × Pt32
def toQ (x : Pl32) : Int × Int × Int := ((x.1.val : Int), (x.2.1.val : Int), (x.2.2.val : Int))
def plV (x : Int × Int × Int) : Value := .agg #[.int .i64 x.1, .int .i64 x.2.1, .int .i64 x.2.2]
def q00 : Pl32 := (0, 0, 1)
def q01 (z : Nat) : Pl32 := (0, 1, Fin.ofNat 32 z)
def q11 (a : Pt32) : Pl32 := (1, a)
def allQ1 (k : Nat) : List Pl32 := q00 :: (List.range k).map q01
def allQ2 (m : Nat) (L : List Pt32) : List Pl32 := allQ1 m ++ L.map q11
def allQ (m : Nat) : List Pl32 := allQ2 m (allF m m 0)
theorem allQ1_succ (k : Nat) : allQ1 (k + 1) = allQ1 k ++ [q01 k] := by simp [allQ1, List.range_succ]
theorem allQ1_len (k : Nat) : (allQ1 k).length = k + 1 := by simp [allQ1]
theorem allQ2_snoc (m : Nat) (L : List Pt32) (a : Pt32) : allQ2 m (L ++ [a]) = allQ2 m L ++ [q11 a] := by simp [allQ2]
theorem allQ2_nil (m : Nat) : allQ2 m [] = allQ1 m := by simp [allQ2]
theorem allQ2_len (m : Nat) (L : List Pt32) : (allQ2 m L).length = m + 1 + L.length := by simp [allQ2, allQ1_len]
theorem allQ1_pre1 {k m : Nat} (h : k ≤ m) : allQ1 k <+: allQ1 m := by
  refine ⟨(List.range (m - k)).map fun i => q01 (k + i), ?_⟩
  have e : List.range m = List.range k ++ (List.range (m - k)).map (k + ·) := by
    conv => lhs; rw [show m = k + (m - k) by omega, List.range_add]
  simp [allQ1, e, List.map_map, Function.comp_def]
theorem allQ1_pre {k m : Nat} (h : k ≤ m) (L : List Pt32) : allQ1 k <+: allQ2 m L := (allQ1_pre1 h).trans ⟨_, rfl⟩
theorem allQ2_pre (m : Nat) {L M : List Pt32} (h : L <+: M) : allQ2 m L <+: allQ2 m M := by
  obtain ⟨t, rfl⟩ := h
  exact ⟨t.map q11, by simp [allQ2]⟩
theorem allQ_len (m : Nat) : (allQ m).length = m + 1 + m * m := by rw [allQ, allQ2_len, allF_len]; simp

set_option maxRecDepth 20000 in
set_option maxHeartbeats 400000 in
theorem allPlaces_any (p : Int) (w : World) :
    Calls Try.prog 48 #[.int .i64 p] w fun e w' => e = .returned (.func (.func 87) #[] #[.pointer (some ⟨w.heap.size, 0, none⟩)]) ∧ w' = w.alloc (.cells #[.int .i64 p] 2) := by
  go_enter Try.func48, Try.ntmps48
  go_wp2
  go_ret
  exact ⟨rfl, rfl⟩

set_option maxRecDepth 100000 in
set_option maxRecDepth 20000 in
set_option maxHeartbeats 4000000 in
theorem seqPl_in (l b0 lo hi N : Nat) (ts : TypeId → Prop) (p : Int) (hp : isP p = true) (ht1 : ¬ ts 71) (ht2 : ¬ ts 2) (J Jx : List Pl32 → World → Prop) (W : World)
    (hN : N ≤ W.heap.size) (hJ : OwnFrom W.heap.size J) (hJx : OwnFrom W.heap.size Jx)
    (hY : ∀ pre x W1, J pre W1 → pre.length < p.toNat + 1 + p.toNat * p.toNat → YieldAt Fence.wide 7 Try.prog l #[plV (toQ x)] W1 fun e W' =>
      (e = .returned (.bool true) ∧ J (pre ++ [x]) W' ∧ KeepG lo hi N ts W1 W' ∧ KeepsFrom W.heap.size W1 W') ∨ (e = .returned (.bool false) ∧ Jx (pre ++ [x]) W' ∧ KeepsFrom W.heap.size W1 W'))
    (h1 : W.cell? ⟨b0, 0, none⟩ = some (.int .i64 p)) (g1 : lo ≤ b0 ∧ b0 < hi) (hhi : hi ≤ W.heap.size) (hst : J [] W) :
    CallsIn Fence.wide 8 Try.prog 87 #[.func (.yield l) #[] #[], .pointer (some ⟨b0, 0, none⟩)] W fun e W' => (∃ v, e = .returned v) ∧
      ((∃ ys, ys = allQ p.toNat ∧ J ys W') ∨ (∃ pre, pre <+: allQ p.toNat ∧ Jx pre W')) := by
  have hr := isP_range hp
  have hc0 : (p.toNat : Int) = p := Int.toNat_of_nonneg (by omega)
  have HC0 := Lib.hid hc0
  clear hc0
  have hY' : ∀ (x : Pl32) (y1 y2 y3 : Int), toQ x = (y1, y2, y3) → ∀ pre W1, J pre W1 → pre.length < p.toNat + 1 + p.toNat * p.toNat → YieldAt Fence.wide 7 Try.prog l #[.agg #[.int .i64 y1, .int .i64 y2, .int .i64 y3]] W1 fun e W' =>
      (e = .returned (.bool true) ∧ J (pre ++ [x]) W' ∧ KeepG lo hi N ts W1 W' ∧ KeepsFrom W.heap.size W1 W') ∨ (e = .returned (.bool false) ∧ Jx (pre ++ [x]) W' ∧ KeepsFrom W.heap.size W1 W') := fun x y1 y2 y3 e pre W1 hj hl => by have h := hY pre x W1 hj hl; rw [e] at h; exact h
  have HY := Lib.hid hY'
  clear hY'
  refine callsIn_of_wp_marks Try.func87 rfl trivial ?_ rfl
  simp only [Try.ntmps87, List.size_toArray, List.length_cons, List.length_nil, Nat.reduceAdd, Nat.reduceSub, Array.replicate_succ, Array.replicate_zero, List.push_toArray, List.append_toArray, List.nil_append, List.cons_append]
  have bY0 : Boxed (W.alloc (.cells #[.func (.yield l) #[] #[]] 71)) W.heap.size 71 (.func (.yield l) #[] #[]) := Boxed.new W _ _
  have cY0 := bY0.cell
  have hJ0 : J [] (W.alloc (.cells #[.func (.yield l) #[] #[]] 71)) := hJ.alloc _ hst
  obtain ⟨fn, tmps, assign, body, hyy, hR⟩ := HY.out q00 0 0 1 rfl [] _ hJ0 (by simp; omega)
  have hbt0 : Btw lo hi W (W.alloc (.cells #[.func (.yield l) #[] #[]] 71)) := btw_alloc _ _ hhi
  have hs0 : (W.alloc (.cells #[.func (.yield l) #[] #[]] 71)).heap.size = W.heap.size + 1 := by simp
  gi_wp2
  refine hR.mono ?_
  rintro e W3 (⟨rfl, hJ3, hk3, hf3⟩ | ⟨rfl, hJx3, hf3⟩)
  · have bY3 : Boxed W3 W.heap.size 71 (.func (.yield l) #[] #[]) := kg_box hk3 hN ht1 bY0
    have hb3 : Btw lo hi W W3 := btw_trans hbt0 hk3.1
    have hs3 : W.heap.size + 1 ≤ W3.heap.size := by have := hk3.1.1; omega
    have c3 : W3.cell? ⟨b0, 0, none⟩ = some (.int .i64 p) := (btw_cell hb3 g1.1 g1.2 0).trans h1
    clear hyy hR cY0 hJ0 hbt0 hs0
    gi_wp2
    gi_loopw [3, 10] (fun _ i wr => ∃ z : Nat, (z : Int) ≤ p ∧ i = .int .i64 z ∧ J (allQ1 z) wr ∧ Boxed wr W.heap.size 71 (.func (.yield l) #[] #[]) ∧ Btw lo hi W wr ∧ W.heap.size + 1 ≤ wr.heap.size) (fun _ i _ => p.toNat - (intOf i).toNat)
    case atStart => exact ⟨0, by omega, rfl, hJ3, bY3, hb3, hs3⟩
    case round =>
      obtain ⟨z, hz, rfl, hJz, bYz, hbz, hsz⟩ := hrel
      obtain ⟨wo, rfl⟩ : ∃ wo : World, wo = wr := ⟨_, rfl⟩
      by_cases hlt : (z : Int) < p
      · have HS := Lib.hid (allQ1_succ z)
        have cYz := bYz.cell
        have hzm : z < p.toNat := by have := HC0.out; omega
        obtain ⟨fn, tmps, assign, body, hyy, hR⟩ := HY.out (q01 z) 0 1 z (by have := HC0.out; simp [toQ, q01, Fin.ofNat]; omega) (allQ1 z) wo hJz (by rw [allQ1_len]; omega)
        gi_wp2
        refine hR.mono ?_
        rintro e W4 (⟨rfl, hJ4, hk4, hf4⟩ | ⟨rfl, hJx4, hf4⟩)
        · gi_wp2
          go_roundw
          case rel => exact ⟨z + 1, by omega, by go_num, by rw [HS.out]; exact hJ4, kg_box hk4 hN ht1 bYz, btw_trans hbz hk4.1, by have := hk4.1.1; omega⟩
          case measure => have := HC0.out; simp [intOf]; omega
        · gi_wp2
          exact ⟨_, results_none rfl _ _ _, ⟨_, rfl⟩, .inr ⟨_, by rw [← HS.out]; exact allQ1_pre (by omega) _, hJx4⟩⟩
      · have e : z = p.toNat := by have := HC0.out; omega
        subst e
        have cYz := bYz.cell
        have cz : wo.cell? ⟨b0, 0, none⟩ = some (.int .i64 p) := (btw_cell hbz g1.1 g1.2 0).trans h1
        gi_wp2_with fail
        refine ⟨trivial, CallsIn.mono (callsIn_wide.2 (allPoints_any _ _)) ?_⟩
        rintro e w' ⟨rfl, rfl⟩
        gi_wp2_with fail
        have hb0 : W.heap.size < wo.heap.size := by omega
        have bYn : Boxed (wo.alloc (.cells #[.int .i64 p] 2)) W.heap.size 71 (.func (.yield l) #[] #[]) := bYz.alloc _
        have bPn : Boxed (wo.alloc (.cells #[.int .i64 p] 2)) wo.heap.size 2 (.int .i64 p) := Boxed.new wo _ _
        have hJn : J (allQ2 p.toNat []) (wo.alloc (.cells #[.int .i64 p] 2)) := by rw [allQ2_nil]; exact hJ.alloc _ hJz
        have hbn : Btw lo hi W (wo.alloc (.cells #[.int .i64 p] 2)) := btw_trans hbz (btw_alloc _ _ (by omega))
        have hsn : (wo.alloc (.cells #[.int .i64 p] 2)).heap.size = wo.heap.size + 1 := by simp
        obtain ⟨Wn, hWn⟩ : ∃ Wn, Wn = wo.alloc (.cells #[.int .i64 p] 2) := ⟨_, rfl⟩
        rw [← hWn] at bYn bPn hJn hbn hsn ⊢
        clear hWn
        have qP := bPn.cell
        refine wpIn_rangeFunc_ownH rfl (by decide) (gf := 101) (lb := #[.pointer (some ⟨wo.heap.size, 0, none⟩)]) rfl trivial (enters_of Try.func101 (by kernel_rfl) rfl)
          (seqAll_stops 7 wo.heap.size wo.heap.size (wo.heap.size + 1) p (by decide) hp Wn qP ⟨Nat.le_refl _, Nat.lt_succ_self _⟩ (by omega)) btw_trans (btw_putObj (by omega)) (Below.refl _ _) (fun _ => rfl)
          (fun pre X => J (allQ2 p.toNat pre) X ∧ ((Boxed X W.heap.size 71 (.func (.yield l) #[] #[]) ∧ Boxed X wo.heap.size 2 (.int .i64 p)) ∧ (Btw lo hi W X ∧ wo.heap.size + 1 ≤ X.heap.size)))
          (fun cd pre X => cd = .ret ∧ Jx (allQ2 p.toNat pre) X)
          (OwnFrom.and (fun s X Y row hs hg hr => own_later hJ (by omega) _ X Y row hs hg hr) (OwnFrom.and (OwnFrom.and (Own.from (boxed_own _ _ _) _) (Own.from (boxed_own _ _ _) _)) (OwnFrom.and (btw_ownLe (by omega)) (size_own _ _))))
          (fun cd s X Y row hs hg hr => ⟨hs.1, own_later hJx (by omega) _ X Y row hs.2 hg hr⟩)
          ⟨hJn, ⟨bYn, bPn⟩, hbn, by omega⟩
          (fun x a' X => ∃ (Bx : Nat) (u3 u5 u6 u7 u8 u9 u10 u11 u12 u13 u14 u15 u16 u17 u18 u19 u20 : Value), wo.heap.size + 1 ≤ Bx ∧ Box2 X Bx 41 (toP x) ∧ a' = { tmps := #[.func (.yield l) #[] #[], .pointer (some ⟨b0, 0, none⟩), .pointer (some ⟨W.heap.size, 0, none⟩), u3, .pointer (some ⟨Bx, 0, none⟩), u5, u6, u7, u8, u9, u10, u11, u12, u13, u14, u15, u16, u17, u18, u19, u20, .agg #[.int .i64 (x.1.val : Int), .int .i64 (x.2.val : Int)], undef, undef, undef, undef, undef, undef, undef, undef], defers := [] })
          (fun x a' _ X Y row hs hg hr => by obtain ⟨Bx, u3, u5, u6, u7, u8, u9, u10, u11, u12, u13, u14, u15, u16, u17, u18, u19, u20, h1, h2, h3⟩ := hs; exact ⟨Bx, u3, u5, u6, u7, u8, u9, u10, u11, u12, u13, u14, u15, u16, u17, u18, u19, u20, h1, box2_own Bx Wn.heap.size 41 (toP x) () X Y row h2 hg hr, h3⟩)
          ?assign ?body ?done ?stop
        case assign =>
          rintro l' pre x X K ⟨hj, ⟨by1, bp1⟩, hb, hs⟩ hK
          obtain ⟨⟨x1, hx1⟩, ⟨x2, hx2⟩⟩ := x
          simp only [ptV, toP]
          gi_wp2
          exact hK _ _ ((KeepsOthers.alloc _ _).from _) (btw_alloc _ _ (by omega)) ⟨own_later hJ (by omega : W.heap.size ≤ Wn.heap.size) |>.alloc _ hj, ⟨by1.alloc _, bp1.alloc _⟩, btw_trans hb (btw_alloc _ _ (by omega)), by simp; omega⟩ ⟨X.heap.size, _, _, _, _, _, _, _, _, _, _, _, _, _, _, _, _, _, hs, box2_new X _ (toP ((⟨x1, hx1⟩, ⟨x2, hx2⟩) : Pt32)), rfl⟩
        case body =>
          rintro l' pre x a' X hl ⟨r, hr'⟩ ⟨hj, ⟨by1, bp1⟩, hb, hs⟩ ⟨Bx, u3, u5, u6, u7, u8, u9, u10, u11, u12, u13, u14, u15, u16, u17, u18, u19, u20, hBx, hX, rfl⟩ hlt
          have hX1 := box2_cell1 hX
          have hX2 := box2_cell2 hX
          have hyc := by1.cell
          have HS := Lib.hid (allQ2_snoc p.toNat pre x)
          obtain ⟨⟨x1, hx1⟩, ⟨x2, hx2⟩⟩ := x
          simp only [toP] at hX1 hX2
          obtain ⟨fn, tmps, assign, body, hy, hR⟩ := yield_wide (m' := 5) (l' := l') (HY.out (q11 (⟨x1, hx1⟩, ⟨x2, hx2⟩)) 1 x1 x2 rfl (allQ2 p.toNat pre) X hj (by rw [allQ2_len]; omega))
          gi_wp2
          refine hR.mono ?_
          rintro e W3 (⟨rfl, hJ3, hk3, hf3⟩ | ⟨rfl, hJx3, hf3⟩)
          · have by3 : Boxed W3 W.heap.size 71 (.func (.yield l) #[] #[]) := kg_box hk3 hN ht1 by1
            have bp3 : Boxed W3 wo.heap.size 2 (.int .i64 p) := kg_box hk3 (by omega) ht2 bp1
            have hs3 := hk3.1.1
            have hbk : ∀ k : Nat, wo.heap.size ≤ k → k < wo.heap.size + 1 → W3.heap[k]? = X.heap[k]? := fun k q1 q2 => by
              have e : k = wo.heap.size := by omega
              rw [e]
              exact (show W3.heap[wo.heap.size]? = _ from bp3).trans (show X.heap[wo.heap.size]? = _ from bp1).symm
            gi_wp2
            exact ⟨⟨hf3.size, fun i o hB => hf3.same i o (by omega)⟩, ⟨hs3, hbk⟩, by rw [HS.out]; exact hJ3, ⟨by3, bp3⟩, btw_trans hb hk3.1, by omega⟩
          · gi_wp2
            exact ⟨⟨hf3.size, fun i o hB => hf3.same i o (by omega)⟩, rfl, by rw [HS.out]; exact hJx3⟩
        case done =>
          rintro D ys X hD rfl ⟨hj, ⟨by1, bp1⟩, hb, hs⟩ hK
          gi_wp2
          refine ⟨by simp, .inl ⟨_, _, rfl, run_takeDeferred hK, ?_⟩⟩
          exact ⟨_, results_none rfl _ _ _, ⟨_, rfl⟩, .inl ⟨_, rfl, (own_later hJ (by omega : W.heap.size ≤ Wn.heap.size)).putObj _ hj hD hK rfl⟩⟩
        case stop =>
          rintro D cd pre X hD hpre ⟨rfl, hjx⟩ hK
          gi_wp2
          refine ⟨by simp, .inl ⟨_, _, rfl, run_takeDeferred hK, ?_⟩⟩
          exact ⟨_, results_none rfl _ _ _, ⟨_, rfl⟩, .inr ⟨_, allQ2_pre _ hpre, (own_later hJx (by omega : W.heap.size ≤ Wn.heap.size)).putObj _ hjx hD hK rfl⟩⟩
  · gi_wp2
    exact ⟨_, results_none rfl _ _ _, ⟨_, rfl⟩, .inr ⟨_, allQ1_pre (k := 0) (by omega) _, hJx3⟩⟩

theorem seqPl_on (b0 lo hi N : Nat) (ts : TypeId → Prop) (p : Int) (hp : isP p = true) (ht1 : ¬ ts 71) (ht2 : ¬ ts 2) (w : World) (hN : N ≤ w.heap.size)
    (h1 : w.cell? ⟨b0, 0, none⟩ = some (.int .i64 p)) (g1 : lo ≤ b0 ∧ b0 < hi) (hhi : hi ≤ w.heap.size) :
    SeqOn Fence.wide 8 Try.prog 87 #[.pointer (some ⟨b0, 0, none⟩)] (fun x : Pl32 => #[plV (toQ x)]) (KeepG lo hi N ts)
      (fun ys => ys = allQ p.toNat) (fun pre => pre <+: allQ p.toNat) (p.toNat + 1 + p.toNat * p.toNat) w := fun l J Jx W hW hJ hJx hY hst =>
  seqPl_in l b0 lo hi N ts p hp ht1 ht2 J Jx W (by have := hW.size; omega) hJ hJx hY ((cell_old hW (by omega) 0).trans h1) g1 (by have := hW.size; omega) hst

end Go.Proofs.Ytkkaicneabkkdaa
