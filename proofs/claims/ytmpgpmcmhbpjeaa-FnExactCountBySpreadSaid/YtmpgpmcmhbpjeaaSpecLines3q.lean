/-
  spec.l03Lines: the lines through a point that are not null, in order.
-/
import Derived.Test.YtmpgpmcmhbpjeaaMgq0
import Derived.Test.YtmpgpmcmhbpjeaaLnCellsq
import Derived.Test.YtmpgpmcmhbpjeaaGrowq
import Derived.Test.YtmpgpmcmhbpjeaaKeepDrewq
import Derived.Test.YtmpgpmcmhbpjeaaLastq
import Derived.Maps.AppendAt
import Derived.OwnWalk
import Derived.Lib.Hide

namespace Go.Proofs.Ytmpgpmcmhbpjeaa
open Go.RowKit

theorem flat3_at (xs : List (Int × Int × Int)) (j : Nat) (h : j < xs.length) : (flat3 xs).getD (j * 3) 0 = xs[j].1 ∧ (flat3 xs).getD (j * 3 + 1) 0 = xs[j].2.1 ∧ (flat3 xs).getD (j * 3 + 2) 0 = xs[j].2.2 := by
  induction xs generalizing j with
  | nil => simp at h
  | cons x xs ih =>
    cases j with
    | zero => simp [flat3]
    | succ j =>
      have := ih j (by simpa using h)
      have e : flat3 (x :: xs) = x.1 :: x.2.1 :: x.2.2 :: flat3 xs := rfl
      rw [e, Nat.succ_mul, show j * 3 + 3 = ((j * 3 + 1) + 1) + 1 from rfl, show j * 3 + 1 + 1 + 1 + 1 = (((j * 3 + 1) + 1) + 1) + 1 from rfl, show j * 3 + 1 + 1 + 1 + 2 = (((j * 3 + 2) + 1) + 1) + 1 from rfl]
      simpa using this
theorem siftL_yes {α : Type} {f : α → Bool} {xs : List α} {j : Nat} (h : j < xs.length) (hf : f xs[j] = true) : (xs.take (j + 1)).filter f = (xs.take j).filter f ++ [xs[j]] := by
  rw [List.take_succ_eq_append_getElem h, List.filter_append]; simp [hf]
theorem siftL_no {α : Type} {f : α → Bool} {xs : List α} {j : Nat} (h : j < xs.length) (hf : f xs[j] = false) : (xs.take (j + 1)).filter f = (xs.take j).filter f := by
  rw [List.take_succ_eq_append_getElem h, List.filter_append]; simp [hf]
theorem siftL_le {α : Type} (f : α → Bool) (xs : List α) (j : Nat) : ((xs.take j).filter f).length ≤ xs.length := by
  have h1 := List.length_filter_le f (xs.take j)
  have h2 : (xs.take j).length ≤ xs.length := by rw [List.length_take]; omega
  omega
theorem own_shapeL {w : World} {base : Nat} {e : TypeId} {k n : Nat} {v : Value} {xs : List Value} (h : w.ownsRow base e k v n xs) : ∃ ao cap, v = .slice ao n cap ∧ n ≤ 9223372036854775807 ∧ (0 < n → ∃ g, ao = some ⟨g, 0, none⟩ ∧ base ≤ g ∧ g < w.heap.size) := by
  rcases own_ways h with ⟨rfl, ao, cap, rfl⟩ | ⟨h0, g, cap, rfl, h1, h2, h3⟩
  · exact ⟨_, _, rfl, by omega, fun h => by omega⟩
  · exact ⟨_, _, rfl, h3, fun _ => ⟨g, rfl, h1, h2⟩⟩
/-- A row that has elements is no empty block. -/
theorem own_nonempty {w : World} {base : Nat} {e e2 : TypeId} {k n b : Nat} {v : Value} {xs : List Value} (h : w.ownsRow base e k v n xs) (hk : 0 < k) (hn : 0 < n) (hE : w.heap[b]? = some (.cells #[] e2 (0, 0))) : v.ownBlock ≠ some b := by
  rcases h.2 with ⟨_, h0⟩ | ⟨g, cap, cur, rfl, _, hg, hc, _, hs, _⟩
  · omega
  · intro q
    simp only [Value.ownBlock, Option.some.injEq] at q
    subst q
    rw [hE] at hg
    cases hg
    have h1 : cap * k = 0 := by simpa using hs.symm
    have h2 : 1 * 1 ≤ cap * k := Nat.mul_le_mul (by omega) hk
    omega
theorem own_empty {w : World} {base b : Nat} {e : TypeId} (k : Nat) (hE : w.heap[b]? = some (.cells #[] e (0, 0))) (hb : base ≤ b) : w.ownsRow base e k (.slice (some ⟨b, 0, none⟩) 0 0) 0 (ints []) :=
  ⟨by simp [ints], .inr ⟨b, 0, #[], rfl, hb, hE, Nat.le_refl _, by decide, by simp, by simp [ints]⟩⟩
/-- The lines through a point that are not null in a colour. -/
def nnP (p c a1 a2 : Int) : List (Int × Int × Int) := (pencil p a1 a2 p.toNat).filter fun x => !nullB p c x.1 x.2.1
theorem nnP_le {p : Int} (c a1 a2 : Int) (hp : isP p = true) : (nnP p c a1 a2).length ≤ 32 := by
  have hr := isP_range hp
  refine Nat.le_trans (List.length_filter_le _ _) ?_
  rw [pencil_length]; omega
theorem nnP_mem {p c a1 a2 : Int} (hp : isP p = true) {z : Int × Int × Int} (h : z ∈ nnP p c a1 a2) : (0 ≤ z.1 ∧ z.1 < p) ∧ (0 ≤ z.2.1 ∧ z.2.1 < p) ∧ (0 ≤ z.2.2 ∧ z.2.2 < p) :=
  nums3 (lineB_in ((pencil_mem hp z).1 (List.mem_filter.1 h).1).1).2

set_option linter.unusedVariables false in
set_option linter.unusedSimpArgs false in
set_option maxRecDepth 20000 in
set_option maxHeartbeats 8000000 in
theorem specLines3_any (p c a1 a2 : Int) (w : World) (hp : isP p = true) (hc : colB c = true) (h1 : 0 ≤ a1 ∧ a1 < p) (h2 : 0 ≤ a2 ∧ a2 < p) :
    Calls Try.prog 54 #[.int .i64 p, .int .i64 c, .agg #[.int .i64 a1, .int .i64 a2]] w fun e w' => ∃ v, e = .returned v ∧ w'.ownsRow w.heap.size 30 3 v (nnP p c a1 a2).length (ints (flat3 (nnP p c a1 a2))) ∧ Below w.heap.size w w' := by
  have hr := isP_range hp
  have hc0 : (p.toNat : Int) = p := Int.toNat_of_nonneg (by omega)
  have HC0 := Lib.hid hc0
  clear hc0
  obtain ⟨i0, hi, hz0, hz1, hz2⟩ := info_parts infoLn
  obtain ⟨t0, ht0⟩ : ∃ t, t = par3 p a1 a2 0 1 := ⟨_, rfl⟩
  have HT0 := Lib.hid ht0
  clear ht0
  go_enter Try.func54, Try.ntmps54
  go_upto_region 1 with fail
  refine wp_name (fun wN hwN => ?_)
  have hN : Below w.heap.size w wN := by rw [hwN]; exact (Below.refl _ _).alloc (Nat.le_refl _) _
  have sN : w.heap.size < wN.heap.size := by rw [hwN]; simp
  have n0 : wN.cell? ⟨w.heap.size, 0, none⟩ = some (.int .i64 a1) := by rw [hwN]; (repeat (first | with_reducible assumption | ((with_reducible refine kfresh ?_ ?_) <;> (first | with_reducible rfl | (simp; done))) | ((with_reducible refine ksameS ?_); focus ((repeat (first | with_reducible exact kis_of (by with_reducible assumption) | with_reducible refine kis_set ?_ | ((with_reducible refine kis_new ?_ ?_) <;> (first | with_reducible rfl | rfl | (simp; done))) | with_reducible refine kis_alloc _ ?_ | with_reducible refine kis_drew ?_ | with_reducible refine kis_call (by with_reducible assumption) ?_ | with_reducible exact kis_of (kcall (by with_reducible assumption) (by with_reducible assumption)))); done)) | with_reducible refine kother (by decide) ?_ | with_reducible refine kset (by first | omega | (simp; done) | (simp; omega)) ?_ | with_reducible refine kalloc _ ?_ | with_reducible refine kdrew ?_ | with_reducible refine kdrewN ?_ | with_reducible refine kcall (by with_reducible assumption) ?_))
  have n1 : wN.cell? ⟨w.heap.size, 1, none⟩ = some (.int .i64 a2) := by rw [hwN]; (repeat (first | with_reducible assumption | ((with_reducible refine kfresh ?_ ?_) <;> (first | with_reducible rfl | (simp; done))) | ((with_reducible refine ksameS ?_); focus ((repeat (first | with_reducible exact kis_of (by with_reducible assumption) | with_reducible refine kis_set ?_ | ((with_reducible refine kis_new ?_ ?_) <;> (first | with_reducible rfl | rfl | (simp; done))) | with_reducible refine kis_alloc _ ?_ | with_reducible refine kis_drew ?_ | with_reducible refine kis_call (by with_reducible assumption) ?_ | with_reducible exact kis_of (kcall (by with_reducible assumption) (by with_reducible assumption)))); done)) | with_reducible refine kother (by decide) ?_ | with_reducible refine kset (by first | omega | (simp; done) | (simp; omega)) ?_ | with_reducible refine kalloc _ ?_ | with_reducible refine kdrew ?_ | with_reducible refine kdrewN ?_ | with_reducible refine kcall (by with_reducible assumption) ?_))
  clear hwN
  go_wp2_with fail
  refine Calls.mono (specParallel_any _ _ _ _ _ _ _ hp (by omega) (by omega) (by omega) (by omega)) ?_
  rw [← HT0.out]
  rintro e wz ⟨rfl, hBz⟩
  have hzs := hBz.size
  have m0 := (cell_back hBz sN 0).trans n0
  have m1 := (cell_back hBz sN 1).trans n1
  have hp0 : flat3 (pencil p a1 a2 0) = [0, 1, t0] := by rw [HT0.out]; rfl
  have HP0 := Lib.hid hp0
  clear hp0
  have E0 : ((wz.alloc (.cells #[.int .i64 0, .int .i64 1, .int .i64 t0] 30)).alloc (.cells #[] 30)).heap[wz.heap.size + 1]? = some (.cells #[] 30 (0, 0)) := by
    have := heap_alloc_new (wz.alloc (.cells #[.int .i64 0, .int .i64 1, .int .i64 t0] 30)) (.cells #[] 30)
    simpa using this
  have O0 : ((wz.alloc (.cells #[.int .i64 0, .int .i64 1, .int .i64 t0] 30)).alloc (.cells #[] 30)).ownsRow wN.heap.size 30 3 (.slice (some ⟨wz.heap.size, 0, none⟩) 1 1) 1 (ints [0, 1, t0]) := (own_lit (cs := [0, 1, t0]) (by omega) rfl (by decide) rfl).alloc _
  have B0 : Below wN.heap.size wN ((wz.alloc (.cells #[.int .i64 0, .int .i64 1, .int .i64 t0] 30)).alloc (.cells #[] 30)) := by (repeat (first | with_reducible exact Below.refl _ _ | with_reducible exact hBz | with_reducible refine balloc ?_ _ | with_reducible refine bdrewN ?_ _ | with_reducible refine Below.drew ?_ | with_reducible refine bthen ?_ (by with_reducible assumption) | with_reducible refine Below.setCell ?_ (by first | (simp; done) | (simp; omega)) _))
  go_wp2_with fail
  go_loopw [7, 9] (fun v i wr => ∃ k : Nat, (k : Int) ≤ p ∧ i = .int .i64 k ∧ wr.ownsRow wN.heap.size 30 3 v (k + 1) (ints (flat3 (pencil p a1 a2 k))) ∧ wr.heap[wz.heap.size + 1]? = some (.cells #[] 30 (0, 0)) ∧ Below wN.heap.size wN wr) (fun _ i _ => p.toNat - (intOf i).toNat)
  case atStart => exact ⟨0, by omega, rfl, by rw [HP0.out]; exact O0, E0, B0⟩
  case round =>
    obtain ⟨k, hk, rfl, hown, hE, hbel⟩ := hrel
    have hsr := hbel.size
    by_cases hlt : (k : Int) < p
    · obtain ⟨t, ht⟩ : ∃ t, t = par3 p a1 a2 1 (k : Int) := ⟨_, rfl⟩
      have hU : flat3 (pencil p a1 a2 (k + 1)) = flat3 (pencil p a1 a2 k) ++ [1, (k : Int), t] := by rw [pencil_succ, flat3_append, ht]; rfl
      have HU := Lib.hid hU
      have HT := Lib.hid ht
      clear ht hU
      have c0 := (cell_old hbel sN 0).trans n0
      have c1 := (cell_old hbel sN 1).trans n1
      have hbE := (Array.getElem?_eq_some_iff.1 hE).1
      have HE := Lib.hid hE
      clear E0 O0 B0 hE
      go_wp2_with fail
      refine Calls.mono (specParallel_any _ _ _ _ _ _ _ hp (by omega) (by omega) (by omega) (by omega)) ?_
      rw [← HT.out]
      rintro e wy ⟨rfl, hBy⟩
      have hys := hBy.size
      have ho1 := own_call hown hBy
      have hEy : wy.heap[wz.heap.size + 1]? = some (.cells #[] 30 (0, 0)) := (hBy.block _ hbE).trans HE.out
      have hne := own_nonempty ho1 (by decide) (by omega) hEy
      have HEy := Lib.hid hEy
      clear hEy
      go_wp2_with (at_builtin; refine wpList_append_own _ rfl _ _ 43 rfl wN.heap.size 30 i0 (.agg #[.int .i64 0, .int .i64 0, .int .i64 0]) 3 24 Try.underlying43 hi hz0 hz1 hz2 rfl (by decide) _ _ _ rfl (ho1.alloc _) ⟨wy.heap.size, 0, none⟩ 1 1 [.int .i64 1, .int .i64 k, .int .i64 t] rfl rfl (ln_cells rfl) (ln_one _ _ _) (by unfold maxLen; omega) (by omega) (by simp; omega) ?_)
      intro v' w2 hown' hgrow _
      have hb1 : Below wN.heap.size wN wy := hbel.trans (hBy.mono hsr)
      have hb2 : Below wN.heap.size wN w2 := (hb1.alloc hb1.size _).grown hgrow (by simp; omega) (fun g hg => (ho1.lt g hg).1)
      have hE2 : w2.heap[wz.heap.size + 1]? = some (.cells #[] 30 (0, 0)) := (hgrow.block _ (by simp; omega) (fun e => hne e.symm)).trans ((heap_alloc_old _ _ (by omega)).trans HEy.out)
      have HE2 := Lib.hid hE2
      have HN := Lib.hid (show w2.ownsRow wN.heap.size 30 3 v' (k + 1 + 1) (ints (flat3 (pencil p a1 a2 (k + 1)))) from by rw [HU.out, ints_append]; exact hown')
      clear hown' hgrow ho1 hown hbel hb1 hne hE2
      go_wp2
      go_roundw
      case rel => exact ⟨k + 1, by omega, by go_num, HN.out, HE2.out, hb2⟩
      case measure => have := HC0.out; simp [intOf]; omega
    · obtain ⟨m, hm⟩ : ∃ m, m = p.toNat := ⟨_, rfl⟩
      obtain rfl : k = m := by have := HC0.out; omega
      have hl31 : k ≤ 31 := by omega
      have hgm := fun (z : Int × Int × Int) (hz : z ∈ pencil p a1 a2 k) => nums3 (lineB_in ((pencil_mem hp z).1 (by rw [← hm]; exact hz)).1).2
      have hpl := pencil_length p a1 a2 k
      have HF := Lib.hid (show nnP p c a1 a2 = (pencil p a1 a2 k).filter fun x => !nullB p c x.1 x.2.1 from by rw [hm]; rfl)
      clear hm
      obtain ⟨ps, hps⟩ : ∃ ps, ps = pencil p a1 a2 k := ⟨_, rfl⟩
      rw [← hps] at hgm hpl hown HF
      rw [← hpl] at hown
      have HPL := Lib.hid hpl
      clear hps HT0 HP0 E0 O0 B0
      have HGM := Lib.hid hgm
      have hlen : ps.length ≤ 32 := by omega
      have hl0 : 0 < ps.length := by omega
      clear hgm hpl
      obtain ⟨ft, hft⟩ : ∃ ft : Int × Int × Int → Bool, ft = fun x => !nullB p c x.1 x.2.1 := ⟨_, rfl⟩
      rw [← hft] at HF
      have HFT := Lib.hid (show ∀ x : Int × Int × Int, ft x = !nullB p c x.1 x.2.1 from fun x => by rw [hft])
      clear hft
      obtain ⟨ao, cz, rfl, hnz, hsh⟩ := own_shapeL hown
      obtain ⟨g, rfl, hg0, hgl⟩ := hsh hl0
      have hgb : g ≠ wz.heap.size + 1 := fun e => own_nonempty hown (by decide) hl0 hE (by rw [e]; rfl)
      have hbE := (Array.getElem?_eq_some_iff.1 hE).1
      have hOE := own_empty (base := wN.heap.size) 3 hE (by omega)
      clear hE
      obtain ⟨w2, rfl⟩ : ∃ w2 : World, w2 = wr := ⟨_, rfl⟩
      go_wp2_with fail
      go_loopw [8, 10] (fun v i wr => ∃ j : Nat, j ≤ ps.length ∧ i = .int .i64 j ∧ wr.ownsRow wN.heap.size 30 3 v ((ps.take j).filter ft).length (ints (flat3 ((ps.take j).filter ft))) ∧ wr.ownsRow wN.heap.size 30 3 (.slice (some ⟨g, 0, none⟩) ps.length cz) ps.length (ints (flat3 ps)) ∧ (v.ownBlock = some (wz.heap.size + 1) ∨ ∃ q, v.ownBlock = some q ∧ w2.heap.size ≤ q) ∧ Below wN.heap.size wN wr ∧ w2.heap.size ≤ wr.heap.size) (fun _ i _ => ps.length - (intOf i).toNat)
      case atStart => exact ⟨0, by omega, rfl, by simpa [flat3] using hOE, hown, .inl rfl, hbel, Nat.le_refl _⟩
      case round =>
        obtain ⟨j, hj, rfl, hov, hoa, hat, hbl, hsz⟩ := hrel
        have hle := siftL_le ft ps j
        have hsl := hbl.size
        by_cases hlt : j < ps.length
        · have hget := flat3_at ps j hlt
          have hmem := HGM.out ps[j] (List.getElem_mem hlt)
          have c0 := (own_cell hoa (j := j * 3) (by omega)).trans (by rw [hget.1])
          have c1 := (own_cell hoa (j := j * 3 + 1) (by omega)).trans (by rw [hget.2.1])
          have c2 := (own_cell hoa (j := j * 3 + 2) (by omega)).trans (by rw [hget.2.2])
          have hYes := siftL_yes (f := ft) (xs := ps) hlt
          have hNo := siftL_no (f := ft) (xs := ps) hlt
          have hft := HFT.out ps[j]
          have HFl := Lib.hid (flat3_append ((ps.take j).filter ft) ps[j])
          obtain ⟨x, hx⟩ : ∃ x, x = ps[j] := ⟨_, rfl⟩
          rw [← hx] at c0 c1 c2 hYes hNo hft hmem HFl
          clear hx hget
          obtain ⟨x1, x2, x3⟩ := x
          simp only at c0 c1 c2 hft hmem HFl
          have hcall := fun w' => specNull_any p c x1 x2 x3 w' hp hc (by omega) (by omega)
          obtain ⟨bo, hbo⟩ : ∃ b, b = ft (x1, x2, x3) := ⟨_, rfl⟩
          obtain ⟨bn, hbn⟩ : ∃ b, b = nullB p c x1 x2 := ⟨_, rfl⟩
          rw [← hbo] at hYes hNo hft
          rw [← hbn] at hcall hft
          clear hbo hbn
          have HC := Lib.hid hcall
          have HFB := Lib.hid hft
          clear hcall hft
          have hjn : (j : Int) < (ps.length : Int) := by omega
          have hgr : g < wr.heap.size := by omega
          go_wp2_with fail
          refine Calls.mono (HC.out _) ?_
          rintro e wq ⟨rfl, hb1⟩
          have hs1 := hb1.size
          have ho1 := own_call hov hb1
          have hoa1 := own_call hoa hb1
          have hb2 : Below wN.heap.size wN wq := hbl.trans (hb1.mono hsl)
          have d0 := (cell_back hb1 hgr (j * 3)).trans c0
          have d1 := (cell_back hb1 hgr (j * 3 + 1)).trans c1
          have d2 := (cell_back hb1 hgr (j * 3 + 2)).trans c2
          clear c0 c1 c2
          cases bn
          · obtain rfl : bo = true := HFB.out
            have HN := Lib.hid (hYes rfl)
            clear hYes hNo
            have hrow : (Value.slice (some ⟨g, 0, none⟩) ps.length cz).ownBlock = none ∨ (Value.slice (some ⟨g, 0, none⟩) ps.length cz).ownBlock ≠ _ := .inr (fun e => by
              rcases hat with h | ⟨q, h, hq⟩
              · exact hgb (Option.some.inj (e.trans h))
              · have : g = q := Option.some.inj (e.trans h)
                omega)
            have HROW := Lib.hid hrow
            have HAT := Lib.hid hat
            clear hrow hat
            go_wp2_with (at_builtin; refine wpList_append_own_at _ rfl _ _ 43 rfl wN.heap.size 30 i0 (.agg #[.int .i64 0, .int .i64 0, .int .i64 0]) 3 24 Try.underlying43 hi hz0 hz1 hz2 rfl (by decide) _ _ _ rfl (ho1.alloc _) ⟨wq.heap.size, 0, none⟩ 1 1 [.int .i64 x1, .int .i64 x2, .int .i64 x3] rfl rfl (ln_cells rfl) (ln_one _ _ _) ?c3 ?c4 ?c5 ?_)
            case c3 => unfold maxLen; omega
            case c4 => omega
            case c5 => simp; omega
            intro v' w3 hown' hgrow _ hloc
            have hb3 : Below wN.heap.size wN w3 := (hb2.alloc (by omega) _).grown hgrow (by simp; omega) (fun g' hg' => (ho1.lt g' hg').1)
            have hoa3 := (hoa1.alloc (.cells #[.int .i64 x1, .int .i64 x2, .int .i64 x3] 30)).kept hgrow HROW.out
            have hs3 : w2.heap.size ≤ w3.heap.size := Nat.le_trans (by simp; omega) hgrow.size
            have hat3 : v'.ownBlock = some (wz.heap.size + 1) ∨ ∃ q, v'.ownBlock = some q ∧ w2.heap.size ≤ q := by
              rcases hloc with h | h
              · rw [h]; exact HAT.out
              · exact .inr ⟨_, h, by first | omega | (simp; omega)⟩
            have HO := Lib.hid (show w3.ownsRow wN.heap.size 30 3 v' ((ps.take (j + 1)).filter ft).length (ints (flat3 ((ps.take (j + 1)).filter ft))) from by rw [HN.out, HFl.out, ints_append, List.length_append]; exact hown')
            have HOA := Lib.hid hoa3
            have HA3 := Lib.hid hat3
            clear hown' hgrow ho1 hov hbl hb2 hoa hoa1 hoa3 hat3 hloc
            go_wp2
            go_roundw
            case rel => exact ⟨j + 1, by omega, by go_num, HO.out, HOA.out, HA3.out, hb3, hs3⟩
            case measure => simp [intOf]; omega
          · obtain rfl : bo = false := HFB.out
            have HN := Lib.hid (hNo rfl)
            clear hYes hNo
            go_wp2
            go_roundw
            case rel => exact ⟨j + 1, by omega, by go_num, by rw [HN.out]; exact ho1, hoa1, hat, hb2, by omega⟩
            case measure => simp [intOf]; omega
        · have ej : j = ps.length := by omega
          subst ej
          rw [List.take_length, ← HF.out] at hov
          have HO := Lib.hid hov
          clear hov hoa hat
          go_wp2
          (refine bodyPost_ret (v := u8) (by simp [results, Try.results54, go_sem]) rfl ⟨_, rfl, own_base HO.out (by have := hN.size; omega), hN.trans (hbl.mono (by have := hN.size; omega))⟩)

end Go.Proofs.Ytmpgpmcmhbpjeaa
