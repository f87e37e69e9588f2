/-
  impl.comparePoints.
  Points in order: a sorted list is the grid's list.
  The sort of nothing.
  slices.SortFunc at points with comparePoints.
  slices.SortedFunc at points, against any iterator.
-/
import Derived.Test.YtklfgelmieecmabSortBase
import Derived.Sort.Grow
import Derived.Test.YtklfgelmieecmabSetMath
import Derived.Shelf.SlSortCmp.Insertion
import Derived.Test.YtklfgelmieecmabShelf
import Derived.Test.YtklfgelmieecmabKeysPts

namespace Go.Proofs.Ytklfgelmieecmab
open Go.RowKit

def lexP (x y : Int × Int) : Int := lexC [x.1, x.2] [y.1, y.2]

set_option maxRecDepth 20000 in
set_option maxHeartbeats 1000000 in
theorem comparePoints_any (x1 x2 y1 y2 : Int) (w : World) :
    Calls Try.prog 76 #[.agg #[.int .i64 x1, .int .i64 x2], .agg #[.int .i64 y1, .int .i64 y2]] w fun e w' =>
      e = .returned (.int .i64 (lexC [x1, x2] [y1, y2])) ∧ w' = ((w.alloc (.cells #[.int .i64 x1, .int .i64 x2] 35)).alloc (.cells #[.int .i64 y1, .int .i64 y2] 35)).drew := by
  have hcc := fun (a b ca cb : Nat) w' => compare_any a b 2 ca cb [x1, x2] [y1, y2] w' rfl rfl (by decide)
  obtain ⟨c, hc⟩ : ∃ c, c = lexC [x1, x2] [y1, y2] := ⟨_, rfl⟩
  rw [← hc] at hcc ⊢
  clear hc
  go_enter Try.func76, Try.ntmps76
  go_wp2_with fail
  (refine region_tail 3 (by kernel_rfl) (by kernel_rfl) ?_; simp only [List.take_succ_cons, List.take_zero, List.drop_succ_cons, List.drop_zero]; repeat still_step)
  have hA : Cells (((w.alloc (.cells #[.int .i64 x1, .int .i64 x2] 35)).alloc (.cells #[.int .i64 y1, .int .i64 y2] 35)).drew) w.heap.size 0 [x1, x2] := fun i hi => kdrew (kalloc _ (cells_at rfl [x1, x2] _ i hi))
  have hB : Cells (((w.alloc (.cells #[.int .i64 x1, .int .i64 x2] 35)).alloc (.cells #[.int .i64 y1, .int .i64 y2] 35)).drew) (w.heap.size + 1) 0 [y1, y2] := fun i hi => kdrew (cells_at (by simp) [y1, y2] _ i hi)
  (still_call (stillOf (hcc _ _ _ _ _ hA hB)); repeat still_step)
  refine wpStill_nil ?_
  go_wp2
  (refine bodyPost_ret (v := .int .i64 c) (by simp [results, Try.results76, go_sem]) rfl ⟨?_, ?_⟩)
  · rfl
  · rfl

end Go.Proofs.Ytklfgelmieecmab

namespace Go.Proofs.Ytklfgelmieecmab
open Go.RowKit Go.Sort

/-- How comparePoints orders. -/
def cfP (x y : Int × Int) : Int := lexC [x.1, x.2] [y.1, y.2]
def Lt2 (x y : Int × Int) : Prop := x.1 < y.1 ∨ x.1 = y.1 ∧ x.2 < y.2
theorem cfP_lt (x y : Int × Int) : cfP x y < 0 ↔ Lt2 x y := by
  obtain ⟨a, b⟩ := x
  obtain ⟨c, d⟩ := y
  simp only [cfP, lexC, cmpI, Lt2]
  by_cases h1 : a < c
  · simp [h1]
  · by_cases h2 : c < a
    · have : ¬ a = c := by omega
      simp [h1, h2, this]
    · have h3 : a = c := by omega
      subst h3
      by_cases h4 : b < d
      · simp [h4]
      · by_cases h5 : d < b
        · simp [h4, h5]
        · simp [h4, h5]
theorem ltOfP (x y : Int × Int) : ltOf cfP x y = decide (cfP x y < 0) := rfl
theorem ltOfP_false {x y : Int × Int} : ltOf cfP x y = false ↔ ¬ Lt2 x y := by rw [ltOfP, decide_eq_false_iff_not, cfP_lt]
theorem ltOfP_true {x y : Int × Int} : ltOf cfP x y = true ↔ Lt2 x y := by rw [ltOfP, decide_eq_true_iff, cfP_lt]
theorem swoP : SWO (ltOf cfP) where
  irrefl x := by rw [ltOfP_false]; unfold Lt2; omega
  trans x y z h1 h2 := by rw [ltOfP_true] at *; unfold Lt2 at *; omega
  ntrans x y z h1 h2 := by rw [ltOfP_false] at *; unfold Lt2 at *; omega

theorem row_sorted (f : Int → Int → Bool) (x y : Nat) : (rowL f x y).Pairwise Lt2 := by
  induction y with
  | zero => exact List.Pairwise.nil
  | succ y ih =>
    cases h : f x y
    · rw [rowL_no h]; exact ih
    · rw [rowL_yes h, List.pairwise_append]
      refine ⟨ih, by simp, fun a ha b hb => ?_⟩
      have h1 := row_mem ha
      simp only [List.mem_singleton] at hb
      subst hb
      exact .inr ⟨h1.1, h1.2.2⟩
theorem grid_sorted (f : Int → Int → Bool) (m x : Nat) : (gridL f m x).Pairwise Lt2 := by
  induction x with
  | zero => exact List.Pairwise.nil
  | succ x ih =>
    rw [gridL_succ, List.pairwise_append]
    refine ⟨ih, row_sorted f x m, fun a ha b hb => ?_⟩
    have h1 := grid_mem ha
    have h2 := row_mem hb
    exact .inl (by omega)
/-- What is sorted and has the grid's points is the grid. -/
theorem sorted_grid {f : Int → Int → Bool} {m x : Nat} {d : Array (Int × Int)} {ss : List (Int × Int)} (hn : ss.Nodup) (hm : ∀ z, z ∈ ss ↔ z ∈ gridL f m x) (hp : d.toList.Perm ss)
    (hs : ∀ i j, i < j → j < d.size → ltOf cfP d[j]! d[i]! = false) : d.toList = gridL f m x := by
  have hp2 : d.toList.Perm (gridL f m x) := hp.trans ((List.perm_ext_iff_of_nodup hn (grid_nodup f m x)).2 hm)
  refine List.Perm.eq_of_pairwise (le := fun u v => ¬ Lt2 v u) ?_ ?_ ?_ hp2
  · rintro ⟨a1, a2⟩ ⟨b1, b2⟩ _ _ h1 h2
    simp only [Lt2] at h1 h2
    exact Prod.ext (by show a1 = b1; omega) (by show a2 = b2; omega)
  · rw [List.pairwise_iff_getElem]
    intro i j hi hj hij
    have := hs i j hij (by simpa using hj)
    rw [ltOfP_false, getElem!_pos d i (by simpa using hi), getElem!_pos d j (by simpa using hj)] at this
    simpa using this
  · exact (grid_sorted f m x).imp fun h => by unfold Lt2 at *; omega

end Go.Proofs.Ytklfgelmieecmab

namespace Go.Proofs.Ytklfgelmieecmab
open Go.RowKit

theorem insNil (f : Value) (w : World) : Calls Try.prog 131 #[.slice none 0 0, .int .i64 0, .int .i64 0, f] w fun e w' => e = .returned (.tuple #[]) ∧ w = w' := by
  go_enter Try.func131, Try.ntmps131
  go_wp2
  refine wp_loop_rounds 1 ?_
  rw [rounds_succ]
  go_wp2
  go_end0
  exact ⟨rfl, rfl⟩
set_option maxRecDepth 20000 in
set_option maxHeartbeats 1000000 in
theorem pdqNil (lim : Int) (f : Value) (w : World) : Calls Try.prog 119 #[.slice none 0 0, .int .i64 0, .int .i64 0, .int .i64 lim, f] w fun e w' => e = .returned (.tuple #[]) ∧ w = w' := by
  go_enter Try.func119, Try.ntmps119
  go_wp2
  refine wp_loop_rounds 1 ?_
  rw [rounds_succ]
  go_wp2_with (go_at_call 131; refine Calls.mono (insNil _ _) ?_; rintro e w' ⟨rfl, rfl⟩)
  refine bodyPost_ret (results_none rfl _ _ _) rfl ?_
  exact ⟨rfl, rfl⟩

end Go.Proofs.Ytklfgelmieecmab

namespace Go.Proofs.Ytklfgelmieecmab
open Go.RowKit Go.Sort Go.Shelf

def encP (x : Int × Int) : List Value := [.int .i64 x.1, .int .i64 x.2]
theorem encP_flat (ss : List (Int × Int)) : ss.flatMap encP = ints (flat ss) := by
  induction ss with
  | nil => rfl
  | cons x ss ih => rw [List.flatMap_cons, ih]; rfl
theorem encP_one (x : Int × Int) : ∀ v ∈ encP x, v.oneCell' = true := by
  intro v hv; simp [encP] at hv; rcases hv with rfl | rfl <;> rfl

theorem encP_row (ss : List (Int × Int)) : flatK encP 2 ss.toArray = (ints (flat ss)).toArray := by
  rw [← encP_flat]; exact flatK_list (enc := encP) (k := 2) (fun _ => rfl) (by decide) ss

def SortPost (base blk cap : Nat) (ss : List (Int × Int)) (w : World) (e : Ending) (w' : World) : Prop :=
  e = .returned (.tuple #[]) ∧ ∃ d : Array (Int × Int), d.toList.Perm ss ∧ (∀ i j, i < j → j < d.size → ltOf cfP d[j]! d[i]! = false) ∧
    w'.ownsRow base 35 2 (.slice (some ⟨blk, 0, none⟩) ss.length cap) ss.length (ints (flat d.toList)) ∧ w.grownBy w' (some blk)

theorem cmpLays (blk size : Nat) (w : World) : CmpLays Try.prog 76 #[] encP 2 cfP blk 0 size w := fun m os dk _ x y =>
  Calls.mono (comparePoints_any x.1 x.2 y.1 y.2 _) fun _ _ h => ⟨h.1, 1, #[.cells #[.int .i64 x.1, .int .i64 x.2] 35, .cells #[.int .i64 y.1, .int .i64 y.2] 35], by rw [h.2, alloc_eq_grow, alloc_eq_grow, grow_grow]; rfl⟩

theorem sortPt_any (base blk cap : Nat) (ss : List (Int × Int)) (w : World) (hlen : ss.length ≤ 1000000) (hown : w.ownsRow base 35 2 (.slice (some ⟨blk, 0, none⟩) ss.length cap) ss.length (ints (flat ss))) :
    Calls Try.prog 107 #[.slice (some ⟨blk, 0, none⟩) ss.length cap, .func (.func 76) #[] #[]] w fun e w' => SortPost base blk cap ss w e w' := by
  rcases hown.2 with ⟨h, _⟩ | ⟨g, cap', cur, e, hbase, hgb, h1, h2, h3, h4⟩
  · cases h
  cases e
  have hH : HoldsK encP 2 w blk 0 ss.toArray := by
    unfold HoldsK
    rw [encP_row]
    refine holds_vals hgb ?_
    rw [ints_length, flat_length]; exact h4
  have hblk : blk < w.heap.size := (Array.getElem?_eq_some_iff.1 hgb).1
  have hcon := AnyQ.slices_SortFunc (P := Try.prog) Try.sortPt 2 Try.isAgg35 Try.sizeOf35 encP (fun _ => rfl) encP_one cfP swoP 76 #[] blk 0 cap ss.toArray w (enters_of Try.func76 (by kernel_rfl) rfl) (cmpLays blk _ w) hH hblk (by simp; omega)
  rw [List.size_toArray] at hcon
  refine Calls.mono hcon ?_
  rintro e w' ⟨rfl, d, n, os, hp, hs, rfl⟩
  have hsz : d.size = ss.length := by have := hp.1; simpa using this
  have hperm : d.toList.Perm ss := by
    have h := hp.2.2
    rw [Array.extract_eq_self_of_le (by rw [hsz]; exact Nat.le_refl _), Array.extract_eq_self_of_le (by simp)] at h
    simpa using h
  have hw : sortWorldK encP 2 w blk 0 n d os = grow (putRow id (Go.Sort.ahead w n) blk 0 (ints (flat d.toList)).toArray) os := by
    unfold sortWorldK putRowK
    rw [← encP_row]
  rw [hw]
  refine ⟨rfl, d, hperm, fun i j hij hj => hs i j (Nat.zero_le _) hij (by rw [hsz] at hj; exact hj), ?_, grownBy_vals _⟩
  exact ownsRow_vals (by rw [ints_length, flat_length, ← hsz]; simp) hbase hgb h1 h2 h3

end Go.Proofs.Ytklfgelmieecmab

namespace Go.Proofs.Ytklfgelmieecmab
open Go.RowKit Go.Sort Go.Shelf

def SortedPost (S : List (Int × Int) → Prop) (w : World) (e : Ending) (w' : World) : Prop :=
  ∃ (v : Value) (d : Array (Int × Int)) (ss : List (Int × Int)), e = .returned v ∧ S ss ∧ d.toList.Perm ss ∧ (∀ i j, i < j → j < d.size → ltOf cfP d[j]! d[i]! = false) ∧
    w'.ownsRow w.heap.size 35 2 v d.size (ints (flat d.toList)) ∧ Below w.heap.size w w'

theorem lenNil (w : World) : Calls Try.prog 111 #[.int .u64 0] w fun e w' => e = .returned (.int .i64 0) ∧ w = w' :=
  Calls.mono (Any.bits_Len (SlLaysF0.n15.bits (P := Try.prog) (ρ := Try.sortPt_ren) { Try.sortPt with }) 0 w (by decide) (by decide)) fun _ _ h => ⟨h.1.trans (ret_int (by decide)), h.2.symm⟩

set_option maxRecDepth 20000 in
set_option maxHeartbeats 1000000 in
theorem sortNil (f : Value) (w : World) : Calls Try.prog 107 #[.slice none 0 0, f] w fun e w' => e = .returned (.tuple #[]) ∧ w = w' := by
  go_enter Try.func107, Try.ntmps107
  go_wp2_with (first | (go_at_call 111; refine Calls.mono (lenNil _) ?_; rintro e w' ⟨rfl, rfl⟩) | (go_at_call 119; refine Calls.mono (pdqNil _ _ _) ?_; rintro e w' ⟨rfl, rfl⟩))
  go_end0
  exact ⟨rfl, rfl⟩

set_option maxRecDepth 20000 in
set_option maxHeartbeats 1000000 in
theorem sortedPt (g : Nat) (lb : Array Value) (eg : ∀ args w, (callFunc g args).run Try.prog w = .ok (.enter g args) w) (S Sp : List (Int × Int) → Prop) (N : Nat) (hN : N ≤ 1000000) (hSN : ∀ ss, S ss → ss.length ≤ 1000000) (w : World)
    (hseq : SeqStopsK Fence.wide 8 Try.prog g lb (fun x => #[ptV x]) KeepsWalks S Sp N w) :
    Calls Try.prog 74 #[.func (.func g) #[] lb, .func (.func 76) #[] #[]] w fun e w' => SortedPost S w e w' := by
  have hC := collectPt g lb eg S Sp N hN w hseq
  clear hseq
  go_enter Try.func74, Try.ntmps74
  go_wp2_with fail
  refine Calls.mono hC ?_
  rintro e w1 ⟨v, ss, rfl, hS, hrow, hn, hb⟩
  rcases hrow.2 with ⟨rfl, hz⟩ | ⟨gb, cap, cur, rfl, hbase, _⟩
  · obtain rfl : ss = [] := List.eq_nil_of_length_eq_zero hz
    go_wp2_with fail
    refine Calls.mono (sortNil _ _) ?_
    rintro e w' ⟨rfl, rfl⟩
    go_wp2
    go_ret
    exact ⟨_, #[], [], rfl, hS, by simp, by intro i j _ h; simp at h, by simpa using hrow, hb⟩
  · go_wp2_with fail
    refine Calls.mono (sortPt_any w.heap.size gb cap ss w1 (hSN ss hS) hrow) ?_
    rintro e w2 ⟨rfl, d, hp, hs, hrow2, hg⟩
    go_wp2
    go_ret
    have hsz : ss.length = d.size := by rw [← hp.length_eq]; simp
    exact ⟨_, d, ss, rfl, hS, hp, hs, by rw [← hsz]; exact hrow2, hb.grown hg hb.size (fun k e => by cases e; exact hbase)⟩

end Go.Proofs.Ytklfgelmieecmab
