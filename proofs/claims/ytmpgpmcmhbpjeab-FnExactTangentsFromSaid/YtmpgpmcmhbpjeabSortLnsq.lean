/-
  impl.compareLines.
  Points in order: a sorted list is the grid's list.
  The sort of nothing.
  slices.SortFunc at lines with compareLines.
  slices.SortedFunc at lines, against any iterator.
-/
import Derived.Test.YtmpgpmcmhbpjeabSortBaseq
import Derived.Sort.Grow
import Derived.Shelf.SlSortCmp.Insertion
import Derived.Test.YtmpgpmcmhbpjeabShelfq
import Derived.Test.YtmpgpmcmhbpjeabKeysLnsq

namespace Go.Proofs.Ytmpgpmcmhbpjeab
open Go.RowKit

def lexT (x y : Int × Int × Int) : Int := lexC [x.1, x.2.1, x.2.2] [y.1, y.2.1, y.2.2]

set_option maxRecDepth 20000 in
set_option maxHeartbeats 1000000 in
theorem compareLines_any (x1 x2 x3 y1 y2 y3 : Int) (w : World) :
    Calls Try.prog 32 #[.agg #[.int .i64 x1, .int .i64 x2, .int .i64 x3], .agg #[.int .i64 y1, .int .i64 y2, .int .i64 y3]] w fun e w' =>
      e = .returned (.int .i64 (lexC [x1, x2, x3] [y1, y2, y3])) ∧ w' = ((w.alloc (.cells #[.int .i64 x1, .int .i64 x2, .int .i64 x3] 49)).alloc (.cells #[.int .i64 y1, .int .i64 y2, .int .i64 y3] 49)).drew := by
  have hcc := fun (a b ca cb : Nat) w' => compare_any a b 3 ca cb [x1, x2, x3] [y1, y2, y3] w' rfl rfl (by decide)
  obtain ⟨c, hc⟩ : ∃ c, c = lexC [x1, x2, x3] [y1, y2, y3] := ⟨_, rfl⟩
  rw [← hc] at hcc ⊢
  clear hc
  go_enter Try.func32, Try.ntmps32
  go_wp2_with fail
  (refine region_tail 3 (by kernel_rfl) (by kernel_rfl) ?_; simp only [List.take_succ_cons, List.take_zero, List.drop_succ_cons, List.drop_zero]; repeat still_step)
  have hA : Cells (((w.alloc (.cells #[.int .i64 x1, .int .i64 x2, .int .i64 x3] 49)).alloc (.cells #[.int .i64 y1, .int .i64 y2, .int .i64 y3] 49)).drew) w.heap.size 0 [x1, x2, x3] := fun i hi => kdrew (kalloc _ (cells_at rfl [x1, x2, x3] _ i hi))
  have hB : Cells (((w.alloc (.cells #[.int .i64 x1, .int .i64 x2, .int .i64 x3] 49)).alloc (.cells #[.int .i64 y1, .int .i64 y2, .int .i64 y3] 49)).drew) (w.heap.size + 1) 0 [y1, y2, y3] := fun i hi => kdrew (cells_at (by simp) [y1, y2, y3] _ i hi)
  (still_call (stillOf (hcc _ _ _ _ _ hA hB)); repeat still_step)
  refine wpStill_nil ?_
  go_wp2
  (refine bodyPost_ret (v := .int .i64 c) (by simp [results, Try.results32, go_sem]) rfl ⟨?_, ?_⟩)
  · rfl
  · rfl

end Go.Proofs.Ytmpgpmcmhbpjeab

namespace Go.Proofs.Ytmpgpmcmhbpjeab
open Go.RowKit Go.Sort

/-- How compareLines orders. -/
def cfL (x y : Int × Int × Int) : Int := lexC [x.1, x.2.1, x.2.2] [y.1, y.2.1, y.2.2]
def Lt3 (x y : Int × Int × Int) : Prop := x.1 < y.1 ∨ x.1 = y.1 ∧ (x.2.1 < y.2.1 ∨ x.2.1 = y.2.1 ∧ x.2.2 < y.2.2)
theorem lexC_cons (a b : Int) (xs ys : List Int) : lexC (a :: xs) (b :: ys) < 0 ↔ a < b ∨ a = b ∧ lexC xs ys < 0 := by
  simp only [lexC, cmpI]
  by_cases h1 : a < b
  · simp [h1]
  · by_cases h2 : b < a
    · have : ¬ a = b := by omega
      simp [h1, h2, this]
    · have h3 : a = b := by omega
      subst h3
      simp
theorem cfL_lt (x y : Int × Int × Int) : cfL x y < 0 ↔ Lt3 x y := by
  simp only [cfL, lexC_cons, Lt3]
  simp [lexC]
theorem ltOfL (x y : Int × Int × Int) : ltOf cfL x y = decide (cfL x y < 0) := rfl
theorem ltOfL_false {x y : Int × Int × Int} : ltOf cfL x y = false ↔ ¬ Lt3 x y := by rw [ltOfL, decide_eq_false_iff_not, cfL_lt]
theorem ltOfL_true {x y : Int × Int × Int} : ltOf cfL x y = true ↔ Lt3 x y := by rw [ltOfL, decide_eq_true_iff, cfL_lt]
theorem swoL : SWO (ltOf cfL) where
  irrefl x := by rw [ltOfL_false]; unfold Lt3; omega
  trans x y z h1 h2 := by rw [ltOfL_true] at *; unfold Lt3 at *; omega
  ntrans x y z h1 h2 := by rw [ltOfL_false] at *; unfold Lt3 at *; omega

/-- What is sorted and has the members of a sorted list is that list. -/
theorem sorted_lines {L : List (Int × Int × Int)} {d : Array (Int × Int × Int)} {ss : List (Int × Int × Int)} (hL : L.Pairwise Lt3) (hn : ss.Nodup) (hm : ∀ z, z ∈ ss ↔ z ∈ L) (hp : d.toList.Perm ss)
    (hs : ∀ i j, i < j → j < d.size → ltOf cfL d[j]! d[i]! = false) : d.toList = L := by
  have hLn : L.Nodup := hL.imp fun h e => by subst e; simp only [Lt3] at h; omega
  have hp2 : d.toList.Perm L := hp.trans ((List.perm_ext_iff_of_nodup hn hLn).2 hm)
  refine List.Perm.eq_of_pairwise (le := fun u v => ¬ Lt3 v u) ?_ ?_ ?_ hp2
  · rintro ⟨a1, a2, a3⟩ ⟨b1, b2, b3⟩ _ _ h1 h2
    simp only [Lt3] at h1 h2
    exact Prod.ext (by show a1 = b1; omega) (Prod.ext (by show a2 = b2; omega) (by show a3 = b3; omega))
  · rw [List.pairwise_iff_getElem]
    intro i j hi hj hij
    have := hs i j hij (by simpa using hj)
    rw [ltOfL_false, getElem!_pos d i (by simpa using hi), getElem!_pos d j (by simpa using hj)] at this
    simpa using this
  · exact hL.imp fun h => by unfold Lt3 at *; omega

end Go.Proofs.Ytmpgpmcmhbpjeab

namespace Go.Proofs.Ytmpgpmcmhbpjeab
open Go.RowKit

theorem insNilL (f : Value) (w : World) : Calls Try.prog 96 #[.slice none 0 0, .int .i64 0, .int .i64 0, f] w fun e w' => e = .returned (.tuple #[]) ∧ w = w' := by
  go_enter Try.func96, Try.ntmps96
  go_wp2
  refine wp_loop_rounds 1 ?_
  rw [rounds_succ]
  go_wp2
  go_end0
  exact ⟨rfl, rfl⟩
set_option maxRecDepth 20000 in
set_option maxHeartbeats 1000000 in
theorem pdqNilL (lim : Int) (f : Value) (w : World) : Calls Try.prog 77 #[.slice none 0 0, .int .i64 0, .int .i64 0, .int .i64 lim, f] w fun e w' => e = .returned (.tuple #[]) ∧ w = w' := by
  go_enter Try.func77, Try.ntmps77
  go_wp2
  refine wp_loop_rounds 1 ?_
  rw [rounds_succ]
  go_wp2_with (go_at_call 96; refine Calls.mono (insNilL _ _) ?_; rintro e w' ⟨rfl, rfl⟩)
  refine bodyPost_ret (results_none rfl _ _ _) rfl ?_
  exact ⟨rfl, rfl⟩

end Go.Proofs.Ytmpgpmcmhbpjeab

namespace Go.Proofs.Ytmpgpmcmhbpjeab
open Go.RowKit Go.Sort Go.Shelf

def encL (x : Int × Int × Int) : List Value := [.int .i64 x.1, .int .i64 x.2.1, .int .i64 x.2.2]
theorem encL_flat (ss : List (Int × Int × Int)) : ss.flatMap encL = ints (flat3 ss) := by
  induction ss with
  | nil => rfl
  | cons x ss ih => rw [List.flatMap_cons, ih]; rfl
theorem encL_one (x : Int × Int × Int) : ∀ v ∈ encL x, v.oneCell' = true := by
  intro v hv; simp [encL] at hv; rcases hv with rfl | rfl | rfl <;> rfl

theorem encL_row (ss : List (Int × Int × Int)) : flatK encL 3 ss.toArray = (ints (flat3 ss)).toArray := by
  rw [← encL_flat]; exact flatK_list (enc := encL) (k := 3) (fun _ => rfl) (by decide) ss

def SortPostL (base blk cap : Nat) (ss : List (Int × Int × Int)) (w : World) (e : Ending) (w' : World) : Prop :=
  e = .returned (.tuple #[]) ∧ ∃ d : Array (Int × Int × Int), d.toList.Perm ss ∧ (∀ i j, i < j → j < d.size → ltOf cfL d[j]! d[i]! = false) ∧
    w'.ownsRow base 49 3 (.slice (some ⟨blk, 0, none⟩) ss.length cap) ss.length (ints (flat3 d.toList)) ∧ w.grownBy w' (some blk)

theorem cmpLaysL (blk size : Nat) (w : World) : CmpLays Try.prog 32 #[] encL 3 cfL blk 0 size w := fun m os dk _ x y =>
  Calls.mono (compareLines_any x.1 x.2.1 x.2.2 y.1 y.2.1 y.2.2 _) fun _ _ h => ⟨h.1, 1, #[.cells #[.int .i64 x.1, .int .i64 x.2.1, .int .i64 x.2.2] 49, .cells #[.int .i64 y.1, .int .i64 y.2.1, .int .i64 y.2.2] 49], by rw [h.2, alloc_eq_grow, alloc_eq_grow, grow_grow]; rfl⟩

theorem sortLn_any (base blk cap : Nat) (ss : List (Int × Int × Int)) (w : World) (hlen : ss.length ≤ 1000000) (hown : w.ownsRow base 49 3 (.slice (some ⟨blk, 0, none⟩) ss.length cap) ss.length (ints (flat3 ss))) :
    Calls Try.prog 49 #[.slice (some ⟨blk, 0, none⟩) ss.length cap, .func (.func 32) #[] #[]] w fun e w' => SortPostL base blk cap ss w e w' := by
  rcases hown.2 with ⟨h, _⟩ | ⟨g, cap', cur, e, hbase, hgb, h1, h2, h3, h4⟩
  · cases h
  cases e
  have hH : HoldsK encL 3 w blk 0 ss.toArray := by
    unfold HoldsK
    rw [encL_row]
    refine holds_vals hgb ?_
    rw [ints_length, flat3_length]; exact h4
  have hblk : blk < w.heap.size := (Array.getElem?_eq_some_iff.1 hgb).1
  have hcon := AnyQ.slices_SortFunc (P := Try.prog) Try.sortLn 3 Try.isAgg49 Try.sizeOf49 encL (fun _ => rfl) encL_one cfL swoL 32 #[] blk 0 cap ss.toArray w (enters_of Try.func32 (by kernel_rfl) rfl) (cmpLaysL blk _ w) hH hblk (by simp; omega)
  rw [List.size_toArray] at hcon
  refine Calls.mono hcon ?_
  rintro e w' ⟨rfl, d, n, os, hp, hs, rfl⟩
  have hsz : d.size = ss.length := by have := hp.1; simpa using this
  have hperm : d.toList.Perm ss := by
    have h := hp.2.2
    rw [Array.extract_eq_self_of_le (by rw [hsz]; exact Nat.le_refl _), Array.extract_eq_self_of_le (by simp)] at h
    simpa using h
  have hw : sortWorldK encL 3 w blk 0 n d os = grow (putRow id (Go.Sort.ahead w n) blk 0 (ints (flat3 d.toList)).toArray) os := by
    unfold sortWorldK putRowK
    rw [← encL_row]
  rw [hw]
  refine ⟨rfl, d, hperm, fun i j hij hj => hs i j (Nat.zero_le _) hij (by rw [hsz] at hj; exact hj), ?_, grownBy_vals _⟩
  exact ownsRow_vals (by rw [ints_length, flat3_length, ← hsz]; simp) hbase hgb h1 h2 h3

end Go.Proofs.Ytmpgpmcmhbpjeab

namespace Go.Proofs.Ytmpgpmcmhbpjeab
open Go.RowKit Go.Sort Go.Shelf

def SortedPostL (S : List (Int × Int × Int) → Prop) (w : World) (e : Ending) (w' : World) : Prop :=
  ∃ (v : Value) (d : Array (Int × Int × Int)) (ss : List (Int × Int × Int)), e = .returned v ∧ S ss ∧ d.toList.Perm ss ∧ (∀ i j, i < j → j < d.size → ltOf cfL d[j]! d[i]! = false) ∧
    w'.ownsRow w.heap.size 49 3 v d.size (ints (flat3 d.toList)) ∧ Below w.heap.size w w'

theorem lenNilL (w : World) : Calls Try.prog 78 #[.int .u64 0] w fun e w' => e = .returned (.int .i64 0) ∧ w = w' :=
  Calls.mono (Any.bits_Len (SlLaysF0.n15.bits (P := Try.prog) (ρ := Try.sortLn_ren) { Try.sortLn with }) 0 w (by decide) (by decide)) fun _ _ h => ⟨h.1.trans (ret_int (by decide)), h.2.symm⟩

set_option maxRecDepth 20000 in
set_option maxHeartbeats 1000000 in
theorem sortNilL (f : Value) (w : World) : Calls Try.prog 49 #[.slice none 0 0, f] w fun e w' => e = .returned (.tuple #[]) ∧ w = w' := by
  go_enter Try.func49, Try.ntmps49
  go_wp2_with (first | (go_at_call 78; refine Calls.mono (lenNilL _) ?_; rintro e w' ⟨rfl, rfl⟩) | (go_at_call 77; refine Calls.mono (pdqNilL _ _ _) ?_; rintro e w' ⟨rfl, rfl⟩))
  go_end0
  exact ⟨rfl, rfl⟩

set_option maxRecDepth 20000 in
set_option maxHeartbeats 1000000 in
theorem sortedLn (g : Nat) (lb : Array Value) (eg : ∀ args w, (callFunc g args).run Try.prog w = .ok (.enter g args) w) (S Sp : List (Int × Int × Int) → Prop) (N : Nat) (hN : N ≤ 1000000) (hSN : ∀ ss, S ss → ss.length ≤ 1000000) (w : World)
    (hseq : SeqStopsK Fence.wide 8 Try.prog g lb (fun x => #[lnV x]) KeepsWalks S Sp N w) :
    Calls Try.prog 29 #[.func (.func g) #[] lb, .func (.func 32) #[] #[]] w fun e w' => SortedPostL S w e w' := by
  have hC := collectLn g lb eg S Sp N hN w hseq
  clear hseq
  go_enter Try.func29, Try.ntmps29
  go_wp2_with fail
  refine Calls.mono hC ?_
  rintro e w1 ⟨v, ss, rfl, hS, hrow, hn, hb⟩
  rcases hrow.2 with ⟨rfl, hz⟩ | ⟨gb, cap, cur, rfl, hbase, _⟩
  · obtain rfl : ss = [] := List.eq_nil_of_length_eq_zero hz
    go_wp2_with fail
    refine Calls.mono (sortNilL _ _) ?_
    rintro e w' ⟨rfl, rfl⟩
    go_wp2
    go_ret
    exact ⟨_, #[], [], rfl, hS, by simp, by intro i j _ h; simp at h, by simpa using hrow, hb⟩
  · go_wp2_with fail
    refine Calls.mono (sortLn_any w.heap.size gb cap ss w1 (hSN ss hS) hrow) ?_
    rintro e w2 ⟨rfl, d, hp, hs, hrow2, hg⟩
    go_wp2
    go_ret
    have hsz : ss.length = d.size := by rw [← hp.length_eq]; simp
    exact ⟨_, d, ss, rfl, hS, hp, hs, by rw [← hsz]; exact hrow2, hb.grown hg hb.size (fun k e => by cases e; exact hbase)⟩

end Go.Proofs.Ytmpgpmcmhbpjeab
