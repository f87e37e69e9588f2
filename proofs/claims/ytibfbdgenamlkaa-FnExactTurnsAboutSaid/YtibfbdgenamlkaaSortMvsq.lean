/-
  slices.SortFunc at moves with compareMoves.
-/
import Derived.Test.YtibfbdgenamlkaaImplCmp7q
import Derived.Test.YtibfbdgenamlkaaSpecPut7q
import Derived.Test.YtibfbdgenamlkaaMgq0
import Derived.Sort.Grow
import Derived.Shelf.SlSortCmp.Insertion
import Derived.Test.YtibfbdgenamlkaaShelfq

namespace Go.Proofs.Ytibfbdgenamlkaa
open Go.RowKit Go.Sort

/-- How compareMoves orders. -/
def cfM (x y : T6) : Int := lexC [x.1, x.2.1, x.2.2.1, x.2.2.2.1, x.2.2.2.2.1, x.2.2.2.2.2] [y.1, y.2.1, y.2.2.1, y.2.2.2.1, y.2.2.2.2.1, y.2.2.2.2.2]
theorem lexM_cons (a b : Int) (xs ys : List Int) : lexC (a :: xs) (b :: ys) < 0 ↔ a < b ∨ a = b ∧ lexC xs ys < 0 := by
  simp only [lexC, cmpI]
  by_cases h1 : a < b
  · simp [h1]
  · by_cases h2 : b < a
    · have : ¬ a = b := by omega
      simp [h1, h2, this]
    · have h3 : a = b := by omega
      subst h3
      simp
theorem cfM_lt (x y : T6) : cfM x y < 0 ↔ lt6 x y := by
  simp only [cfM, lexM_cons, lt6]
  simp [lexC]
theorem ltOfM (x y : T6) : ltOf cfM x y = decide (cfM x y < 0) := rfl
theorem ltOfM_false {x y : T6} : ltOf cfM x y = false ↔ ¬ lt6 x y := by rw [ltOfM, decide_eq_false_iff_not, cfM_lt]
theorem ltOfM_true {x y : T6} : ltOf cfM x y = true ↔ lt6 x y := by rw [ltOfM, decide_eq_true_iff, cfM_lt]
theorem swoM : SWO (ltOf cfM) where
  irrefl x := by rw [ltOfM_false]; exact lt6_irr x
  trans x y z h1 h2 := by rw [ltOfM_true] at *; exact lt6_trans h1 h2
  ntrans x y z h1 h2 := by rw [ltOfM_false] at *; unfold lt6 at *; omega
/-- What is sorted and has the members of a sorted list is that list. -/
theorem sorted_moves {L : List T6} {d : Array T6} {ss : List T6} (hL : L.Pairwise lt6) (hn : ss.Nodup) (hm : ∀ z, z ∈ ss ↔ z ∈ L) (hp : d.toList.Perm ss)
    (hs : ∀ i j, i < j → j < d.size → ltOf cfM d[j]! d[i]! = false) : d.toList = L := by
  have hLn : L.Nodup := hL.imp fun h e => by subst e; exact lt6_irr _ h
  have hp2 : d.toList.Perm L := hp.trans ((List.perm_ext_iff_of_nodup hn hLn).2 hm)
  refine List.Perm.eq_of_pairwise (le := fun u v => ¬ lt6 v u) ?_ ?_ ?_ hp2
  · intro a b _ _ h1 h2
    rcases lt6_tri a b with h | h | h
    · exact absurd h h2
    · exact h
    · exact absurd h h1
  · rw [List.pairwise_iff_getElem]
    intro i j hi hj hij
    have := hs i j hij (by simpa using hj)
    rw [ltOfM_false, getElem!_pos d i (by simpa using hi), getElem!_pos d j (by simpa using hj)] at this
    simpa using this
  · exact hL.imp fun h => fun k => lt6_irr _ (lt6_trans h k)

end Go.Proofs.Ytibfbdgenamlkaa
namespace Go.Proofs.Ytibfbdgenamlkaa
open Go.RowKit

theorem insNilM (f : Value) (w : World) : Calls Try.prog 99 #[.slice none 0 0, .int .i64 0, .int .i64 0, f] w fun e w' => e = .returned (.tuple #[]) ∧ w = w' := by
  go_enter Try.func99, Try.ntmps99
  go_wp2
  refine wp_loop_rounds 1 ?_
  rw [rounds_succ]
  go_wp2
  go_end0
  exact ⟨rfl, rfl⟩
set_option maxRecDepth 20000 in
set_option maxHeartbeats 1000000 in
theorem pdqNilM (lim : Int) (f : Value) (w : World) : Calls Try.prog 86 #[.slice none 0 0, .int .i64 0, .int .i64 0, .int .i64 lim, f] w fun e w' => e = .returned (.tuple #[]) ∧ w = w' := by
  go_enter Try.func86, Try.ntmps86
  go_wp2
  refine wp_loop_rounds 1 ?_
  rw [rounds_succ]
  go_wp2_with (go_at_call 99; refine Calls.mono (insNilM _ _) ?_; rintro e w' ⟨rfl, rfl⟩)
  refine bodyPost_ret (results_none rfl _ _ _) rfl ?_
  exact ⟨rfl, rfl⟩


end Go.Proofs.Ytibfbdgenamlkaa
namespace Go.Proofs.Ytibfbdgenamlkaa
open Go.RowKit Go.Sort Go.Shelf

def encM (x : T6) : List Value := [.int .i64 x.1, .int .i64 x.2.1, .int .i64 x.2.2.1, .int .i64 x.2.2.2.1, .int .i64 x.2.2.2.2.1, .int .i64 x.2.2.2.2.2]
theorem encM_flat (ss : List (T6)) : ss.flatMap encM = ints (flat6 ss) := by
  induction ss with
  | nil => rfl
  | cons x ss ih => rw [List.flatMap_cons, ih]; rfl
theorem encM_one (x : T6) : ∀ v ∈ encM x, v.oneCell' = true := by
  intro v hv; simp [encM] at hv; rcases hv with rfl | rfl | rfl | rfl | rfl | rfl <;> rfl

theorem encM_row (ss : List (T6)) : flatK encM 6 ss.toArray = (ints (flat6 ss)).toArray := by
  rw [← encM_flat]; exact flatK_list (enc := encM) (k := 6) (fun _ => rfl) (by decide) ss

def SortPostM (base blk cap : Nat) (ss : List (T6)) (w : World) (e : Ending) (w' : World) : Prop :=
  e = .returned (.tuple #[]) ∧ ∃ d : Array (T6), d.toList.Perm ss ∧ (∀ i j, i < j → j < d.size → ltOf cfM d[j]! d[i]! = false) ∧
    w'.ownsRow base 62 6 (.slice (some ⟨blk, 0, none⟩) ss.length cap) ss.length (ints (flat6 d.toList)) ∧ w.grownBy w' (some blk)

theorem cmpLaysM (blk size : Nat) (w : World) : CmpLays Try.prog 66 #[] encM 6 cfM blk 0 size w := fun _ _ _ _ x y =>
  Calls.mono (compareMoves_any x.1 x.2.1 x.2.2.1 x.2.2.2.1 x.2.2.2.2.1 x.2.2.2.2.2 y.1 y.2.1 y.2.2.1 y.2.2.2.1 y.2.2.2.2.1 y.2.2.2.2.2 _) fun _ _ h => h

theorem sortMv_any (base blk cap : Nat) (ss : List (T6)) (w : World) (hlen : ss.length ≤ 1000000) (hown : w.ownsRow base 62 6 (.slice (some ⟨blk, 0, none⟩) ss.length cap) ss.length (ints (flat6 ss))) :
    Calls Try.prog 65 #[.slice (some ⟨blk, 0, none⟩) ss.length cap, .func (.func 66) #[] #[]] w fun e w' => SortPostM base blk cap ss w e w' := by
  rcases hown.2 with ⟨h, _⟩ | ⟨g, cap', cur, e, hbase, hgb, h1, h2, h3, h4⟩
  · cases h
  cases e
  have hH : HoldsK encM 6 w blk 0 ss.toArray := by
    unfold HoldsK
    rw [encM_row]
    refine holds_vals hgb ?_
    rw [ints_length, flat6_length]; exact h4
  have hblk : blk < w.heap.size := (Array.getElem?_eq_some_iff.1 hgb).1
  have hcon := AnyQ.slices_SortFunc (P := Try.prog) Try.sortMv 6 Try.isAgg62 Try.sizeOf62 encM (fun _ => rfl) encM_one cfM swoM 66 #[] blk 0 cap ss.toArray w (enters_of Try.func66 (by kernel_rfl) rfl) (cmpLaysM blk _ w) hH hblk (by simp; omega)
  rw [List.size_toArray] at hcon
  refine Calls.mono hcon ?_
  rintro e w' ⟨rfl, d, n, os, hp, hs, rfl⟩
  have hsz : d.size = ss.length := by have := hp.1; simpa using this
  have hperm : d.toList.Perm ss := by
    have h := hp.2.2
    rw [Array.extract_eq_self_of_le (by rw [hsz]; exact Nat.le_refl _), Array.extract_eq_self_of_le (by simp)] at h
    simpa using h
  have hw : sortWorldK encM 6 w blk 0 n d os = grow (putRow id (Go.Sort.ahead w n) blk 0 (ints (flat6 d.toList)).toArray) os := by
    unfold sortWorldK putRowK
    rw [← encM_row]
  rw [hw]
  refine ⟨rfl, d, hperm, fun i j hij hj => hs i j (Nat.zero_le _) hij (by rw [hsz] at hj; exact hj), ?_, grownBy_vals _⟩
  exact ownsRow_vals (by rw [ints_length, flat6_length, ← hsz]; simp) hbase hgb h1 h2 h3

theorem lenNilM (w : World) : Calls Try.prog 87 #[.int .u64 0] w fun e w' => e = .returned (.int .i64 0) ∧ w = w' :=
  Calls.mono (Any.bits_Len (SlLaysF0.n15.bits (P := Try.prog) (ρ := Try.sortMv_ren) { Try.sortMv with }) 0 w (by decide) (by decide)) fun _ _ h => ⟨h.1.trans (ret_int (by decide)), h.2.symm⟩

set_option maxRecDepth 20000 in
set_option maxHeartbeats 1000000 in
theorem sortNilM (f : Value) (w : World) : Calls Try.prog 65 #[.slice none 0 0, f] w fun e w' => e = .returned (.tuple #[]) ∧ w = w' := by
  go_enter Try.func65, Try.ntmps65
  go_wp2_with (first | (go_at_call 87; refine Calls.mono (lenNilM _) ?_; rintro e w' ⟨rfl, rfl⟩) | (go_at_call 86; refine Calls.mono (pdqNilM _ _ _) ?_; rintro e w' ⟨rfl, rfl⟩))
  go_end0
  exact ⟨rfl, rfl⟩


end Go.Proofs.Ytibfbdgenamlkaa
