/-
  impl.valuesOf: a channel that holds the values.
-/
import Derived.Test.YtinfjbaloppgkaaLone
import Derived.Test.YtinfjbaloppgkaaPolyZ
import Derived.Test.YtinfjbaloppgkaaSlice
namespace Go.Proofs.Ytinfjbaloppgkaa
open Go.RowKit Go.Conc

/-- The values of S(n) at the first k numbers. -/
def valL (p : Int) (n : Int) (k : Nat) : List Int := (List.range k).map fun s : Nat => sv p (s : Int) n.toNat
theorem valL_succ (p n : Int) (k : Nat) : valL p n (k + 1) = valL p n k ++ [sv p (k : Int) n.toNat] := by simp [valL, List.range_succ]
theorem valL_length (p n : Int) (k : Nat) : (valL p n k).length = k := by simp [valL]
/-- What lies in the channel. -/
def bufL (L : List Int) : Array Value := (ints L).toArray
theorem bufL_size (L : List Int) : (bufL L).size = L.length := by simp [bufL, ints]
theorem bufL_push (L : List Int) (x : Int) : (bufL L).push (.int .i64 x) = bufL (L ++ [x]) := by simp [bufL, ints]
theorem bufL_getD (x : Int) (L : List Int) : (bufL (x :: L)).getD 0 undef = .int .i64 x := by simp [bufL, ints]
theorem bufL_rest (x : Int) (L : List Int) : (bufL (x :: L)).extract 1 (bufL (x :: L)).size = bufL L := by
  simp [bufL, ints]
  rw [List.take_of_length_le (by simp)]
/-- A closed channel that holds numbers. -/
def ChanHolds (w : World) (c cap : Nat) (L : List Int) : Prop := ∃ s r tm, w.heap[c]? = some (.chan cap (bufL L) true s r tm)
theorem chan_call {w w' : World} {c : Nat} {o : Obj} (h : w.heap[c]? = some o) (hb : Below w.heap.size w w') : w'.heap[c]? = some o := by
  have hl : c < w.heap.size := by
    rcases Nat.lt_or_ge c w.heap.size with h1 | h1
    · exact h1
    · rw [Array.getElem?_eq_none h1] at h; cases h
  rw [hb.block c hl]; exact h
theorem chan_lt {w : World} {c : Nat} {o : Obj} (h : w.heap[c]? = some o) : c < w.heap.size := by
  rcases Nat.lt_or_ge c w.heap.size with h1 | h1
  · exact h1
  · rw [Array.getElem?_eq_none h1] at h; cases h
theorem bytesI : ∃ i, Try.prog.info? 2 = some i ∧ i.bytes = 8 := by
  have h : (Try.prog.info? 2).map (·.bytes) = some 8 := by kernel_rfl
  obtain ⟨i, hi, hb⟩ := Option.map_eq_some_iff.1 h
  exact ⟨i, hi, hb⟩
theorem makeCh (p : Int) (w : World) (hp : isP p = true) : (Instr.makeChan 88 (.int .i64 p)).run Try.prog w = .ok (.chan (some w.heap.size)) (w.alloc (.chan p.toNat #[] false 0 0 false)) := by
  have hr := isP_range hp
  obtain ⟨i, hi, hb⟩ := bytesI
  obtain ⟨n, rfl⟩ := Int.eq_ofNat_of_zero_le (by omega : 0 ≤ p)
  simpa using run_makeChan (P := Try.prog) (w := w) Try.underlying88 hi .i64 n (by omega) (by rw [hb]; omega)

set_option maxRecDepth 20000 in
set_option maxHeartbeats 4000000 in
theorem valuesOf_any (p n : Int) (w : World) (hp : isP p = true) (hn : 0 ≤ n) (hn2 : n ≤ 1000) :
    Calls Try.prog 87 #[.int .i64 p, .int .i64 n] w fun e w' => e = .returned (.chan (some w.heap.size)) ∧
      ChanHolds w' w.heap.size p.toNat (valL p n p.toNat) ∧ Below w.heap.size w w' := by
  have hr := isP_range hp
  have hmc := fun w => makeCh p w hp
  refine calls_of_wpN Try.func87 rfl (fun w h => by simp at h) ?_
  simp only [Try.ntmps87, List.size_toArray, List.length_cons, List.length_nil, Nat.reduceAdd, Nat.reduceSub, Array.replicate_succ, Array.replicate_zero, List.push_toArray, List.append_toArray, List.nil_append, List.cons_append]
  apply wpN_seq
  refine wpN_of ?_
  go_wp2_with fail
  apply wpN_seq
  refine wpN_of ?_
  go_wp2_with fail
  apply wpN_seq
  apply wpN_seq
  refine wpN_of ?_
  go_wp2_with fail
  apply wpN_block
  refine wpN_loop (fun a' w' => ∃ (k s r : Nat) (tm : Bool) (u6 u11 u12 u13 u14 u15 u16 u17 u18 : Value), k ≤ p.toNat ∧ a' = { tmps := #[.int .i64 p, .int .i64 n, undef, undef, .chan none, .chan (some w.heap.size), u6, .int .i64 p, .chan (some w.heap.size), .int .i64 p, .int .i64 k, u11, u12, u13, u14, u15, u16, u17, u18, undef, undef], defers := [] } ∧ w'.heap[w.heap.size]? = some (.chan p.toNat (bufL (valL p n k)) false s r tm) ∧ Below w.heap.size w w') (fun a' _ => p.toNat - (intOf (a'.tmps.getD 10 undef)).toNat) ?_ ?_
  · exact ⟨0, 0, 0, false, _, _, _, _, _, _, _, _, _, by omega, rfl, heap_alloc_new _ _, (Below.refl _ _).alloc (Nat.le_refl _) _⟩
  · rintro a' wr ⟨k, s, r, tm, u6, u11, u12, u13, u14, u15, u16, u17, u18, hk, rfl, hch, hB⟩
    apply wpN_seq
    by_cases hlt : (k : Int) < p
    · refine wpN_of ?_
      go_wp2_with fail
      apply wpN_seq
      refine wpN_of ?_
      go_wp2_with fail
      apply wpN_seq
      apply wpN_block
      apply wpN_seq
      refine wpN_of ?_
      go_wp2_with fail
      refine wpN_region (show wpNL _ _ [0, 1, 2, 3, 4, 5] _ _ _ from ?_)
      refine wpNL_value (i := 0) (v := .chan (some w.heap.size)) rfl rfl rfl ?_
      refine wpNL_value (i := 1) (v := .int .i64 p) rfl rfl rfl ?_
      refine wpNL_value (i := 2) (v := .int .i64 n) rfl rfl rfl ?_
      refine wpNL_value (i := 3) (v := .int .i64 k) rfl rfl rfl ?_
      simp only [Act.put, List.getElem_toArray, List.getElem_cons_zero, List.getElem_cons_succ, List.setIfInBounds_toArray, List.set_cons_zero, List.set_cons_succ]
      refine wpNL_call (i := 4) (f := 49) (args := #[.int .i64 p, .int .i64 n, .int .i64 k]) (w' := wr) rfl rfl (by go_simp) (implValZ_any p (k : Int) n _ hp (by omega) (by omega) (by omega) (by omega)) (fun w1 hB1 => ?_)
      simp only [Act.put, List.getElem_toArray, List.getElem_cons_zero, List.getElem_cons_succ, List.setIfInBounds_toArray, List.set_cons_zero, List.set_cons_succ]
      have hch1 := chan_call hch hB1
      refine wpNL_send (i := 5) (c := w.heap.size) (v := .int .i64 (sv p (k : Int) n.toNat)) (z := .tuple #[]) rfl rfl rfl hch1 (by rw [bufL_size, valL_length]; omega) ?_
      refine wpNL_nil ?_
      simp only [Exit.inBlock, Exit.then]
      rw [show (bufL (valL p n k)).push (.int .i64 (sv p (k : Int) n.toNat)) = bufL (valL p n (k + 1)) from by rw [bufL_push, valL_succ]]
      have hl1 : w.heap.size < w1.heap.size := by have h1 := hB.size; have h2 := hB1.size; have h3 := (chan_lt hch); omega
      have hch2 := heap_setChan w1 w.heap.size p.toNat (bufL (valL p n (k + 1))) false (s + 1) r tm hl1
      have hb2 := below_setChan (bthen hB hB1) (Nat.le_refl _) p.toNat (bufL (valL p n (k + 1))) false (s + 1) r tm
      refine wpN_of ?_
      go_wp2_with fail
      refine ⟨⟨k + 1, s + 1, r, tm, _, _, _, _, _, _, _, _, _, by omega, rfl, hch2, hb2⟩, ?_⟩
      simp [intOf]; omega
    · obtain rfl : k = p.toNat := by omega
      have hcl := fun ats ty => run_close_open (P := Try.prog) (w := wr) ats ty hch
      have hl1 := chan_lt hch
      refine wpN_of ?_
      go_wp2_with fail
      apply wpN_seq
      refine wpN_of ?_
      go_wp2_with fail
      apply wpN_seq
      refine wpN_of ?_
      go_wp2_with fail
      refine wpN_of ?_
      go_wp2
      go_ret
      exact ⟨rfl, ⟨s, r, tm, heap_setChan wr _ _ _ true s r tm hl1⟩, below_setChan hB (Nat.le_refl _) _ _ true s r tm⟩

end Go.Proofs.Ytinfjbaloppgkaa
