/-
  impl.valueList, impl.ledTo: what comes out of the channel.
-/
import Derived.Test.YtinfjbaloppgkaaValuesOf
import Derived.Test.YtinfjbaloppgkaaGrow
namespace Go.Proofs.Ytinfjbaloppgkaa
open Go.RowKit Go.Conc

theorem valL_drop (p n : Int) {k m : Nat} (h : k < m) : (valL p n m).drop k = sv p (k : Int) n.toNat :: (valL p n m).drop (k + 1) := by
  rw [List.drop_eq_getElem_cons (by rw [valL_length]; exact h)]
  simp [valL]
def bufAt (w : World) (c : Nat) : Array Value := match w.heap[c]? with
  | some (.chan _ buf _ _ _ _) => buf
  | _ => #[]
theorem bufAt_of {w : World} {c cap s r : Nat} {buf : Array Value} {cl tm : Bool} (h : w.heap[c]? = some (.chan cap buf cl s r tm)) : bufAt w c = buf := by
  unfold bufAt; rw [h]
theorem own_setChan {w : World} {base : Nat} {e : TypeId} {k n c cap s r : Nat} {buf : Array Value} {cl tm : Bool} {v : Value} {xs : List Value} (h : w.ownsRow base e k v n xs) (hc : c < base) : (w.setChan c cap buf cl s r tm).ownsRow base e k v n xs := by
  obtain ⟨h1, h2⟩ := h
  refine ⟨h1, ?_⟩
  rcases h2 with h2 | ⟨g, cap', cur, rfl, hg, hh, q⟩
  · exact .inl h2
  · refine .inr ⟨g, cap', cur, rfl, hg, ?_, q⟩
    simp only [World.setChan]
    rw [Array.getElem?_setIfInBounds_ne (by omega)]
    exact hh
/-- What a function leaves that returns a slice of its own. -/
def OwnList (_p : Int) (L : List Int) (w : World) (e : Ending) (w' : World) : Prop := ∃ v n, e = .returned v ∧ w'.ownsRow w.heap.size 2 1 v n (ints L) ∧ Below w.heap.size w w'

set_option linter.unusedSimpArgs false in
set_option maxRecDepth 20000 in
set_option maxHeartbeats 4000000 in
theorem valueList_any (p n : Int) (w : World) (hp : isP p = true) (hn : 0 ≤ n) (hn2 : n ≤ 1000) :
    Calls Try.prog 56 #[.int .i64 p, .int .i64 n] w fun e w' => OwnList p (valL p n p.toNat) w e w' := by
  have hr := isP_range hp
  have hc0 : (p.toNat : Int) = p := Int.toNat_of_nonneg (by omega)
  have HC0 := Lib.hid hc0
  clear hc0
  obtain ⟨i0, hi, hz0, hz1, hz2⟩ := info_parts infoInt1
  refine calls_of_wpN Try.func56 rfl (fun w h => by obtain ⟨_, _, h, _⟩ := h; cases h) ?_
  simp only [Try.ntmps56, List.size_toArray, List.length_cons, List.length_nil, Nat.reduceAdd, Nat.reduceSub, Array.replicate_succ, Array.replicate_zero, List.push_toArray, List.append_toArray, List.nil_append, List.cons_append]
  apply wpN_seq
  refine wpN_of ?_
  go_wp2_with fail
  apply wpN_seq
  refine wpN_of ?_
  go_wp2_with fail
  apply wpN_seq
  apply wpN_seq
  refine wpN_of ?_
  go_wp2_with fail
  refine Calls.mono (valuesOf_any p n w hp hn hn2) ?_
  rintro e w0 ⟨rfl, ⟨s, r, tm, hch⟩, hB0⟩
  have hl0 := chan_lt hch
  go_wp2_with fail
  apply wpN_block
  refine wpN_loop (fun a' w' => ∃ (k s r : Nat) (tm : Bool) (v u6 u10 u11 u12 u13 u14 u15 u16 : Value), k ≤ p.toNat ∧ a' = { tmps := #[.int .i64 p, .int .i64 n, undef, undef, .slice none 0 0, v, u6, .int .i64 p, .int .i64 n, .chan (some w.heap.size), u10, u11, u12, u13, u14, u15, u16, undef], defers := [] } ∧ w'.heap[w.heap.size]? = some (.chan p.toNat (bufL ((valL p n p.toNat).drop k)) true s r tm) ∧ w'.ownsRow (w.heap.size + 1) 2 1 v k (ints (valL p n k)) ∧ Below w.heap.size w w') (fun _ w' => (bufAt w' w.heap.size).size) ?_ ?_
  · exact ⟨0, s, r, tm, _, _, _, _, _, _, _, _, _, by omega, rfl, hch, World.ownsRow_nil _ _ _ _, hB0⟩
  · rintro a' wr ⟨k, s, r, tm, v, u6, u10, u11, u12, u13, u14, u15, u16, hk, rfl, hch, hown, hB⟩
    have hl1 := chan_lt hch
    apply wpN_seq
    by_cases hlt : k < p.toNat
    · have hdrop := valL_drop p n hlt
      rw [hdrop] at hch
      refine wpN_region (show wpNL _ _ [0, 1] _ _ _ from ?_)
      refine wpNL_recv (i := 0) (c := w.heap.size) (z := .int .i64 0) rfl rfl (by go_simp; rfl) hch (by simp [bufL, ints]) ?_
      rw [bufL_getD, bufL_rest]
      simp only [Act.put, List.getElem_toArray, List.getElem_cons_zero, List.getElem_cons_succ, List.setIfInBounds_toArray, List.set_cons_zero, List.set_cons_succ]
      refine wpNL_value (i := 1) (v := .bool true) rfl rfl rfl ?_
      simp only [Act.put, List.getElem_toArray, List.getElem_cons_zero, List.getElem_cons_succ, List.setIfInBounds_toArray, List.set_cons_zero, List.set_cons_succ]
      refine wpNL_nil ?_
      have HM := Lib.hid (show (bufAt wr w.heap.size).size = p.toNat - k by rw [bufAt_of hch, ← hdrop, bufL_size, List.length_drop, valL_length])
      have hB1 := below_setChan hB (Nat.le_refl _) p.toNat (bufL ((valL p n p.toNat).drop (k + 1))) true s (r + 1) tm
      have ho1 := own_setChan (cap := p.toNat) (buf := bufL ((valL p n p.toNat).drop (k + 1))) (cl := true) (s := s) (r := r + 1) (tm := tm) hown (by omega : w.heap.size < w.heap.size + 1)
      have hch1 := heap_setChan wr w.heap.size p.toNat (bufL ((valL p n p.toNat).drop (k + 1))) true s (r + 1) tm hl1
      have hsz := size_setChan wr w.heap.size p.toNat (bufL ((valL p n p.toNat).drop (k + 1))) true s (r + 1) tm
      obtain ⟨w1, hw1⟩ : ∃ w1, w1 = wr.setChan w.heap.size p.toNat (bufL ((valL p n p.toNat).drop (k + 1))) true s (r + 1) tm := ⟨_, rfl⟩
      rw [← hw1] at hB1 ho1 hch1 hsz ⊢
      have hlt1 : w.heap.size < w1.heap.size := by omega
      clear hw1 hown hB hch hsz
      obtain ⟨x, hx⟩ : ∃ x, x = sv p (k : Int) n.toNat := ⟨_, rfl⟩
      have HL := Lib.hid (show valL p n (k + 1) = valL p n k ++ [x] from by rw [hx]; exact valL_succ p n k)
      rw [← hx]
      clear hx hdrop
      simp only [Exit.then]
      apply wpN_seq
      refine wpN_of ?_
      go_wp2_with fail
      apply wpN_block
      apply wpN_seq
      refine wpN_of ?_
      go_wp2_with fail
      refine wpN_of ?_
      go_wp2_with (at_builtin; refine wpList_append_own _ rfl _ _ 25 rfl (w.heap.size + 1) 2 i0 (.int .i64 0) 1 8 Try.underlying25 hi hz0 hz1 hz2 rfl (by decide) _ _ _ rfl (ho1.alloc _) ⟨w1.heap.size, 0, none⟩ 1 1 [.int .i64 x] rfl rfl ?c1 (int_oneCell _) ?c3 ?c4 ?c5 ?_)
      case c1 =>
        intro j u hj
        match j, hj with
        | 0, hj => simp at hj; subst hj; simp [Addr.add]
      case c3 => unfold maxLen; omega
      case c4 => omega
      case c5 => simp; omega
      intro v' w2 hown' hgrow _
      have hb2 : Below w.heap.size w w2 := (hB1.alloc (by omega) _).grown hgrow (by simp; omega) (fun g hg => by have := (ho1.lt g hg).1; omega)
      have hch2 : w2.heap[w.heap.size]? = some (.chan p.toNat (bufL ((valL p n p.toNat).drop (k + 1))) true s (r + 1) tm) := by
        rw [hgrow.block w.heap.size (by simp; omega) (fun h => by have := (ho1.lt _ h.symm).1; omega), Below.heap_alloc w1 _ w.heap.size hlt1]
        exact hch1
      have HN := Lib.hid (own_snoc hown' (rfl : k + 1 = k + 1))
      clear hown' hgrow ho1
      go_wp2_with fail
      refine ⟨⟨k + 1, s, r + 1, tm, v', _, _, _, _, _, _, _, _, by omega, rfl, hch2, by rw [HL.out]; exact HN.out, hb2⟩, ?_⟩
      rw [HM.out, bufAt_of hch2, bufL_size, List.length_drop, valL_length]; omega
    · obtain rfl : k = p.toNat := by omega
      rw [show bufL ((valL p n p.toNat).drop p.toNat) = #[] from by rw [List.drop_eq_nil_of_le (by rw [valL_length]; exact Nat.le_refl _)]; rfl] at hch
      refine wpN_region (show wpNL _ _ [0, 1] _ _ _ from ?_)
      refine wpNL_shut (i := 0) (c := w.heap.size) (z := .int .i64 0) rfl rfl (by go_simp; rfl) hch ?_
      simp only [Act.put, List.getElem_toArray, List.getElem_cons_zero, List.getElem_cons_succ, List.setIfInBounds_toArray, List.set_cons_zero, List.set_cons_succ]
      refine wpNL_value (i := 1) (v := .bool false) rfl rfl rfl ?_
      simp only [Act.put, List.getElem_toArray, List.getElem_cons_zero, List.getElem_cons_succ, List.setIfInBounds_toArray, List.set_cons_zero, List.set_cons_succ]
      refine wpNL_nil ?_
      simp only [Exit.then]
      apply wpN_seq
      refine wpN_of ?_
      go_wp2_with fail
      apply wpN_seq
      refine wpN_of ?_
      go_wp2_with fail
      refine wpN_of ?_
      go_wp2
      (refine bodyPost_ret (v := v) (by simp [results, Try.results56, go_sem]) rfl ⟨v, _, rfl, own_base hown (by omega), hB⟩)

def ledL (p n s : Int) : List Int := upTo (fun t => sv p t n.toNat == s) p.toNat

set_option linter.unusedSimpArgs false in
set_option maxRecDepth 20000 in
set_option maxHeartbeats 4000000 in
theorem ledTo_any (p n s0 : Int) (w : World) (hp : isP p = true) (hn : 0 ≤ n) (hn2 : n ≤ 1000) :
    Calls Try.prog 59 #[.int .i64 p, .int .i64 n, .int .i64 s0] w fun e w' => OwnList p (ledL p n s0) w e w' := by
  have hr := isP_range hp
  have hc0 : (p.toNat : Int) = p := Int.toNat_of_nonneg (by omega)
  have HC0 := Lib.hid hc0
  clear hc0
  obtain ⟨i0, hi, hz0, hz1, hz2⟩ := info_parts infoInt1
  refine calls_of_wpN Try.func59 rfl (fun w h => by obtain ⟨_, _, h, _⟩ := h; cases h) ?_
  simp only [Try.ntmps59, List.size_toArray, List.length_cons, List.length_nil, Nat.reduceAdd, Nat.reduceSub, Array.replicate_succ, Array.replicate_zero, List.push_toArray, List.append_toArray, List.nil_append, List.cons_append]
  apply wpN_seq
  refine wpN_of ?_
  go_wp2_with fail
  apply wpN_seq
  refine wpN_of ?_
  go_wp2_with fail
  apply wpN_seq
  refine wpN_of ?_
  go_wp2_with fail
  apply wpN_seq
  apply wpN_seq
  refine wpN_of ?_
  go_wp2_with fail
  refine Calls.mono (valuesOf_any p n w hp hn hn2) ?_
  rintro e w0 ⟨rfl, ⟨s, r, tm, hch⟩, hB0⟩
  have hl0 := chan_lt hch
  go_wp2_with fail
  apply wpN_block
  refine wpN_loop (fun a' w' => ∃ (k s r : Nat) (tm : Bool) (v u9 u13 u14 u15 u16 u17 u18 u19 u20 u21 u22 u23 u24 : Value), k ≤ p.toNat ∧ a' = { tmps := #[.int .i64 p, .int .i64 n, .int .i64 s0, undef, undef, undef, .slice none 0 0, v, .int .i64 k, u9, .int .i64 p, .int .i64 n, .chan (some w.heap.size), u13, u14, u15, u16, u17, u18, u19, u20, u21, u22, u23, u24, undef], defers := [] } ∧ w'.heap[w.heap.size]? = some (.chan p.toNat (bufL ((valL p n p.toNat).drop k)) true s r tm) ∧ w'.ownsRow (w.heap.size + 1) 2 1 v (upTo (fun t => sv p t n.toNat == s0) k).length (ints (upTo (fun t => sv p t n.toNat == s0) k)) ∧ Below w.heap.size w w') (fun _ w' => (bufAt w' w.heap.size).size) ?_ ?_
  · exact ⟨0, s, r, tm, _, _, _, _, _, _, _, _, _, _, _, _, _, _, by omega, rfl, hch, World.ownsRow_nil _ _ _ _, hB0⟩
  · rintro a' wr ⟨k, s, r, tm, v, u9, u13, u14, u15, u16, u17, u18, u19, u20, u21, u22, u23, u24, hk, rfl, hch, hown, hB⟩
    have hl1 := chan_lt hch
    apply wpN_seq
    by_cases hlt : k < p.toNat
    · have hdrop := valL_drop p n hlt
      rw [hdrop] at hch
      refine wpN_region (show wpNL _ _ [0, 1] _ _ _ from ?_)
      refine wpNL_recv (i := 0) (c := w.heap.size) (z := .int .i64 0) rfl rfl (by go_simp; rfl) hch (by simp [bufL, ints]) ?_
      rw [bufL_getD, bufL_rest]
      simp only [Act.put, List.getElem_toArray, List.getElem_cons_zero, List.getElem_cons_succ, List.setIfInBounds_toArray, List.set_cons_zero, List.set_cons_succ]
      refine wpNL_value (i := 1) (v := .bool true) rfl rfl rfl ?_
      simp only [Act.put, List.getElem_toArray, List.getElem_cons_zero, List.getElem_cons_succ, List.setIfInBounds_toArray, List.set_cons_zero, List.set_cons_succ]
      refine wpNL_nil ?_
      have HM := Lib.hid (show (bufAt wr w.heap.size).size = p.toNat - k by rw [bufAt_of hch, ← hdrop, bufL_size, List.length_drop, valL_length])
      have hB1 := below_setChan hB (Nat.le_refl _) p.toNat (bufL ((valL p n p.toNat).drop (k + 1))) true s (r + 1) tm
      have ho1 := own_setChan (cap := p.toNat) (buf := bufL ((valL p n p.toNat).drop (k + 1))) (cl := true) (s := s) (r := r + 1) (tm := tm) hown (by omega : w.heap.size < w.heap.size + 1)
      have hch1 := heap_setChan wr w.heap.size p.toNat (bufL ((valL p n p.toNat).drop (k + 1))) true s (r + 1) tm hl1
      have hsz := size_setChan wr w.heap.size p.toNat (bufL ((valL p n p.toNat).drop (k + 1))) true s (r + 1) tm
      obtain ⟨w1, hw1⟩ : ∃ w1, w1 = wr.setChan w.heap.size p.toNat (bufL ((valL p n p.toNat).drop (k + 1))) true s (r + 1) tm := ⟨_, rfl⟩
      rw [← hw1] at hB1 ho1 hch1 hsz ⊢
      have hlt1 : w.heap.size < w1.heap.size := by omega
      clear hw1 hown hB hch hsz
      obtain ⟨x, hx⟩ : ∃ x, x = sv p (k : Int) n.toNat := ⟨_, rfl⟩
      rw [← hx]
      have HX := Lib.hid hx
      clear hx hdrop
      have hul := upTo_le (fun t => sv p t n.toNat == s0) k
      simp only [Exit.then]
      apply wpN_seq
      refine wpN_of ?_
      go_wp2_with fail
      apply wpN_block
      apply wpN_seq
      refine wpN_of ?_
      go_wp2_with fail
      rcases bool_ways (x == s0) with ht | ht
      · have HU := Lib.hid (upTo_no (f := fun t => sv p t n.toNat == s0) (k := k) (by show (sv p (k : Int) n.toNat == s0) = false; rw [← HX.out]; exact ht))
        refine wpN_of ?_
        go_wp2_with fail
        refine ⟨⟨k + 1, s, r + 1, tm, v, _, _, _, _, _, _, _, _, _, _, _, _, _, by omega, rfl, hch1, by rw [HU.out]; exact ho1, hB1⟩, ?_⟩
        rw [HM.out, bufAt_of hch1, bufL_size, List.length_drop, valL_length]; omega
      · have HU := Lib.hid (upTo_yes (f := fun t => sv p t n.toNat == s0) (k := k) (by show (sv p (k : Int) n.toNat == s0) = true; rw [← HX.out]; exact ht))
        refine wpN_of ?_
        go_wp2_with (at_builtin; refine wpList_append_own _ rfl _ _ 25 rfl (w.heap.size + 1) 2 i0 (.int .i64 0) 1 8 Try.underlying25 hi hz0 hz1 hz2 rfl (by decide) _ _ _ rfl (ho1.alloc _) ⟨w1.heap.size, 0, none⟩ 1 1 [.int .i64 (k : Int)] rfl rfl ?c1 (int_oneCell _) ?c3 ?c4 ?c5 ?_)
        case c1 =>
          intro j u hj
          match j, hj with
          | 0, hj => simp at hj; subst hj; simp [Addr.add]
        case c3 => unfold maxLen; omega
        case c4 => omega
        case c5 => simp; omega
        intro v' w2 hown' hgrow _
        have hb2 : Below w.heap.size w w2 := (hB1.alloc (by omega) _).grown hgrow (by simp; omega) (fun g hg => by have := (ho1.lt g hg).1; omega)
        have hch2 : w2.heap[w.heap.size]? = some (.chan p.toNat (bufL ((valL p n p.toNat).drop (k + 1))) true s (r + 1) tm) := by
          rw [hgrow.block w.heap.size (by simp; omega) (fun h => by have := (ho1.lt _ h.symm).1; omega), Below.heap_alloc w1 _ w.heap.size hlt1]
          exact hch1
        have HN := Lib.hid (own_snoc hown' (by rw [HU.out]; simp : _ = (upTo (fun t => sv p t n.toNat == s0) (k + 1)).length))
        clear hown' hgrow ho1
        go_wp2_with fail
        refine ⟨⟨k + 1, s, r + 1, tm, v', _, _, _, _, _, _, _, _, _, _, _, _, _, by omega, rfl, hch2, by have h := HN.out; rw [HU.out] at h ⊢; exact h, hb2⟩, ?_⟩
        rw [HM.out, bufAt_of hch2, bufL_size, List.length_drop, valL_length]; omega
    · obtain rfl : k = p.toNat := by omega
      rw [show bufL ((valL p n p.toNat).drop p.toNat) = #[] from by rw [List.drop_eq_nil_of_le (by rw [valL_length]; exact Nat.le_refl _)]; rfl] at hch
      refine wpN_region (show wpNL _ _ [0, 1] _ _ _ from ?_)
      refine wpNL_shut (i := 0) (c := w.heap.size) (z := .int .i64 0) rfl rfl (by go_simp; rfl) hch ?_
      simp only [Act.put, List.getElem_toArray, List.getElem_cons_zero, List.getElem_cons_succ, List.setIfInBounds_toArray, List.set_cons_zero, List.set_cons_succ]
      refine wpNL_value (i := 1) (v := .bool false) rfl rfl rfl ?_
      simp only [Act.put, List.getElem_toArray, List.getElem_cons_zero, List.getElem_cons_succ, List.setIfInBounds_toArray, List.set_cons_zero, List.set_cons_succ]
      refine wpNL_nil ?_
      simp only [Exit.then]
      apply wpN_seq
      refine wpN_of ?_
      go_wp2_with fail
      apply wpN_seq
      refine wpN_of ?_
      go_wp2_with fail
      refine wpN_of ?_
      go_wp2
      (refine bodyPost_ret (v := v) (by simp [results, Try.results59, go_sem]) rfl ⟨v, _, rfl, own_base hown (by omega), hB⟩)

end Go.Proofs.Ytinfjbaloppgkaa
