/-
  SpreadsOfOrder: the program's and the model's.
-/
import Derived.Test.YtinfjbaloppgkaaSpecCode5
import Derived.Test.YtinfjbaloppgkaaDoorS
import Derived.Test.YtinfjbaloppgkaaCSpreadsOfOrder
import Derived.Test.YtinfjbaloppgkaaGroups
namespace Go.Proofs.Ytinfjbaloppgkaa
open Go.RowKit

set_option linter.unusedVariables false in
def ySOC (p n : Int) : Int := codeOf p (inB n 1 1000)
set_option linter.unusedVariables false in
def ySOL (p n : Int) : List Int := if codeOf p (inB n 1 1000) = 0 then grpL p p.toNat n else []
theorem ySO_good {p n : Int} (h : codeOf p (inB n 1 1000) = 0) : ySOL p n = grpL p p.toNat n ∧ ySOC p n = 0 := ⟨if_pos h, h⟩
theorem ySO_bad {p n c : Int} (h : codeOf p (inB n 1 1000) = c) (hc : c ≠ 0) : ySOL p n = [] ∧ ySOC p n = c := ⟨if_neg (fun e => hc (h.symm.trans e)), h⟩
theorem ySO_len (p n : Int) : (ySOL p n).length ≤ 4096 := by
  unfold ySOL
  by_cases h : codeOf p (inB n 1 1000) = 0
  · rw [if_pos h]
    have hp := (code_good h).1
    have hr := isP_range hp
    have h1 := grp_le p p.toNat n; omega
  · rw [if_neg h]; exact Nat.zero_le _

set_option linter.unusedSimpArgs false in
set_option linter.unusedVariables false in
set_option maxRecDepth 20000 in
set_option maxHeartbeats 2000000 in
theorem specSpreadsOfOrder_any (p n : Int) (w : World) :
    Calls Try.prog 32 #[.int .i64 p, .int .i64 n] w fun e w' => SlicePost 2 1 (ySOL p n) (ySOC p n) w e w' := by
  rcases code_cases p (inB n 1 1000) with ⟨h0, hp, hb⟩ | h1 | h1
  · have HV := Lib.hid (ySO_good h0)
    have hr := isP_range hp
    have hn := inB_out hb
    have hb5 : inB n 0 1000 = true := inB_true (by omega)
    go_enter Try.func32, Try.ntmps32
    go_wp2_with fail
    refine Calls.mono (code5_nil _ _ _) ?_
    rintro e w' ⟨rfl, rfl⟩
    rw [codeOf_in hp hb5]
    obtain ⟨i0, hi, hz0, hz1, hz2⟩ := info_parts infoInt1
    have hc0 : (p.toNat : Int) = p := Int.toNat_of_nonneg (by omega)
    have HC0 := Lib.hid hc0
    clear hc0
    go_wp2_with fail
    go_loopw [7, 8] (fun v i wr => ∃ k : Nat, (k : Int) ≤ p ∧ i = .int .i64 k ∧ wr.ownsRow w.heap.size 2 1 v (grpL p k n).length (ints (grpL p k n)) ∧ Below w.heap.size w wr) (fun _ i _ => p.toNat - (intOf i).toNat)
    case' atStart => exact ⟨0, by omega, rfl, own_lit0 _ _ _ (by first | omega | (simp; done) | (simp; omega)) (by first | rfl | (simp; done) | (simp; omega)), by (repeat (first | with_reducible exact Below.refl _ _ | with_reducible refine balloc ?_ _ | with_reducible refine bdrewN ?_ _ | with_reducible refine Below.drew ?_ | with_reducible refine bthen ?_ (by with_reducible assumption) | with_reducible refine Below.setCell ?_ (by first | (simp; done) | (simp; omega)) _))⟩
    case' round => obtain ⟨k, hk, rfl, hown, hbel⟩ := hrel
    have hul := grp_le p k n
    by_cases hlt : (k : Int) < p
    · have hcall := fun w' => specOrd_any p (k : Int) w' hp (by omega) hlt
      have h31 := (ord_is hp (show (0 : Int) ≤ (k : Int) by omega) hlt).2.2
      by_cases ht : (ordN p (k : Int) : Int) = n
      · have HU := Lib.hid (grp_yes ht)
        have ht' : ((ordN p (k : Int) : Int) == n) = true := by rw [beq_iff_eq]; exact ht
        clear ht
        go_wp2_with fail
        refine Calls.mono (hcall _) ?_
        rintro e w' ⟨rfl, rfl⟩
        have hsz := hbel.size
        go_wp2_with (at_builtin; refine wpList_append_own _ rfl _ _ 25 rfl w.heap.size 2 i0 (.int .i64 0) 1 8 Try.underlying25 hi hz0 hz1 hz2 rfl (by decide) _ _ _ rfl (hown.alloc _) ⟨wr.heap.size, 0, none⟩ 1 1 [.int .i64 (k : Int)] rfl rfl ?c1 (int_oneCell _) ?c3 ?c4 ?c5 ?_)
        case c1 =>
          intro j u hj
          match j, hj with
          | 0, hj => simp at hj; subst hj; simp [Addr.add]
        case c3 => unfold maxLen; omega
        case c4 => omega
        case c5 => simp; omega
        intro v' w2 hown' hgrow _
        have hb2 : Below w.heap.size w w2 := (hbel.alloc (by omega) _).grown hgrow (by simp; omega) (fun g hg => (hown.lt g hg).1)
        have HN := Lib.hid (own_snoc hown' (by rw [HU.out]; simp : _ = (grpL p (k + 1) n).length))
        clear hown' hgrow hown hbel
        go_wp2
        go_roundw
        case rel => exact ⟨k + 1, by omega, by go_num, by have h := HN.out; rw [HU.out] at h ⊢; exact h, hb2⟩
        case measure => have := HC0.out; simp [intOf]; omega
      · have HU := Lib.hid (grp_no ht)
        have ht' : ((ordN p (k : Int) : Int) == n) = false := by rw [beq_eq_false_iff_ne]; exact ht
        clear ht
        go_wp2_with fail
        refine Calls.mono (hcall _) ?_
        rintro e w' ⟨rfl, rfl⟩
        go_wp2
        go_roundw
        case rel => exact ⟨k + 1, by omega, by go_num, by rw [HU.out]; exact hown, hbel⟩
        case measure => have := HC0.out; simp [intOf]; omega
    have hk2 : k = p.toNat := by have := HC0.out; omega
    obtain ⟨m, hm⟩ : ∃ m, m = p.toNat := ⟨_, rfl⟩
    rw [← hm] at HV hk2
    subst hk2
    clear hm
    go_wp2
    (refine bodyPost_ret (v := .tuple #[u7, .int .i64 (ySOC p n)]) (by simp [results, Try.results32, go_sem, HV.out.2]) rfl (slicePost_mk (by rw [HV.out.1]; exact hown) hbel))
  · have HV := Lib.hid (ySO_bad h1 (by decide))
    go_enter Try.func32, Try.ntmps32
    go_wp2_with fail
    refine Calls.mono (code5_nil _ _ _) ?_
    rintro e w' ⟨rfl, rfl⟩
    rw [codeOf_no (code_one h1)]
    go_wp2
    (refine bodyPost_ret (v := .tuple #[.slice none 0 0, .int .i64 (ySOC p n)]) (by simp [results, Try.results32, go_sem, HV.out.2]) rfl (slicePost_nil HV.out.1 ?_))
    (repeat (first | with_reducible exact Below.refl _ _ | with_reducible refine balloc ?_ _ | with_reducible refine bdrewN ?_ _ | with_reducible refine Below.drew ?_ | with_reducible refine bthen ?_ (by with_reducible assumption) | with_reducible refine Below.setCell ?_ (by first | (simp; done) | (simp; omega)) _))
  · have HV := Lib.hid (ySO_bad h1 (by decide))
    go_enter Try.func32, Try.ntmps32
    have hp := code_two h1
    have hf := code_two_b h1
    rcases bool_ways (inB n 0 1000) with hA | hA
    · go_wp2_with fail
      refine Calls.mono (code5_nil _ _ _) ?_
      rintro e w' ⟨rfl, rfl⟩
      rw [codeOf_out hp hA]
      go_wp2
      (refine bodyPost_ret (v := .tuple #[.slice none 0 0, .int .i64 (ySOC p n)]) (by simp [results, Try.results32, go_sem, HV.out.2]) rfl (slicePost_nil HV.out.1 ?_))
      (repeat (first | with_reducible exact Below.refl _ _ | with_reducible refine balloc ?_ _ | with_reducible refine bdrewN ?_ _ | with_reducible refine Below.drew ?_ | with_reducible refine bthen ?_ (by with_reducible assumption) | with_reducible refine Below.setCell ?_ (by first | (simp; done) | (simp; omega)) _))
    · have hq := inB_out hA
      have hlow : n < 1 := by
        rcases Int.lt_or_le n 1 with h2 | h2
        · exact h2
        · rw [inB_true (by omega)] at hf; cases hf
      go_wp2_with fail
      refine Calls.mono (code5_nil _ _ _) ?_
      rintro e w' ⟨rfl, rfl⟩
      rw [codeOf_in hp hA]
      go_wp2
      (refine bodyPost_ret (v := .tuple #[.slice none 0 0, .int .i64 (ySOC p n)]) (by simp [results, Try.results32, go_sem, HV.out.2]) rfl (slicePost_nil HV.out.1 ?_))
      (repeat (first | with_reducible exact Below.refl _ _ | with_reducible refine balloc ?_ _ | with_reducible refine bdrewN ?_ _ | with_reducible refine Below.drew ?_ | with_reducible refine bthen ?_ (by with_reducible assumption) | with_reducible refine Below.setCell ?_ (by first | (simp; done) | (simp; omega)) _))

set_option linter.unusedSimpArgs false in
set_option linter.unusedVariables false in
set_option maxRecDepth 20000 in
set_option maxHeartbeats 2000000 in
theorem implSpreadsOfOrder_any (p n : Int) (w : World) :
    Calls Try.prog 33 #[.int .i64 p, .int .i64 n] w fun e w' => SlicePost 2 1 (ySOL p n) (ySOC p n) w e w' := by
  have hmf : ∀ (fn : Fn) (first cap : Array Value) (w : World), (Instr.makeFunc fn first cap).run Try.prog w = .ok (.func fn first cap) w := fun _ _ _ _ => rfl
  have z0 : ((w.alloc (.cells #[.int .i64 p] 2)).alloc (.cells #[.int .i64 n] 2)).cell? ⟨w.heap.size, 0, none⟩ = some (.int .i64 p) := kalloc _ (kfresh (by first | rfl | (simp; done)) rfl)
  have z1 : ((w.alloc (.cells #[.int .i64 p] 2)).alloc (.cells #[.int .i64 n] 2)).cell? ⟨w.heap.size + 1, 0, none⟩ = some (.int .i64 n) := kfresh (by first | rfl | (simp; done)) rfl
  rcases code_cases p (inB n 1 1000) with ⟨h0, hp, hb⟩ | h1 | h1
  · have HV := Lib.hid (ySO_good h0)
    go_enter Try.func33, Try.ntmps33
    go_wp2_with fail
    refine Calls.mono (doorS_ok 66 #[.pointer (some ⟨w.heap.size, 0, none⟩), .pointer (some ⟨w.heap.size + 1, 0, none⟩)] (grpL p p.toNat n) _ (fun _ => rfl) (fun W hW => cSpreadsOfOrder_ok p n _ _ W (kcall hW z0) (kcall hW z1) h0)) ?_
    rintro e w1 ⟨v, nn, rfl, ho, hB⟩
    go_wp2
    (refine bodyPost_ret (v := .tuple #[v, .int .i64 (ySOC p n)]) (by simp [results, Try.results33, go_sem, HV.out.2]) rfl (slicePost_mk (by rw [HV.out.1]; exact own_base ho (by first | exact Nat.le_refl _ | (simp; done) | (simp; omega))) ?_))
    (repeat (first | with_reducible exact Below.refl _ _ | with_reducible exact hB | with_reducible refine balloc ?_ _ | with_reducible refine bdrewN ?_ _ | with_reducible refine Below.drew ?_ | with_reducible refine bthen ?_ (by with_reducible assumption) | with_reducible refine Below.setCell ?_ (by first | (simp; done) | (simp; omega)) _))
  · have HV := Lib.hid (ySO_bad h1 (by decide))
    go_enter Try.func33, Try.ntmps33
    go_wp2_with fail
    refine Calls.mono (doorS_no 66 #[.pointer (some ⟨w.heap.size, 0, none⟩), .pointer (some ⟨w.heap.size + 1, 0, none⟩)] 1 _ (fun _ => rfl) (fun W hW => cSpreadsOfOrder_no p n _ _ _ W (kcall hW z0) (kcall hW z1) h1 (by decide))) ?_
    rintro e w1 ⟨rfl, hB⟩
    go_wp2
    (refine bodyPost_ret (v := .tuple #[.slice none 0 0, .int .i64 (ySOC p n)]) (by simp [results, Try.results33, go_sem, HV.out.2]) rfl (slicePost_nil HV.out.1 ?_))
    (repeat (first | with_reducible exact Below.refl _ _ | with_reducible exact hB | with_reducible refine balloc ?_ _ | with_reducible refine bdrewN ?_ _ | with_reducible refine Below.drew ?_ | with_reducible refine bthen ?_ (by with_reducible assumption) | with_reducible refine Below.setCell ?_ (by first | (simp; done) | (simp; omega)) _))
  · have HV := Lib.hid (ySO_bad h1 (by decide))
    go_enter Try.func33, Try.ntmps33
    go_wp2_with fail
    refine Calls.mono (doorS_no 66 #[.pointer (some ⟨w.heap.size, 0, none⟩), .pointer (some ⟨w.heap.size + 1, 0, none⟩)] 2 _ (fun _ => rfl) (fun W hW => cSpreadsOfOrder_no p n _ _ _ W (kcall hW z0) (kcall hW z1) h1 (by decide))) ?_
    rintro e w1 ⟨rfl, hB⟩
    go_wp2
    (refine bodyPost_ret (v := .tuple #[.slice none 0 0, .int .i64 (ySOC p n)]) (by simp [results, Try.results33, go_sem, HV.out.2]) rfl (slicePost_nil HV.out.1 ?_))
    (repeat (first | with_reducible exact Below.refl _ _ | with_reducible exact hB | with_reducible refine balloc ?_ _ | with_reducible refine bdrewN ?_ _ | with_reducible refine Below.drew ?_ | with_reducible refine bthen ?_ (by with_reducible assumption) | with_reducible refine Below.setCell ?_ (by first | (simp; done) | (simp; omega)) _))

end Go.Proofs.Ytinfjbaloppgkaa
