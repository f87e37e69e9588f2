/-
  WalkOf: the program's and the model's.
-/
import Derived.Test.YtinfjbaloppgkaaSpecCode5
import Derived.Test.YtinfjbaloppgkaaDoorS
import Derived.Test.YtinfjbaloppgkaaCWalkOf
import Derived.Test.YtinfjbaloppgkaaWalkMath
namespace Go.Proofs.Ytinfjbaloppgkaa
open Go.RowKit

set_option linter.unusedVariables false in
def yWOC (p n s k : Int) : Int := codeOf p (inB n 0 1000 && numsIn p [s] && inB k 0 100)
set_option linter.unusedVariables false in
def yWOL (p n s k : Int) : List Int := if codeOf p (inB n 0 1000 && numsIn p [s] && inB k 0 100) = 0 then wkL p n s (k.toNat + 1) else []
theorem yWO_good {p n s k : Int} (h : codeOf p (inB n 0 1000 && numsIn p [s] && inB k 0 100) = 0) : yWOL p n s k = wkL p n s (k.toNat + 1) ∧ yWOC p n s k = 0 := ⟨if_pos h, h⟩
theorem yWO_bad {p n s k c : Int} (h : codeOf p (inB n 0 1000 && numsIn p [s] && inB k 0 100) = c) (hc : c ≠ 0) : yWOL p n s k = [] ∧ yWOC p n s k = c := ⟨if_neg (fun e => hc (h.symm.trans e)), h⟩
theorem yWO_len (p n s k : Int) : (yWOL p n s k).length ≤ 4096 := by
  unfold yWOL
  by_cases h : codeOf p (inB n 0 1000 && numsIn p [s] && inB k 0 100) = 0
  · rw [if_pos h]
    have hp := (code_good h).1
    have hr := isP_range hp
    by_cases hk : codeOf p (inB n 0 1000 && numsIn p [s] && inB k 0 100) = 0
    · have hb := (code_good h).2
      rw [Bool.and_eq_true] at hb
      have := inB_out hb.2
      rw [wkL_length]; omega
    · exact absurd h hk
  · rw [if_neg h]; exact Nat.zero_le _

set_option linter.unusedSimpArgs false in
set_option linter.unusedVariables false in
set_option maxRecDepth 20000 in
set_option maxHeartbeats 2000000 in
theorem specWalkOf_any (p n s k : Int) (w : World) :
    Calls Try.prog 36 #[.int .i64 p, .int .i64 n, .int .i64 s, .int .i64 k] w fun e w' => SlicePost 2 1 (yWOL p n s k) (yWOC p n s k) w e w' := by
  rcases code_cases p (inB n 0 1000 && numsIn p [s] && inB k 0 100) with ⟨h0, hp, hb⟩ | h1 | h1
  · have HV := Lib.hid (yWO_good h0)
    have hr := isP_range hp
    have hq := hb
    rw [Bool.and_eq_true, Bool.and_eq_true] at hq
    obtain ⟨⟨ht0, ht1⟩, ht2⟩ := hq
    have hn := inB_out ht0
    have hs := numsIn_one ht1
    have hk := inB_out ht2
    go_enter Try.func36, Try.ntmps36
    go_wp2_with fail
    refine Calls.mono (code5_any _ _ _ _ _ _ [s] _ rfl (by simp) (by exact cells_at (by simp) [s] _)) ?_
    rintro e w' ⟨rfl, rfl⟩
    rw [codeOf_in hp (by rw [ht0, ht1]; rfl)]
    go_wp2_with (go_at_call 71; refine Calls.mono (in_any _ _ _ _) ?_; rintro e w' ⟨rfl, rfl⟩)
    obtain ⟨K, hK⟩ := Int.eq_ofNat_of_zero_le hk.1
    subst hK
    rw [Int.toNat_natCast] at HV
    obtain ⟨i0, hi, hz0, hz1, hz2⟩ := info_parts infoInt1
    go_loopw [2, 3, 11] (fun x i v wr => ∃ j : Nat, j ≤ K ∧ x = .int .i64 (wk p n s j) ∧ i = .int .i64 ((K : Int) - j) ∧ wr.ownsRow w.heap.size 2 1 v (j + 1) (ints (wkL p n s (j + 1))) ∧ Below w.heap.size w wr) (fun _ i _ _ => (intOf i).toNat)
    case' atStart => exact ⟨0, by omega, rfl, by simp, own_list1 (by first | omega | (simp; done) | (simp; omega)) (by first | rfl | (simp; done)), by (repeat (first | with_reducible exact Below.refl _ _ | with_reducible refine balloc ?_ _ | with_reducible refine bdrewN ?_ _ | with_reducible refine Below.drew ?_ | with_reducible refine bthen ?_ (by with_reducible assumption) | with_reducible refine Below.setCell ?_ (by first | (simp; done) | (simp; omega)) _))⟩
    case' round => obtain ⟨j, hj, rfl, rfl, hown, hbel⟩ := hrel
    by_cases hlt : j < K
    · have hlt' : (0 : Int) < (K : Int) - j := by omega
      have hx := wk_r (n := n) hp hs.1 hs.2 j
      have HX := Lib.hid (show wk p n s (j + 1) = sv p (wk p n s j) n.toNat from rfl)
      have HL := Lib.hid (wkL_succ p n s (j + 1))
      obtain ⟨x, hxx⟩ : ∃ x, x = wk p n s j := ⟨_, rfl⟩
      rw [← hxx] at hx HX ⊢
      clear hxx
      go_wp2_with fail
      refine Calls.mono (specValZ_any p x n _ hp hx.1 hx.2 hn.1 (by omega)) ?_
      rintro e w' ⟨rfl, rfl⟩
      obtain ⟨y, hy⟩ : ∃ y, y = sv p x n.toNat := ⟨_, rfl⟩
      rw [← hy] at HX ⊢
      clear hy
      have hsz := hbel.size
      go_wp2_with (at_builtin; refine wpList_append_own _ rfl _ _ 25 rfl w.heap.size 2 i0 (.int .i64 0) 1 8 Try.underlying25 hi hz0 hz1 hz2 rfl (by decide) _ _ _ rfl (hown.alloc _) ⟨wr.heap.size, 0, none⟩ 1 1 [.int .i64 y] rfl rfl ?c1 (int_oneCell _) ?c3 ?c4 ?c5 ?_)
      case c1 =>
        intro j u hj
        match j, hj with
        | 0, hj => simp at hj; subst hj; simp [Addr.add]
      case c3 => unfold maxLen; omega
      case c4 => omega
      case c5 => simp; omega
      intro v' w2 hown' hgrow _
      have hb2 : Below w.heap.size w w2 := (hbel.alloc (by omega) _).grown hgrow (by simp; omega) (fun g hg => (hown.lt g hg).1)
      have HN := Lib.hid (own_snoc hown' (rfl : j + 1 + 1 = j + 1 + 1))
      clear hown' hgrow hown hbel
      go_wp2
      go_roundw
      case rel => exact ⟨j + 1, by omega, by rw [HX.out], by go_num, by rw [HL.out, HX.out]; exact HN.out, hb2⟩
      case measure => simp [intOf]; omega
    have hj' : j = K := by omega
    subst hj'
    go_wp2
    (refine bodyPost_ret (v := .tuple #[u11, .int .i64 (yWOC p n s j)]) (by simp [results, Try.results36, go_sem, HV.out.2]) rfl (slicePost_mk (by rw [HV.out.1]; exact hown) hbel))
  · have HV := Lib.hid (yWO_bad h1 (by decide))
    go_enter Try.func36, Try.ntmps36
    go_wp2_with fail
    refine Calls.mono (code5_any _ _ _ _ _ _ [s] _ rfl (by simp) (by exact cells_at (by simp) [s] _)) ?_
    rintro e w' ⟨rfl, rfl⟩
    rw [codeOf_no (code_one h1)]
    go_wp2
    (refine bodyPost_ret (v := .tuple #[.slice none 0 0, .int .i64 (yWOC p n s k)]) (by simp [results, Try.results36, go_sem, HV.out.2]) rfl (slicePost_nil HV.out.1 ?_))
    (repeat (first | with_reducible exact Below.refl _ _ | with_reducible refine balloc ?_ _ | with_reducible refine bdrewN ?_ _ | with_reducible refine Below.drew ?_ | with_reducible refine bthen ?_ (by with_reducible assumption) | with_reducible refine Below.setCell ?_ (by first | (simp; done) | (simp; omega)) _))
  · have HV := Lib.hid (yWO_bad h1 (by decide))
    go_enter Try.func36, Try.ntmps36
    have hp := code_two h1
    have hf := code_two_b h1
    rcases bool_ways (inB n 0 1000 && numsIn p [s]) with hA | hA
    · go_wp2_with fail
      refine Calls.mono (code5_any _ _ _ _ _ _ [s] _ rfl (by simp) (by exact cells_at (by simp) [s] _)) ?_
      rintro e w' ⟨rfl, rfl⟩
      rw [codeOf_out hp (by rw [Bool.and_comm]; exact hA)]
      go_wp2
      (refine bodyPost_ret (v := .tuple #[.slice none 0 0, .int .i64 (yWOC p n s k)]) (by simp [results, Try.results36, go_sem, HV.out.2]) rfl (slicePost_nil HV.out.1 ?_))
      (repeat (first | with_reducible exact Below.refl _ _ | with_reducible refine balloc ?_ _ | with_reducible refine bdrewN ?_ _ | with_reducible refine Below.drew ?_ | with_reducible refine bthen ?_ (by with_reducible assumption) | with_reducible refine Below.setCell ?_ (by first | (simp; done) | (simp; omega)) _))
    · rw [hA, Bool.true_and] at hf
      go_wp2_with fail
      refine Calls.mono (code5_any _ _ _ _ _ _ [s] _ rfl (by simp) (by exact cells_at (by simp) [s] _)) ?_
      rintro e w' ⟨rfl, rfl⟩
      rw [codeOf_in hp (by rw [Bool.and_comm]; exact hA)]
      go_wp2_with (go_at_call 71; refine Calls.mono (in_any _ _ _ _) ?_; rintro e w' ⟨rfl, rfl⟩; rw [hf])
      (refine bodyPost_ret (v := .tuple #[.slice none 0 0, .int .i64 (yWOC p n s k)]) (by simp [results, Try.results36, go_sem, HV.out.2]) rfl (slicePost_nil HV.out.1 ?_))
      (repeat (first | with_reducible exact Below.refl _ _ | with_reducible refine balloc ?_ _ | with_reducible refine bdrewN ?_ _ | with_reducible refine Below.drew ?_ | with_reducible refine bthen ?_ (by with_reducible assumption) | with_reducible refine Below.setCell ?_ (by first | (simp; done) | (simp; omega)) _))

set_option linter.unusedSimpArgs false in
set_option linter.unusedVariables false in
set_option maxRecDepth 20000 in
set_option maxHeartbeats 2000000 in
theorem implWalkOf_any (p n s k : Int) (w : World) :
    Calls Try.prog 37 #[.int .i64 p, .int .i64 n, .int .i64 s, .int .i64 k] w fun e w' => SlicePost 2 1 (yWOL p n s k) (yWOC p n s k) w e w' := by
  have hmf : ∀ (fn : Fn) (first cap : Array Value) (w : World), (Instr.makeFunc fn first cap).run Try.prog w = .ok (.func fn first cap) w := fun _ _ _ _ => rfl
  have z0 : ((((w.alloc (.cells #[.int .i64 p] 2)).alloc (.cells #[.int .i64 n] 2)).alloc (.cells #[.int .i64 s] 2)).alloc (.cells #[.int .i64 k] 2)).cell? ⟨w.heap.size, 0, none⟩ = some (.int .i64 p) := kalloc _ (kalloc _ (kalloc _ (kfresh (by first | rfl | (simp; done)) rfl)))
  have z1 : ((((w.alloc (.cells #[.int .i64 p] 2)).alloc (.cells #[.int .i64 n] 2)).alloc (.cells #[.int .i64 s] 2)).alloc (.cells #[.int .i64 k] 2)).cell? ⟨w.heap.size + 1, 0, none⟩ = some (.int .i64 n) := kalloc _ (kalloc _ (kfresh (by first | rfl | (simp; done)) rfl))
  have z2 : ((((w.alloc (.cells #[.int .i64 p] 2)).alloc (.cells #[.int .i64 n] 2)).alloc (.cells #[.int .i64 s] 2)).alloc (.cells #[.int .i64 k] 2)).cell? ⟨w.heap.size + 1 + 1, 0, none⟩ = some (.int .i64 s) := kalloc _ (kfresh (by first | rfl | (simp; done)) rfl)
  have z3 : ((((w.alloc (.cells #[.int .i64 p] 2)).alloc (.cells #[.int .i64 n] 2)).alloc (.cells #[.int .i64 s] 2)).alloc (.cells #[.int .i64 k] 2)).cell? ⟨w.heap.size + 1 + 1 + 1, 0, none⟩ = some (.int .i64 k) := kfresh (by first | rfl | (simp; done)) rfl
  rcases code_cases p (inB n 0 1000 && numsIn p [s] && inB k 0 100) with ⟨h0, hp, hb⟩ | h1 | h1
  · have HV := Lib.hid (yWO_good h0)
    go_enter Try.func37, Try.ntmps37
    go_wp2_with fail
    refine Calls.mono (doorS_ok 72 #[.pointer (some ⟨w.heap.size, 0, none⟩), .pointer (some ⟨w.heap.size + 1, 0, none⟩), .pointer (some ⟨w.heap.size + 1 + 1, 0, none⟩), .pointer (some ⟨w.heap.size + 1 + 1 + 1, 0, none⟩)] (wkL p n s (k.toNat + 1)) _ (fun _ => rfl) (fun W hW => cWalkOf_ok p n s k _ _ _ _ W (kcall hW z0) (kcall hW z1) (kcall hW z2) (kcall hW z3) h0)) ?_
    rintro e w1 ⟨v, nn, rfl, ho, hB⟩
    go_wp2
    (refine bodyPost_ret (v := .tuple #[v, .int .i64 (yWOC p n s k)]) (by simp [results, Try.results37, go_sem, HV.out.2]) rfl (slicePost_mk (by rw [HV.out.1]; exact own_base ho (by first | exact Nat.le_refl _ | (simp; done) | (simp; omega))) ?_))
    (repeat (first | with_reducible exact Below.refl _ _ | with_reducible exact hB | with_reducible refine balloc ?_ _ | with_reducible refine bdrewN ?_ _ | with_reducible refine Below.drew ?_ | with_reducible refine bthen ?_ (by with_reducible assumption) | with_reducible refine Below.setCell ?_ (by first | (simp; done) | (simp; omega)) _))
  · have HV := Lib.hid (yWO_bad h1 (by decide))
    go_enter Try.func37, Try.ntmps37
    go_wp2_with fail
    refine Calls.mono (doorS_no 72 #[.pointer (some ⟨w.heap.size, 0, none⟩), .pointer (some ⟨w.heap.size + 1, 0, none⟩), .pointer (some ⟨w.heap.size + 1 + 1, 0, none⟩), .pointer (some ⟨w.heap.size + 1 + 1 + 1, 0, none⟩)] 1 _ (fun _ => rfl) (fun W hW => cWalkOf_no p n s k _ _ _ _ _ W (kcall hW z0) (kcall hW z1) (kcall hW z2) (kcall hW z3) h1 (by decide))) ?_
    rintro e w1 ⟨rfl, hB⟩
    go_wp2
    (refine bodyPost_ret (v := .tuple #[.slice none 0 0, .int .i64 (yWOC p n s k)]) (by simp [results, Try.results37, go_sem, HV.out.2]) rfl (slicePost_nil HV.out.1 ?_))
    (repeat (first | with_reducible exact Below.refl _ _ | with_reducible exact hB | with_reducible refine balloc ?_ _ | with_reducible refine bdrewN ?_ _ | with_reducible refine Below.drew ?_ | with_reducible refine bthen ?_ (by with_reducible assumption) | with_reducible refine Below.setCell ?_ (by first | (simp; done) | (simp; omega)) _))
  · have HV := Lib.hid (yWO_bad h1 (by decide))
    go_enter Try.func37, Try.ntmps37
    go_wp2_with fail
    refine Calls.mono (doorS_no 72 #[.pointer (some ⟨w.heap.size, 0, none⟩), .pointer (some ⟨w.heap.size + 1, 0, none⟩), .pointer (some ⟨w.heap.size + 1 + 1, 0, none⟩), .pointer (some ⟨w.heap.size + 1 + 1 + 1, 0, none⟩)] 2 _ (fun _ => rfl) (fun W hW => cWalkOf_no p n s k _ _ _ _ _ W (kcall hW z0) (kcall hW z1) (kcall hW z2) (kcall hW z3) h1 (by decide))) ?_
    rintro e w1 ⟨rfl, hB⟩
    go_wp2
    (refine bodyPost_ret (v := .tuple #[.slice none 0 0, .int .i64 (yWOC p n s k)]) (by simp [results, Try.results37, go_sem, HV.out.2]) rfl (slicePost_nil HV.out.1 ?_))
    (repeat (first | with_reducible exact Below.refl _ _ | with_reducible exact hB | with_reducible refine balloc ?_ _ | with_reducible refine bdrewN ?_ _ | with_reducible refine Below.drew ?_ | with_reducible refine bthen ?_ (by with_reducible assumption) | with_reducible refine Below.setCell ?_ (by first | (simp; done) | (simp; omega)) _))

end Go.Proofs.Ytinfjbaloppgkaa
