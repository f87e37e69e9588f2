/-
  CoefficientsOf: the program's and the model's.
-/
import Derived.Test.YtinfjbaloppgkaaSpecCode5
import Derived.Test.YtinfjbaloppgkaaDoorS
import Derived.Test.YtinfjbaloppgkaaCCoefficientsOf
import Derived.Test.YtinfjbaloppgkaaSpecCoef
namespace Go.Proofs.Ytinfjbaloppgkaa
open Go.RowKit

set_option linter.unusedVariables false in
def yCOC (p n : Int) : Int := codeOf p (inB n 0 40)
set_option linter.unusedVariables false in
def yCOL (p n : Int) : List Int := if codeOf p (inB n 0 40) = 0 then coL p n.toNat else []
theorem yCO_good {p n : Int} (h : codeOf p (inB n 0 40) = 0) : yCOL p n = coL p n.toNat ∧ yCOC p n = 0 := ⟨if_pos h, h⟩
theorem yCO_bad {p n c : Int} (h : codeOf p (inB n 0 40) = c) (hc : c ≠ 0) : yCOL p n = [] ∧ yCOC p n = c := ⟨if_neg (fun e => hc (h.symm.trans e)), h⟩
theorem yCO_len (p n : Int) : (yCOL p n).length ≤ 4096 := by
  unfold yCOL
  by_cases h : codeOf p (inB n 0 40) = 0
  · rw [if_pos h]
    have hp := (code_good h).1
    have hr := isP_range hp
    by_cases h2 : codeOf p (inB n 0 40) = 0
    · have hn := inB_out (code_good h2).2
      rw [coL, tab_length]; omega
    · exact absurd h h2
  · rw [if_neg h]; exact Nat.zero_le _

set_option linter.unusedSimpArgs false in
set_option linter.unusedVariables false in
set_option maxRecDepth 20000 in
set_option maxHeartbeats 2000000 in
theorem specCoefficientsOf_any (p n : Int) (w : World) :
    Calls Try.prog 17 #[.int .i64 p, .int .i64 n] w fun e w' => SlicePost 2 1 (yCOL p n) (yCOC p n) w e w' := by
  rcases code_cases p (inB n 0 40) with ⟨h0, hp, hb⟩ | h1 | h1
  · have HV := Lib.hid (yCO_good h0)
    have hr := isP_range hp
    have hn := inB_out hb
    rw [HV.out.1, HV.out.2]
    exact specCoef_good p n w hp (by omega) (by omega)
  · have HV := Lib.hid (yCO_bad h1 (by decide))
    go_enter Try.func17, Try.ntmps17
    go_wp2_with fail
    refine Calls.mono (code5_nil _ _ _) ?_
    rintro e w' ⟨rfl, rfl⟩
    rw [codeOf_no (code_one h1)]
    go_wp2
    (refine bodyPost_ret (v := .tuple #[.slice none 0 0, .int .i64 (yCOC p n)]) (by simp [results, Try.results17, go_sem, HV.out.2]) rfl (slicePost_nil HV.out.1 ?_))
    (repeat (first | with_reducible exact Below.refl _ _ | with_reducible refine balloc ?_ _ | with_reducible refine bdrewN ?_ _ | with_reducible refine Below.drew ?_ | with_reducible refine bthen ?_ (by with_reducible assumption) | with_reducible refine Below.setCell ?_ (by first | (simp; done) | (simp; omega)) _))
  · have HV := Lib.hid (yCO_bad h1 (by decide))
    go_enter Try.func17, Try.ntmps17
    have hp := code_two h1
    have hf := code_two_b h1
    rcases bool_ways (inB n 0 1000) with hA | hA
    · go_wp2_with fail
      refine Calls.mono (code5_nil _ _ _) ?_
      rintro e w' ⟨rfl, rfl⟩
      rw [codeOf_out hp hA]
      go_wp2
      (refine bodyPost_ret (v := .tuple #[.slice none 0 0, .int .i64 (yCOC p n)]) (by simp [results, Try.results17, go_sem, HV.out.2]) rfl (slicePost_nil HV.out.1 ?_))
      (repeat (first | with_reducible exact Below.refl _ _ | with_reducible refine balloc ?_ _ | with_reducible refine bdrewN ?_ _ | with_reducible refine Below.drew ?_ | with_reducible refine bthen ?_ (by with_reducible assumption) | with_reducible refine Below.setCell ?_ (by first | (simp; done) | (simp; omega)) _))
    · have hq := inB_out hA
      have hlow : 40 < n := by
        rcases Int.lt_or_le 40 n with h2 | h2
        · exact h2
        · rw [inB_true (by omega)] at hf; cases hf
      go_wp2_with fail
      refine Calls.mono (code5_nil _ _ _) ?_
      rintro e w' ⟨rfl, rfl⟩
      rw [codeOf_in hp hA]
      go_wp2
      (refine bodyPost_ret (v := .tuple #[.slice none 0 0, .int .i64 (yCOC p n)]) (by simp [results, Try.results17, go_sem, HV.out.2]) rfl (slicePost_nil HV.out.1 ?_))
      (repeat (first | with_reducible exact Below.refl _ _ | with_reducible refine balloc ?_ _ | with_reducible refine bdrewN ?_ _ | with_reducible refine Below.drew ?_ | with_reducible refine bthen ?_ (by with_reducible assumption) | with_reducible refine Below.setCell ?_ (by first | (simp; done) | (simp; omega)) _))

set_option linter.unusedSimpArgs false in
set_option linter.unusedVariables false in
set_option maxRecDepth 20000 in
set_option maxHeartbeats 2000000 in
theorem implCoefficientsOf_any (p n : Int) (w : World) :
    Calls Try.prog 18 #[.int .i64 p, .int .i64 n] w fun e w' => SlicePost 2 1 (yCOL p n) (yCOC p n) w e w' := by
  have hmf : ∀ (fn : Fn) (first cap : Array Value) (w : World), (Instr.makeFunc fn first cap).run Try.prog w = .ok (.func fn first cap) w := fun _ _ _ _ => rfl
  have z0 : ((w.alloc (.cells #[.int .i64 p] 2)).alloc (.cells #[.int .i64 n] 2)).cell? ⟨w.heap.size, 0, none⟩ = some (.int .i64 p) := kalloc _ (kfresh (by first | rfl | (simp; done)) rfl)
  have z1 : ((w.alloc (.cells #[.int .i64 p] 2)).alloc (.cells #[.int .i64 n] 2)).cell? ⟨w.heap.size + 1, 0, none⟩ = some (.int .i64 n) := kfresh (by first | rfl | (simp; done)) rfl
  rcases code_cases p (inB n 0 40) with ⟨h0, hp, hb⟩ | h1 | h1
  · have HV := Lib.hid (yCO_good h0)
    go_enter Try.func18, Try.ntmps18
    go_wp2_with fail
    refine Calls.mono (doorS_ok 52 #[.pointer (some ⟨w.heap.size, 0, none⟩), .pointer (some ⟨w.heap.size + 1, 0, none⟩)] (coL p n.toNat) _ (fun _ => rfl) (fun W hW => cCoefficientsOf_ok p n _ _ W (kcall hW z0) (kcall hW z1) h0)) ?_
    rintro e w1 ⟨v, nn, rfl, ho, hB⟩
    go_wp2
    (refine bodyPost_ret (v := .tuple #[v, .int .i64 (yCOC p n)]) (by simp [results, Try.results18, go_sem, HV.out.2]) rfl (slicePost_mk (by rw [HV.out.1]; exact own_base ho (by first | exact Nat.le_refl _ | (simp; done) | (simp; omega))) ?_))
    (repeat (first | with_reducible exact Below.refl _ _ | with_reducible exact hB | with_reducible refine balloc ?_ _ | with_reducible refine bdrewN ?_ _ | with_reducible refine Below.drew ?_ | with_reducible refine bthen ?_ (by with_reducible assumption) | with_reducible refine Below.setCell ?_ (by first | (simp; done) | (simp; omega)) _))
  · have HV := Lib.hid (yCO_bad h1 (by decide))
    go_enter Try.func18, Try.ntmps18
    go_wp2_with fail
    refine Calls.mono (doorS_no 52 #[.pointer (some ⟨w.heap.size, 0, none⟩), .pointer (some ⟨w.heap.size + 1, 0, none⟩)] 1 _ (fun _ => rfl) (fun W hW => cCoefficientsOf_no p n _ _ _ W (kcall hW z0) (kcall hW z1) h1 (by decide))) ?_
    rintro e w1 ⟨rfl, hB⟩
    go_wp2
    (refine bodyPost_ret (v := .tuple #[.slice none 0 0, .int .i64 (yCOC p n)]) (by simp [results, Try.results18, go_sem, HV.out.2]) rfl (slicePost_nil HV.out.1 ?_))
    (repeat (first | with_reducible exact Below.refl _ _ | with_reducible exact hB | with_reducible refine balloc ?_ _ | with_reducible refine bdrewN ?_ _ | with_reducible refine Below.drew ?_ | with_reducible refine bthen ?_ (by with_reducible assumption) | with_reducible refine Below.setCell ?_ (by first | (simp; done) | (simp; omega)) _))
  · have HV := Lib.hid (yCO_bad h1 (by decide))
    go_enter Try.func18, Try.ntmps18
    go_wp2_with fail
    refine Calls.mono (doorS_no 52 #[.pointer (some ⟨w.heap.size, 0, none⟩), .pointer (some ⟨w.heap.size + 1, 0, none⟩)] 2 _ (fun _ => rfl) (fun W hW => cCoefficientsOf_no p n _ _ _ W (kcall hW z0) (kcall hW z1) h1 (by decide))) ?_
    rintro e w1 ⟨rfl, hB⟩
    go_wp2
    (refine bodyPost_ret (v := .tuple #[.slice none 0 0, .int .i64 (yCOC p n)]) (by simp [results, Try.results18, go_sem, HV.out.2]) rfl (slicePost_nil HV.out.1 ?_))
    (repeat (first | with_reducible exact Below.refl _ _ | with_reducible exact hB | with_reducible refine balloc ?_ _ | with_reducible refine bdrewN ?_ _ | with_reducible refine Below.drew ?_ | with_reducible refine bthen ?_ (by with_reducible assumption) | with_reducible refine Below.setCell ?_ (by first | (simp; done) | (simp; omega)) _))

end Go.Proofs.Ytinfjbaloppgkaa
