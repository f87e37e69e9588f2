/-
  ZerosOf: the program's and the model's.
-/
import Derived.Test.YtinfjbaloppgkaaSpecCode5
import Derived.Test.YtinfjbaloppgkaaDoorS
import Derived.Test.YtinfjbaloppgkaaSpecValues
import Derived.Test.YtinfjbaloppgkaaELedTo
namespace Go.Proofs.Ytinfjbaloppgkaa
open Go.RowKit

set_option linter.unusedVariables false in
def yZOC (p n : Int) : Int := codeOf p (inB n 0 1000)
set_option linter.unusedVariables false in
def yZOL (p n : Int) : List Int := if codeOf p (inB n 0 1000) = 0 then ledL p n 0 else []
theorem yZO_good {p n : Int} (h : codeOf p (inB n 0 1000) = 0) : yZOL p n = ledL p n 0 ∧ yZOC p n = 0 := ⟨if_pos h, h⟩
theorem yZO_bad {p n c : Int} (h : codeOf p (inB n 0 1000) = c) (hc : c ≠ 0) : yZOL p n = [] ∧ yZOC p n = c := ⟨if_neg (fun e => hc (h.symm.trans e)), h⟩
theorem yZO_len (p n : Int) : (yZOL p n).length ≤ 4096 := by
  unfold yZOL
  by_cases h : codeOf p (inB n 0 1000) = 0
  · rw [if_pos h]
    have hp := (code_good h).1
    have hr := isP_range hp
    have h1 := upTo_le (fun t => sv p t n.toNat == 0) p.toNat; unfold ledL; omega
  · rw [if_neg h]; exact Nat.zero_le _

set_option linter.unusedSimpArgs false in
set_option linter.unusedVariables false in
set_option maxRecDepth 20000 in
set_option maxHeartbeats 2000000 in
theorem specZerosOf_any (p n : Int) (w : World) :
    Calls Try.prog 24 #[.int .i64 p, .int .i64 n] w fun e w' => SlicePost 2 1 (yZOL p n) (yZOC p n) w e w' := by
  rcases code_cases p (inB n 0 1000) with ⟨h0, hp, hb⟩ | h1 | h1
  · have HV := Lib.hid (yZO_good h0)
    have hr := isP_range hp
    have hn := inB_out hb
    go_enter Try.func24, Try.ntmps24
    go_wp2_with fail
    refine Calls.mono (code5_nil _ _ _) ?_
    rintro e w' ⟨rfl, rfl⟩
    rw [h0]
    go_wp2_with fail
    refine Calls.mono (specLed_any p n 0 _ hp (by omega) (by omega)) ?_
    rintro e w1 ⟨v, nn, rfl, ho, hB⟩
    go_wp2
    (refine bodyPost_ret (v := .tuple #[v, .int .i64 (yZOC p n)]) (by simp [results, Try.results24, go_sem, HV.out.2]) rfl (slicePost_mk (by rw [HV.out.1]; exact own_base ho (by first | exact Nat.le_refl _ | (simp; done) | (simp; omega))) ?_))
    (repeat (first | with_reducible exact Below.refl _ _ | with_reducible exact hB | with_reducible refine balloc ?_ _ | with_reducible refine bdrewN ?_ _ | with_reducible refine Below.drew ?_ | with_reducible refine bthen ?_ (by with_reducible assumption) | with_reducible refine Below.setCell ?_ (by first | (simp; done) | (simp; omega)) _))
  · have HV := Lib.hid (yZO_bad h1 (by decide))
    go_enter Try.func24, Try.ntmps24
    go_wp2_with fail
    refine Calls.mono (code5_nil _ _ _) ?_
    rintro e w' ⟨rfl, rfl⟩
    rw [h1]
    go_wp2
    (refine bodyPost_ret (v := .tuple #[.slice none 0 0, .int .i64 (yZOC p n)]) (by simp [results, Try.results24, go_sem, HV.out.2]) rfl (slicePost_nil HV.out.1 ?_))
    (repeat (first | with_reducible exact Below.refl _ _ | with_reducible refine balloc ?_ _ | with_reducible refine bdrewN ?_ _ | with_reducible refine Below.drew ?_ | with_reducible refine bthen ?_ (by with_reducible assumption) | with_reducible refine Below.setCell ?_ (by first | (simp; done) | (simp; omega)) _))
  · have HV := Lib.hid (yZO_bad h1 (by decide))
    go_enter Try.func24, Try.ntmps24
    go_wp2_with fail
    refine Calls.mono (code5_nil _ _ _) ?_
    rintro e w' ⟨rfl, rfl⟩
    rw [h1]
    go_wp2
    (refine bodyPost_ret (v := .tuple #[.slice none 0 0, .int .i64 (yZOC p n)]) (by simp [results, Try.results24, go_sem, HV.out.2]) rfl (slicePost_nil HV.out.1 ?_))
    (repeat (first | with_reducible exact Below.refl _ _ | with_reducible refine balloc ?_ _ | with_reducible refine bdrewN ?_ _ | with_reducible refine Below.drew ?_ | with_reducible refine bthen ?_ (by with_reducible assumption) | with_reducible refine Below.setCell ?_ (by first | (simp; done) | (simp; omega)) _))

theorem zeros_turn (p n : Int) : yLTL p n 0 = yZOL p n ∧ yLTC p n 0 = yZOC p n := by
  have h : codeOf p (inB n 0 1000 && numsIn p [0]) = codeOf p (inB n 0 1000) := by
    unfold codeOf
    cases hp : isP p with
    | false => simp
    | true =>
      have hr := isP_range hp
      have h0 : numsIn p [0] = true := by simp [numsIn, inB_true (show (0 : Int) ≤ 0 ∧ (0 : Int) ≤ p - 1 by omega)]
      rw [h0, Bool.and_true]
  exact ⟨by unfold yLTL yZOL; rw [h], by unfold yLTC yZOC; rw [h]⟩
set_option maxRecDepth 20000 in
set_option maxHeartbeats 2000000 in
theorem implZerosOf_any (p n : Int) (w : World) :
    Calls Try.prog 25 #[.int .i64 p, .int .i64 n] w fun e w' => SlicePost 2 1 (yZOL p n) (yZOC p n) w e w' := by
  have HZ := Lib.hid (zeros_turn p n)
  go_enter Try.func25, Try.ntmps25
  go_wp2_with fail
  refine Calls.mono (implLedTo_any p n 0 _) ?_
  rintro e w1 ⟨v, nn, rfl, ho, hB⟩
  rw [HZ.out.1] at ho
  rw [HZ.out.2]
  go_wp2
  (refine bodyPost_ret (v := .tuple #[v, .int .i64 (yZOC p n)]) (by simp [results, Try.results25, go_sem]) rfl (slicePost_mk ho hB))

end Go.Proofs.Ytinfjbaloppgkaa
