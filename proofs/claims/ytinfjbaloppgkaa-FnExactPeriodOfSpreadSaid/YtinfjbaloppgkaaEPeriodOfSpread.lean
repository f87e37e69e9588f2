/-
  PeriodOfSpread: the program's and the model's.
-/
import Derived.Test.YtinfjbaloppgkaaSpecCode5
import Derived.Test.YtinfjbaloppgkaaDoorI
import Derived.Test.YtinfjbaloppgkaaCPeriodOfSpread
import Derived.Test.YtinfjbaloppgkaaSpecOrd
namespace Go.Proofs.Ytinfjbaloppgkaa
open Go.RowKit

set_option linter.unusedVariables false in
def yPSC (p s : Int) : Int := codeOf p (numsIn p [s])
set_option linter.unusedVariables false in
def yPSV (p s : Int) : Int := if codeOf p (numsIn p [s]) = 0 then (perN p s : Int) else 0
theorem yPS_good {p s : Int} (h : codeOf p (numsIn p [s]) = 0) : yPSV p s = (perN p s : Int) ∧ yPSC p s = 0 := ⟨if_pos h, h⟩
theorem yPS_bad {p s c : Int} (h : codeOf p (numsIn p [s]) = c) (hc : c ≠ 0) : yPSV p s = 0 ∧ yPSC p s = c := ⟨if_neg (fun e => hc (h.symm.trans e)), h⟩

set_option linter.unusedSimpArgs false in
set_option linter.unusedVariables false in
set_option maxRecDepth 20000 in
set_option maxHeartbeats 2000000 in
theorem specPeriodOfSpread_any (p s : Int) (w : World) :
    Calls Try.prog 30 #[.int .i64 p, .int .i64 s] w fun e w' => e = .returned (.tuple #[.int .i64 (yPSV p s), .int .i64 (yPSC p s)]) ∧ Below w.heap.size w w' := by
  rcases code_cases p (numsIn p [s]) with ⟨h0, hp, hb⟩ | h1 | h1
  · have HV := Lib.hid (yPS_good h0)
    have hs := numsIn_one hb
    go_enter Try.func30, Try.ntmps30
    go_wp2_with fail
    refine Calls.mono (numbers_any _ _ _ _ _ [s] _ rfl (by simp) (by exact cells_at (by simp) [s] _)) ?_
    rintro e w' ⟨rfl, rfl⟩
    rw [h0]
    obtain ⟨ha, hq, hc⟩ := per_is hp hs.1 hs.2
    have hpos := (isPer_pos ha).1
    have hs0 := hs.1
    have hs1 := hs.2
    obtain ⟨N, hN⟩ : ∃ N, N = perN p s := ⟨_, rfl⟩
    rw [← hN] at ha hq hc hpos
    have HB := Lib.hid hq
    clear hq
    have HA := Lib.hid (isPer_pos ha).2
    clear ha
    have HN := Lib.hid hN
    clear hN
    go_wp2_with fail
    go_loop [7] (fun i => ∃ j : Nat, 1 ≤ j ∧ j ≤ N ∧ i = .int .i64 j) (fun i => N - (intOf i).toNat)
    case' atStart => exact ⟨1, by omega, by omega, rfl⟩
    case' round => obtain ⟨j, hj1, hj, rfl⟩ := hrel
    have hm := fun w' => specValue_any p s (j + 1) w' hp hs0 hs1 (by omega)
    rw [show ((j + 1 : Nat) : Int) = (j : Int) + 1 from by omega] at hm
    by_cases hlt : j < N
    · rcases bool_ways (sv p s j == 0) with hv | hv
      · have hw : (sv p s j != 0) = true := by rw [bne, hv]; rfl
        go_wp2_with (go_at_call 43; refine Calls.mono (specValue_any p s j _ hp hs0 hs1 (by omega)) ?_; rintro e w' ⟨rfl, rfl⟩)
        go_round
        case rel => exact ⟨j + 1, by omega, by omega, by go_num⟩
        case measure => simp [intOf]; omega
      · have hw : (sv p s j != 0) = false := by rw [bne, hv]; rfl
        have hw2 : (sv p s (j + 1) != s) = true := by rw [bne, not_per HB.out hj1 hlt hv]; rfl
        go_wp2_with (go_at_call 43; first | (with_reducible refine Calls.mono (specValue_any p s j _ hp hs0 hs1 (by omega)) ?_; rintro e w' ⟨rfl, rfl⟩) | (with_reducible refine Calls.mono (hm _) ?_; rintro e w' ⟨rfl, rfl⟩))
        go_round
        case rel => exact ⟨j + 1, by omega, by omega, by go_num⟩
        case measure => simp [intOf]; omega
    have hj' : j = N := by omega
    subst hj'
    have hw : (sv p s j != 0) = false := by rw [HA.out.1]; rfl
    have hw2 : (sv p s (j + 1) != s) = false := by rw [HA.out.2]; simp
    rw [← HN.out] at HV
    go_wp2_with (go_at_call 43; first | (with_reducible refine Calls.mono (specValue_any p s j _ hp hs0 hs1 (by omega)) ?_; rintro e w' ⟨rfl, rfl⟩) | (with_reducible refine Calls.mono (hm _) ?_; rintro e w' ⟨rfl, rfl⟩))
    (refine bodyPost_ret (v := .tuple #[.int .i64 (yPSV p s), .int .i64 (yPSC p s)]) (by simp [results, Try.results30, go_sem, HV.out.1, HV.out.2]) rfl ⟨?_, ?_⟩)
    · rfl
    · (repeat (first | with_reducible exact Below.refl _ _ | with_reducible refine balloc ?_ _ | with_reducible refine bdrewN ?_ _ | with_reducible refine Below.drew ?_ | with_reducible refine bthen ?_ (by with_reducible assumption) | with_reducible refine Below.setCell ?_ (by first | (simp; done) | (simp; omega)) _))
  · have HV := Lib.hid (yPS_bad h1 (by decide))
    go_enter Try.func30, Try.ntmps30
    go_wp2_with fail
    refine Calls.mono (numbers_any _ _ _ _ _ [s] _ rfl (by simp) (by exact cells_at (by simp) [s] _)) ?_
    rintro e w' ⟨rfl, rfl⟩
    rw [h1]
    go_wp2
    (refine bodyPost_ret (v := .tuple #[.int .i64 (yPSV p s), .int .i64 (yPSC p s)]) (by simp [results, Try.results30, go_sem, HV.out.1, HV.out.2]) rfl ⟨?_, ?_⟩)
    · rfl
    · (repeat (first | with_reducible exact Below.refl _ _ | with_reducible refine balloc ?_ _ | with_reducible refine bdrewN ?_ _ | with_reducible refine Below.drew ?_ | with_reducible refine bthen ?_ (by with_reducible assumption) | with_reducible refine Below.setCell ?_ (by first | (simp; done) | (simp; omega)) _))
  · have HV := Lib.hid (yPS_bad h1 (by decide))
    go_enter Try.func30, Try.ntmps30
    go_wp2_with fail
    refine Calls.mono (numbers_any _ _ _ _ _ [s] _ rfl (by simp) (by exact cells_at (by simp) [s] _)) ?_
    rintro e w' ⟨rfl, rfl⟩
    rw [h1]
    go_wp2
    (refine bodyPost_ret (v := .tuple #[.int .i64 (yPSV p s), .int .i64 (yPSC p s)]) (by simp [results, Try.results30, go_sem, HV.out.1, HV.out.2]) rfl ⟨?_, ?_⟩)
    · rfl
    · (repeat (first | with_reducible exact Below.refl _ _ | with_reducible refine balloc ?_ _ | with_reducible refine bdrewN ?_ _ | with_reducible refine Below.drew ?_ | with_reducible refine bthen ?_ (by with_reducible assumption) | with_reducible refine Below.setCell ?_ (by first | (simp; done) | (simp; omega)) _))

set_option linter.unusedSimpArgs false in
set_option linter.unusedVariables false in
set_option maxRecDepth 20000 in
set_option maxHeartbeats 2000000 in
theorem implPeriodOfSpread_any (p s : Int) (w : World) :
    Calls Try.prog 31 #[.int .i64 p, .int .i64 s] w fun e w' => e = .returned (.tuple #[.int .i64 (yPSV p s), .int .i64 (yPSC p s)]) ∧ Below w.heap.size w w' := by
  have hmf : ∀ (fn : Fn) (first cap : Array Value) (w : World), (Instr.makeFunc fn first cap).run Try.prog w = .ok (.func fn first cap) w := fun _ _ _ _ => rfl
  have z0 : ((w.alloc (.cells #[.int .i64 p] 2)).alloc (.cells #[.int .i64 s] 2)).cell? ⟨w.heap.size, 0, none⟩ = some (.int .i64 p) := kalloc _ (kfresh (by first | rfl | (simp; done)) rfl)
  have z1 : ((w.alloc (.cells #[.int .i64 p] 2)).alloc (.cells #[.int .i64 s] 2)).cell? ⟨w.heap.size + 1, 0, none⟩ = some (.int .i64 s) := kfresh (by first | rfl | (simp; done)) rfl
  rcases code_cases p (numsIn p [s]) with ⟨h0, hp, hb⟩ | h1 | h1
  · have HV := Lib.hid (yPS_good h0)
    go_enter Try.func31, Try.ntmps31
    go_wp2_with fail
    refine Calls.mono (doorI_ok 64 #[.pointer (some ⟨w.heap.size, 0, none⟩), .pointer (some ⟨w.heap.size + 1, 0, none⟩)] ((perN p s : Int)) _ (fun _ => rfl) (fun W hW => cPeriodOfSpread_ok p s _ _ W (kcall hW z0) (kcall hW z1) h0)) ?_
    rintro e w1 ⟨rfl, hB⟩
    go_wp2
    (refine bodyPost_ret (v := .tuple #[.int .i64 (yPSV p s), .int .i64 (yPSC p s)]) (by simp [results, Try.results31, go_sem, HV.out.1, HV.out.2]) rfl ⟨?_, ?_⟩)
    · rfl
    · (repeat (first | with_reducible exact Below.refl _ _ | with_reducible exact hB | with_reducible refine balloc ?_ _ | with_reducible refine bdrewN ?_ _ | with_reducible refine Below.drew ?_ | with_reducible refine bthen ?_ (by with_reducible assumption) | with_reducible refine Below.setCell ?_ (by first | (simp; done) | (simp; omega)) _))
  · have HV := Lib.hid (yPS_bad h1 (by decide))
    go_enter Try.func31, Try.ntmps31
    go_wp2_with fail
    refine Calls.mono (doorI_no 64 #[.pointer (some ⟨w.heap.size, 0, none⟩), .pointer (some ⟨w.heap.size + 1, 0, none⟩)] 1 _ (fun _ => rfl) (fun W hW => cPeriodOfSpread_no p s _ _ _ W (kcall hW z0) (kcall hW z1) h1 (by decide))) ?_
    rintro e w1 ⟨rfl, hB⟩
    go_wp2
    (refine bodyPost_ret (v := .tuple #[.int .i64 (yPSV p s), .int .i64 (yPSC p s)]) (by simp [results, Try.results31, go_sem, HV.out.1, HV.out.2]) rfl ⟨?_, ?_⟩)
    · rfl
    · (repeat (first | with_reducible exact Below.refl _ _ | with_reducible exact hB | with_reducible refine balloc ?_ _ | with_reducible refine bdrewN ?_ _ | with_reducible refine Below.drew ?_ | with_reducible refine bthen ?_ (by with_reducible assumption) | with_reducible refine Below.setCell ?_ (by first | (simp; done) | (simp; omega)) _))
  · have HV := Lib.hid (yPS_bad h1 (by decide))
    go_enter Try.func31, Try.ntmps31
    go_wp2_with fail
    refine Calls.mono (doorI_no 64 #[.pointer (some ⟨w.heap.size, 0, none⟩), .pointer (some ⟨w.heap.size + 1, 0, none⟩)] 2 _ (fun _ => rfl) (fun W hW => cPeriodOfSpread_no p s _ _ _ W (kcall hW z0) (kcall hW z1) h1 (by decide))) ?_
    rintro e w1 ⟨rfl, hB⟩
    go_wp2
    (refine bodyPost_ret (v := .tuple #[.int .i64 (yPSV p s), .int .i64 (yPSC p s)]) (by simp [results, Try.results31, go_sem, HV.out.1, HV.out.2]) rfl ⟨?_, ?_⟩)
    · rfl
    · (repeat (first | with_reducible exact Below.refl _ _ | with_reducible exact hB | with_reducible refine balloc ?_ _ | with_reducible refine bdrewN ?_ _ | with_reducible refine Below.drew ?_ | with_reducible refine bthen ?_ (by with_reducible assumption) | with_reducible refine Below.setCell ?_ (by first | (simp; done) | (simp; omega)) _))

end Go.Proofs.Ytinfjbaloppgkaa
