/-
  laws.markInt64S at one of two slices: the other one stays.
-/
import Derived.Test.YtinfjbaloppgkaaArrInts
import Derived.Test.YtinfjbaloppgkaaOrdMath
import Derived.Test.YtinfjbaloppgkaaOwnLow
namespace Go.Proofs.Ytinfjbaloppgkaa
open Go.RowKit

set_option maxRecDepth 20000 in
set_option maxHeartbeats 400000 in
theorem markTwo_any {a b : Value} {n m ba bb n2 : Nat} {e : TypeId} {xs ys : List Int} {w : World} (ha : w.ownsRow ba e 1 a n (ints xs)) (hb : w.ownsRow bb e 1 b n2 (ints ys)) (hap : ∀ g h, a.ownBlock = some g → b.ownBlock = some h → g ≠ h) (hm : m ≤ 1000000) (hn : n ≤ 1000000) :
    Calls Try.prog 20 #[a, .int .i64 m] w fun e' w' => e' = .returned (.int .i64 ((m + n : Nat) : Int)) ∧ w'.ownsRow ba e 1 a n (ints (marks m n)) ∧ Below ba w w' ∧ w'.ownsRow bb e 1 b n2 (ints ys) := by
  have hl : xs.length = n := by have := ha.1; rw [ints_length] at this; omega
  rcases own_ways ha with ⟨rfl, ao, ac, rfl⟩ | ⟨h0, g, gc, rfl, hg1, hg2, _⟩
  · obtain rfl : xs = [] := List.length_eq_zero_iff.1 hl
    have HA := Lib.hid (And.intro ha hb)
    clear ha hb hl hap
    go_enter Try.func20, Try.ntmps20
    go_wp2
    refine wp_loop_rounds 1 ?_
    rw [rounds_succ]
    go_wp2
    go_ret
    exact ⟨rfl, HA.out.1, Below.refl _ _, HA.out.2⟩
  · have HA := Lib.hid (And.intro ha hb)
    have HL := Lib.hid hl
    have HP := Lib.hid (fun h (hh : b.ownBlock = some h) => hap g h rfl hh)
    clear ha hb hl hap
    go_enter Try.func20, Try.ntmps20
    go_wp2
    go_loopw [1, 5] (fun v i wr => ∃ j : Nat, j ≤ n ∧ i = .int .i64 j ∧ v = .int .i64 ((m + j : Nat) : Int) ∧ wr.ownsRow ba e 1 (.slice (some ⟨g, 0, none⟩) n gc) n (ints (marks m j ++ xs.drop j)) ∧ Below ba w wr ∧ wr.ownsRow bb e 1 b n2 (ints ys)) (fun _ i _ => n - (intOf i).toNat)
    case atStart => exact ⟨0, by omega, rfl, by simp, by simpa [marks] using HA.out.1, Below.refl _ _, HA.out.2⟩
    case round =>
      obtain ⟨j, hj, rfl, rfl, hown, hbel, hoth⟩ := hrel
      by_cases hlt : j < n
      · have hz := hown.frozenAt j
        have hc := own_cell hown (j := j) (by omega)
        have hst := hown.stored j (.int .i64 ((m + j : Nat) : Int))
        rw [marks_set (by have := HL.out; omega)] at hst
        have HO := Lib.hid (And.intro hst.1 (own_setLow (b := g) (j := j) (u := .int .i64 ((m + j : Nat) : Int)) hoth HP.out))
        have hB : Below ba w (wr.setCell ⟨g, j, none⟩ (.int .i64 ((m + j : Nat) : Int))) := hbel.setCell (by exact hg1) _
        have HB := Lib.hid hB
        clear hst hown hB hoth
        rw [Int.natCast_add] at *
        go_wp2
        go_roundw
        case rel => exact ⟨j + 1, by omega, by go_num, by go_num, HO.out.1, HB.out, HO.out.2⟩
        case measure => simp [intOf]; omega
      · obtain rfl : j = n := by omega
        have HO := Lib.hid (show wr.ownsRow ba e 1 (.slice (some ⟨g, 0, none⟩) j gc) j (ints (marks m j)) from by
          have := hown; rwa [List.drop_of_length_le (by have := HL.out; omega), List.append_nil] at this)
        clear hown
        go_wp2
        go_ret
        exact ⟨rfl, HO.out, hbel, hoth⟩
theorem markTwo_1 {a b : Value} {n ba bb n2 : Nat} {e : TypeId} {xs ys : List Int} {w : World} (ha : w.ownsRow ba e 1 a n (ints xs)) (hb : w.ownsRow bb e 1 b n2 (ints ys)) (hap : Apart a b) (hn : n ≤ 1000000) :
    Calls Try.prog 20 #[a, .int .i64 1] w fun e' w' => e' = .returned (.int .i64 (1 + (n : Int))) ∧ w'.ownsRow ba e 1 a n (ints (marks 1 n)) ∧ Below ba w w' ∧ w'.ownsRow bb e 1 b n2 (ints ys) := by
  have h := markTwo_any (m := 1) ha hb hap (by decide) hn
  rw [Int.natCast_add] at h
  exact h
theorem markTwo_2 {a b : Value} {n ba bb n2 : Nat} {e : TypeId} {xs ys : List Int} {w : World} (ha : w.ownsRow ba e 1 a n (ints xs)) (hb : w.ownsRow bb e 1 b n2 (ints ys)) (hap : Apart b a) (hn : n ≤ 100000) (hn2 : n2 ≤ 100000) :
    Calls Try.prog 20 #[a, .int .i64 (1 + (n2 : Int))] w fun e' w' => e' = .returned (.int .i64 (1 + (n2 : Int) + (n : Int))) ∧ w'.ownsRow ba e 1 a n (ints (marks (1 + n2) n)) ∧ Below ba w w' ∧ w'.ownsRow bb e 1 b n2 (ints ys) := by
  have h := markTwo_any (m := 1 + n2) ha hb (fun g h hg hh => (hap h g hh hg).symm) (by omega) (by omega)
  rw [Int.natCast_add, Int.natCast_add] at h
  exact h
theorem heldTwo_2 {a : Value} {n n2 ba : Nat} {e : TypeId} {w : World} (ha : w.ownsRow ba e 1 a n (ints (marks (1 + n2) n))) (hn : n ≤ 100000) (hn2 : n2 ≤ 100000) :
    Calls Try.prog 21 #[a, .int .i64 (1 + (n2 : Int))] w fun e' w' => e' = .returned (.int .i64 (1 + (n2 : Int) + (n : Int))) ∧ w = w' := by
  have h := heldInts_any (m := 1 + n2) ha (by omega) (by omega)
  rw [Int.natCast_add, Int.natCast_add] at h
  exact h

end Go.Proofs.Ytinfjbaloppgkaa
