/-
  slices.IndexFunc with the closure of impl.solve: a row that has a number other than 0 in a column.
-/
import Derived.Test.YtmpgpmcmhbpjeaaLayMat
import Derived.Test.YtmpgpmcmhbpjeaaRows
import Derived.WalkKit
import Derived.Lib.Hide
namespace Go.Proofs.Ytmpgpmcmhbpjeaa
open Go.RowKit

set_option linter.unusedVariables false in
set_option maxRecDepth 20000 in
set_option maxHeartbeats 1000000 in
theorem solveClo_any (B o m C c : Nat) (x : Int) (w : World) (hc : c < m) (hm : m ≤ 8) (h : w.cell? ⟨B, o + c, none⟩ = some (.int .i64 x)) (hC : w.cell? ⟨C, 0, none⟩ = some (.int .i64 c)) :
    Calls Try.prog 102 #[.slice (some ⟨B, o, none⟩) m m, .pointer (some ⟨C, 0, none⟩)] w fun e w' => e = .returned (.bool (x != 0)) ∧ w = w' := by
  have hic : (0 : Int) ≤ (c : Int) ∧ (c : Int) < (m : Int) := by omega
  go_enter Try.func102, Try.ntmps102
  go_wp2
  go_ret
  exact ⟨rfl, rfl⟩
/-- What the search for a row answers. -/
def FoundRow (M : Nat → Nat → Int) (r q c : Nat) (e : Ending) : Prop :=
  (∃ a, a < q ∧ M (r + a) c ≠ 0 ∧ e = .returned (.int .i64 (a : Int))) ∨ ((∀ a, a < q → M (r + a) c = 0) ∧ e = .returned (.int .i64 (-1)))
set_option linter.unusedVariables false in
set_option maxRecDepth 20000 in
set_option maxHeartbeats 2000000 in
theorem indexRow_any (R B N m C c r q cap : Nat) (o : Nat → Nat) (M : Nat → Nat → Int) (w : World) (hL : LayM w R B N m o M) (hq : r + q = N) (hc : c < m) (hN : N ≤ 8) (hm : m ≤ 8) (hC : w.cell? ⟨C, 0, none⟩ = some (.int .i64 c)) :
    Calls Try.prog 101 #[.slice (some ⟨R, r, none⟩) q cap, .func (.func 102) #[] #[.pointer (some ⟨C, 0, none⟩)]] w fun e w' => FoundRow M r q c e ∧ w = w' := by
  have HL := Lib.hid hL
  clear hL
  go_enter Try.func101, Try.ntmps101
  go_wp2
  go_loop [5, 8] (fun _ i => ∃ k : Nat, k ≤ q ∧ i = .int .i64 k ∧ ∀ a, a < k → M (r + a) c = 0) (fun _ i => q - (intOf i).toNat)
  case atStart => exact ⟨0, by omega, rfl, fun a ha => by omega⟩
  case round =>
    obtain ⟨k, hk, rfl, hz⟩ := hrel
    have HZ := Lib.hid hz
    clear hz
    by_cases hlt : k < q
    · have hik : (0 : Int) ≤ (k : Int) ∧ (k : Int) < (q : Int) := by omega
      have hkq : (k : Int) < (q : Int) := by omega
      have hh := HL.out.head (r + k) (by omega)
      have hcl2 := solveClo_any B (o (r + k)) m C c (M (r + k) c) w hc hm (HL.out.num (r + k) c (by omega) hc) hC
      obtain ⟨x, hx⟩ : ∃ x, x = M (r + k) c := ⟨_, rfl⟩
      rw [← hx] at hcl2
      have HX := Lib.hid hx
      clear hx
      go_wp2_with fail
      refine Calls.mono hcl2 ?_
      rintro e w' ⟨rfl, rfl⟩
      clear hcl2
      by_cases h0 : x = 0
      · have hb : (x != 0) = false := by rw [h0]; rfl
        rw [hb]
        go_wp2
        go_round
        case rel => exact ⟨k + 1, by omega, by go_num, fun a ha => by
          by_cases e : a = k
          · subst e; rw [← HX.out]; exact h0
          · exact HZ.out a (by omega)⟩
        case measure => simp [intOf]; omega
      · have hb : (x != 0) = true := by simpa using h0
        rw [hb]
        go_wp2
        go_ret
        exact ⟨.inl ⟨k, hlt, by rw [← HX.out]; exact h0, rfl⟩, rfl⟩
    · obtain rfl : k = q := by omega
      go_wp2
      go_ret
      exact ⟨.inr ⟨HZ.out, rfl⟩, rfl⟩

end Go.Proofs.Ytmpgpmcmhbpjeaa
