/-
  Poles: the first point of the plane that has a polar; no program.
-/
import Derived.Test.YtmpgpmcmhbpjeaaConMath
import Derived.Test.YtmpgpmcmhbpjeaaBtw
namespace Go.Proofs.Ytmpgpmcmhbpjeaa
open Go.RowKit

set_option linter.unusedSimpArgs false in
theorem row_more (f : Int → Int → Bool) (x y k : Nat) : ∃ r, rowL f x (y + k) = rowL f x y ++ r := by
  induction k with
  | zero => exact ⟨[], by simp⟩
  | succ k ih =>
    obtain ⟨r, hr⟩ := ih
    cases h : f (x : Int) ((y + k : Nat) : Int)
    · exact ⟨r, by rw [← Nat.add_assoc, rowL_no h, hr]⟩
    · exact ⟨r ++ [((x : Int), ((y + k : Nat) : Int))], by rw [← Nat.add_assoc, rowL_yes h, hr, List.append_assoc]⟩
set_option linter.unusedSimpArgs false in
theorem grid_more (f : Int → Int → Bool) (m x k : Nat) : ∃ r, gridL f m (x + k) = gridL f m x ++ r := by
  induction k with
  | zero => exact ⟨[], by simp⟩
  | succ k ih =>
    obtain ⟨r, hr⟩ := ih
    exact ⟨r ++ rowL f (x + k) m, by rw [← Nat.add_assoc, gridL_succ, hr, List.append_assoc]⟩
set_option linter.unusedSimpArgs false in
theorem grid_head {f : Int → Int → Bool} {m x y : Nat} (hg : gridL f m x = []) (hr : rowL f x y = []) (hf : f x y = true) (hx : x < m) (hy : y < m) : (gridL f m m).head? = some ((x : Int), (y : Int)) := by
  obtain ⟨r1, h1⟩ := row_more f x (y + 1) (m - (y + 1))
  obtain ⟨r2, h2⟩ := grid_more f m (x + 1) (m - (x + 1))
  rw [show y + 1 + (m - (y + 1)) = m by omega, rowL_yes hf, hr, List.nil_append] at h1
  rw [show x + 1 + (m - (x + 1)) = m by omega, gridL_succ, hg, List.nil_append, h1] at h2
  rw [h2]; rfl
/-- Whether a point's polar is a line. -/
def plM (p k1 k2 k3 k4 k5 k6 l1 l2 l3 x y : Int) : Bool := !plZ p k1 k2 k3 k4 k5 x y && (pl1 p k1 k2 k3 k4 k5 k6 x y == l1 && pl2 p k1 k2 k3 k4 k5 k6 x y == l2 && pl3 p k1 k2 k3 k4 k5 k6 x y == l3)
def poF (p k1 k2 k3 k4 k5 k6 l1 l2 l3 : Int) : Option (Int × Int) := (gridL (fun x y => plM p k1 k2 k3 k4 k5 k6 l1 l2 l3 x y) p.toNat p.toNat).head?
def poX (p k1 k2 k3 k4 k5 k6 l1 l2 l3 : Int) : Int := ((poF p k1 k2 k3 k4 k5 k6 l1 l2 l3).getD (0, 0)).1
def poY (p k1 k2 k3 k4 k5 k6 l1 l2 l3 : Int) : Int := ((poF p k1 k2 k3 k4 k5 k6 l1 l2 l3).getD (0, 0)).2
def poT (p k1 k2 k3 k4 k5 k6 l1 l2 l3 : Int) : Int := if (poF p k1 k2 k3 k4 k5 k6 l1 l2 l3).isSome = true then 0 else 4

end Go.Proofs.Ytmpgpmcmhbpjeaa
