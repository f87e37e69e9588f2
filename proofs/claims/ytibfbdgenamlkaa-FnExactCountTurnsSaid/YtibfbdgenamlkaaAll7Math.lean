/-
  The moves of a sign, as the model lists them; no program.
-/
import Derived.Test.YtibfbdgenamlkaaMoveMath
import Derived.Test.YtibfbdgenamlkaaIns6Math
import Derived.Test.YtibfbdgenamlkaaSetMath
namespace Go.Proofs.Ytibfbdgenamlkaa
open Go.RowKit

def alQ (p c z y : Int) : Int := if c = 0 then -z * y else if c = 2 then (if y = 0 then y else inv p y) else z * y
def alR (p c z x : Int) : Int := if c = 2 then (if x = 0 then x else inv p x) else z * x
def alM (p c z : Int) (v : Int × Int) : T6 := (v.1, alQ p c z v.2 % p, v.2, alR p c z v.1 % p, 0, 0)
def alF (p c z x y : Int) : Bool := mvB p c x (alQ p c z y % p) y (alR p c z x % p) && (sgn p x (alQ p c z y % p) y (alR p c z x % p) == z % p)
def alL (p c z : Int) (L : List (Int × Int)) : List T6 := L.map (alM p c z)
theorem alL_len (p c z : Int) (L : List (Int × Int)) : (alL p c z L).length = L.length := by simp [alL]
theorem alL_snoc (p c z : Int) (L : List (Int × Int)) (v : Int × Int) : alL p c z (L ++ [v]) = alL p c z L ++ [alM p c z v] := by simp [alL]
theorem al_new {p c z : Int} (f : Int → Int → Bool) (m x y : Nat) : alM p c z ((x : Int), (y : Int)) ∉ srtM (alL p c z (gridL f m x ++ rowL f x y)) := by
  intro h
  obtain ⟨v, hv, e⟩ := List.mem_map.1 (srtM_mem.1 h)
  simp only [alM, Prod.mk.injEq] at e
  rcases List.mem_append.1 hv with hv | hv
  · have := grid_mem hv; omega
  · have := row_mem hv; omega
def allM (p c z : Int) : List T6 := srtM (alL p c z (gridL (alF p c z) p.toNat p.toNat))
theorem allM_le {p : Int} (c z : Int) (hp : isP p = true) : (allM p c z).length ≤ 961 := by
  have hr := isP_range hp
  refine Nat.le_trans (srtM_le _) ?_
  rw [alL_len]
  exact Nat.le_trans (gridL_le _ _ _) (Nat.le_trans (Nat.mul_le_mul (by omega : p.toNat ≤ 31) (by omega : p.toNat ≤ 31)) (by decide))

end Go.Proofs.Ytibfbdgenamlkaa
