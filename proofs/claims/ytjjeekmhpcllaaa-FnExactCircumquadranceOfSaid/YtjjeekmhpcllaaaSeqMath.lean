/-
  The first two points of a line.
-/
import Derived.Test.YtjjeekmhpcllaaaBaseMath
import Derived.Test.YtjjeekmhpcllaaaSlice
namespace Go.Proofs.Ytjjeekmhpcllaaa
open Go.RowKit

/-- The first two points of a line, in order. -/
def sqS1 (p _l1 l2 l3 : Int) : Int := if (l2 == 0) = true then (-l3) % p else 0
def sqS2 (p _l1 l2 l3 : Int) : Int := if (l2 == 0) = true then 0 else (-l3 * inv p l2) % p
def sqN1 (p _l1 l2 l3 : Int) : Int := if (l2 == 0) = true then (-l3) % p else 1
def sqN2 (p l1 l2 l3 : Int) : Int := if (l2 == 0) = true then 1 else (-(l1 + l3) * inv p l2) % p
/-- What the maker of an iterator leaves: a function that has captured three boxes: the prime, two points. -/
def SeqMade (g : Nat) (p s1 s2 n1 n2 : Int) (w : World) (e : Ending) (w' : World) : Prop :=
  ∃ b0 b1 b2 : Nat, e = .returned (.func (.func g) #[] #[.pointer (some ⟨b0, 0, none⟩), .pointer (some ⟨b1, 0, none⟩), .pointer (some ⟨b2, 0, none⟩)]) ∧
    w'.cell? ⟨b1, 0, none⟩ = some (.int .i64 s1) ∧ w'.cell? ⟨b1, 1, none⟩ = some (.int .i64 s2) ∧ w'.cell? ⟨b2, 0, none⟩ = some (.int .i64 n1) ∧ w'.cell? ⟨b2, 1, none⟩ = some (.int .i64 n2) ∧
    w'.cell? ⟨b0, 0, none⟩ = some (.int .i64 p) ∧ w.heap.size ≤ b0 ∧ w.heap.size ≤ b1 ∧ w.heap.size ≤ b2 ∧ Below w.heap.size w w'
theorem seqMade_mk {g b0 b1 b2 : Nat} {p s1 s2 n1 n2 : Int} {w w' : World} (h1 : w'.cell? ⟨b1, 0, none⟩ = some (.int .i64 s1)) (h2 : w'.cell? ⟨b1, 1, none⟩ = some (.int .i64 s2)) (h3 : w'.cell? ⟨b2, 0, none⟩ = some (.int .i64 n1))
    (h4 : w'.cell? ⟨b2, 1, none⟩ = some (.int .i64 n2)) (h0 : w'.cell? ⟨b0, 0, none⟩ = some (.int .i64 p)) (g0 : w.heap.size ≤ b0) (g1 : w.heap.size ≤ b1) (g2 : w.heap.size ≤ b2) (hb : Below w.heap.size w w') :
    SeqMade g p s1 s2 n1 n2 w (.returned (.func (.func g) #[] #[.pointer (some ⟨b0, 0, none⟩), .pointer (some ⟨b1, 0, none⟩), .pointer (some ⟨b2, 0, none⟩)])) w' := ⟨b0, b1, b2, rfl, h1, h2, h3, h4, h0, g0, g1, g2, hb⟩
end Go.Proofs.Ytjjeekmhpcllaaa
