/-
  The numbers of each order, counted; the orders that come.
-/
import Derived.Test.YtinfjbaloppgkaaGroups
import Derived.Test.YtinfjbaloppgkaaCoefMath
import Derived.Test.YtinfjbaloppgkaaPermMath
namespace Go.Proofs.Ytinfjbaloppgkaa
open Go.RowKit

/-- How many numbers below k have an order. -/
def cnt (p : Int) (k x : Nat) : Int := ((grpL p k (x : Int)).length : Int)
theorem cnt_zero (p : Int) (x : Nat) : cnt p 0 x = 0 := rfl
theorem cnt_step (p : Int) (k x : Nat) : cnt p (k + 1) x = if x = ordN p (k : Int) then cnt p k (ordN p (k : Int)) + 1 else cnt p k x := by
  unfold cnt
  by_cases h : x = ordN p (k : Int)
  · subst h; rw [if_pos rfl, grp_yes rfl]; simp
  · rw [if_neg h, grp_no (fun e => h (by omega))]
theorem cnt_le (p : Int) (k x : Nat) : 0 ≤ cnt p k x ∧ cnt p k x ≤ k := by
  have := grp_le p k (x : Int)
  unfold cnt; omega
/-- Whether some number has an order. -/
def hasO (p x : Int) : Bool := decide (1 ≤ x) && decide (0 < ((grpL p p.toNat x).length : Int))
def orL (p : Int) (N : Nat) : List Int := upTo (hasO p) N
def nuL (p : Int) (L : List Int) : List Int := L.map fun x => ((grpL p p.toNat x).length : Int)
theorem nuL_length (p : Int) (L : List Int) : (nuL p L).length = L.length := by simp [nuL]
theorem orL_one (p : Int) : orL p 1 = [] := by simp [orL, upTo, hasO, List.range_succ]
theorem orL_yes {p : Int} {x : Nat} (h1 : 1 ≤ x) (h : 0 < cnt p p.toNat x) : orL p (x + 1) = orL p x ++ [(x : Int)] := upTo_yes (f := hasO p) (by unfold hasO; rw [decide_eq_true (show (1 : Int) ≤ (x : Int) by omega), show decide (0 < ((grpL p p.toNat (x : Int)).length : Int)) = true from decide_eq_true h]; rfl)
theorem orL_no {p : Int} {x : Nat} (h : ¬ 0 < cnt p p.toNat x) : orL p (x + 1) = orL p x := upTo_no (f := hasO p) (by unfold hasO; rw [show decide (0 < ((grpL p p.toNat (x : Int)).length : Int)) = false from decide_eq_false h]; simp)
theorem nuL_yes {p : Int} {x : Nat} (h1 : 1 ≤ x) (h : 0 < cnt p p.toNat x) : nuL p (orL p (x + 1)) = nuL p (orL p x) ++ [cnt p p.toNat x] := by rw [orL_yes h1 h]; simp [nuL, cnt]
theorem ord_fin : ∀ n : Fin 32, isP (n.val : Int) = true → ∀ s : Fin 32, s.val < n.val → ordN (n.val : Int) (s.val : Int) < 4 * n.val + 4 := by decide +kernel
theorem ord_lt {p s : Int} (hp : isP p = true) (h0 : 0 ≤ s) (h1 : s < p) : ordN p s < 4 * p.toNat + 4 := by
  have hr := isP_range hp
  obtain ⟨n, rfl⟩ := Int.eq_ofNat_of_zero_le (show 0 ≤ p by omega)
  obtain ⟨m, rfl⟩ := Int.eq_ofNat_of_zero_le h0
  exact ord_fin ⟨n, by omega⟩ hp ⟨m, by omega⟩ (by show m < n; omega)

/-- Two slices that a call has made, and a code. -/
def TwoPost (T : TypeId) (k : Nat) (L M : List Int) (C : Int) (w : World) (e : Ending) (w' : World) : Prop :=
  ∃ v n u m, e = .returned (.tuple #[v, u, .int .i64 C]) ∧ w'.ownsRow w.heap.size T k v n (ints L) ∧ w'.ownsRow w.heap.size T k u m (ints M) ∧ Below w.heap.size w w'
theorem twoPost_mk {T : TypeId} {k n m : Nat} {L M : List Int} {C : Int} {v u : Value} {w w' : World} (h : w'.ownsRow w.heap.size T k v n (ints L)) (h2 : w'.ownsRow w.heap.size T k u m (ints M)) (hb : Below w.heap.size w w') : TwoPost T k L M C w (.returned (.tuple #[v, u, .int .i64 C])) w' := ⟨v, n, u, m, rfl, h, h2, hb⟩
theorem twoPost_nil {T : TypeId} {k : Nat} {L M : List Int} {C : Int} {w w' : World} (h : L = []) (h2 : M = []) (hb : Below w.heap.size w w') : TwoPost T k L M C w (.returned (.tuple #[.slice none 0 0, .slice none 0 0, .int .i64 C])) w' := ⟨_, 0, _, 0, rfl, by rw [h]; exact World.ownsRow_nil _ _ _ _, by rw [h2]; exact World.ownsRow_nil _ _ _ _, hb⟩

/-- Two slices never in one block. -/
def Apart (v u : Value) : Prop := ∀ g h, v.ownBlock = some g → u.ownBlock = some h → g ≠ h
theorem apart_nil (u : Value) : Apart (.slice none 0 0) u := fun g h hg _ => by cases hg
/-- Two slices that a call has made, in two blocks, and a code. -/
def TwoPostA (T : TypeId) (k : Nat) (L M : List Int) (C : Int) (w : World) (e : Ending) (w' : World) : Prop :=
  ∃ v n u m, e = .returned (.tuple #[v, u, .int .i64 C]) ∧ w'.ownsRow w.heap.size T k v n (ints L) ∧ w'.ownsRow w.heap.size T k u m (ints M) ∧ Below w.heap.size w w' ∧ Apart v u
theorem twoPostA_mk {T : TypeId} {k n m : Nat} {L M : List Int} {C : Int} {v u : Value} {w w' : World} (h : w'.ownsRow w.heap.size T k v n (ints L)) (h2 : w'.ownsRow w.heap.size T k u m (ints M)) (ha : Apart v u) (hb : Below w.heap.size w w') : TwoPostA T k L M C w (.returned (.tuple #[v, u, .int .i64 C])) w' := ⟨v, n, u, m, rfl, h, h2, hb, ha⟩
theorem twoPostA_nil {T : TypeId} {k : Nat} {L M : List Int} {C : Int} {w w' : World} (h : L = []) (h2 : M = []) (hb : Below w.heap.size w w') : TwoPostA T k L M C w (.returned (.tuple #[.slice none 0 0, .slice none 0 0, .int .i64 C])) w' := ⟨_, 0, _, 0, rfl, by rw [h]; exact World.ownsRow_nil _ _ _ _, by rw [h2]; exact World.ownsRow_nil _ _ _ _, hb, apart_nil _⟩

end Go.Proofs.Ytinfjbaloppgkaa
