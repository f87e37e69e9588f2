/-
  A line among the cells of a slice; boxes that hold a line.
-/
import Derived.Test.YtmpgpmcmhbpjeaaLnKeyq
import Derived.Test.YtmpgpmcmhbpjeaaMgq0
import Derived.Test.YtmpgpmcmhbpjeaaRows

namespace Go.Proofs.Ytmpgpmcmhbpjeaa
open Go.RowKit Go.Shelf

theorem infoLn : (Try.prog.info? 30).map (fun i => (i.zero, i.size, i.bytes)) = some (some (.agg #[.int .i64 0, .int .i64 0, .int .i64 0]), 3, 24) := by kernel_rfl
theorem ln_cells {w : World} {x y z : Int} {t : TypeId} {q : Nat} (hq : q = w.heap.size) : ∀ j u, [Value.int .i64 x, Value.int .i64 y, Value.int .i64 z][j]? = some u → (w.alloc (.cells #[.int .i64 x, .int .i64 y, .int .i64 z] t)).cell? ((⟨q, 0, none⟩ : Addr).add j) = some u := by
  intro j u hj
  subst hq
  match j, hj with
  | 0, hj => simp at hj; subst hj; exact kfresh (by simp) rfl
  | 1, hj => simp at hj; subst hj; exact kfresh (by simp) rfl
  | 2, hj => simp at hj; subst hj; exact kfresh (by simp) rfl
theorem ln_one (x y z : Int) : ∀ u ∈ [Value.int .i64 x, Value.int .i64 y, Value.int .i64 z], u.oneCell' = true := by
  intro u hu; simp at hu; rcases hu with rfl | rfl | rfl <;> rfl
/-- The numbers of lines, one after the other. -/
def flat3 (xs : List (Int × Int × Int)) : List Int := xs.flatMap fun x => [x.1, x.2.1, x.2.2]
theorem flat3_append (xs : List (Int × Int × Int)) (x : Int × Int × Int) : flat3 (xs ++ [x]) = flat3 xs ++ [x.1, x.2.1, x.2.2] := by simp [flat3]
theorem flat3_length (xs : List (Int × Int × Int)) : (flat3 xs).length = xs.length * 3 := by
  induction xs with
  | nil => rfl
  | cons x xs ih => simp [flat3] at ih ⊢; omega
def Box3 (W : World) (B : Nat) (t : TypeId) (x : Int × Int × Int) : Prop := W.heap[B]? = some (.cells #[.int .i64 x.1, .int .i64 x.2.1, .int .i64 x.2.2] t (0, 0))
theorem box3_cell1 {W : World} {B : Nat} {t : TypeId} {x : Int × Int × Int} (h : Box3 W B t x) : W.cell? ⟨B, 0, none⟩ = some (.int .i64 x.1) := by simp [World.cell?, show W.heap[B]? = _ from h]
theorem box3_cell2 {W : World} {B : Nat} {t : TypeId} {x : Int × Int × Int} (h : Box3 W B t x) : W.cell? ⟨B, 1, none⟩ = some (.int .i64 x.2.1) := by simp [World.cell?, show W.heap[B]? = _ from h]
theorem box3_cell3 {W : World} {B : Nat} {t : TypeId} {x : Int × Int × Int} (h : Box3 W B t x) : W.cell? ⟨B, 2, none⟩ = some (.int .i64 x.2.2) := by simp [World.cell?, show W.heap[B]? = _ from h]
theorem box3_own (B C : Nat) (t : TypeId) (x : Int × Int × Int) : OwnFrom C (fun (_ : Unit) W => Box3 W B t x) := fun _ X Y row hs hg hrow =>
  (hg.block B (Array.getElem?_eq_some_iff.1 hs).1 (fun e' => by
    obtain ⟨_, o, ho, hc⟩ := hrow B e'.symm
    rw [show X.heap[B]? = _ from hs] at ho; cases ho; cases hc)).trans hs
theorem box3_new (W : World) (t : TypeId) (x : Int × Int × Int) : Box3 (W.alloc (.cells #[.int .i64 x.1, .int .i64 x.2.1, .int .i64 x.2.2] t)) W.heap.size t x := World.alloc_heap_new W _

end Go.Proofs.Ytmpgpmcmhbpjeaa
