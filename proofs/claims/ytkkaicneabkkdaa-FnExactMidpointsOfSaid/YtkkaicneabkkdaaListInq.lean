/-
  The program's iterator over all places and its tests, as closures: what impl.listed is handed.
-/
import Derived.Test.YtkkaicneabkkdaaListedq
import Derived.Test.YtkkaicneabkkdaaSiftQq
import Derived.Test.YtkkaicneabkkdaaImplOnCloq

namespace Go.Proofs.Ytkkaicneabkkdaa
open Go.RowKit Go.Shelf

set_option linter.unusedSimpArgs false in
theorem allPlaces_mk (p : Int) (w : World) :
    Calls Try.prog 48 #[.int .i64 p] w fun e w' => ∃ b : Nat, e = .returned (.func (.func 87) #[] #[.pointer (some ⟨b, 0, none⟩)]) ∧ w'.cell? ⟨b, 0, none⟩ = some (.int .i64 p) ∧ w.heap.size ≤ b ∧ Below w.heap.size w w' := by
  refine Calls.mono (allPlaces_any p w) ?_
  rintro e w' ⟨rfl, rfl⟩
  exact ⟨_, rfl, by (repeat (first | with_reducible assumption | ((with_reducible refine kfresh ?_ ?_) <;> (first | with_reducible rfl | (simp; done))) | ((with_reducible refine ksameS ?_); focus ((repeat (first | with_reducible exact kis_of (by with_reducible assumption) | with_reducible refine kis_set ?_ | ((with_reducible refine kis_new ?_ ?_) <;> (first | with_reducible rfl | rfl | (simp; done))) | with_reducible refine kis_alloc _ ?_ | with_reducible refine kis_drew ?_ | with_reducible refine kis_call (by with_reducible assumption) ?_ | with_reducible exact kis_of (kcall (by with_reducible assumption) (by with_reducible assumption)))); done)) | with_reducible refine kother (by decide) ?_ | with_reducible refine kset (by first | omega | (simp; done) | (simp; omega)) ?_ | with_reducible refine kalloc _ ?_ | with_reducible refine kdrew ?_ | with_reducible refine kdrewN ?_ | with_reducible refine kcall (by with_reducible assumption) ?_)), Nat.le_refl _, (Below.refl _ _).alloc (Nat.le_refl _) _⟩
set_option linter.unusedSimpArgs false in
theorem tsPl_1 : ¬ tsPl 71 := by unfold tsPl; decide
set_option linter.unusedSimpArgs false in
theorem tsPl_2 : ¬ tsPl 2 := by unfold tsPl; decide
set_option linter.unusedSimpArgs false in
theorem seqPl_hi {p : Int} {b : Nat} {wb : World} (hp : isP p = true) (h : wb.cell? ⟨b, 0, none⟩ = some (.int .i64 p)) : ∀ W : World, Below wb.heap.size wb W →
    SeqOn Fence.wide 8 Try.prog 87 #[.pointer (some ⟨b, 0, none⟩)] (fun x : Pl32 => #[plV (toQ x)]) (KeepG 0 wb.heap.size 0 tsPl) (fun ys => ys = allQ p.toNat) (fun pre => pre <+: allQ p.toNat) (p.toNat + 1 + p.toNat * p.toNat) W := fun W hW => by
  have hb := World.block_lt_of_cell? wb ⟨b, 0, none⟩ h
  simp only at hb
  exact seqPl_on b 0 wb.heap.size 0 tsPl p hp tsPl_1 tsPl_2 W (Nat.zero_le _) ((cell_back hW hb 0).trans h) ⟨Nat.zero_le _, hb⟩ hW.size
set_option linter.unusedSimpArgs false in
theorem n_le {m : Nat} (h : m ≤ 31) : m + 1 + m * m ≤ 4096 := by
  have : m * m ≤ 31 * 31 := Nat.mul_le_mul h h
  omega
set_option linter.unusedSimpArgs false in
/-- All places that pass a test, by the program. -/
theorem listedAll (f : Pl32 → Bool) (gp b : Nat) (caps : Array Value) (p : Int) (w : World) (hp : isP p = true) (hep : ∀ args w, (callFunc gp args).run Try.prog w = .ok (.enter gp args) w) (h : w.cell? ⟨b, 0, none⟩ = some (.int .i64 p))
    (hc : ∀ (x : Pl32) (W : World), Below w.heap.size w W → Calls Try.prog gp (#[plV (toQ x)] ++ caps) W fun e W' => e = .returned (.bool (f x)) ∧ Below W.heap.size W W') :
    Calls Try.prog 47 #[.func (.func 87) #[] #[.pointer (some ⟨b, 0, none⟩)], .func (.func gp) #[] caps] w fun e w' => OnePost 23 3 (flatQ ((allQ p.toNat).filter f)) ((allQ p.toNat).filter f).length w e w' :=
  listed_any f (allQ p.toNat) (p.toNat + 1 + p.toNat * p.toNat) 0 w.heap.size 87 gp _ caps w (enters_of Try.func87 (by kernel_rfl) rfl) hep (n_le (by have := isP_range hp; omega)) (Nat.le_refl _) (seqPl_hi hp h) hc

end Go.Proofs.Ytkkaicneabkkdaa
