/-
  impl.fixedPoints: the points that a map keeps, by a range over all points.
-/
import Derived.Test.YthfckpfiechloaaFixMath
import Derived.Test.YthfckpfiechloaaImplMoved
import Derived.Test.YthfckpfiechloaaSeqAll
import Derived.Test.YthfckpfiechloaaKeepT
import Derived.Test.YthfckpfiechloaaSpecAt0
import Derived.Test.YthfckpfiechloaaPtCells
import Derived.Test.YthfckpfiechloaaGrow
import Derived.Test.YthfckpfiechloaaArrEq
import Derived.Test.YthfckpfiechloaaRangeOn
import Derived.Test.YthfckpfiechloaaSlice
import Derived.TacticsIn
import Derived.RegionIn
import Derived.Shelf.RegionOpen
import Derived.Test.YthfckpfiechloaaBaseMath
namespace Go.Proofs.Ythfckpfiechloaa
open Go.RowKit

open Go.Shelf
attribute [local go_sem] Oper.semAt_some

set_option linter.unusedVariables false in
set_option maxRecDepth 100000 in
set_option maxRecDepth 20000 in
set_option maxHeartbeats 4000000 in
theorem implFixed_any (p m1 m2 m3 m4 m5 m6 : Int) (w : World) (hp : isP p = true) (hm1 : 0 ≤ m1 ∧ m1 ≤ 31) (hm2 : 0 ≤ m2 ∧ m2 ≤ 31) (hm3 : 0 ≤ m3 ∧ m3 ≤ 31) (hm4 : 0 ≤ m4 ∧ m4 ≤ 31) (hm5 : 0 ≤ m5 ∧ m5 ≤ 31) (hm6 : 0 ≤ m6 ∧ m6 ≤ 31) :
    Calls Try.prog 84 #[.int .i64 p, .agg #[.int .i64 m1, .int .i64 m2, .int .i64 m3, .int .i64 m4, .int .i64 m5, .int .i64 m6]] w fun e w' =>
      OnePost 28 2 (flat (fxL p m1 m2 m3 m4 m5 m6)) (fxL p m1 m2 m3 m4 m5 m6).length w e w' := by
  have hr := isP_range hp
  have heq := equalPoint
  obtain ⟨f, hf⟩ : ∃ f : Int → Int → Bool, f = fun x y => fixB p m1 m2 m3 m4 m5 m6 x y := ⟨_, rfl⟩
  have HFE := Lib.hid (show ∀ x y, (mv p m1 m2 m5 x y == x && mv p m3 m4 m6 x y == y) = f x y from fun x y => by rw [hf]; rfl)
  have hon : ∀ (x y : Int) (w : World), 0 ≤ x ∧ x ≤ 31 → 0 ≤ y ∧ y ≤ 31 → Calls Try.prog 61 #[.int .i64 p, .agg #[.int .i64 m1, .int .i64 m2, .int .i64 m3, .int .i64 m4, .int .i64 m5, .int .i64 m6], .agg #[.int .i64 x, .int .i64 y]] w fun e w' => e = .returned (.agg #[.int .i64 (mv p m1 m2 m5 x y), .int .i64 (mv p m3 m4 m6 x y)]) ∧ Below w.heap.size w w' := fun x y w hx hy => implMoved_any p m1 m2 m3 m4 m5 m6 x y w hp hm1 hm2 hm3 hm4 hm5 hm6 hx hy
  have HON := Lib.hid hon
  clear hon
  unfold fxL
  rw [← hf, ← flF_all f (m := p.toNat) (by omega)]
  clear hf
  have hpp : p.toNat * p.toNat ≤ 4096 := Nat.le_trans (Nat.mul_le_mul (by omega : p.toNat ≤ 31) (by omega : p.toNat ≤ 31)) (by decide)
  have HPP := Lib.hid hpp
  clear hpp
  obtain ⟨i0, hi0, hz0, hz1, hz2⟩ := info_parts infoPt
  refine (callsIn_wide (n := 9)).1 ?_
  refine callsIn_of_wp_marks Try.func84 rfl trivial ?_ rfl
  simp only [Try.ntmps84, List.size_toArray, List.length_cons, List.length_nil, Nat.reduceAdd, Nat.reduceSub, Array.replicate_succ, Array.replicate_zero, List.push_toArray, List.append_toArray, List.nil_append, List.cons_append]
  gi_wp2_with fail
  refine ⟨trivial, CallsIn.mono (callsIn_wide.2 (allPoints_any _ _)) ?_⟩
  rintro e w' ⟨rfl, rfl⟩
  gi_wp2_with fail
  have q0 : ((((w.alloc (.cells #[.int .i64 p] 2)).alloc (.cells #[.int .i64 m1, .int .i64 m2, .int .i64 m3, .int .i64 m4, .int .i64 m5, .int .i64 m6] 30)).alloc (.cells #[.slice none 0 0] 54)).alloc (.cells #[.int .i64 p] 2)).cell? ⟨w.heap.size, 0, none⟩ = some (.int .i64 p) := by (repeat (first | with_reducible assumption | ((with_reducible refine kfresh ?_ ?_) <;> (first | with_reducible rfl | (simp; done))) | ((with_reducible refine ksameS ?_); focus ((repeat (first | with_reducible exact kis_of (by with_reducible assumption) | with_reducible refine kis_set ?_ | ((with_reducible refine kis_new ?_ ?_) <;> (first | with_reducible rfl | rfl | (simp; done))) | with_reducible refine kis_alloc _ ?_ | with_reducible refine kis_drew ?_ | with_reducible refine kis_call (by with_reducible assumption) ?_ | with_reducible exact kis_of (kcall (by with_reducible assumption) (by with_reducible assumption)))); done)) | with_reducible refine kother (by decide) ?_ | with_reducible refine kset (by first | omega | (simp; done) | (simp; omega)) ?_ | with_reducible refine kalloc _ ?_ | with_reducible refine kdrew ?_ | with_reducible refine kcall (by with_reducible assumption) ?_))
  have q1 : ((((w.alloc (.cells #[.int .i64 p] 2)).alloc (.cells #[.int .i64 m1, .int .i64 m2, .int .i64 m3, .int .i64 m4, .int .i64 m5, .int .i64 m6] 30)).alloc (.cells #[.slice none 0 0] 54)).alloc (.cells #[.int .i64 p] 2)).cell? ⟨w.heap.size + 1, 0, none⟩ = some (.int .i64 m1) := by (repeat (first | with_reducible assumption | ((with_reducible refine kfresh ?_ ?_) <;> (first | with_reducible rfl | (simp; done))) | ((with_reducible refine ksameS ?_); focus ((repeat (first | with_reducible exact kis_of (by with_reducible assumption) | with_reducible refine kis_set ?_ | ((with_reducible refine kis_new ?_ ?_) <;> (first | with_reducible rfl | rfl | (simp; done))) | with_reducible refine kis_alloc _ ?_ | with_reducible refine kis_drew ?_ | with_reducible refine kis_call (by with_reducible assumption) ?_ | with_reducible exact kis_of (kcall (by with_reducible assumption) (by with_reducible assumption)))); done)) | with_reducible refine kother (by decide) ?_ | with_reducible refine kset (by first | omega | (simp; done) | (simp; omega)) ?_ | with_reducible refine kalloc _ ?_ | with_reducible refine kdrew ?_ | with_reducible refine kcall (by with_reducible assumption) ?_))
  have q2 : ((((w.alloc (.cells #[.int .i64 p] 2)).alloc (.cells #[.int .i64 m1, .int .i64 m2, .int .i64 m3, .int .i64 m4, .int .i64 m5, .int .i64 m6] 30)).alloc (.cells #[.slice none 0 0] 54)).alloc (.cells #[.int .i64 p] 2)).cell? ⟨w.heap.size + 1, 1, none⟩ = some (.int .i64 m2) := by (repeat (first | with_reducible assumption | ((with_reducible refine kfresh ?_ ?_) <;> (first | with_reducible rfl | (simp; done))) | ((with_reducible refine ksameS ?_); focus ((repeat (first | with_reducible exact kis_of (by with_reducible assumption) | with_reducible refine kis_set ?_ | ((with_reducible refine kis_new ?_ ?_) <;> (first | with_reducible rfl | rfl | (simp; done))) | with_reducible refine kis_alloc _ ?_ | with_reducible refine kis_drew ?_ | with_reducible refine kis_call (by with_reducible assumption) ?_ | with_reducible exact kis_of (kcall (by with_reducible assumption) (by with_reducible assumption)))); done)) | with_reducible refine kother (by decide) ?_ | with_reducible refine kset (by first | omega | (simp; done) | (simp; omega)) ?_ | with_reducible refine kalloc _ ?_ | with_reducible refine kdrew ?_ | with_reducible refine kcall (by with_reducible assumption) ?_))
  have q3 : ((((w.alloc (.cells #[.int .i64 p] 2)).alloc (.cells #[.int .i64 m1, .int .i64 m2, .int .i64 m3, .int .i64 m4, .int .i64 m5, .int .i64 m6] 30)).alloc (.cells #[.slice none 0 0] 54)).alloc (.cells #[.int .i64 p] 2)).cell? ⟨w.heap.size + 1, 2, none⟩ = some (.int .i64 m3) := by (repeat (first | with_reducible assumption | ((with_reducible refine kfresh ?_ ?_) <;> (first | with_reducible rfl | (simp; done))) | ((with_reducible refine ksameS ?_); focus ((repeat (first | with_reducible exact kis_of (by with_reducible assumption) | with_reducible refine kis_set ?_ | ((with_reducible refine kis_new ?_ ?_) <;> (first | with_reducible rfl | rfl | (simp; done))) | with_reducible refine kis_alloc _ ?_ | with_reducible refine kis_drew ?_ | with_reducible refine kis_call (by with_reducible assumption) ?_ | with_reducible exact kis_of (kcall (by with_reducible assumption) (by with_reducible assumption)))); done)) | with_reducible refine kother (by decide) ?_ | with_reducible refine kset (by first | omega | (simp; done) | (simp; omega)) ?_ | with_reducible refine kalloc _ ?_ | with_reducible refine kdrew ?_ | with_reducible refine kcall (by with_reducible assumption) ?_))
  have q4 : ((((w.alloc (.cells #[.int .i64 p] 2)).alloc (.cells #[.int .i64 m1, .int .i64 m2, .int .i64 m3, .int .i64 m4, .int .i64 m5, .int .i64 m6] 30)).alloc (.cells #[.slice none 0 0] 54)).alloc (.cells #[.int .i64 p] 2)).cell? ⟨w.heap.size + 1, 3, none⟩ = some (.int .i64 m4) := by (repeat (first | with_reducible assumption | ((with_reducible refine kfresh ?_ ?_) <;> (first | with_reducible rfl | (simp; done))) | ((with_reducible refine ksameS ?_); focus ((repeat (first | with_reducible exact kis_of (by with_reducible assumption) | with_reducible refine kis_set ?_ | ((with_reducible refine kis_new ?_ ?_) <;> (first | with_reducible rfl | rfl | (simp; done))) | with_reducible refine kis_alloc _ ?_ | with_reducible refine kis_drew ?_ | with_reducible refine kis_call (by with_reducible assumption) ?_ | with_reducible exact kis_of (kcall (by with_reducible assumption) (by with_reducible assumption)))); done)) | with_reducible refine kother (by decide) ?_ | with_reducible refine kset (by first | omega | (simp; done) | (simp; omega)) ?_ | with_reducible refine kalloc _ ?_ | with_reducible refine kdrew ?_ | with_reducible refine kcall (by with_reducible assumption) ?_))
  have q5 : ((((w.alloc (.cells #[.int .i64 p] 2)).alloc (.cells #[.int .i64 m1, .int .i64 m2, .int .i64 m3, .int .i64 m4, .int .i64 m5, .int .i64 m6] 30)).alloc (.cells #[.slice none 0 0] 54)).alloc (.cells #[.int .i64 p] 2)).cell? ⟨w.heap.size + 1, 4, none⟩ = some (.int .i64 m5) := by (repeat (first | with_reducible assumption | ((with_reducible refine kfresh ?_ ?_) <;> (first | with_reducible rfl | (simp; done))) | ((with_reducible refine ksameS ?_); focus ((repeat (first | with_reducible exact kis_of (by with_reducible assumption) | with_reducible refine kis_set ?_ | ((with_reducible refine kis_new ?_ ?_) <;> (first | with_reducible rfl | rfl | (simp; done))) | with_reducible refine kis_alloc _ ?_ | with_reducible refine kis_drew ?_ | with_reducible refine kis_call (by with_reducible assumption) ?_ | with_reducible exact kis_of (kcall (by with_reducible assumption) (by with_reducible assumption)))); done)) | with_reducible refine kother (by decide) ?_ | with_reducible refine kset (by first | omega | (simp; done) | (simp; omega)) ?_ | with_reducible refine kalloc _ ?_ | with_reducible refine kdrew ?_ | with_reducible refine kcall (by with_reducible assumption) ?_))
  have q6 : ((((w.alloc (.cells #[.int .i64 p] 2)).alloc (.cells #[.int .i64 m1, .int .i64 m2, .int .i64 m3, .int .i64 m4, .int .i64 m5, .int .i64 m6] 30)).alloc (.cells #[.slice none 0 0] 54)).alloc (.cells #[.int .i64 p] 2)).cell? ⟨w.heap.size + 1, 5, none⟩ = some (.int .i64 m6) := by (repeat (first | with_reducible assumption | ((with_reducible refine kfresh ?_ ?_) <;> (first | with_reducible rfl | (simp; done))) | ((with_reducible refine ksameS ?_); focus ((repeat (first | with_reducible exact kis_of (by with_reducible assumption) | with_reducible refine kis_set ?_ | ((with_reducible refine kis_new ?_ ?_) <;> (first | with_reducible rfl | rfl | (simp; done))) | with_reducible refine kis_alloc _ ?_ | with_reducible refine kis_drew ?_ | with_reducible refine kis_call (by with_reducible assumption) ?_ | with_reducible exact kis_of (kcall (by with_reducible assumption) (by with_reducible assumption)))); done)) | with_reducible refine kother (by decide) ?_ | with_reducible refine kset (by first | omega | (simp; done) | (simp; omega)) ?_ | with_reducible refine kalloc _ ?_ | with_reducible refine kdrew ?_ | with_reducible refine kcall (by with_reducible assumption) ?_))
  have q7 : ((((w.alloc (.cells #[.int .i64 p] 2)).alloc (.cells #[.int .i64 m1, .int .i64 m2, .int .i64 m3, .int .i64 m4, .int .i64 m5, .int .i64 m6] 30)).alloc (.cells #[.slice none 0 0] 54)).alloc (.cells #[.int .i64 p] 2)).cell? ⟨w.heap.size + 1 + 1 + 1, 0, none⟩ = some (.int .i64 p) := by (repeat (first | with_reducible assumption | ((with_reducible refine kfresh ?_ ?_) <;> (first | with_reducible rfl | (simp; done))) | ((with_reducible refine ksameS ?_); focus ((repeat (first | with_reducible exact kis_of (by with_reducible assumption) | with_reducible refine kis_set ?_ | ((with_reducible refine kis_new ?_ ?_) <;> (first | with_reducible rfl | rfl | (simp; done))) | with_reducible refine kis_alloc _ ?_ | with_reducible refine kis_drew ?_ | with_reducible refine kis_call (by with_reducible assumption) ?_ | with_reducible exact kis_of (kcall (by with_reducible assumption) (by with_reducible assumption)))); done)) | with_reducible refine kother (by decide) ?_ | with_reducible refine kset (by first | omega | (simp; done) | (simp; omega)) ?_ | with_reducible refine kalloc _ ?_ | with_reducible refine kdrew ?_ | with_reducible refine kcall (by with_reducible assumption) ?_))
  have bS : Boxed ((((w.alloc (.cells #[.int .i64 p] 2)).alloc (.cells #[.int .i64 m1, .int .i64 m2, .int .i64 m3, .int .i64 m4, .int .i64 m5, .int .i64 m6] 30)).alloc (.cells #[.slice none 0 0] 54)).alloc (.cells #[.int .i64 p] 2)) (w.heap.size + 1 + 1) 54 (.slice none 0 0) := by
    have := (Boxed.new ((w.alloc (.cells #[.int .i64 p] 2)).alloc (.cells #[.int .i64 m1, .int .i64 m2, .int .i64 m3, .int .i64 m4, .int .i64 m5, .int .i64 m6] 30)) 54 (.slice none 0 0)).alloc (.cells #[.int .i64 p] 2)
    simpa using this
  have hB0 : Below w.heap.size w ((((w.alloc (.cells #[.int .i64 p] 2)).alloc (.cells #[.int .i64 m1, .int .i64 m2, .int .i64 m3, .int .i64 m4, .int .i64 m5, .int .i64 m6] 30)).alloc (.cells #[.slice none 0 0] 54)).alloc (.cells #[.int .i64 p] 2)) := by (repeat (first | with_reducible exact Below.refl _ _ | with_reducible refine balloc ?_ _ | with_reducible refine bdrewN ?_ _ | with_reducible refine Below.drew ?_ | with_reducible refine bthen ?_ (by with_reducible assumption) | with_reducible refine Below.setCell ?_ (by first | (simp; done) | (simp; omega)) _))
  have hsz : ((((w.alloc (.cells #[.int .i64 p] 2)).alloc (.cells #[.int .i64 m1, .int .i64 m2, .int .i64 m3, .int .i64 m4, .int .i64 m5, .int .i64 m6] 30)).alloc (.cells #[.slice none 0 0] 54)).alloc (.cells #[.int .i64 p] 2)).heap.size = w.heap.size + 1 + 1 + 1 + 1 := by simp
  have hszW : (((w.alloc (.cells #[.int .i64 p] 2)).alloc (.cells #[.int .i64 m1, .int .i64 m2, .int .i64 m3, .int .i64 m4, .int .i64 m5, .int .i64 m6] 30)).alloc (.cells #[.slice none 0 0] 54)).heap.size = w.heap.size + 1 + 1 + 1 := by simp
  obtain ⟨Wn, hWn⟩ : ∃ Wn, Wn = ((((w.alloc (.cells #[.int .i64 p] 2)).alloc (.cells #[.int .i64 m1, .int .i64 m2, .int .i64 m3, .int .i64 m4, .int .i64 m5, .int .i64 m6] 30)).alloc (.cells #[.slice none 0 0] 54)).alloc (.cells #[.int .i64 p] 2)) := ⟨_, rfl⟩
  rw [← hWn] at q0 q1 q2 q3 q4 q5 q6 q7 bS hB0 hsz ⊢
  clear hWn
  simp only [World.size_alloc] at *
  have hsq : SeqOn Fence.wide 8 Try.prog 136 #[.pointer (some ⟨w.heap.size + 1 + 1 + 1, 0, none⟩)] (fun x : Pt32 => #[ptV (toP x)]) (KeepBT (w.heap.size + 1 + 1 + 1) (w.heap.size + 1 + 1 + 1 + 1)) (fun ys => ys = allF p.toNat p.toNat 0) (fun pre => pre <+: allF p.toNat p.toNat 0) (p.toNat * p.toNat) Wn := seqOn_of (seqAll_stops 8 (w.heap.size + 1 + 1 + 1) (w.heap.size + 1 + 1 + 1) (w.heap.size + 1 + 1 + 1 + 1) p (by decide) hp Wn q7 ⟨Nat.le_refl _, by omega⟩ (by omega)) fun _ _ h => h.1
  refine range_on rfl (by decide) (gf := 136) (lb := #[.pointer (some ⟨w.heap.size + 1 + 1 + 1, 0, none⟩)]) rfl trivial (enters_of Try.func136 (by kernel_rfl) rfl)
    hsq bt_trans (bt_put (by omega)) (Below.refl _ _) (fun _ => rfl)
    (fun pre W => (∃ v, Boxed W (w.heap.size + 1 + 1) 54 v ∧ W.ownsRow (w.heap.size + 1 + 1 + 1 + 1) 28 2 v (flF f pre).length (ints (flat (flF f pre)))) ∧ (Btw 0 (w.heap.size + 1 + 1) Wn W ∧ (Below w.heap.size w W ∧ w.heap.size + 1 + 1 + 1 + 1 ≤ W.heap.size)))
    (fun _ _ _ => False)
    (OwnFrom.and (ownFrom_ex fun v => OwnFrom.and (Own.from (boxed_own _ _ _) _) (Own.from (row_own _ _ _ _ _ _) _)) (OwnFrom.and (btw_ownLe (by omega)) (OwnFrom.and (ownFrom_below (by omega) hB0.size) (size_own _ _))))
    (fun _ _ _ _ _ hs _ _ => hs)
    ⟨⟨_, bS, World.ownsRow_nil _ _ _ _⟩, btw_refl _ _ _, hB0, by omega⟩
    (fun x a' W => ∃ Bx, w.heap.size + 1 + 1 + 1 + 1 ≤ Bx ∧ Box2 W Bx 28 (toP x) ∧ a' = { tmps := #[.int .i64 p, .agg #[.int .i64 m1, .int .i64 m2, .int .i64 m3, .int .i64 m4, .int .i64 m5, .int .i64 m6], .pointer (some ⟨w.heap.size, 0, none⟩), .pointer (some ⟨w.heap.size + 1, 0, none⟩), .slice none 0 0, .pointer (some ⟨w.heap.size + 1 + 1, 0, none⟩), .pointer (some ⟨Bx, 0, none⟩), .int .i64 p, .func (.func 136) #[] #[.pointer (some ⟨w.heap.size + 1 + 1 + 1, 0, none⟩)], .agg #[.int .i64 (x.1.val : Int), .int .i64 (x.2.val : Int)], undef, undef, undef, undef, undef, undef, undef, undef, undef, undef, undef], defers := [] })
    (fun x a' _ X Y row hs hg hr => by obtain ⟨Bx, h1, h2, h3⟩ := hs; exact ⟨Bx, h1, box2_own Bx Wn.heap.size 28 (toP x) () X Y row h2 hg hr, h3⟩)
    ?assign ?body ?done ?stop
  case assign =>
    rintro l pre x W K ⟨⟨v, bx, hrow⟩, hb, hB, hs⟩ hK
    obtain ⟨⟨x1, hx1⟩, ⟨x2, hx2⟩⟩ := x
    simp only [ptV, toP]
    gi_wp2
    exact hK _ _ ((KeepsOthers.alloc _ _).from _) ⟨btw_alloc _ _ (by omega), kt_none (World.grownBy_alloc _ _ none)⟩ ⟨⟨v, bx.alloc _, hrow.alloc _⟩, btw_trans hb (btw_alloc _ _ (by omega)), hB.alloc hB.size _, by simp; omega⟩ ⟨W.heap.size, hs, box2_new W _ (toP ((⟨x1, hx1⟩, ⟨x2, hx2⟩) : Pt32)), rfl⟩
  case body =>
    rintro l pre x a' W ⟨⟨v, bx, hrow⟩, hb, hB, hs⟩ ⟨Bx, hBx, hX, rfl⟩ hlt
    have hX1 := box2_cell1 hX
    have hX2 := box2_cell2 hX
    have hXl := World.block_lt_of_cell? W ⟨Bx, 0, none⟩ hX1
    simp only at hXl
    have hle := flF_le f pre
    have hpp := HPP.out
    have k0 := (btw_cell hb (Nat.zero_le _) (by omega) 0).trans q0
    have k1 := (btw_cell hb (Nat.zero_le _) (by omega) 0).trans q1
    have k2 := (btw_cell hb (Nat.zero_le _) (by omega) 1).trans q2
    have k3 := (btw_cell hb (Nat.zero_le _) (by omega) 2).trans q3
    have k4 := (btw_cell hb (Nat.zero_le _) (by omega) 3).trans q4
    have k5 := (btw_cell hb (Nat.zero_le _) (by omega) 4).trans q5
    have k6 := (btw_cell hb (Nat.zero_le _) (by omega) 5).trans q6
    obtain ⟨⟨x1, hx1⟩, ⟨x2, hx2⟩⟩ := x
    simp only [toP] at hX1 hX2
    have hS0 : w.heap.size < W.heap.size := by omega
    have hS1 : w.heap.size + 1 < W.heap.size := by omega
    have hcall := fun w' => HON.out (x1 : Int) (x2 : Int) w' (by omega) (by omega)
    have hY := flF_yes f pre (x := ((⟨x1, hx1⟩, ⟨x2, hx2⟩) : Pt32))
    have hN' := flF_no f pre (x := ((⟨x1, hx1⟩, ⟨x2, hx2⟩) : Pt32))
    simp only [toP] at hY hN'
    obtain ⟨z1, hz1'⟩ : ∃ z, z = mv p m1 m2 m5 (x1 : Int) (x2 : Int) := ⟨_, rfl⟩
    obtain ⟨z2, hz2'⟩ : ∃ z, z = mv p m3 m4 m6 (x1 : Int) (x2 : Int) := ⟨_, rfl⟩
    have hfz : (z1 == (x1 : Int) && z2 == (x2 : Int)) = f (x1 : Int) (x2 : Int) := by rw [hz1', hz2']; exact HFE.out _ _
    rw [← hz1', ← hz2'] at hcall
    clear hz1' hz2'
    have HCL := Lib.hid hcall
    clear hcall
    obtain ⟨bo, hbo⟩ : ∃ b, b = f (x1 : Int) (x2 : Int) := ⟨_, rfl⟩
    rw [← hbo] at hfz hY hN'
    clear hbo
    have hmx : Try.prog.follows .mixedOrders = true := by kernel_rfl
    have hd1 : 1 ≤ 9 - 1 - 1 := by decide
    gi_wp2
    refine Code.wpIn_mono (Q := fun e a' w' => e = .normal ∧ a' = { tmps := #[.int .i64 p, .agg #[.int .i64 m1, .int .i64 m2, .int .i64 m3, .int .i64 m4, .int .i64 m5, .int .i64 m6], .pointer (some ⟨w.heap.size, 0, none⟩), .pointer (some ⟨w.heap.size + 1, 0, none⟩), .slice none 0 0, .pointer (some ⟨w.heap.size + 1 + 1, 0, none⟩), .pointer (some ⟨Bx, 0, none⟩), .int .i64 p, .func (.func 136) #[] #[.pointer (some ⟨w.heap.size + 1 + 1 + 1, 0, none⟩)], .agg #[.int .i64 (x1 : Int), .int .i64 (x2 : Int)], .int .i64 p, .agg #[.int .i64 m1, .int .i64 m2, .int .i64 m3, .int .i64 m4, .int .i64 m5, .int .i64 m6], .agg #[.int .i64 (x1 : Int), .int .i64 (x2 : Int)], .agg #[.int .i64 z1, .int .i64 z2], .agg #[.int .i64 (x1 : Int), .int .i64 (x2 : Int)], .bool bo, undef, undef, undef, undef, undef], defers := [] } ∧ Below W.heap.size W w') ?_ ?_
    · rintro e a' w1 ⟨rfl, rfl, hB1⟩
      have hB1s := hB1.size
      have bx1 : Boxed w1 (w.heap.size + 1 + 1) 54 v := (hB1.block _ (by omega)).trans bx
      have hrow1 := own_call hrow hB1
      have x1_0 := (cell_back hB1 hXl 0).trans hX1
      have x1_1 := (cell_back hB1 hXl 1).trans hX2
      have hBx1 : Bx < w1.heap.size := by omega
      have hc1 := bx1.cell
      have hf1 := bx1.frozen
      cases bo
      · have HF := Lib.hid (hN' rfl)
        clear hY hN'
        gi_wp2
        refine ⟨(KeepsOthers.of_grownBy (row := none) (below_grown hB1) (fun j o e => by cases e)).from _, ⟨btw_below hB1 (by omega), kt_none (below_grown hB1)⟩, ⟨v, bx1, ?_⟩, btw_trans hb (btw_below hB1 (by omega)), bthen hB hB1, by omega⟩
        rw [HF.out]; exact hrow1
      · have HF := Lib.hid (hY rfl)
        clear hY hN'
        gi_wp2_with (gi_at_builtin; refine wpListIn_append_own _ rfl _ _ 54 rfl (w.heap.size + 1 + 1 + 1 + 1) 28 i0 _ 2 16 Try.underlying54 hi0 hz0 hz1 hz2 rfl (by decide) _ _ _ rfl (hrow1.alloc _) ⟨w1.heap.size, 0, none⟩ 1 1 [.int .i64 x1, .int .i64 x2] rfl rfl (pt_cells rfl) (pt_one _ _) ?c3 ?c4 ?c5 ?_)
        case c3 => unfold maxLen; omega
        case c4 => omega
        case c5 => simp; omega
        intro v' w2 hown' hgrow _
        have bx2 : Boxed w2 (w.heap.size + 1 + 1) 54 v := (bx1.alloc _).kept hgrow (fun e => by have := (hrow1.lt _ e.symm).1; omega)
        have hc2 := bx2.cell
        have hf2 := bx2.frozen
        have hs2 := hgrow.size
        have hrl := fun g hg => (hrow1.lt g hg).1
        have HRL := Lib.hid hrl
        have HKT := Lib.hid (kt_row (hrow1.alloc (.cells #[.int .i64 (x1 : Int), .int .i64 (x2 : Int)] 28)))
        have HCC := Lib.hid (row_cells (hrow1.alloc (.cells #[.int .i64 (x1 : Int), .int .i64 (x2 : Int)] 28)))
        clear hrl
        simp only [World.size_alloc] at hs2
        obtain ⟨ao, an, ac, rfl⟩ := own_isSlice hown'
        gi_wp2
        refine ⟨((KeepsOthers.of_grownBy (row := none) (below_grown hB1) (fun j o e => by cases e)).from _).trans (((KeepsOthers.alloc w1 _).from _).trans (((KeepsOthers.of_grownBy hgrow (fun j o e ho => HCC.out j o e ho)).from _).trans ((KeepsOthers.setCell _ _ _).from _))),
          ⟨btw_trans (btw_below hB1 (by omega)) (btw_trans (btw_alloc w1 _ (by omega)) (btw_trans (btw_grown hgrow (by rw [World.size_alloc]; omega) (fun g e => .inr (by have := HRL.out _ e; omega))) (btw_setCell _ _ _ (.inl (by show w.heap.size + 1 + 1 < w.heap.size + 1 + 1 + 1; omega))))), kt_trans (kt_none (below_grown hB1)) (kt_trans (kt_none (World.grownBy_alloc w1 _ none)) (kt_trans (kt_grown hgrow HKT.out) (kt_grown (grownBy_setCell' w2 _ _) (fun r cs t tg e hg => by cases e; rw [show w2.heap[_]? = _ from bx2] at hg; cases hg; exact .inr rfl))))⟩,
          ⟨⟨_, bx2.set _, ?_⟩, ?_, ?_, ?_⟩⟩
        · rw [HF.out, flat_append, ints_append, List.length_append]
          exact hown'.kept (grownBy_setCell' w2 (w.heap.size + 1 + 1) _) (.inr (by intro e; have := (hown'.lt _ e).1; omega))
        · exact btw_trans hb (btw_trans (btw_below hB1 (by omega)) (btw_trans (btw_alloc w1 _ (by omega)) (btw_trans (btw_grown hgrow (by rw [World.size_alloc]; omega) (fun g e => .inr (by have := HRL.out _ e; omega))) (btw_setCell _ _ _ (.inr (by show w.heap.size + 1 + 1 ≤ w.heap.size + 1 + 1; omega))))))
        · exact (((bthen hB hB1).alloc (by omega) _).grown hgrow (by rw [World.size_alloc]; omega) (fun g e => by have := HRL.out _ e; omega)).setCell (p := ⟨w.heap.size + 1 + 1, 0, none⟩) (by show w.heap.size ≤ w.heap.size + 1 + 1; omega) _
        · have : (w2.setCell ⟨w.heap.size + 1 + 1, 0, none⟩ (.slice ao an ac)).heap.size = w2.heap.size := by simp [World.setCell]
          omega
    · gi_region_with_o (refine ⟨trivial, ?_⟩; gi_at_call 61; refine (CallsIn.inRound l (callsIn_wide.2 (HCL.out _))).mono ?_; rintro e wq ⟨rfl, hB1⟩; have u1 := (cell_back hB1 (by first | exact hXl | (simp; omega)) 0).trans (by first | exact hX1 | exact kdrew hX1); have u2 := (cell_back hB1 (by first | exact hXl | (simp; omega)) 1).trans (by first | exact hX2 | exact kdrew hX2))
      all_goals exact ⟨rfl, by first | rfl | (rw [← hfz]; rfl) | (simp [hfz]; done), by first | with_reducible assumption | exact below_drew (by with_reducible assumption) | exact Below.drew (by with_reducible assumption) | exact Below.drew (below_drew (by with_reducible assumption))⟩
  case done =>
    rintro D ys W hD rfl ⟨⟨v, bx, hrow⟩, hb, hB, hs⟩ hK
    have hc := bx.cell
    gi_wp2
    refine ⟨by simp, .inl ⟨_, _, rfl, run_takeDeferred hK, ?_⟩⟩
    exact ⟨_, results_tmp rfl _ _ _, _, rfl, own_base (ownsRow_putObj hrow _ hK rfl) (by omega), hB.trans (belowK_b (w := w) (Nat.le_refl _) W D _ _ (by omega) hK rfl rfl)⟩
  case stop =>
    rintro D c pre W _ _ h _
    exact h.elim

end Go.Proofs.Ythfckpfiechloaa
