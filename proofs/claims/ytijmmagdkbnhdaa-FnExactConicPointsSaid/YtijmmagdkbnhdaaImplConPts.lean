/-
  impl.ConicPoints at good arguments: the points of the plane that are on the conic, collected.
-/
import Derived.Test.YtijmmagdkbnhdaaConPtsMath
import Derived.Test.YtijmmagdkbnhdaaImplIsOnCon
import Derived.Test.YtijmmagdkbnhdaaImplIsConic
import Derived.Test.YtijmmagdkbnhdaaCode
import Derived.Test.YtijmmagdkbnhdaaSeqAll
import Derived.Test.YtijmmagdkbnhdaaKeepT
import Derived.Test.YtijmmagdkbnhdaaSpecAt0
import Derived.Test.YtijmmagdkbnhdaaPtCells
import Derived.Test.YtijmmagdkbnhdaaGrow
import Derived.Test.YtijmmagdkbnhdaaArrEq
import Derived.Test.YtijmmagdkbnhdaaRangeOn
import Derived.Test.YtijmmagdkbnhdaaLast
import Derived.Test.YtijmmagdkbnhdaaKeepDrew
import Derived.Test.YtijmmagdkbnhdaaSlice
import Derived.TacticsIn
import Derived.RegionIn
import Derived.Shelf.RegionOpen
import Derived.Deep.RegionHeld3
import Derived.Deep.DeepCutAuto
import Derived.Test.YtijmmagdkbnhdaaBaseMath
import Derived.Test.YtijmmagdkbnhdaaKeepDrew
namespace Go.Proofs.Ytijmmagdkbnhdaa
open Go.RowKit

open Go.Shelf
attribute [local go_sem] Oper.semAt_some

set_option linter.unusedVariables false in
set_option maxRecDepth 100000 in
set_option maxRecDepth 20000 in
set_option maxHeartbeats 4000000 in
theorem implConPts_good (p m1 m2 m3 m4 m5 m6 : Int) (w : World) (hp : isP p = true) (hk : cnB p m1 m2 m3 m4 m5 m6 = true) :
    Calls Try.prog 28 #[.int .i64 p, .agg #[.int .i64 m1, .int .i64 m2, .int .i64 m3, .int .i64 m4, .int .i64 m5, .int .i64 m6]] w fun e w' => SlicePost 25 2 (flat (cpR p m1 m2 m3 m4 m5 m6)) 0 w e w' := by
  have hr := isP_range hp
  have heq := equalPoint
  obtain ⟨f, hf⟩ : ∃ f : Int → Int → Bool, f = fun x y => onC p m1 m2 m3 m4 m5 m6 x y := ⟨_, rfl⟩
  have HFE := Lib.hid (show ∀ x y, (cvl p m1 m2 m3 m4 m5 m6 x y == 0) = f x y from fun x y => by rw [hf]; rfl)
  have hq6 := nums6 (cnB_nums hk)
  have hon : ∀ (x y : Int) (w : World), 0 ≤ x ∧ x ≤ 31 → 0 ≤ y ∧ y ≤ 31 → Calls Try.prog 75 #[.int .i64 p, .agg #[.int .i64 m1, .int .i64 m2, .int .i64 m3, .int .i64 m4, .int .i64 m5, .int .i64 m6], .agg #[.int .i64 x, .int .i64 y]] w fun e w' => e = .returned (.bool (cvl p m1 m2 m3 m4 m5 m6 x y == 0)) ∧ Below w.heap.size w w' := fun x y w hx hy => isOnCon_any p m1 m2 m3 m4 m5 m6 x y w hp (by omega) (by omega) (by omega) (by omega) (by omega) (by omega) hx hy
  have HON := Lib.hid hon
  clear hon
  unfold cpR
  rw [← hf, ← flF_all f (m := p.toNat) (by omega)]
  clear hf
  have hpp : p.toNat * p.toNat ≤ 4096 := Nat.le_trans (Nat.mul_le_mul (by omega : p.toNat ≤ 31) (by omega : p.toNat ≤ 31)) (by decide)
  have HPP := Lib.hid hpp
  clear hpp
  obtain ⟨i0, hi0, hz0, hz1, hz2⟩ := info_parts infoPt
  refine (callsIn_wide (n := 9)).1 ?_
  refine callsIn_of_wp_marks Try.func28 rfl trivial ?_ rfl
  simp only [Try.ntmps28, List.size_toArray, List.length_cons, List.length_nil, Nat.reduceAdd, Nat.reduceSub, Array.replicate_succ, Array.replicate_zero, List.push_toArray, List.append_toArray, List.nil_append, List.cons_append]
  refine wpIn_wide.2 ?_
  have cT : codeOf p true = 0 := codeOf_in hp rfl
  go_upto_region 1 with fail
  refine wp_name (fun wN hwN => ?_)
  have hN : Below w.heap.size w wN := by rw [hwN]; (repeat (first | with_reducible exact Below.refl _ _ | with_reducible refine balloc ?_ _ | with_reducible refine bdrewN ?_ _ | with_reducible refine Below.drew ?_ | with_reducible refine bthen ?_ (by with_reducible assumption) | with_reducible refine Below.setCell ?_ (by first | (simp; done) | (simp; omega)) _))
  have sN : w.heap.size + 1 + 1 ≤ wN.heap.size := by rw [hwN]; simp
  have n0 : wN.cell? ⟨w.heap.size, 0, none⟩ = some (.int .i64 p) := by rw [hwN]; (repeat (first | with_reducible assumption | ((with_reducible refine kfresh ?_ ?_) <;> (first | with_reducible rfl | (simp; done))) | ((with_reducible refine ksameS ?_); focus ((repeat (first | with_reducible exact kis_of (by with_reducible assumption) | with_reducible refine kis_set ?_ | ((with_reducible refine kis_new ?_ ?_) <;> (first | with_reducible rfl | rfl | (simp; done))) | with_reducible refine kis_alloc _ ?_ | with_reducible refine kis_drew ?_ | with_reducible refine kis_call (by with_reducible assumption) ?_ | with_reducible exact kis_of (kcall (by with_reducible assumption) (by with_reducible assumption)))); done)) | with_reducible refine kother (by decide) ?_ | with_reducible refine kset (by first | omega | (simp; done) | (simp; omega)) ?_ | with_reducible refine kalloc _ ?_ | with_reducible refine kdrew ?_ | with_reducible refine kdrewN ?_ | with_reducible refine kcall (by with_reducible assumption) ?_))
  have n1 : wN.cell? ⟨w.heap.size + 1, 0, none⟩ = some (.int .i64 m1) := by rw [hwN]; (repeat (first | with_reducible assumption | ((with_reducible refine kfresh ?_ ?_) <;> (first | with_reducible rfl | (simp; done))) | ((with_reducible refine ksameS ?_); focus ((repeat (first | with_reducible exact kis_of (by with_reducible assumption) | with_reducible refine kis_set ?_ | ((with_reducible refine kis_new ?_ ?_) <;> (first | with_reducible rfl | rfl | (simp; done))) | with_reducible refine kis_alloc _ ?_ | with_reducible refine kis_drew ?_ | with_reducible refine kis_call (by with_reducible assumption) ?_ | with_reducible exact kis_of (kcall (by with_reducible assumption) (by with_reducible assumption)))); done)) | with_reducible refine kother (by decide) ?_ | with_reducible refine kset (by first | omega | (simp; done) | (simp; omega)) ?_ | with_reducible refine kalloc _ ?_ | with_reducible refine kdrew ?_ | with_reducible refine kdrewN ?_ | with_reducible refine kcall (by with_reducible assumption) ?_))
  have n2 : wN.cell? ⟨w.heap.size + 1, 1, none⟩ = some (.int .i64 m2) := by rw [hwN]; (repeat (first | with_reducible assumption | ((with_reducible refine kfresh ?_ ?_) <;> (first | with_reducible rfl | (simp; done))) | ((with_reducible refine ksameS ?_); focus ((repeat (first | with_reducible exact kis_of (by with_reducible assumption) | with_reducible refine kis_set ?_ | ((with_reducible refine kis_new ?_ ?_) <;> (first | with_reducible rfl | rfl | (simp; done))) | with_reducible refine kis_alloc _ ?_ | with_reducible refine kis_drew ?_ | with_reducible refine kis_call (by with_reducible assumption) ?_ | with_reducible exact kis_of (kcall (by with_reducible assumption) (by with_reducible assumption)))); done)) | with_reducible refine kother (by decide) ?_ | with_reducible refine kset (by first | omega | (simp; done) | (simp; omega)) ?_ | with_reducible refine kalloc _ ?_ | with_reducible refine kdrew ?_ | with_reducible refine kdrewN ?_ | with_reducible refine kcall (by with_reducible assumption) ?_))
  have n3 : wN.cell? ⟨w.heap.size + 1, 2, none⟩ = some (.int .i64 m3) := by rw [hwN]; (repeat (first | with_reducible assumption | ((with_reducible refine kfresh ?_ ?_) <;> (first | with_reducible rfl | (simp; done))) | ((with_reducible refine ksameS ?_); focus ((repeat (first | with_reducible exact kis_of (by with_reducible assumption) | with_reducible refine kis_set ?_ | ((with_reducible refine kis_new ?_ ?_) <;> (first | with_reducible rfl | rfl | (simp; done))) | with_reducible refine kis_alloc _ ?_ | with_reducible refine kis_drew ?_ | with_reducible refine kis_call (by with_reducible assumption) ?_ | with_reducible exact kis_of (kcall (by with_reducible assumption) (by with_reducible assumption)))); done)) | with_reducible refine kother (by decide) ?_ | with_reducible refine kset (by first | omega | (simp; done) | (simp; omega)) ?_ | with_reducible refine kalloc _ ?_ | with_reducible refine kdrew ?_ | with_reducible refine kdrewN ?_ | with_reducible refine kcall (by with_reducible assumption) ?_))
  have n4 : wN.cell? ⟨w.heap.size + 1, 3, none⟩ = some (.int .i64 m4) := by rw [hwN]; (repeat (first | with_reducible assumption | ((with_reducible refine kfresh ?_ ?_) <;> (first | with_reducible rfl | (simp; done))) | ((with_reducible refine ksameS ?_); focus ((repeat (first | with_reducible exact kis_of (by with_reducible assumption) | with_reducible refine kis_set ?_ | ((with_reducible refine kis_new ?_ ?_) <;> (first | with_reducible rfl | rfl | (simp; done))) | with_reducible refine kis_alloc _ ?_ | with_reducible refine kis_drew ?_ | with_reducible refine kis_call (by with_reducible assumption) ?_ | with_reducible exact kis_of (kcall (by with_reducible assumption) (by with_reducible assumption)))); done)) | with_reducible refine kother (by decide) ?_ | with_reducible refine kset (by first | omega | (simp; done) | (simp; omega)) ?_ | with_reducible refine kalloc _ ?_ | with_reducible refine kdrew ?_ | with_reducible refine kdrewN ?_ | with_reducible refine kcall (by with_reducible assumption) ?_))
  have n5 : wN.cell? ⟨w.heap.size + 1, 4, none⟩ = some (.int .i64 m5) := by rw [hwN]; (repeat (first | with_reducible assumption | ((with_reducible refine kfresh ?_ ?_) <;> (first | with_reducible rfl | (simp; done))) | ((with_reducible refine ksameS ?_); focus ((repeat (first | with_reducible exact kis_of (by with_reducible assumption) | with_reducible refine kis_set ?_ | ((with_reducible refine kis_new ?_ ?_) <;> (first | with_reducible rfl | rfl | (simp; done))) | with_reducible refine kis_alloc _ ?_ | with_reducible refine kis_drew ?_ | with_reducible refine kis_call (by with_reducible assumption) ?_ | with_reducible exact kis_of (kcall (by with_reducible assumption) (by with_reducible assumption)))); done)) | with_reducible refine kother (by decide) ?_ | with_reducible refine kset (by first | omega | (simp; done) | (simp; omega)) ?_ | with_reducible refine kalloc _ ?_ | with_reducible refine kdrew ?_ | with_reducible refine kdrewN ?_ | with_reducible refine kcall (by with_reducible assumption) ?_))
  have n6 : wN.cell? ⟨w.heap.size + 1, 5, none⟩ = some (.int .i64 m6) := by rw [hwN]; (repeat (first | with_reducible assumption | ((with_reducible refine kfresh ?_ ?_) <;> (first | with_reducible rfl | (simp; done))) | ((with_reducible refine ksameS ?_); focus ((repeat (first | with_reducible exact kis_of (by with_reducible assumption) | with_reducible refine kis_set ?_ | ((with_reducible refine kis_new ?_ ?_) <;> (first | with_reducible rfl | rfl | (simp; done))) | with_reducible refine kis_alloc _ ?_ | with_reducible refine kis_drew ?_ | with_reducible refine kis_call (by with_reducible assumption) ?_ | with_reducible exact kis_of (kcall (by with_reducible assumption) (by with_reducible assumption)))); done)) | with_reducible refine kother (by decide) ?_ | with_reducible refine kset (by first | omega | (simp; done) | (simp; omega)) ?_ | with_reducible refine kalloc _ ?_ | with_reducible refine kdrew ?_ | with_reducible refine kdrewN ?_ | with_reducible refine kcall (by with_reducible assumption) ?_))
  clear hwN
  have u0 : ∀ W : World, Below wN.heap.size wN W → W.cell? ⟨w.heap.size, 0, none⟩ = some (.int .i64 p) := fun W h => bholds n0 h
  have u1 : ∀ W : World, Below wN.heap.size wN W → W.cell? ⟨w.heap.size + 1, 0, none⟩ = some (.int .i64 m1) := fun W h => bholds n1 h
  have u2 : ∀ W : World, Below wN.heap.size wN W → W.cell? ⟨w.heap.size + 1, 1, none⟩ = some (.int .i64 m2) := fun W h => bholds n2 h
  have u3 : ∀ W : World, Below wN.heap.size wN W → W.cell? ⟨w.heap.size + 1, 2, none⟩ = some (.int .i64 m3) := fun W h => bholds n3 h
  have u4 : ∀ W : World, Below wN.heap.size wN W → W.cell? ⟨w.heap.size + 1, 3, none⟩ = some (.int .i64 m4) := fun W h => bholds n4 h
  have u5 : ∀ W : World, Below wN.heap.size wN W → W.cell? ⟨w.heap.size + 1, 4, none⟩ = some (.int .i64 m5) := fun W h => bholds n5 h
  have u6 : ∀ W : World, Below wN.heap.size wN W → W.cell? ⟨w.heap.size + 1, 5, none⟩ = some (.int .i64 m6) := fun W h => bholds n6 h
  go_region_held3 (fun W => Below wN.heap.size wN W) (first | with_reducible exact bthen (bback (by first | exact Nat.le_refl _ | omega | (simp; done) | (simp; omega)) (by with_reducible assumption)) hB | ((with_reducible refine Below.setCell ?_ (by first | exact Nat.le_refl _ | omega | (simp; done) | (simp; omega)) _); (repeat with_reducible refine Below.setCell ?_ (by first | exact Nat.le_refl _ | omega | (simp; done) | (simp; omega)) _); with_reducible assumption) | with_reducible assumption | with_reducible exact bthen (by with_reducible assumption) hB | with_reducible exact bfromdrew hB | with_reducible exact balloc (by with_reducible assumption) _ | with_reducible exact Below.drew (balloc (bundrew (by with_reducible assumption)) _) | with_reducible exact brealloc (by first | exact Nat.le_refl _ | omega | (simp; done) | (simp; omega)) (by with_reducible assumption) | with_reducible exact Below.drew (brealloc (by first | exact Nat.le_refl _ | omega | (simp; done) | (simp; omega)) (bundrew (by with_reducible assumption))) | with_reducible exact brealloc2 (by first | exact Nat.le_refl _ | omega | (simp; done) | (simp; omega)) (by with_reducible assumption) | ((repeat (first | with_reducible assumption | with_reducible refine Below.setCell ?_ (by first | exact Nat.le_refl _ | omega | (simp; done) | (simp; omega)) _)); done) | (with_reducible refine balloc ?_ _; (repeat (first | with_reducible exact bback (by first | exact Nat.le_refl _ | omega | (simp; done) | (simp; omega)) (by with_reducible assumption) | with_reducible refine Below.setCell ?_ (by first | exact Nat.le_refl _ | omega | (simp; done) | (simp; omega)) _)); done) | with_reducible exact Below.refl _ _ | with_reducible exact Below.drew (Below.refl _ _) | with_reducible exact Below.drew (by with_reducible assumption)) (first | (go_at_call 66; refine Calls.mono (isConic_any _ _ _ _ _ _ _ _) ?_; rw [hk]; rintro e wq ⟨rfl, hB⟩; have hBs := hB.size) | (go_at_call 56; refine Calls.mono (codeFor_any _ _ _) ?_; rintro e wq' ⟨rfl, rfl⟩))
  obtain ⟨w8, rfl⟩ : ∃ w8 : World, w8 = wq := ⟨_, rfl⟩
  have hb8 : Below wN.heap.size wN w8 := by first | with_reducible assumption | exact bundrew (by with_reducible assumption) | (repeat (first | with_reducible exact Below.refl _ _ | with_reducible refine balloc ?_ _ | with_reducible refine bdrewN ?_ _ | with_reducible refine Below.drew ?_ | with_reducible refine bthen ?_ (by with_reducible assumption) | with_reducible refine Below.setCell ?_ (by first | (simp; done) | (simp; omega)) _))
  have hs8 := hb8.size
  have hw8 : Below w.heap.size w w8 := bthen hN hb8
  have hw8s := hw8.size
  have v0 := u0 w8 hb8
  have v1 := u1 w8 hb8
  have v2 := u2 w8 hb8
  have v3 := u3 w8 hb8
  have v4 := u4 w8 hb8
  have v5 := u5 w8 hb8
  have v6 := u6 w8 hb8
  clear u0 u1 u2 u3 u4 u5 u6
  have l0 : w.heap.size < w8.heap.size := by omega
  have l1 : w.heap.size + 1 < w8.heap.size := by omega
  have l0' : w.heap.size < w8.heap.size + 1 := by omega
  have l1' : w.heap.size + 1 < w8.heap.size + 1 := by omega
  go_wp2_with fail
  refine Calls.mono (allPoints_any _ _) ?_
  rintro e w' ⟨rfl, rfl⟩
  go_wp2_with fail
  have q0 : ((w8.alloc (.cells #[.slice none 0 0] 47)).alloc (.cells #[.int .i64 p] 2)).cell? ⟨w.heap.size, 0, none⟩ = some (.int .i64 p) := kalloc _ (kalloc _ v0)
  have q1 : ((w8.alloc (.cells #[.slice none 0 0] 47)).alloc (.cells #[.int .i64 p] 2)).cell? ⟨w.heap.size + 1, 0, none⟩ = some (.int .i64 m1) := kalloc _ (kalloc _ v1)
  have q2 : ((w8.alloc (.cells #[.slice none 0 0] 47)).alloc (.cells #[.int .i64 p] 2)).cell? ⟨w.heap.size + 1, 1, none⟩ = some (.int .i64 m2) := kalloc _ (kalloc _ v2)
  have q3 : ((w8.alloc (.cells #[.slice none 0 0] 47)).alloc (.cells #[.int .i64 p] 2)).cell? ⟨w.heap.size + 1, 2, none⟩ = some (.int .i64 m3) := kalloc _ (kalloc _ v3)
  have q4 : ((w8.alloc (.cells #[.slice none 0 0] 47)).alloc (.cells #[.int .i64 p] 2)).cell? ⟨w.heap.size + 1, 3, none⟩ = some (.int .i64 m4) := kalloc _ (kalloc _ v4)
  have q5 : ((w8.alloc (.cells #[.slice none 0 0] 47)).alloc (.cells #[.int .i64 p] 2)).cell? ⟨w.heap.size + 1, 4, none⟩ = some (.int .i64 m5) := kalloc _ (kalloc _ v5)
  have q6 : ((w8.alloc (.cells #[.slice none 0 0] 47)).alloc (.cells #[.int .i64 p] 2)).cell? ⟨w.heap.size + 1, 5, none⟩ = some (.int .i64 m6) := kalloc _ (kalloc _ v6)
  have q7 : ((w8.alloc (.cells #[.slice none 0 0] 47)).alloc (.cells #[.int .i64 p] 2)).cell? ⟨w8.heap.size + 1, 0, none⟩ = some (.int .i64 p) := by (repeat (first | with_reducible assumption | ((with_reducible refine kfresh ?_ ?_) <;> (first | with_reducible rfl | (simp; done))) | ((with_reducible refine ksameS ?_); focus ((repeat (first | with_reducible exact kis_of (by with_reducible assumption) | with_reducible refine kis_set ?_ | ((with_reducible refine kis_new ?_ ?_) <;> (first | with_reducible rfl | rfl | (simp; done))) | with_reducible refine kis_alloc _ ?_ | with_reducible refine kis_drew ?_ | with_reducible refine kis_call (by with_reducible assumption) ?_ | with_reducible exact kis_of (kcall (by with_reducible assumption) (by with_reducible assumption)))); done)) | with_reducible refine kother (by decide) ?_ | with_reducible refine kset (by first | omega | (simp; done) | (simp; omega)) ?_ | with_reducible refine kalloc _ ?_ | with_reducible refine kdrew ?_ | with_reducible refine kdrewN ?_ | with_reducible refine kcall (by with_reducible assumption) ?_))
  have bS : Boxed ((w8.alloc (.cells #[.slice none 0 0] 47)).alloc (.cells #[.int .i64 p] 2)) w8.heap.size 47 (.slice none 0 0) := (Boxed.new w8 47 (.slice none 0 0)).alloc (.cells #[.int .i64 p] 2)
  have hB0 : Below w.heap.size w ((w8.alloc (.cells #[.slice none 0 0] 47)).alloc (.cells #[.int .i64 p] 2)) := balloc (balloc hw8 _) _
  have hsz : ((w8.alloc (.cells #[.slice none 0 0] 47)).alloc (.cells #[.int .i64 p] 2)).heap.size = w8.heap.size + 1 + 1 := by simp
  obtain ⟨Wn, hWn⟩ : ∃ Wn, Wn = ((w8.alloc (.cells #[.slice none 0 0] 47)).alloc (.cells #[.int .i64 p] 2)) := ⟨_, rfl⟩
  rw [← hWn] at q0 q1 q2 q3 q4 q5 q6 q7 bS hB0 hsz ⊢
  clear hWn
  refine (wpIn_wide (n := 9)).1 ?_
  have hsq : SeqOn Fence.wide 8 Try.prog 128 #[.pointer (some ⟨w8.heap.size + 1, 0, none⟩)] (fun x : Pt32 => #[ptV (toP x)]) (KeepBT (w8.heap.size + 1) (w8.heap.size + 1 + 1)) (fun ys => ys = allF p.toNat p.toNat 0) (fun pre => pre <+: allF p.toNat p.toNat 0) (p.toNat * p.toNat) Wn := seqOn_of (seqAll_stops 8 (w8.heap.size + 1) (w8.heap.size + 1) (w8.heap.size + 1 + 1) p (by decide) hp Wn q7 ⟨Nat.le_refl _, by omega⟩ (by omega)) fun _ _ h => h.1
  refine range_on rfl (by decide) (gf := 128) (lb := #[.pointer (some ⟨w8.heap.size + 1, 0, none⟩)]) rfl trivial (enters_of Try.func128 (by kernel_rfl) rfl)
    hsq bt_trans (bt_put (by omega)) (Below.refl _ _) (fun _ => rfl)
    (fun pre W => (∃ v, Boxed W (w8.heap.size) 47 v ∧ W.ownsRow (w8.heap.size + 1 + 1) 25 2 v (flF f pre).length (ints (flat (flF f pre)))) ∧ (Btw 0 (w8.heap.size) Wn W ∧ (Below w.heap.size w W ∧ w8.heap.size + 1 + 1 ≤ W.heap.size)))
    (fun _ _ _ => False)
    (OwnFrom.and (ownFrom_ex fun v => OwnFrom.and (Own.from (boxed_own _ _ _) _) (Own.from (row_own _ _ _ _ _ _) _)) (OwnFrom.and (btw_ownLe (by omega)) (OwnFrom.and (ownFrom_below (by omega) hB0.size) (size_own _ _))))
    (fun _ _ _ _ _ hs _ _ => hs)
    ⟨⟨_, bS, World.ownsRow_nil _ _ _ _⟩, btw_refl _ _ _, hB0, by omega⟩
    (fun x a' W => ∃ Bx, w8.heap.size + 1 + 1 ≤ Bx ∧ Box2 W Bx 25 (toP x) ∧ a' = { tmps := #[.int .i64 p, .agg #[.int .i64 m1, .int .i64 m2, .int .i64 m3, .int .i64 m4, .int .i64 m5, .int .i64 m6], .pointer (some ⟨w.heap.size, 0, none⟩), .pointer (some ⟨w.heap.size + 1, 0, none⟩), .slice none 0 0, .int .i64 0, .int .i64 0, .pointer (some ⟨w8.heap.size, 0, none⟩), .pointer (some ⟨Bx, 0, none⟩), .int .i64 p, .int .i64 p, .agg #[.int .i64 m1, .int .i64 m2, .int .i64 m3, .int .i64 m4, .int .i64 m5, .int .i64 m6], .bool true, .int .i64 0, .int .i64 0, .bool false, undef, .int .i64 p, .func (.func 128) #[] #[.pointer (some ⟨w8.heap.size + 1, 0, none⟩)], .agg #[.int .i64 (x.1.val : Int), .int .i64 (x.2.val : Int)], undef, undef, undef, undef, undef, undef, undef, undef, undef], defers := [] })
    (fun x a' _ X Y row hs hg hr => by obtain ⟨Bx, h1, h2, h3⟩ := hs; exact ⟨Bx, h1, box2_own Bx Wn.heap.size 25 (toP x) () X Y row h2 hg hr, h3⟩)
    ?assign ?body ?done ?stop
  case assign =>
    rintro l pre x W K ⟨⟨v, bx, hrow⟩, hb, hB, hs⟩ hK
    obtain ⟨⟨x1, hx1⟩, ⟨x2, hx2⟩⟩ := x
    simp only [ptV, toP]
    gi_wp2
    exact hK _ _ ((KeepsOthers.alloc _ _).from _) ⟨btw_alloc _ _ (by omega), kt_none (World.grownBy_alloc _ _ none)⟩ ⟨⟨v, bx.alloc _, hrow.alloc _⟩, btw_trans hb (btw_alloc _ _ (by omega)), hB.alloc hB.size _, by simp; omega⟩ ⟨W.heap.size, hs, box2_new W _ (toP ((⟨x1, hx1⟩, ⟨x2, hx2⟩) : Pt32)), rfl⟩
  case body =>
    rintro l pre x a' W ⟨⟨v, bx, hrow⟩, hb, hB, hs⟩ ⟨Bx, hBx, hX, rfl⟩ hlt
    have hX1 := box2_cell1 hX
    have hX2 := box2_cell2 hX
    have hXl := World.block_lt_of_cell? W ⟨Bx, 0, none⟩ hX1
    simp only at hXl
    have hle := flF_le f pre
    have hpp := HPP.out
    have k0 := (btw_cell hb (Nat.zero_le _) (by omega) 0).trans q0
    have k1 := (btw_cell hb (Nat.zero_le _) (by omega) 0).trans q1
    have k2 := (btw_cell hb (Nat.zero_le _) (by omega) 1).trans q2
    have k3 := (btw_cell hb (Nat.zero_le _) (by omega) 2).trans q3
    have k4 := (btw_cell hb (Nat.zero_le _) (by omega) 3).trans q4
    have k5 := (btw_cell hb (Nat.zero_le _) (by omega) 4).trans q5
    have k6 := (btw_cell hb (Nat.zero_le _) (by omega) 5).trans q6
    obtain ⟨⟨x1, hx1⟩, ⟨x2, hx2⟩⟩ := x
    simp only [toP] at hX1 hX2
    have hS0 : w.heap.size < W.heap.size := by omega
    have hS1 : w.heap.size + 1 < W.heap.size := by omega
    have hcall := fun w' => HON.out (x1 : Int) (x2 : Int) w' (by omega) (by omega)
    have hY := flF_yes f pre (x := ((⟨x1, hx1⟩, ⟨x2, hx2⟩) : Pt32))
    have hN' := flF_no f pre (x := ((⟨x1, hx1⟩, ⟨x2, hx2⟩) : Pt32))
    simp only [toP] at hY hN'
    simp only [HFE.out] at hcall
    obtain ⟨bo, hbo⟩ : ∃ b, b = f (x1 : Int) (x2 : Int) := ⟨_, rfl⟩
    rw [← hbo] at hcall hY hN'
    clear hbo
    have HCL := Lib.hid hcall
    clear hcall
    have hmx : Try.prog.follows .mixedOrders = true := by kernel_rfl
    have hd1 : 1 ≤ 9 - 1 - 1 := by decide
    gi_wp2_with fail
    refine ⟨trivial, ?_⟩
    refine (CallsIn.inRound l (callsIn_wide.2 (HCL.out _))).mono ?_
    rintro e w1 ⟨rfl, hB1⟩
    · skip
      have hB1s := hB1.size
      have bx1 : Boxed w1 (w8.heap.size) 47 v := (hB1.block _ (by omega)).trans bx
      have hrow1 := own_call hrow hB1
      have x1_0 := (cell_back hB1 hXl 0).trans hX1
      have x1_1 := (cell_back hB1 hXl 1).trans hX2
      have hBx1 : Bx < w1.heap.size := by omega
      have hc1 := bx1.cell
      have hf1 := bx1.frozen
      cases bo
      · have HF := Lib.hid (hN' rfl)
        clear hY hN'
        gi_wp2
        refine ⟨(KeepsOthers.of_grownBy (row := none) (below_grown hB1) (fun j o e => by cases e)).from _, ⟨btw_below hB1 (by omega), kt_none (below_grown hB1)⟩, ⟨v, bx1, ?_⟩, btw_trans hb (btw_below hB1 (by omega)), bthen hB hB1, by omega⟩
        rw [HF.out]; exact hrow1
      · have HF := Lib.hid (hY rfl)
        clear hY hN'
        gi_wp2_with (gi_at_builtin; refine wpListIn_append_own _ rfl _ _ 47 rfl (w8.heap.size + 1 + 1) 25 i0 _ 2 16 Try.underlying47 hi0 hz0 hz1 hz2 rfl (by decide) _ _ _ rfl (hrow1.alloc _) ⟨w1.heap.size, 0, none⟩ 1 1 [.int .i64 x1, .int .i64 x2] rfl rfl (pt_cells rfl) (pt_one _ _) ?c3 ?c4 ?c5 ?_)
        case c3 => unfold maxLen; omega
        case c4 => omega
        case c5 => simp; omega
        intro v' w2 hown' hgrow _
        have bx2 : Boxed w2 (w8.heap.size) 47 v := (bx1.alloc _).kept hgrow (fun e => by have := (hrow1.lt _ e.symm).1; omega)
        have hc2 := bx2.cell
        have hf2 := bx2.frozen
        have hs2 := hgrow.size
        have hrl := fun g hg => (hrow1.lt g hg).1
        have HRL := Lib.hid hrl
        have HKT := Lib.hid (kt_row (hrow1.alloc (.cells #[.int .i64 (x1 : Int), .int .i64 (x2 : Int)] 25)))
        have HCC := Lib.hid (row_cells (hrow1.alloc (.cells #[.int .i64 (x1 : Int), .int .i64 (x2 : Int)] 25)))
        clear hrl
        simp only [World.size_alloc] at hs2
        obtain ⟨ao, an, ac, rfl⟩ := own_isSlice hown'
        gi_wp2
        refine ⟨((KeepsOthers.of_grownBy (row := none) (below_grown hB1) (fun j o e => by cases e)).from _).trans (((KeepsOthers.alloc w1 _).from _).trans (((KeepsOthers.of_grownBy hgrow (fun j o e ho => HCC.out j o e ho)).from _).trans ((KeepsOthers.setCell _ _ _).from _))),
          ⟨btw_trans (btw_below hB1 (by omega)) (btw_trans (btw_alloc w1 _ (by omega)) (btw_trans (btw_grown hgrow (by rw [World.size_alloc]; omega) (fun g e => .inr (by have := HRL.out _ e; omega))) (btw_setCell _ _ _ (.inl (by show w8.heap.size < w8.heap.size + 1; omega))))), kt_trans (kt_none (below_grown hB1)) (kt_trans (kt_none (World.grownBy_alloc w1 _ none)) (kt_trans (kt_grown hgrow HKT.out) (kt_grown (grownBy_setCell' w2 _ _) (fun r cs t tg e hg => by cases e; rw [show w2.heap[_]? = _ from bx2] at hg; cases hg; exact .inr rfl))))⟩,
          ⟨⟨_, bx2.set _, ?_⟩, ?_, ?_, ?_⟩⟩
        · rw [HF.out, flat_append, ints_append, List.length_append]
          exact hown'.kept (grownBy_setCell' w2 (w8.heap.size) _) (.inr (by intro e; have := (hown'.lt _ e).1; omega))
        · exact btw_trans hb (btw_trans (btw_below hB1 (by omega)) (btw_trans (btw_alloc w1 _ (by omega)) (btw_trans (btw_grown hgrow (by rw [World.size_alloc]; omega) (fun g e => .inr (by have := HRL.out _ e; omega))) (btw_setCell _ _ _ (.inr (by show w8.heap.size ≤ w8.heap.size; omega))))))
        · exact (((bthen hB hB1).alloc (by omega) _).grown hgrow (by rw [World.size_alloc]; omega) (fun g e => by have := HRL.out _ e; omega)).setCell (p := ⟨w8.heap.size, 0, none⟩) (by show w.heap.size ≤ w8.heap.size; omega) _
        · have : (w2.setCell ⟨w8.heap.size, 0, none⟩ (.slice ao an ac)).heap.size = w2.heap.size := by simp [World.setCell]
          omega
  case done =>
    rintro D ys W hD rfl ⟨⟨v, bx, hrow⟩, hb, hB, hs⟩ hK
    have hc := bx.cell
    go_wp2
    refine ⟨by simp, .inl ⟨_, _, rfl, run_takeDeferred hK, ?_⟩⟩
    exact ⟨.tuple #[v, .int .i64 0], by simp [results, Try.results28, go_sem], slicePost_mk (own_base (ownsRow_putObj hrow _ hK rfl) (by omega)) (hB.trans (belowK_b (w := w) (Nat.le_refl _) W D _ _ (by omega) hK rfl rfl))⟩
  case stop =>
    rintro D c pre W _ _ h _
    exact h.elim

end Go.Proofs.Ytijmmagdkbnhdaa
