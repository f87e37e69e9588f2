/-
  impl.tangentsFrom: the tangents that go through a point, as a set.
-/
import Derived.Test.YtmpgpmcmhbpjeabMgq0
import Derived.Test.YtmpgpmcmhbpjeabPtsOfCircq
import Derived.Test.YtmpgpmcmhbpjeabImplTangRq
import Derived.Test.YtmpgpmcmhbpjeabSortLnsq
import Derived.Test.YtmpgpmcmhbpjeabImplOnq
import Derived.Test.YtmpgpmcmhbpjeabKeepDrewq
import Derived.Test.YtmpgpmcmhbpjeabLastq
import Derived.Deep.RegionHeld3
import Derived.Deep.DeepCutAuto
import Derived.Maps.OwnIn
import Derived.TacticsIn
import Derived.RegionIn
import Derived.Shelf.RegionOpen

namespace Go.Proofs.Ytmpgpmcmhbpjeab
open Go.RowKit Go.Shelf

attribute [local go_sem] Oper.semAt_some

theorem mapT_ownL {β : Type} {P : Program} {k : TypeId} {R : Value → Option (DataW Unit × List MemPlace)} {b C : Nat} (hb : b < C) (n : β → Nat) (D : β → DataW Unit) : OwnFrom C (fun s W => W.ownsMap P k R b (n s) (D s)) := fun _ _ _ _ hs hg hr =>
  hs.kept hg (fun e => by have := (hr _ e.symm).1; omega)
theorem kt_refl (W : World) : KeepT W W := ⟨Nat.le_refl _, fun _ _ _ _ h _ _ => h⟩

set_option maxRecDepth 20000 in
set_option maxHeartbeats 400000 in
theorem pointsOfCircle_at (p c k1 k2 k3 : Int) (w : World) :
    Calls Try.prog 51 #[.int .i64 p, .int .i64 c, .agg #[.int .i64 k1, .int .i64 k2, .int .i64 k3]] w fun e w' =>
      ∃ b0 b1 b2 : Nat, e = .returned (.func (.func 79) #[] #[.pointer (some ⟨b0, 0, none⟩), .pointer (some ⟨b1, 0, none⟩), .pointer (some ⟨b2, 0, none⟩)]) ∧ w.heap.size ≤ b0 ∧ w.heap.size ≤ b1 ∧ w.heap.size ≤ b2 ∧
        w'.cell? ⟨b0, 0, none⟩ = some (.int .i64 p) ∧ w'.cell? ⟨b1, 0, none⟩ = some (.int .i64 c) ∧ w'.cell? ⟨b2, 0, none⟩ = some (.int .i64 k1) ∧ w'.cell? ⟨b2, 1, none⟩ = some (.int .i64 k2) ∧ w'.cell? ⟨b2, 2, none⟩ = some (.int .i64 k3) ∧ Below w.heap.size w w' := by
  go_enter Try.func51, Try.ntmps51
  go_wp2
  go_ret
  exact ⟨_, _, _, rfl, by omega, by omega, by omega, by (repeat (first | with_reducible assumption | ((with_reducible refine kfresh ?_ ?_) <;> (first | with_reducible rfl | (simp; done))) | ((with_reducible refine ksameS ?_); focus ((repeat (first | with_reducible exact kis_of (by with_reducible assumption) | with_reducible refine kis_set ?_ | ((with_reducible refine kis_new ?_ ?_) <;> (first | with_reducible rfl | rfl | (simp; done))) | with_reducible refine kis_alloc _ ?_ | with_reducible refine kis_drew ?_ | with_reducible refine kis_call (by with_reducible assumption) ?_ | with_reducible exact kis_of (kcall (by with_reducible assumption) (by with_reducible assumption)))); done)) | with_reducible refine kother (by decide) ?_ | with_reducible refine kset (by first | omega | (simp; done) | (simp; omega)) ?_ | with_reducible refine kalloc _ ?_ | with_reducible refine kdrew ?_ | with_reducible refine kdrewN ?_ | with_reducible refine kcall (by with_reducible assumption) ?_)), by (repeat (first | with_reducible assumption | ((with_reducible refine kfresh ?_ ?_) <;> (first | with_reducible rfl | (simp; done))) | ((with_reducible refine ksameS ?_); focus ((repeat (first | with_reducible exact kis_of (by with_reducible assumption) | with_reducible refine kis_set ?_ | ((with_reducible refine kis_new ?_ ?_) <;> (first | with_reducible rfl | rfl | (simp; done))) | with_reducible refine kis_alloc _ ?_ | with_reducible refine kis_drew ?_ | with_reducible refine kis_call (by with_reducible assumption) ?_ | with_reducible exact kis_of (kcall (by with_reducible assumption) (by with_reducible assumption)))); done)) | with_reducible refine kother (by decide) ?_ | with_reducible refine kset (by first | omega | (simp; done) | (simp; omega)) ?_ | with_reducible refine kalloc _ ?_ | with_reducible refine kdrew ?_ | with_reducible refine kdrewN ?_ | with_reducible refine kcall (by with_reducible assumption) ?_)), by (repeat (first | with_reducible assumption | ((with_reducible refine kfresh ?_ ?_) <;> (first | with_reducible rfl | (simp; done))) | ((with_reducible refine ksameS ?_); focus ((repeat (first | with_reducible exact kis_of (by with_reducible assumption) | with_reducible refine kis_set ?_ | ((with_reducible refine kis_new ?_ ?_) <;> (first | with_reducible rfl | rfl | (simp; done))) | with_reducible refine kis_alloc _ ?_ | with_reducible refine kis_drew ?_ | with_reducible refine kis_call (by with_reducible assumption) ?_ | with_reducible exact kis_of (kcall (by with_reducible assumption) (by with_reducible assumption)))); done)) | with_reducible refine kother (by decide) ?_ | with_reducible refine kset (by first | omega | (simp; done) | (simp; omega)) ?_ | with_reducible refine kalloc _ ?_ | with_reducible refine kdrew ?_ | with_reducible refine kdrewN ?_ | with_reducible refine kcall (by with_reducible assumption) ?_)), by (repeat (first | with_reducible assumption | ((with_reducible refine kfresh ?_ ?_) <;> (first | with_reducible rfl | (simp; done))) | ((with_reducible refine ksameS ?_); focus ((repeat (first | with_reducible exact kis_of (by with_reducible assumption) | with_reducible refine kis_set ?_ | ((with_reducible refine kis_new ?_ ?_) <;> (first | with_reducible rfl | rfl | (simp; done))) | with_reducible refine kis_alloc _ ?_ | with_reducible refine kis_drew ?_ | with_reducible refine kis_call (by with_reducible assumption) ?_ | with_reducible exact kis_of (kcall (by with_reducible assumption) (by with_reducible assumption)))); done)) | with_reducible refine kother (by decide) ?_ | with_reducible refine kset (by first | omega | (simp; done) | (simp; omega)) ?_ | with_reducible refine kalloc _ ?_ | with_reducible refine kdrew ?_ | with_reducible refine kdrewN ?_ | with_reducible refine kcall (by with_reducible assumption) ?_)), by (repeat (first | with_reducible assumption | ((with_reducible refine kfresh ?_ ?_) <;> (first | with_reducible rfl | (simp; done))) | ((with_reducible refine ksameS ?_); focus ((repeat (first | with_reducible exact kis_of (by with_reducible assumption) | with_reducible refine kis_set ?_ | ((with_reducible refine kis_new ?_ ?_) <;> (first | with_reducible rfl | rfl | (simp; done))) | with_reducible refine kis_alloc _ ?_ | with_reducible refine kis_drew ?_ | with_reducible refine kis_call (by with_reducible assumption) ?_ | with_reducible exact kis_of (kcall (by with_reducible assumption) (by with_reducible assumption)))); done)) | with_reducible refine kother (by decide) ?_ | with_reducible refine kset (by first | omega | (simp; done) | (simp; omega)) ?_ | with_reducible refine kalloc _ ?_ | with_reducible refine kdrew ?_ | with_reducible refine kdrewN ?_ | with_reducible refine kcall (by with_reducible assumption) ?_)), by (repeat (first | exact Below.refl _ _ | assumption | refine balloc ?_ _ | refine bdrewN ?_ _ | refine Below.drew ?_ | refine Below.setCell ?_ (by first | (simp; done) | (simp; omega)) _))⟩

set_option linter.unusedVariables false in
set_option linter.unusedSimpArgs false in
set_option maxRecDepth 100000 in
set_option maxRecDepth 20000 in
set_option maxHeartbeats 8000000 in
theorem implTans_any (p c k1 k2 k3 a1 a2 : Int) (w : World) (hp : isP p = true) (hc : colB c = true) (hk1 : 0 ≤ k1 ∧ k1 < p) (hk2 : 0 ≤ k2 ∧ k2 < p) (ha1 : 0 ≤ a1 ∧ a1 < p) (ha2 : 0 ≤ a2 ∧ a2 < p) :
    Calls Try.prog 31 #[.int .i64 p, .int .i64 c, .agg #[.int .i64 k1, .int .i64 k2, .int .i64 k3], .agg #[.int .i64 a1, .int .i64 a2]] w fun e w' =>
      e = .returned (.map (some (w.heap.size + 1 + 1 + 1 + 1))) ∧ w'.ownsMap Try.prog 49 (Go.plainElem Try.prog 4) (w.heap.size + 1 + 1 + 1 + 1) (sfC p c k1 k2 k3 (allF p.toNat p.toNat 0)).length (setL (rgL p c k1 k2 a1 a2 ((sfC p c k1 k2 k3 (allF p.toNat p.toNat 0)).map toP))) ∧ Below w.heap.size w w' := by
  have hr := isP_range hp
  have hcr := colB_range hc
  have hmm := @run_makeMap Try.prog
  have heq := equalPoint
  have hsq : p.toNat * p.toNat ≤ 961 := Nat.le_trans (Nat.mul_le_mul (by omega : p.toNat ≤ 31) (by omega : p.toNat ≤ 31)) (by decide)
  have HSQ := Lib.hid hsq
  clear hsq
  refine (callsIn_wide (n := 9)).1 ?_
  refine callsIn_of_wp_marks Try.func31 rfl trivial ?_ rfl
  simp only [Try.ntmps31, List.size_toArray, List.length_cons, List.length_nil, Nat.reduceAdd, Nat.reduceSub, Array.replicate_succ, Array.replicate_zero, List.push_toArray, List.append_toArray, List.nil_append, List.cons_append]
  refine wpIn_wide.2 ?_
  go_upto_region 2 with fail
  refine wp_name (fun W1 hW1 => ?_)
  have q0 : W1.cell? ⟨w.heap.size, 0, none⟩ = some (.int .i64 p) := by rw [hW1]; (repeat (first | with_reducible assumption | ((with_reducible refine kfresh ?_ ?_) <;> (first | with_reducible rfl | (simp; done))) | ((with_reducible refine ksameS ?_); focus ((repeat (first | with_reducible exact kis_of (by with_reducible assumption) | with_reducible refine kis_set ?_ | ((with_reducible refine kis_new ?_ ?_) <;> (first | with_reducible rfl | rfl | (simp; done))) | with_reducible refine kis_alloc _ ?_ | with_reducible refine kis_drew ?_ | with_reducible refine kis_call (by with_reducible assumption) ?_ | with_reducible exact kis_of (kcall (by with_reducible assumption) (by with_reducible assumption)))); done)) | with_reducible refine kother (by decide) ?_ | with_reducible refine kset (by first | omega | (simp; done) | (simp; omega)) ?_ | with_reducible refine kalloc _ ?_ | with_reducible refine kdrew ?_ | with_reducible refine kdrewN ?_ | with_reducible refine kcall (by with_reducible assumption) ?_))
  have q1 : W1.cell? ⟨w.heap.size + 1, 0, none⟩ = some (.int .i64 c) := by rw [hW1]; (repeat (first | with_reducible assumption | ((with_reducible refine kfresh ?_ ?_) <;> (first | with_reducible rfl | (simp; done))) | ((with_reducible refine ksameS ?_); focus ((repeat (first | with_reducible exact kis_of (by with_reducible assumption) | with_reducible refine kis_set ?_ | ((with_reducible refine kis_new ?_ ?_) <;> (first | with_reducible rfl | rfl | (simp; done))) | with_reducible refine kis_alloc _ ?_ | with_reducible refine kis_drew ?_ | with_reducible refine kis_call (by with_reducible assumption) ?_ | with_reducible exact kis_of (kcall (by with_reducible assumption) (by with_reducible assumption)))); done)) | with_reducible refine kother (by decide) ?_ | with_reducible refine kset (by first | omega | (simp; done) | (simp; omega)) ?_ | with_reducible refine kalloc _ ?_ | with_reducible refine kdrew ?_ | with_reducible refine kdrewN ?_ | with_reducible refine kcall (by with_reducible assumption) ?_))
  have q2 : W1.cell? ⟨w.heap.size + 1 + 1, 0, none⟩ = some (.int .i64 k1) := by rw [hW1]; (repeat (first | with_reducible assumption | ((with_reducible refine kfresh ?_ ?_) <;> (first | with_reducible rfl | (simp; done))) | ((with_reducible refine ksameS ?_); focus ((repeat (first | with_reducible exact kis_of (by with_reducible assumption) | with_reducible refine kis_set ?_ | ((with_reducible refine kis_new ?_ ?_) <;> (first | with_reducible rfl | rfl | (simp; done))) | with_reducible refine kis_alloc _ ?_ | with_reducible refine kis_drew ?_ | with_reducible refine kis_call (by with_reducible assumption) ?_ | with_reducible exact kis_of (kcall (by with_reducible assumption) (by with_reducible assumption)))); done)) | with_reducible refine kother (by decide) ?_ | with_reducible refine kset (by first | omega | (simp; done) | (simp; omega)) ?_ | with_reducible refine kalloc _ ?_ | with_reducible refine kdrew ?_ | with_reducible refine kdrewN ?_ | with_reducible refine kcall (by with_reducible assumption) ?_))
  have q3 : W1.cell? ⟨w.heap.size + 1 + 1, 1, none⟩ = some (.int .i64 k2) := by rw [hW1]; (repeat (first | with_reducible assumption | ((with_reducible refine kfresh ?_ ?_) <;> (first | with_reducible rfl | (simp; done))) | ((with_reducible refine ksameS ?_); focus ((repeat (first | with_reducible exact kis_of (by with_reducible assumption) | with_reducible refine kis_set ?_ | ((with_reducible refine kis_new ?_ ?_) <;> (first | with_reducible rfl | rfl | (simp; done))) | with_reducible refine kis_alloc _ ?_ | with_reducible refine kis_drew ?_ | with_reducible refine kis_call (by with_reducible assumption) ?_ | with_reducible exact kis_of (kcall (by with_reducible assumption) (by with_reducible assumption)))); done)) | with_reducible refine kother (by decide) ?_ | with_reducible refine kset (by first | omega | (simp; done) | (simp; omega)) ?_ | with_reducible refine kalloc _ ?_ | with_reducible refine kdrew ?_ | with_reducible refine kdrewN ?_ | with_reducible refine kcall (by with_reducible assumption) ?_))
  have q4 : W1.cell? ⟨w.heap.size + 1 + 1, 2, none⟩ = some (.int .i64 k3) := by rw [hW1]; (repeat (first | with_reducible assumption | ((with_reducible refine kfresh ?_ ?_) <;> (first | with_reducible rfl | (simp; done))) | ((with_reducible refine ksameS ?_); focus ((repeat (first | with_reducible exact kis_of (by with_reducible assumption) | with_reducible refine kis_set ?_ | ((with_reducible refine kis_new ?_ ?_) <;> (first | with_reducible rfl | rfl | (simp; done))) | with_reducible refine kis_alloc _ ?_ | with_reducible refine kis_drew ?_ | with_reducible refine kis_call (by with_reducible assumption) ?_ | with_reducible exact kis_of (kcall (by with_reducible assumption) (by with_reducible assumption)))); done)) | with_reducible refine kother (by decide) ?_ | with_reducible refine kset (by first | omega | (simp; done) | (simp; omega)) ?_ | with_reducible refine kalloc _ ?_ | with_reducible refine kdrew ?_ | with_reducible refine kdrewN ?_ | with_reducible refine kcall (by with_reducible assumption) ?_))
  have q5 : W1.cell? ⟨w.heap.size + 1 + 1 + 1, 0, none⟩ = some (.int .i64 a1) := by rw [hW1]; (repeat (first | with_reducible assumption | ((with_reducible refine kfresh ?_ ?_) <;> (first | with_reducible rfl | (simp; done))) | ((with_reducible refine ksameS ?_); focus ((repeat (first | with_reducible exact kis_of (by with_reducible assumption) | with_reducible refine kis_set ?_ | ((with_reducible refine kis_new ?_ ?_) <;> (first | with_reducible rfl | rfl | (simp; done))) | with_reducible refine kis_alloc _ ?_ | with_reducible refine kis_drew ?_ | with_reducible refine kis_call (by with_reducible assumption) ?_ | with_reducible exact kis_of (kcall (by with_reducible assumption) (by with_reducible assumption)))); done)) | with_reducible refine kother (by decide) ?_ | with_reducible refine kset (by first | omega | (simp; done) | (simp; omega)) ?_ | with_reducible refine kalloc _ ?_ | with_reducible refine kdrew ?_ | with_reducible refine kdrewN ?_ | with_reducible refine kcall (by with_reducible assumption) ?_))
  have q6 : W1.cell? ⟨w.heap.size + 1 + 1 + 1, 1, none⟩ = some (.int .i64 a2) := by rw [hW1]; (repeat (first | with_reducible assumption | ((with_reducible refine kfresh ?_ ?_) <;> (first | with_reducible rfl | (simp; done))) | ((with_reducible refine ksameS ?_); focus ((repeat (first | with_reducible exact kis_of (by with_reducible assumption) | with_reducible refine kis_set ?_ | ((with_reducible refine kis_new ?_ ?_) <;> (first | with_reducible rfl | rfl | (simp; done))) | with_reducible refine kis_alloc _ ?_ | with_reducible refine kis_drew ?_ | with_reducible refine kis_call (by with_reducible assumption) ?_ | with_reducible exact kis_of (kcall (by with_reducible assumption) (by with_reducible assumption)))); done)) | with_reducible refine kother (by decide) ?_ | with_reducible refine kset (by first | omega | (simp; done) | (simp; omega)) ?_ | with_reducible refine kalloc _ ?_ | with_reducible refine kdrew ?_ | with_reducible refine kdrewN ?_ | with_reducible refine kcall (by with_reducible assumption) ?_))
  have q7 : W1.cell? ⟨w.heap.size + 1 + 1 + 1 + 1 + 1, 0, none⟩ = some (.map (some (w.heap.size + 1 + 1 + 1 + 1))) := by rw [hW1]; (repeat (first | with_reducible assumption | ((with_reducible refine kfresh ?_ ?_) <;> (first | with_reducible rfl | (simp; done))) | ((with_reducible refine ksameS ?_); focus ((repeat (first | with_reducible exact kis_of (by with_reducible assumption) | with_reducible refine kis_set ?_ | ((with_reducible refine kis_new ?_ ?_) <;> (first | with_reducible rfl | rfl | (simp; done))) | with_reducible refine kis_alloc _ ?_ | with_reducible refine kis_drew ?_ | with_reducible refine kis_call (by with_reducible assumption) ?_ | with_reducible exact kis_of (kcall (by with_reducible assumption) (by with_reducible assumption)))); done)) | with_reducible refine kother (by decide) ?_ | with_reducible refine kset (by first | omega | (simp; done) | (simp; omega)) ?_ | with_reducible refine kalloc _ ?_ | with_reducible refine kdrew ?_ | with_reducible refine kdrewN ?_ | with_reducible refine kcall (by with_reducible assumption) ?_))
  have hmap1 : W1.ownsMap Try.prog 49 (Go.plainElem Try.prog 4) (w.heap.size + 1 + 1 + 1 + 1) 0 (.map [] : DataW Unit) := by
    rw [hW1]
    have h := (World.ownsMap_made (H := Unit) ((((w.alloc (.cells #[.int .i64 p] 2)).alloc (.cells #[.int .i64 c] 2)).alloc (.cells #[.int .i64 k1, .int .i64 k2, .int .i64 k3] 30)).alloc (.cells #[.int .i64 a1, .int .i64 a2] 28)) Try.prog 49 (Go.plainElem Try.prog 4)).kept (World.grownBy_alloc _ (.cells #[.map (some (w.heap.size + 1 + 1 + 1 + 1))] 61) none) (by simp)
    simpa using h
  have hB1 : Below w.heap.size w W1 := by rw [hW1]; (repeat (first | with_reducible exact Below.refl _ _ | with_reducible refine balloc ?_ _ | with_reducible refine bdrewN ?_ _ | with_reducible refine Below.drew ?_ | with_reducible refine bthen ?_ (by with_reducible assumption) | with_reducible refine Below.setCell ?_ (by first | (simp; done) | (simp; omega)) _))
  have hs1 : W1.heap.size = w.heap.size + 1 + 1 + 1 + 1 + 1 + 1 := by rw [hW1]; simp
  clear hW1
  go_wp2_with fail
  refine Calls.mono (pointsOfCircle_at p c k1 k2 k3 _) ?_
  rintro e wn ⟨b0, b1, b2, rfl, l0, l1, l2, g0, g1, g2, g3, g4, hBn⟩
  have hsn := hBn.size
  have h0 := World.block_lt_of_cell? wn ⟨b0, 0, none⟩ g0
  have h1 := World.block_lt_of_cell? wn ⟨b1, 0, none⟩ g1
  have h2 := World.block_lt_of_cell? wn ⟨b2, 0, none⟩ g2
  simp only at h0 h1 h2
  have n0 := kcall hBn q0
  have n1 := kcall hBn q1
  have n2 := kcall hBn q2
  have n3 := kcall hBn q3
  have n4 := kcall hBn q4
  have n5 := kcall hBn q5
  have n6 := kcall hBn q6
  have n7 := kcall hBn q7
  have hmapn := hmap1.kept (below_grown hBn) (by simp)
  have hBw := bthen hB1 hBn
  clear q0 q1 q2 q3 q4 q5 q6 q7 hmap1 hB1 hBn
  go_wp2_with fail
  refine (wpIn_wide (n := 9)).1 ?_
  refine range_on rfl (by decide) (gf := 79) (lb := #[.pointer (some ⟨b0, 0, none⟩), .pointer (some ⟨b1, 0, none⟩), .pointer (some ⟨b2, 0, none⟩)]) rfl trivial (enters_of Try.func79 (by kernel_rfl) rfl)
    (seqCirc_on b0 b1 b2 W1.heap.size wn.heap.size p c k1 k2 k3 hp hc hk1 hk2 wn g0 g1 g2 g3 g4 ⟨l0, h0⟩ ⟨l1, h1⟩ ⟨l2, h2⟩ (Nat.le_refl _)) bt_trans (bt_put (by omega)) (Below.refl _ _) (fun _ => rfl)
    (fun pre W => (W.ownsMap Try.prog 49 (Go.plainElem Try.prog 4) (w.heap.size + 1 + 1 + 1 + 1) pre.length (setL (rgL p c k1 k2 a1 a2 (pre.map toP))) ∧ (Btw 0 (w.heap.size + 1 + 1 + 1 + 1) wn W ∧ Btw (w.heap.size + 1 + 1 + 1 + 1 + 1) wn.heap.size wn W)) ∧ Below w.heap.size w W)
    (fun _ _ _ => False)
    (OwnFrom.and (OwnFrom.and (mapT_ownL (by omega) _ _) (OwnFrom.and (btw_ownLe ⟨by omega, by omega⟩) (btw_ownLe ⟨by omega, by omega⟩))) (ownFrom_below (by omega) hBw.size))
    (fun _ _ _ _ _ hs _ _ => hs)
    ⟨⟨hmapn, btw_refl _ _ _, btw_refl _ _ _⟩, hBw⟩
    (fun x a' W => ∃ Bx, wn.heap.size ≤ Bx ∧ Box2 W Bx 28 (toP x) ∧ a' = { tmps := #[.int .i64 p, .int .i64 c, .agg #[.int .i64 k1, .int .i64 k2, .int .i64 k3], .agg #[.int .i64 a1, .int .i64 a2], .pointer (some ⟨w.heap.size, 0, none⟩), .pointer (some ⟨w.heap.size + 1, 0, none⟩), .pointer (some ⟨w.heap.size + 1 + 1, 0, none⟩), .pointer (some ⟨w.heap.size + 1 + 1 + 1, 0, none⟩), .map none, .pointer (some ⟨w.heap.size + 1 + 1 + 1 + 1 + 1, 0, none⟩), .pointer (some ⟨Bx, 0, none⟩), undef, .map (some (w.heap.size + 1 + 1 + 1 + 1)), .int .i64 p, .int .i64 c, .agg #[.int .i64 k1, .int .i64 k2, .int .i64 k3], .func (.func 79) #[] #[.pointer (some ⟨b0, 0, none⟩), .pointer (some ⟨b1, 0, none⟩), .pointer (some ⟨b2, 0, none⟩)], .agg #[.int .i64 (x.1.val : Int), .int .i64 (x.2.val : Int)], undef, undef, undef, undef, undef, undef, undef, undef, undef, undef, undef, undef, undef, undef, undef, undef], defers := [] })
    (fun x a' _ X Y row hs hg hr => by obtain ⟨Bx, h1, h2, h3⟩ := hs; exact ⟨Bx, h1, box2_own Bx wn.heap.size 28 (toP x) () X Y row h2 hg hr, h3⟩)
    ?assign ?body ?done ?stop
  case assign =>
    rintro l pre x W K ⟨⟨hm, hb1, hb2⟩, hB⟩ hK
    obtain ⟨⟨x1, hx1⟩, ⟨x2, hx2⟩⟩ := x
    simp only [ptV, toP]
    gi_wp2
    have hs0 := hb1.1
    exact hK _ _ ((KeepsOthers.alloc _ _).from _) ⟨btw_alloc _ _ (by omega), kt_none (World.grownBy_alloc _ _ none)⟩ ⟨⟨hm.kept (World.grownBy_alloc _ _ none) (by simp), btw_trans hb1 (btw_alloc _ _ (by omega)), btw_trans hb2 (btw_alloc _ _ (by omega))⟩, hB.alloc hB.size _⟩ ⟨W.heap.size, hs0, box2_new W _ (toP ((⟨x1, hx1⟩, ⟨x2, hx2⟩) : Pt32)), rfl⟩
  case body =>
    rintro l pre x a' W ⟨⟨hm, hb1, hb2⟩, hB⟩ ⟨Bx, hBx, hX, rfl⟩ hlt
    have hX1 := box2_cell1 hX
    have hX2 := box2_cell2 hX
    have hXl := World.block_lt_of_cell? W ⟨Bx, 0, none⟩ hX1
    simp only at hXl
    have hs0 := hb1.1
    have c0 := (btw_cell hb1 (Nat.zero_le _) (by omega) 0).trans n0
    have c1 := (btw_cell hb1 (Nat.zero_le _) (by omega) 0).trans n1
    have c2 := (btw_cell hb1 (Nat.zero_le _) (by omega) 0).trans n2
    have c3 := (btw_cell hb1 (Nat.zero_le _) (by omega) 1).trans n3
    have c4 := (btw_cell hb1 (Nat.zero_le _) (by omega) 2).trans n4
    have c5 := (btw_cell hb1 (Nat.zero_le _) (by omega) 0).trans n5
    have c6 := (btw_cell hb1 (Nat.zero_le _) (by omega) 1).trans n6
    have c7 := (btw_cell hb2 (Nat.le_refl _) (by omega) 0).trans n7
    obtain ⟨⟨x1, hx1⟩, ⟨x2, hx2⟩⟩ := x
    simp only [toP] at hX1 hX2
    have hle : (pre ++ [((⟨x1, hx1⟩, ⟨x2, hx2⟩) : Pt32)]).length = pre.length + 1 := by simp
    have HL := Lib.hid hle
    clear hle
    have hmp : (pre ++ [((⟨x1, hx1⟩, ⟨x2, hx2⟩) : Pt32)]).map toP = pre.map toP ++ [((x1 : Int), (x2 : Int))] := by rw [List.map_append]; rfl
    have HM := Lib.hid hmp
    clear hmp
    have hY := rgL_yes (p := p) (c := c) (k1 := k1) (k2 := k2) (a1 := a1) (a2 := a2) (pre.map toP) (x := ((x1 : Int), (x2 : Int)))
    have hN := rgL_no (p := p) (c := c) (k1 := k1) (k2 := k2) (a1 := a1) (a2 := a2) (pre.map toP) (x := ((x1 : Int), (x2 : Int)))
    rcases bool_ways ((x1 : Int) == k1 && (x2 : Int) == k2) with ht | ht
    · have htB : rgB p c k1 k2 a1 a2 ((x1 : Int), (x2 : Int)) = onB p a1 a2 (rn1 p c k1 k2 (x1 : Int) (x2 : Int)) (rn2 p c k1 k2 (x1 : Int) (x2 : Int)) (rn3 p c k1 k2 (x1 : Int) (x2 : Int)) := by unfold rgB; simp only; rw [ht]; rfl
      have rt1 := rn1_r c k1 k2 (x1 : Int) (x2 : Int) hp
      have rt2 := rn2_r c k1 k2 (x1 : Int) (x2 : Int) hp
      have rt3 := rn3_r c k1 k2 (x1 : Int) (x2 : Int) hp
      have hcall1 := fun w' => implTangentR_any p c k1 k2 k3 (x1 : Int) (x2 : Int) w' hp hc hk1 hk2 (by omega) (by omega)
      have hcall2 := fun w' => implOn_any p a1 a2 (rn1 p c k1 k2 (x1 : Int) (x2 : Int)) (rn2 p c k1 k2 (x1 : Int) (x2 : Int)) (rn3 p c k1 k2 (x1 : Int) (x2 : Int)) w' hp (by omega) (by omega) (by omega) (by omega) (by omega)
      have htT : rnT p c k1 k2 ((x1 : Int), (x2 : Int)) = (rn1 p c k1 k2 (x1 : Int) (x2 : Int), rn2 p c k1 k2 (x1 : Int) (x2 : Int), rn3 p c k1 k2 (x1 : Int) (x2 : Int)) := rfl
      rw [htT] at hY
      clear htT
      obtain ⟨t1, h1⟩ : ∃ v, v = rn1 p c k1 k2 (x1 : Int) (x2 : Int) := ⟨_, rfl⟩
      obtain ⟨t2, h2⟩ : ∃ v, v = rn2 p c k1 k2 (x1 : Int) (x2 : Int) := ⟨_, rfl⟩
      obtain ⟨t3, h3⟩ : ∃ v, v = rn3 p c k1 k2 (x1 : Int) (x2 : Int) := ⟨_, rfl⟩
      rw [← h1, ← h2, ← h3] at htB hcall1 hcall2 hY
      rw [← h1] at rt1
      rw [← h2] at rt2
      rw [← h3] at rt3
      clear h1 h2 h3
      have hrt : LnR (t1, t2, t3) := ⟨by simp only; omega, by simp only; omega, by simp only; omega⟩
      have hkey : keyOf Try.prog 49 (.agg #[.int .i64 t1, .int .i64 t2, .int .i64 t3]) = some (klL t1 t2 t3) := keyOf_ln hrt
      have HK := Lib.hid hkey
      have hlm : pre.length < maxLen := by have := HSQ.out; unfold maxLen; omega
      have HLM := Lib.hid hlm
      obtain ⟨bo, hbo⟩ : ∃ b, b = onB p a1 a2 t1 t2 t3 := ⟨_, rfl⟩
      rw [← hbo] at htB hcall2
      rw [htB] at hY hN
      have HC1 := Lib.hid hcall1
      have HC2 := Lib.hid hcall2
      clear hcall1 hcall2 htB hbo hrt hkey hlm
      have HY := Lib.hid hY
      have HN := Lib.hid hN
      clear hY hN
      gi_wp2_with fail
      refine ⟨trivial, (CallsIn.inRound l (callsIn_wide.2 (HC1.out _))).mono ?_⟩
      rintro e w1 ⟨rfl, hB1⟩
      have hB1s := hB1.size
      have d0 := (cell_back hB1 (by omega) 0).trans c0
      have d5 := (cell_back hB1 (by omega) 0).trans c5
      have d6 := (cell_back hB1 (by omega) 1).trans c6
      have d7 := (cell_back hB1 (by omega) 0).trans c7
      have hS0 : w.heap.size < w1.heap.size := by omega
      have hS3 : w.heap.size + 1 + 1 + 1 < w1.heap.size := by omega
      have hS5 : w.heap.size + 1 + 1 + 1 + 1 + 1 < w1.heap.size := by omega
      gi_wp2_with fail
      refine ⟨trivial, (CallsIn.inRound l (callsIn_wide.2 (HC2.out _))).mono ?_⟩
      rintro e w2 ⟨rfl, hB2⟩
      have e0 := kcall hB2 (show (w1.alloc (.cells #[.int .i64 t1, .int .i64 t2, .int .i64 t3] 49)).cell? ⟨w1.heap.size, 0, none⟩ = some (.int .i64 t1) by (repeat (first | with_reducible assumption | ((with_reducible refine kfresh ?_ ?_) <;> (first | with_reducible rfl | (simp; done))) | ((with_reducible refine ksameS ?_); focus ((repeat (first | with_reducible exact kis_of (by with_reducible assumption) | with_reducible refine kis_set ?_ | ((with_reducible refine kis_new ?_ ?_) <;> (first | with_reducible rfl | rfl | (simp; done))) | with_reducible refine kis_alloc _ ?_ | with_reducible refine kis_drew ?_ | with_reducible refine kis_call (by with_reducible assumption) ?_ | with_reducible exact kis_of (kcall (by with_reducible assumption) (by with_reducible assumption)))); done)) | with_reducible refine kother (by decide) ?_ | with_reducible refine kset (by first | omega | (simp; done) | (simp; omega)) ?_ | with_reducible refine kalloc _ ?_ | with_reducible refine kdrew ?_ | with_reducible refine kdrewN ?_ | with_reducible refine kcall (by with_reducible assumption) ?_)))
      have e1 := kcall hB2 (show (w1.alloc (.cells #[.int .i64 t1, .int .i64 t2, .int .i64 t3] 49)).cell? ⟨w1.heap.size, 1, none⟩ = some (.int .i64 t2) by (repeat (first | with_reducible assumption | ((with_reducible refine kfresh ?_ ?_) <;> (first | with_reducible rfl | (simp; done))) | ((with_reducible refine ksameS ?_); focus ((repeat (first | with_reducible exact kis_of (by with_reducible assumption) | with_reducible refine kis_set ?_ | ((with_reducible refine kis_new ?_ ?_) <;> (first | with_reducible rfl | rfl | (simp; done))) | with_reducible refine kis_alloc _ ?_ | with_reducible refine kis_drew ?_ | with_reducible refine kis_call (by with_reducible assumption) ?_ | with_reducible exact kis_of (kcall (by with_reducible assumption) (by with_reducible assumption)))); done)) | with_reducible refine kother (by decide) ?_ | with_reducible refine kset (by first | omega | (simp; done) | (simp; omega)) ?_ | with_reducible refine kalloc _ ?_ | with_reducible refine kdrew ?_ | with_reducible refine kdrewN ?_ | with_reducible refine kcall (by with_reducible assumption) ?_)))
      have e2 := kcall hB2 (show (w1.alloc (.cells #[.int .i64 t1, .int .i64 t2, .int .i64 t3] 49)).cell? ⟨w1.heap.size, 2, none⟩ = some (.int .i64 t3) by (repeat (first | with_reducible assumption | ((with_reducible refine kfresh ?_ ?_) <;> (first | with_reducible rfl | (simp; done))) | ((with_reducible refine ksameS ?_); focus ((repeat (first | with_reducible exact kis_of (by with_reducible assumption) | with_reducible refine kis_set ?_ | ((with_reducible refine kis_new ?_ ?_) <;> (first | with_reducible rfl | rfl | (simp; done))) | with_reducible refine kis_alloc _ ?_ | with_reducible refine kis_drew ?_ | with_reducible refine kis_call (by with_reducible assumption) ?_ | with_reducible exact kis_of (kcall (by with_reducible assumption) (by with_reducible assumption)))); done)) | with_reducible refine kother (by decide) ?_ | with_reducible refine kset (by first | omega | (simp; done) | (simp; omega)) ?_ | with_reducible refine kalloc _ ?_ | with_reducible refine kdrew ?_ | with_reducible refine kdrewN ?_ | with_reducible refine kcall (by with_reducible assumption) ?_)))
      have e7 := kcall hB2 (kalloc (.cells #[.int .i64 t1, .int .i64 t2, .int .i64 t3] 49) d7)
      have hBB := bthen (balloc hB1 _) hB2
      have hBs := hBB.size
      have hm2 := hm.kept (below_grown hBB) (by simp)
      cases bo
      · have HF := Lib.hid (HN.out rfl)
        gi_wp2
        refine ⟨(KeepsOthers.of_grownBy (row := none) (below_grown hBB) (fun j o e => by cases e)).from _, ⟨btw_below hBB (by omega), kt_none (below_grown hBB)⟩, ⟨⟨?_, btw_trans hb1 (btw_below hBB (by omega)), btw_trans hb2 (btw_below hBB (by omega))⟩, bthen hB hBB⟩⟩
        rw [HM.out, HF.out, HL.out]; exact hm2.mono (by omega)
      · have HF := Lib.hid (HY.out rfl)
        obtain ⟨es, clk, hes, _⟩ := id hm2
        have HES := Lib.hid hes
        clear hes
        obtain ⟨w3, hrun, hm3, hg3⟩ := hm2.update lnLaw Try.underlying61 HLM.out HK.out (Go.plainElem_bool Try.underlying4 true)
        clear hm2 hm
        gi_wp2
        have hu := hg3.size
        refine ⟨((KeepsOthers.of_grownBy (row := none) (below_grown hBB) (fun j o e => by cases e)).from _).trans (KeepsFrom.of_grownBy hg3 (fun j e => by cases e; omega)), ⟨btw_trans (btw_below hBB (by omega)) (btw_grown hg3 (by omega) (fun g e => by cases e; exact .inl (by omega))), kt_trans (kt_none (below_grown hBB)) (kt_grown hg3 (fun r cs t tg e hg => by cases e; rw [HES.out] at hg; cases hg))⟩, ⟨⟨?_, btw_trans hb1 (btw_trans (btw_below hBB (by omega)) (btw_grown hg3 (by omega) (fun g e => by cases e; exact .inr (by omega)))), btw_trans hb2 (btw_trans (btw_below hBB (by omega)) (btw_grown hg3 (by omega) (fun g e => by cases e; exact .inl (by omega))))⟩, (bthen hB hBB).grown hg3 (by omega) (fun g e => by cases e; omega)⟩⟩
        rw [HM.out, HF.out, HL.out, setL_snoc]; exact hm3
    · have HN := Lib.hid (hN (by unfold rgB; simp only; rw [ht]; rfl))
      clear hN hY
      gi_wp2
      refine ⟨KeepsFrom.refl _ _, ⟨btw_refl _ _ _, kt_refl _⟩, ⟨⟨?_, hb1, hb2⟩, hB⟩⟩
      rw [HM.out, HN.out, HL.out]; exact hm.mono (by omega)
  case done =>
    rintro D ys W hD rfl ⟨⟨hm, hb1, hb2⟩, hB⟩ hK
    have c7 := (btw_cell hb2 (Nat.le_refl _) (by omega) 0).trans n7
    have hDl : D < W.heap.size := (Array.getElem?_eq_some_iff.1 hK).1
    go_wp2
    refine ⟨by simp, .inl ⟨_, _, rfl, run_takeDeferred hK, ?_⟩⟩
    exact ⟨_, results_tmp rfl _ _ _, rfl, hm.kept (grownBy_putObj' W D (.deferred none)) (by simp; omega), hB.trans (belowK_b (w := w) (Nat.le_refl _) W D _ _ (by omega) hK rfl rfl)⟩
  case stop =>
    rintro D c pre W _ _ h _
    exact h.elim

set_option maxRecDepth 20000 in
set_option maxHeartbeats 400000 in
theorem sfC_tc {p c k1 k2 k3 : Int} (hp : isP p = true) : (sfC p c k1 k2 k3 (allF p.toNat p.toNat 0)).map toP = tcP p c k1 k2 k3 := by
  have hr := isP_range hp
  rw [tcP, grid_filter (fun x y => qdr p c k1 k2 x y == k3), sfC, ← allF_back (m := p.toNat) (x := p.toNat) (by omega) (by omega), List.filter_map]
  rfl
theorem implTans_set (p c k1 k2 k3 a1 a2 : Int) (w : World) (hp : isP p = true) (hc : colB c = true) (hk1 : 0 ≤ k1 ∧ k1 < p) (hk2 : 0 ≤ k2 ∧ k2 < p) (ha1 : 0 ≤ a1 ∧ a1 < p) (ha2 : 0 ≤ a2 ∧ a2 < p) :
    Calls Try.prog 31 #[.int .i64 p, .int .i64 c, .agg #[.int .i64 k1, .int .i64 k2, .int .i64 k3], .agg #[.int .i64 a1, .int .i64 a2]] w fun e w' => ∃ mb nn : Nat,
      e = .returned (.map (some mb)) ∧ w'.ownsMap Try.prog 49 (Go.plainElem Try.prog 4) mb nn (setL (tgL p c k1 k2 a1 a2 (tcP p c k1 k2 k3))) ∧ Below w.heap.size w w' := by
  refine Calls.mono (implTans_any p c k1 k2 k3 a1 a2 w hp hc hk1 hk2 ha1 ha2) ?_
  rintro e w' ⟨rfl, hm, hB⟩
  rw [sfC_tc hp, rgL_eq hp hc hk1 hk2 _ (fun z hz => tcP_mem hp hz)] at hm
  exact ⟨_, _, rfl, hm, hB⟩
theorem tans_facts {p c k1 k2 k3 a1 a2 : Int} (hp : isP p = true) :
    KeysOf 49 lnV (fun x => klL x.1 x.2.1 x.2.2) (tgL p c k1 k2 a1 a2 (tcP p c k1 k2 k3)) (setL (tgL p c k1 k2 a1 a2 (tcP p c k1 k2 k3))) ∧ Maps.size (setL (tgL p c k1 k2 a1 a2 (tcP p c k1 k2 k3))) ≤ 1000000 ∧
    (∀ ls : List (Int × Int × Int), (ls.Nodup ∧ ∀ x, x ∈ ls ↔ x ∈ tgL p c k1 k2 a1 a2 (tcP p c k1 k2 k3)) → ls.length ≤ 1000000) ∧
    (∀ (d : Array (Int × Int × Int)) (ls : List (Int × Int × Int)), (ls.Nodup ∧ ∀ x, x ∈ ls ↔ x ∈ tgL p c k1 k2 a1 a2 (tcP p c k1 k2 k3)) → d.toList.Perm ls →
      (∀ i j, i < j → j < d.size → Go.Proofs.ltOf cfL d[j]! d[i]! = false) → d.toList = tfT p c k1 k2 k3 a1 a2) := by
  have hr := isP_range hp
  have hR : ∀ z, z ∈ tgL p c k1 k2 a1 a2 (tcP p c k1 k2 k3) → LnR z := fun z hz => by
    obtain ⟨b, _, rfl⟩ := List.mem_map.1 hz
    have r1 := tn1_r c k1 k2 b.1 b.2 hp
    have r2 := tn2_r c k1 k2 b.1 b.2 hp
    have r3 := tn3_r c k1 k2 b.1 b.2 hp
    exact ⟨by simp only [tnT]; omega, by simp only [tnT]; omega, by simp only [tnT]; omega⟩
  have hsrt : (tfT p c k1 k2 k3 a1 a2).Pairwise Lt3 := (srtL_sorted _).imp fun h => h
  have hLn : (tfT p c k1 k2 k3 a1 a2).Nodup := hsrt.imp fun h e => by subst e; simp only [Lt3] at h; omega
  have hle := tfT_le c k1 k2 k3 a1 a2 hp
  have hl2 := Nat.le_trans (tgL_le p c k1 k2 a1 a2 (tcP p c k1 k2 k3)) (tcP_le c k1 k2 k3 hp)
  refine ⟨setL_keys hR, ?_, fun ls h => ?_, fun d ls h hpm hs => ?_⟩
  · have h1 := setL_size hR
    omega
  · have h1 := ((List.perm_ext_iff_of_nodup h.1 hLn).2 fun z => (h.2 z).trans srtL_mem.symm).length_eq
    omega
  · exact sorted_lines hsrt h.1 (fun z => (h.2 z).trans srtL_mem.symm) hpm hs

end Go.Proofs.Ytmpgpmcmhbpjeab
