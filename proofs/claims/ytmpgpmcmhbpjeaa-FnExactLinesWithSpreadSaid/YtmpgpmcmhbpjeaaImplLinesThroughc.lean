/-
  The program's LinesThrough: the lines to all other points, as a set, in order.
-/
import Derived.Test.YtmpgpmcmhbpjeaaMgc0
import Derived.Test.YtmpgpmcmhbpjeaaImplLineRc
import Derived.Test.YtmpgpmcmhbpjeaaImplPtsc
import Derived.Test.YtmpgpmcmhbpjeaaCodec
import Derived.Test.YtmpgpmcmhbpjeaaArrEqc
import Derived.Test.YtmpgpmcmhbpjeaaSortLnsc
import Derived.Maps.OwnIn
import Derived.TacticsIn
import Derived.RegionIn
import Derived.Shelf.RegionOpen
import Derived.Deep.RegionHeld3
import Derived.Deep.DeepCutAuto

namespace Go.Proofs.Ytmpgpmcmhbpjeaa
open Go.RowKit Go.Shelf

attribute [local go_sem] Oper.semAt_some

theorem map_ownL {β : Type} {P : Program} {k : TypeId} {R : Value → Option (DataW Unit × List MemPlace)} {b C : Nat} (hb : b < C) (n : β → Nat) (D : β → DataW Unit) : OwnFrom C (fun s W => W.ownsMap P k R b (n s) (D s)) := fun _ _ _ _ hs hg hr =>
  hs.kept hg (fun e => by have := (hr _ e.symm).1; omega)

theorem grid_all {m : Nat} (b : Int × Int) : b ∈ gridL tt2 m m ↔ (0 ≤ b.1 ∧ b.1 < (m : Int)) ∧ 0 ≤ b.2 ∧ b.2 < (m : Int) := by
  constructor
  · intro h
    have := grid_mem h
    omega
  · intro h
    rw [gridL, List.mem_flatMap]
    refine ⟨b.1.toNat, List.mem_range.2 (by omega), ?_⟩
    rw [rowL, List.mem_map]
    refine ⟨b.2.toNat, List.mem_filter.2 ⟨List.mem_range.2 (by omega), rfl⟩, ?_⟩
    exact Prod.ext (by show ((b.1.toNat : Nat) : Int) = b.1; omega) (by show ((b.2.toNat : Nat) : Int) = b.2; omega)
/-- The set of lines: its keys, its size, and what it is in order. -/
theorem lines_facts {p a1 a2 : Int} (hp : isP p = true) (ha1 : 0 ≤ a1 ∧ a1 < p) (ha2 : 0 ≤ a2 ∧ a2 < p) :
    KeysOf 30 lnV (fun x => klL x.1 x.2.1 x.2.2) (linesR p a1 a2 (gridL tt2 p.toNat p.toNat)) (setL (linesR p a1 a2 (gridL tt2 p.toNat p.toNat))) ∧
    Maps.size (setL (linesR p a1 a2 (gridL tt2 p.toNat p.toNat))) ≤ 1000000 ∧
    (∀ ss : List (Int × Int × Int), (ss.Nodup ∧ ∀ x, x ∈ ss ↔ x ∈ linesR p a1 a2 (gridL tt2 p.toNat p.toNat)) → ss.length ≤ 1000000) ∧
    (∀ (d : Array (Int × Int × Int)) (ss : List (Int × Int × Int)), (ss.Nodup ∧ ∀ x, x ∈ ss ↔ x ∈ linesR p a1 a2 (gridL tt2 p.toNat p.toNat)) → d.toList.Perm ss →
      (∀ i j, i < j → j < d.size → Go.Proofs.ltOf cfL d[j]! d[i]! = false) → d.toList = pencil p a1 a2 p.toNat) := by
  have hr := isP_range hp
  have hpn : (p.toNat : Int) = p := Int.toNat_of_nonneg (by omega)
  have hR : ∀ z, z ∈ linesR p a1 a2 (gridL tt2 p.toNat p.toNat) → LnR z := fun z hz => by
    have := linesR_r hp _ z hz
    unfold LnR; omega
  have hsrt : (pencil p a1 a2 p.toNat).Pairwise Lt3 := (pencil_sorted p a1 a2 p.toNat).imp fun h => h
  have hLn : (pencil p a1 a2 p.toNat).Nodup := hsrt.imp fun h e => by subst e; simp only [Lt3] at h; omega
  have hall := fun z => linesR_all (bs := gridL tt2 p.toNat p.toNat) hp ha1 ha2 (fun b => by rw [grid_all, hpn]) z
  refine ⟨setL_keys hR, ?_, fun ss h => ?_, fun d ss h hpm hs => ?_⟩
  · have h1 := setL_size hR
    have h2 := linesR_le p a1 a2 (gridL tt2 p.toNat p.toNat)
    rw [gridT_len] at h2
    have h3 : p.toNat * p.toNat ≤ 31 * 31 := Nat.mul_le_mul (by omega) (by omega)
    omega
  · have := ((List.perm_ext_iff_of_nodup h.1 hLn).2 fun z => (h.2 z).trans (hall z)).length_eq
    rw [pencil_length] at this
    omega
  · exact sorted_lines hsrt h.1 (fun z => (h.2 z).trans (hall z)) hpm hs

set_option maxRecDepth 100000 in
set_option maxRecDepth 20000 in
set_option maxHeartbeats 8000000 in
theorem implLinesThrough_good (p a1 a2 : Int) (w : World) (hp : isP p = true) (hn : numsIn p [a1, a2] = true) :
    Calls Try.prog 59 #[.int .i64 p, .agg #[.int .i64 a1, .int .i64 a2]] w fun e w' => SlicePost 30 3 (flat3 (pencil p a1 a2 p.toNat)) 0 w e w' := by
  have hr := isP_range hp
  have rg := nums2 hn
  have c_1 : codeOf p (numsIn p [a1, a2]) = 0 := codeOf_in hp hn
  have cT : codeOf p true = 0 := codeOf_in hp rfl
  have hmm := @run_makeMap Try.prog
  have heq := equalPoint
  have hsq : p.toNat * p.toNat ≤ 961 := Nat.le_trans (Nat.mul_le_mul (by omega : p.toNat ≤ 31) (by omega : p.toNat ≤ 31)) (by decide)
  have HSQ := Lib.hid hsq
  clear hsq
  refine (callsIn_wide (n := 9)).1 ?_
  refine callsIn_of_wp_marks Try.func59 rfl trivial ?_ rfl
  simp only [Try.ntmps59, List.size_toArray, List.length_cons, List.length_nil, Nat.reduceAdd, Nat.reduceSub, Array.replicate_succ, Array.replicate_zero, List.push_toArray, List.append_toArray, List.nil_append, List.cons_append]
  refine wpIn_wide.2 ?_
  go_wp2_with fail
  go_region_held3 (fun W => W.cell? ⟨w.heap.size, 0, none⟩ = some (.int .i64 p) ∧ W.cell? ⟨w.heap.size + 1, 0, none⟩ = some (.int .i64 a1) ∧ W.cell? ⟨w.heap.size + 1, 1, none⟩ = some (.int .i64 a2)) (first | with_reducible assumption | (first | with_reducible assumption | with_reducible exact (And.imp (kcall hB) (And.imp (kcall hB) ((kcall hB)))) (by with_reducible assumption) | with_reducible exact (And.imp (kalloc _) (And.imp (kalloc _) ((kalloc _)))) (by with_reducible assumption) | with_reducible exact (And.imp (krealloc (by first | omega | (simp; done) | (simp; omega))) (And.imp (krealloc (by first | omega | (simp; done) | (simp; omega))) ((krealloc (by first | omega | (simp; done) | (simp; omega)))))) (by with_reducible assumption) | with_reducible exact (And.imp (fun h => kdrew (kalloc _ (kundrew h))) (And.imp (fun h => kdrew (kalloc _ (kundrew h))) ((fun h => kdrew (kalloc _ (kundrew h)))))) (by with_reducible assumption) | with_reducible exact (And.imp (fun h => kdrew (krealloc (by first | omega | (simp; done) | (simp; omega)) (kundrew h))) (And.imp (fun h => kdrew (krealloc (by first | omega | (simp; done) | (simp; omega)) (kundrew h))) ((fun h => kdrew (krealloc (by first | omega | (simp; done) | (simp; omega)) (kundrew h)))))) (by with_reducible assumption) | with_reducible exact (And.imp (fun h => kset (by first | omega | (simp; done) | (simp; omega)) (kset (by first | omega | (simp; done) | (simp; omega)) (kset (by first | omega | (simp; done) | (simp; omega)) h))) (And.imp (fun h => kset (by first | omega | (simp; done) | (simp; omega)) (kset (by first | omega | (simp; done) | (simp; omega)) (kset (by first | omega | (simp; done) | (simp; omega)) h))) ((fun h => kset (by first | omega | (simp; done) | (simp; omega)) (kset (by first | omega | (simp; done) | (simp; omega)) (kset (by first | omega | (simp; done) | (simp; omega)) h)))))) (by with_reducible assumption) | with_reducible exact (And.imp (fun h => kset (by first | omega | (simp; done) | (simp; omega)) (kset (by first | omega | (simp; done) | (simp; omega)) h)) (And.imp (fun h => kset (by first | omega | (simp; done) | (simp; omega)) (kset (by first | omega | (simp; done) | (simp; omega)) h)) ((fun h => kset (by first | omega | (simp; done) | (simp; omega)) (kset (by first | omega | (simp; done) | (simp; omega)) h))))) (by with_reducible assumption) | with_reducible exact (And.imp (fun h => kset (by first | omega | (simp; done) | (simp; omega)) h) (And.imp (fun h => kset (by first | omega | (simp; done) | (simp; omega)) h) ((fun h => kset (by first | omega | (simp; done) | (simp; omega)) h)))) (by with_reducible assumption) | with_reducible exact (And.imp (fun h => kalloc _ (kset (by first | omega | (simp; done) | (simp; omega)) (kset (by first | omega | (simp; done) | (simp; omega)) (kback (by first | omega | (simp; done) | (simp; omega)) h)))) (And.imp (fun h => kalloc _ (kset (by first | omega | (simp; done) | (simp; omega)) (kset (by first | omega | (simp; done) | (simp; omega)) (kback (by first | omega | (simp; done) | (simp; omega)) h)))) ((fun h => kalloc _ (kset (by first | omega | (simp; done) | (simp; omega)) (kset (by first | omega | (simp; done) | (simp; omega)) (kback (by first | omega | (simp; done) | (simp; omega)) h))))))) (by with_reducible assumption) | with_reducible exact (And.imp (fun h => kalloc _ (kset (by first | omega | (simp; done) | (simp; omega)) (kset (by first | omega | (simp; done) | (simp; omega)) (kset (by first | omega | (simp; done) | (simp; omega)) (kback (by first | omega | (simp; done) | (simp; omega)) h))))) (And.imp (fun h => kalloc _ (kset (by first | omega | (simp; done) | (simp; omega)) (kset (by first | omega | (simp; done) | (simp; omega)) (kset (by first | omega | (simp; done) | (simp; omega)) (kback (by first | omega | (simp; done) | (simp; omega)) h))))) ((fun h => kalloc _ (kset (by first | omega | (simp; done) | (simp; omega)) (kset (by first | omega | (simp; done) | (simp; omega)) (kset (by first | omega | (simp; done) | (simp; omega)) (kback (by first | omega | (simp; done) | (simp; omega)) h)))))))) (by with_reducible assumption) | with_reducible exact (And.imp (fun h => kalloc _ (kalloc _ (kback (by first | omega | (simp; done) | (simp; omega)) (kback (by first | omega | (simp; done) | (simp; omega)) h)))) (And.imp (fun h => kalloc _ (kalloc _ (kback (by first | omega | (simp; done) | (simp; omega)) (kback (by first | omega | (simp; done) | (simp; omega)) h)))) ((fun h => kalloc _ (kalloc _ (kback (by first | omega | (simp; done) | (simp; omega)) (kback (by first | omega | (simp; done) | (simp; omega)) h))))))) (by with_reducible assumption) | with_reducible exact (And.imp (fun h => kdrew (kalloc _ (kalloc _ (kback (by first | omega | (simp; done) | (simp; omega)) (kback (by first | omega | (simp; done) | (simp; omega)) (kundrew h)))))) (And.imp (fun h => kdrew (kalloc _ (kalloc _ (kback (by first | omega | (simp; done) | (simp; omega)) (kback (by first | omega | (simp; done) | (simp; omega)) (kundrew h)))))) ((fun h => kdrew (kalloc _ (kalloc _ (kback (by first | omega | (simp; done) | (simp; omega)) (kback (by first | omega | (simp; done) | (simp; omega)) (kundrew h))))))))) (by with_reducible assumption) | (simp; done) | (refine ⟨?_, ?_, ?_⟩ <;> (refine kdrew ?_; repeat (first | exact kfresh (by first | rfl | (simp; done)) (by rfl) | refine kalloc _ ?_)); done)))
    (first
      | (go_at_call 46; refine Calls.mono (implPoints1 p a1 a2 _ (World.drew ((w.alloc (.cells #[.int .i64 p] 2)).alloc (.cells #[.int .i64 a1, .int .i64 a2] 25))) (by first | rfl | (simp; done))) ?_; rintro e wq ⟨rfl, hB⟩; have r0 : wq.cell? ⟨w.heap.size, 0, none⟩ = some (.int .i64 p) := kcall hB (kdrew (by (repeat (first | with_reducible assumption | ((with_reducible refine kfresh ?_ ?_) <;> (first | with_reducible rfl | (simp; done))) | ((with_reducible refine ksameS ?_); focus ((repeat (first | with_reducible exact kis_of (by with_reducible assumption) | with_reducible refine kis_set ?_ | ((with_reducible refine kis_new ?_ ?_) <;> (first | with_reducible rfl | rfl | (simp; done))) | with_reducible refine kis_alloc _ ?_ | with_reducible refine kis_drew ?_ | with_reducible refine kis_call (by with_reducible assumption) ?_ | with_reducible exact kis_of (kcall (by with_reducible assumption) (by with_reducible assumption)))); done)) | with_reducible refine kother (by decide) ?_ | with_reducible refine kset (by first | omega | (simp; done) | (simp; omega)) ?_ | with_reducible refine kalloc _ ?_ | with_reducible refine kdrew ?_ | with_reducible refine kdrewN ?_ | with_reducible refine kcall (by with_reducible assumption) ?_)))); have r1 : wq.cell? ⟨w.heap.size + 1, 0, none⟩ = some (.int .i64 a1) := kcall hB (kdrew (by (repeat (first | with_reducible assumption | ((with_reducible refine kfresh ?_ ?_) <;> (first | with_reducible rfl | (simp; done))) | ((with_reducible refine ksameS ?_); focus ((repeat (first | with_reducible exact kis_of (by with_reducible assumption) | with_reducible refine kis_set ?_ | ((with_reducible refine kis_new ?_ ?_) <;> (first | with_reducible rfl | rfl | (simp; done))) | with_reducible refine kis_alloc _ ?_ | with_reducible refine kis_drew ?_ | with_reducible refine kis_call (by with_reducible assumption) ?_ | with_reducible exact kis_of (kcall (by with_reducible assumption) (by with_reducible assumption)))); done)) | with_reducible refine kother (by decide) ?_ | with_reducible refine kset (by first | omega | (simp; done) | (simp; omega)) ?_ | with_reducible refine kalloc _ ?_ | with_reducible refine kdrew ?_ | with_reducible refine kdrewN ?_ | with_reducible refine kcall (by with_reducible assumption) ?_)))); have r2 : wq.cell? ⟨w.heap.size + 1, 1, none⟩ = some (.int .i64 a2) := kcall hB (kdrew (by (repeat (first | with_reducible assumption | ((with_reducible refine kfresh ?_ ?_) <;> (first | with_reducible rfl | (simp; done))) | ((with_reducible refine ksameS ?_); focus ((repeat (first | with_reducible exact kis_of (by with_reducible assumption) | with_reducible refine kis_set ?_ | ((with_reducible refine kis_new ?_ ?_) <;> (first | with_reducible rfl | rfl | (simp; done))) | with_reducible refine kis_alloc _ ?_ | with_reducible refine kis_drew ?_ | with_reducible refine kis_call (by with_reducible assumption) ?_ | with_reducible exact kis_of (kcall (by with_reducible assumption) (by with_reducible assumption)))); done)) | with_reducible refine kother (by decide) ?_ | with_reducible refine kset (by first | omega | (simp; done) | (simp; omega)) ?_ | with_reducible refine kalloc _ ?_ | with_reducible refine kdrew ?_ | with_reducible refine kdrewN ?_ | with_reducible refine kcall (by with_reducible assumption) ?_)))); have hwq : Below w.heap.size w wq := bthen (Below.drew (balloc (balloc (Below.refl _ _) _) _)) hB; have hr012 := And.intro r0 (And.intro r1 r2))
      | (go_at_call 36; refine Calls.mono (codeFor_any _ _ _) ?_; rintro e wq ⟨rfl, rfl⟩))
  have l0 : w.heap.size < wq.heap.size := World.block_lt_of_cell? wq ⟨w.heap.size, 0, none⟩ r0
  have l1 : w.heap.size + 1 < wq.heap.size := World.block_lt_of_cell? wq ⟨w.heap.size + 1, 0, none⟩ r1
  have l0' : w.heap.size < wq.heap.size + 1 := by omega
  have l1' : w.heap.size + 1 < wq.heap.size + 1 := by omega
  clear hr012
  go_wp2_with fail
  refine Calls.mono (allPoints_any _ _) ?_
  rintro e w' ⟨rfl, rfl⟩
  go_wp2_with fail
  have q0 : (((wq.alloc (.map #[] 0)).alloc (.cells #[.map (some wq.heap.size)] 116)).alloc (.cells #[.int .i64 p] 2)).cell? ⟨wq.heap.size + 1, 0, none⟩ = some (.map (some wq.heap.size)) := by (repeat (first | with_reducible assumption | ((with_reducible refine kfresh ?_ ?_) <;> (first | with_reducible rfl | (simp; done))) | ((with_reducible refine ksameS ?_); focus ((repeat (first | with_reducible exact kis_of (by with_reducible assumption) | with_reducible refine kis_set ?_ | ((with_reducible refine kis_new ?_ ?_) <;> (first | with_reducible rfl | rfl | (simp; done))) | with_reducible refine kis_alloc _ ?_ | with_reducible refine kis_drew ?_ | with_reducible refine kis_call (by with_reducible assumption) ?_ | with_reducible exact kis_of (kcall (by with_reducible assumption) (by with_reducible assumption)))); done)) | with_reducible refine kother (by decide) ?_ | with_reducible refine kset (by first | omega | (simp; done) | (simp; omega)) ?_ | with_reducible refine kalloc _ ?_ | with_reducible refine kdrew ?_ | with_reducible refine kdrewN ?_ | with_reducible refine kcall (by with_reducible assumption) ?_))
  have q1 : (((wq.alloc (.map #[] 0)).alloc (.cells #[.map (some wq.heap.size)] 116)).alloc (.cells #[.int .i64 p] 2)).cell? ⟨wq.heap.size + 1 + 1, 0, none⟩ = some (.int .i64 p) := by (repeat (first | with_reducible assumption | ((with_reducible refine kfresh ?_ ?_) <;> (first | with_reducible rfl | (simp; done))) | ((with_reducible refine ksameS ?_); focus ((repeat (first | with_reducible exact kis_of (by with_reducible assumption) | with_reducible refine kis_set ?_ | ((with_reducible refine kis_new ?_ ?_) <;> (first | with_reducible rfl | rfl | (simp; done))) | with_reducible refine kis_alloc _ ?_ | with_reducible refine kis_drew ?_ | with_reducible refine kis_call (by with_reducible assumption) ?_ | with_reducible exact kis_of (kcall (by with_reducible assumption) (by with_reducible assumption)))); done)) | with_reducible refine kother (by decide) ?_ | with_reducible refine kset (by first | omega | (simp; done) | (simp; omega)) ?_ | with_reducible refine kalloc _ ?_ | with_reducible refine kdrew ?_ | with_reducible refine kdrewN ?_ | with_reducible refine kcall (by with_reducible assumption) ?_))
  have q2 : (((wq.alloc (.map #[] 0)).alloc (.cells #[.map (some wq.heap.size)] 116)).alloc (.cells #[.int .i64 p] 2)).cell? ⟨w.heap.size, 0, none⟩ = some (.int .i64 p) := kalloc _ (kalloc _ (kalloc _ r0))
  have q3 : (((wq.alloc (.map #[] 0)).alloc (.cells #[.map (some wq.heap.size)] 116)).alloc (.cells #[.int .i64 p] 2)).cell? ⟨w.heap.size + 1, 0, none⟩ = some (.int .i64 a1) := kalloc _ (kalloc _ (kalloc _ r1))
  have q4 : (((wq.alloc (.map #[] 0)).alloc (.cells #[.map (some wq.heap.size)] 116)).alloc (.cells #[.int .i64 p] 2)).cell? ⟨w.heap.size + 1, 1, none⟩ = some (.int .i64 a2) := kalloc _ (kalloc _ (kalloc _ r2))
  have hmap := ((World.ownsMap_made (H := Unit) wq Try.prog 30 (Go.plainElem Try.prog 4)).kept (World.grownBy_alloc _ (.cells #[.map (some wq.heap.size)] 116) none) (by simp)).kept (World.grownBy_alloc _ (.cells #[.int .i64 p] 2) none) (by simp)
  have hB0 : Below w.heap.size w (((wq.alloc (.map #[] 0)).alloc (.cells #[.map (some wq.heap.size)] 116)).alloc (.cells #[.int .i64 p] 2)) := balloc (balloc (balloc hwq _) _) _
  have hsz : (((wq.alloc (.map #[] 0)).alloc (.cells #[.map (some wq.heap.size)] 116)).alloc (.cells #[.int .i64 p] 2)).heap.size = wq.heap.size + 1 + 1 + 1 := by simp
  obtain ⟨W0, hW0⟩ : ∃ W0, W0 = (((wq.alloc (.map #[] 0)).alloc (.cells #[.map (some wq.heap.size)] 116)).alloc (.cells #[.int .i64 p] 2)) := ⟨_, rfl⟩
  rw [← hW0] at q0 q1 q2 q3 q4 hmap hB0 hsz ⊢
  clear hW0
  refine (wpIn_wide (n := 9)).1 ?_
  refine wpIn_rangeFunc_ownH rfl (by decide) (gf := 108) (lb := #[.pointer (some ⟨wq.heap.size + 1 + 1, 0, none⟩)]) rfl trivial (enters_of Try.func108 (by kernel_rfl) rfl)
    (seqAll_stops 8 (wq.heap.size + 1 + 1) (wq.heap.size + 1 + 1) (wq.heap.size + 1 + 1 + 1) p (by decide) hp W0 q1 ⟨Nat.le_refl _, Nat.lt_succ_self _⟩ (by omega)) btw_trans (btw_putObj (by omega)) (Below.refl _ _) (fun _ => rfl)
    (fun pre W => (W.ownsMap Try.prog 30 (Go.plainElem Try.prog 4) wq.heap.size pre.length (setL (linesR p a1 a2 (pre.map toP))) ∧ (Btw 0 wq.heap.size W0 W ∧ Btw (wq.heap.size + 1) (wq.heap.size + 1 + 1 + 1) W0 W)) ∧ Below w.heap.size w W)
    (fun _ _ _ => False)
    (OwnFrom.and (OwnFrom.and (map_ownL (by omega) _ _) (OwnFrom.and (btw_own (by omega)) (btw_own (by omega)))) (ownFrom_below (Nat.le_refl _) (by omega)))
    (fun _ _ _ _ _ hs _ _ => hs)
    ⟨⟨hmap, btw_refl _ _ _, btw_refl _ _ _⟩, hB0⟩
    (fun x a' W => ∃ Bx, W0.heap.size ≤ Bx ∧ Box2 W Bx 25 (toP x) ∧ a' = { tmps := #[.int .i64 p, .agg #[.int .i64 a1, .int .i64 a2], .pointer (some ⟨w.heap.size, 0, none⟩), .pointer (some ⟨w.heap.size + 1, 0, none⟩), .slice none 0 0, .int .i64 0, .int .i64 0, .pointer (some ⟨wq.heap.size + 1, 0, none⟩), .pointer (some ⟨Bx, 0, none⟩), .int .i64 p, .int .i64 p, .agg #[.int .i64 a1, .int .i64 a2], .slice (some ⟨w.heap.size + 1 + 1, 0, none⟩) 1 1, .bool true, .int .i64 0, .int .i64 0, .bool false, undef, .map (some wq.heap.size), .int .i64 p, .func (.func 108) #[] #[.pointer (some ⟨wq.heap.size + 1 + 1, 0, none⟩)], .agg #[.int .i64 (x.1.val : Int), .int .i64 (x.2.val : Int)], undef, undef, undef, undef, undef, undef, undef, undef, undef, undef, undef], defers := [] })
    (fun x a' _ X Y row hs hg hr => by obtain ⟨Bx, h1, h2, h3⟩ := hs; exact ⟨Bx, h1, box2_own Bx W0.heap.size 25 (toP x) () X Y row h2 hg hr, h3⟩)
    ?assign ?body ?done ?stop
  case assign =>
    rintro l pre x W K ⟨⟨hm, hb1, hb2⟩, hB⟩ hK
    simp only [ptV, toP]
    gi_wp2
    have hs0 := hb1.1
    exact hK _ _ ((KeepsOthers.alloc _ _).from _) (btw_alloc _ _ (by omega)) ⟨⟨hm.kept (World.grownBy_alloc _ _ none) (by simp), btw_trans hb1 (btw_alloc _ _ (by omega)), btw_trans hb2 (btw_alloc _ _ (by omega))⟩, hB.alloc hB.size _⟩ ⟨W.heap.size, by omega, box2_new W _ (toP x), rfl⟩
  case body =>
    rintro l pre x a' W hl ⟨r, hr⟩ ⟨⟨hm, hb1, hb2⟩, hB⟩ ⟨Bx, hBx, hX, rfl⟩ hlt
    have hX1 := box2_cell1 hX
    have hX2 := box2_cell2 hX
    have hXl := World.block_lt_of_cell? W ⟨Bx, 0, none⟩ hX1
    have hs0 := hb1.1
    have c0 := (btw_cell hb2 (Nat.le_refl _) (by omega) 0).trans q0
    have c2 := (btw_cell hb1 (Nat.zero_le _) (by omega) 0).trans q2
    have c3 := (btw_cell hb1 (Nat.zero_le _) (by omega) 0).trans q3
    have c4 := (btw_cell hb1 (Nat.zero_le _) (by omega) 1).trans q4
    obtain ⟨⟨x1, hx1⟩, ⟨x2, hx2⟩⟩ := x
    simp only [toP] at hX1 hX2
    have hSN : wq.heap.size + 1 < W.heap.size := by omega
    have hmx : Try.prog.follows .mixedOrders = true := by kernel_rfl
    have hd1 : 1 ≤ 9 - 1 - 1 := by decide
    have hle : (pre ++ [((⟨x1, hx1⟩, ⟨x2, hx2⟩) : Pt32)]).length = pre.length + 1 := by simp
    have HL := Lib.hid hle
    clear hle
    have hmp : (pre ++ [((⟨x1, hx1⟩, ⟨x2, hx2⟩) : Pt32)]).map toP = pre.map toP ++ [((x1 : Int), (x2 : Int))] := by rw [List.map_append]; rfl
    have HM := Lib.hid hmp
    clear hmp
    rcases bool_ways ((x1 : Int) == a1 && (x2 : Int) == a2) with ht | ht
    · have hth := fun w' => implThroughR_any p a1 a2 (x1 : Int) (x2 : Int) w' hp (by omega) (by omega) (by omega) (by omega)
      obtain ⟨t1, h1⟩ : ∃ v, v = tr1 p a1 a2 (x1 : Int) (x2 : Int) := ⟨_, rfl⟩
      obtain ⟨t2, h2⟩ : ∃ v, v = tr2 p a1 a2 (x1 : Int) (x2 : Int) := ⟨_, rfl⟩
      obtain ⟨t3, h3⟩ : ∃ v, v = tr3 p a1 a2 (x1 : Int) (x2 : Int) := ⟨_, rfl⟩
      have hrt : LnR (t1, t2, t3) := by
        have r1 := tr1_r a1 a2 (x1 : Int) (x2 : Int) hp
        have r2 := tr2_r a1 a2 (x1 : Int) (x2 : Int) hp
        have r3 := tr3_r a1 a2 (x1 : Int) (x2 : Int) hp
        rw [← h1] at r1; rw [← h2] at r2; rw [← h3] at r3
        exact ⟨by simp only; omega, by simp only; omega, by simp only; omega⟩
      have hS1 : linesR p a1 a2 (pre.map toP ++ [((x1 : Int), (x2 : Int))]) = linesR p a1 a2 (pre.map toP) ++ [(t1, t2, t3)] := by rw [linesR_yes _ ht, h1, h2, h3]; rfl
      have HS1 := Lib.hid hS1
      clear hS1
      rw [← h1, ← h2, ← h3] at hth
      have HTH := Lib.hid hth
      have hkey : keyOf Try.prog 30 (.agg #[.int .i64 t1, .int .i64 t2, .int .i64 t3]) = some (klL t1 t2 t3) := keyOf_ln hrt
      have HK := Lib.hid hkey
      have hlm : pre.length < maxLen := by have := HSQ.out; unfold maxLen; omega
      have HLM := Lib.hid hlm
      clear hth h1 h2 h3 hrt hkey hlm
      gi_wp2_with fail
      gi_region_with_o (refine ⟨trivial, ?_⟩; gi_at_call 92; refine (CallsIn.inRound l (callsIn_wide.2 (HTH.out _))).mono ?_; rintro e wq1 ⟨rfl, hB1⟩; have k0 := (cell_back hB1 (by first | exact hSN | (simp; omega)) 0).trans (by first | exact c0 | exact kdrew c0); have hWq : Below W.heap.size W wq1 := (by first | exact bfromdrew hB1 | exact hB1); have hm1 := hm.kept (below_grown hWq) (by simp); obtain ⟨w2, hrun, hm2, hg2⟩ := hm1.update lnLaw Try.underlying116 HLM.out HK.out (Go.plainElem_bool Try.underlying4 true); clear hm1)
      all_goals
        have hu := hg2.size
        have hs1 := hWq.size
        have hb1' := btw_trans hb1 (btw_below (lo := 0) hWq (by omega))
        have hb2' := btw_trans hb2 (btw_below (lo := wq.heap.size + 1) hWq (by omega))
        have hBw := bthen hB hWq
        refine ⟨((KeepsOthers.of_grownBy (row := none) (below_grown hWq) (fun j o e => by cases e)).from _).trans (KeepsFrom.of_grownBy hg2 (fun j e => by cases e; omega)), btw_trans (btw_below hWq (by omega)) (btw_grown hg2 (by omega) (fun g e => by cases e; exact .inl (by omega))), ⟨⟨?_, btw_trans hb1' (btw_grown hg2 (by omega) (fun g e => by cases e; exact .inr (by omega))), btw_trans hb2' (btw_grown hg2 (by omega) (fun g e => by cases e; exact .inl (by omega)))⟩, hBw.grown hg2 (by have := hBw.size; omega) (fun g e => by cases e; omega)⟩⟩
        rw [HM.out, HS1.out, HL.out, setL_snoc]; exact hm2
    · gi_wp2
      refine ⟨KeepsFrom.refl _ _, btw_refl _ _ _, ⟨⟨?_, hb1, hb2⟩, hB⟩⟩
      rw [HM.out, linesR_no _ ht, HL.out]; exact hm.mono (by omega)
  case done =>
    rintro D ys W hD rfl ⟨⟨hm, hb1, hb2⟩, hB⟩ hK
    have c0 := (btw_cell hb2 (Nat.le_refl _) (by omega) 0).trans q0
    rw [allF_back (m := p.toNat) (x := p.toNat) (by omega) (by omega)] at hm
    obtain ⟨hS, hN1, hN2, hF⟩ := lines_facts hp rg.1 rg.2
    have hDl : D < W.heap.size := (Array.getElem?_eq_some_iff.1 hK).1
    go_wp2_with fail
    refine Calls.mono (keysOfLn_any _ _) ?_
    rintro e wk ⟨rfl, rfl⟩
    go_wp2_with fail
    refine Calls.mono (sortedLn _ _ (enters_of Try.func113 (by kernel_rfl) rfl) _ _ _ hN1 hN2 _ (keysLn_stops hS 8 W.heap.size wq.heap.size _ (by decide) (W.alloc (.cells #[.map (some wq.heap.size)] 116)) (by simp) (kfresh rfl rfl) (hm.kept (World.grownBy_alloc _ _ none) (by simp)))) ?_
    rintro e wy ⟨vy, dy, sy, rfl, hsy, hpy, hoy, hwy, hBy⟩
    have hdy := hF dy sy hsy hpy hoy
    rw [hdy] at hwy
    have hBw : Below W.heap.size W wy := bthen (balloc (Below.refl _ _) _) hBy
    have hKy : wy.heap[D]? = some (.deferred (some [])) := (hBw.block D hDl).trans hK
    have hBz := bthen hB hBw
    have hWz := hB.size
    clear hS hN1 hN2 hF hsy hpy hoy hdy hm
    go_wp2
    refine ⟨by simp, .inl ⟨_, _, rfl, run_takeDeferred hKy, ?_⟩⟩
    have hkept : (wy.putObj D (.deferred none)).ownsRow w.heap.size 30 3 vy dy.size (ints (flat3 (pencil p a1 a2 p.toNat))) := by
      refine own_base (base := (W.alloc (.cells #[.map (some wq.heap.size)] 116)).heap.size) (hwy.kept (grownBy_putObj' wy D (.deferred none)) ?_) (by simp; omega)
      rcases hwy.2 with ⟨hv, _⟩ | ⟨g, cap, cur, hv, hge, _⟩
      · rw [hv]; exact .inl rfl
      · rw [hv]; refine .inr fun e' => ?_
        simp [Value.ownBlock] at e'
        simp at hge
        omega
    exact ⟨.tuple #[vy, .int .i64 0], by simp [results, Try.results59, go_sem], slicePost_mk hkept (hBz.trans (belowK_b (w := w) (Nat.le_refl _) wy D _ _ (by omega) hKy rfl rfl))⟩
  case stop =>
    rintro D c pre W _ _ h _
    exact h.elim

end Go.Proofs.Ytmpgpmcmhbpjeaa
