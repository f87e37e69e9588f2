/-
  impl.pointsAt: the points at a quadrance, as a set.
-/
import Derived.Test.YtibfbdgenamlkaaMgq0
import Derived.Test.YtibfbdgenamlkaaImplProdq
import Derived.Maps.OwnIn
import Derived.TacticsIn
import Derived.RegionIn
import Derived.Shelf.RegionOpen

namespace Go.Proofs.Ytibfbdgenamlkaa
open Go.RowKit Go.Shelf

attribute [local go_sem] Oper.semAt_some

def SetMade (xs : List (Int × Int)) (w : World) (e : Ending) (w' : World) : Prop :=
  ∃ B n, e = .returned (.map (some B)) ∧ w'.ownsMap Try.prog 26 (Go.plainElem Try.prog 4) B n (setD xs) ∧ n ≤ 961 ∧ Below w.heap.size w w'
/-- The same, and where the set lies. -/
def SetMadeB (xs : List (Int × Int)) (w : World) (e : Ending) (w' : World) : Prop :=
  ∃ B n, w.heap.size ≤ B ∧ e = .returned (.map (some B)) ∧ w'.ownsMap Try.prog 26 (Go.plainElem Try.prog 4) B n (setD xs) ∧ n ≤ 961 ∧ Below w.heap.size w w'
theorem map_own {β : Type} {P : Program} {k : TypeId} {R : Value → Option (DataW Unit × List MemPlace)} {b C : Nat} (hb : b < C) (n : β → Nat) (D : β → DataW Unit) : OwnFrom C (fun s W => W.ownsMap P k R b (n s) (D s)) := fun _ _ _ _ hs hg hr =>
  hs.kept hg (fun e => by have := (hr _ e.symm).1; omega)


set_option maxRecDepth 100000 in
set_option maxRecDepth 20000 in
set_option maxHeartbeats 4000000 in
theorem pointsAtB_any (p col a1 a2 q : Int) (w : World) (hp : isP p = true) (hc : colB col = true) (ha1 : 0 ≤ a1 ∧ a1 ≤ 31) (ha2 : 0 ≤ a2 ∧ a2 ≤ 31) :
    Calls Try.prog 62 #[.int .i64 p, .int .i64 col, .agg #[.int .i64 a1, .int .i64 a2], .int .i64 q] w fun e w' => SetMadeB ((gridL tt2 p.toNat p.toNat).filter fun x => qdr p col a1 a2 x.1 x.2 == q) w e w' := by
  have hr := isP_range hp
  have hcr := colB_range hc
  have hmm := @run_makeMap Try.prog
  have hsq : p.toNat * p.toNat ≤ 961 := Nat.le_trans (Nat.mul_le_mul (by omega : p.toNat ≤ 31) (by omega : p.toNat ≤ 31)) (by decide)
  have HSQ := Lib.hid hsq
  clear hsq
  refine (callsIn_wide (n := 9)).1 ?_
  refine callsIn_of_wp_marks Try.func62 rfl trivial ?_ rfl
  simp only [Try.ntmps62, List.size_toArray, List.length_cons, List.length_nil, Nat.reduceAdd, Nat.reduceSub, Array.replicate_succ, Array.replicate_zero, List.push_toArray, List.append_toArray, List.nil_append, List.cons_append]
  gi_wp2_with fail
  refine ⟨trivial, CallsIn.mono (callsIn_wide.2 (allPoints_any _ _)) ?_⟩
  rintro e w' ⟨rfl, rfl⟩
  gi_wp2_with fail
  have q0 : (((((((w.alloc (.cells #[.int .i64 p] 2)).alloc (.cells #[.int .i64 col] 2)).alloc (.cells #[.int .i64 a1, .int .i64 a2] 26)).alloc (.cells #[.int .i64 q] 2)).alloc (.map #[] 0)).alloc (.cells #[.map (some (w.heap.size + 1 + 1 + 1 + 1))] 93)).alloc (.cells #[.int .i64 p] 2)).cell? ⟨w.heap.size, 0, none⟩ = some (.int .i64 p) := kalloc _ (kalloc _ (kalloc _ (kalloc _ (kalloc _ (kalloc _ (kfresh (by first | rfl | (simp; done)) rfl))))))
  have q1 : (((((((w.alloc (.cells #[.int .i64 p] 2)).alloc (.cells #[.int .i64 col] 2)).alloc (.cells #[.int .i64 a1, .int .i64 a2] 26)).alloc (.cells #[.int .i64 q] 2)).alloc (.map #[] 0)).alloc (.cells #[.map (some (w.heap.size + 1 + 1 + 1 + 1))] 93)).alloc (.cells #[.int .i64 p] 2)).cell? ⟨w.heap.size + 1, 0, none⟩ = some (.int .i64 col) := kalloc _ (kalloc _ (kalloc _ (kalloc _ (kalloc _ (kfresh (by first | rfl | (simp; done)) rfl)))))
  have q2 : (((((((w.alloc (.cells #[.int .i64 p] 2)).alloc (.cells #[.int .i64 col] 2)).alloc (.cells #[.int .i64 a1, .int .i64 a2] 26)).alloc (.cells #[.int .i64 q] 2)).alloc (.map #[] 0)).alloc (.cells #[.map (some (w.heap.size + 1 + 1 + 1 + 1))] 93)).alloc (.cells #[.int .i64 p] 2)).cell? ⟨w.heap.size + 1 + 1, 0, none⟩ = some (.int .i64 a1) := kalloc _ (kalloc _ (kalloc _ (kalloc _ (kfresh (by first | rfl | (simp; done)) rfl))))
  have q3 : (((((((w.alloc (.cells #[.int .i64 p] 2)).alloc (.cells #[.int .i64 col] 2)).alloc (.cells #[.int .i64 a1, .int .i64 a2] 26)).alloc (.cells #[.int .i64 q] 2)).alloc (.map #[] 0)).alloc (.cells #[.map (some (w.heap.size + 1 + 1 + 1 + 1))] 93)).alloc (.cells #[.int .i64 p] 2)).cell? ⟨w.heap.size + 1 + 1, 1, none⟩ = some (.int .i64 a2) := kalloc _ (kalloc _ (kalloc _ (kalloc _ (kfresh (by first | rfl | (simp; done)) rfl))))
  have q4 : (((((((w.alloc (.cells #[.int .i64 p] 2)).alloc (.cells #[.int .i64 col] 2)).alloc (.cells #[.int .i64 a1, .int .i64 a2] 26)).alloc (.cells #[.int .i64 q] 2)).alloc (.map #[] 0)).alloc (.cells #[.map (some (w.heap.size + 1 + 1 + 1 + 1))] 93)).alloc (.cells #[.int .i64 p] 2)).cell? ⟨w.heap.size + 1 + 1 + 1, 0, none⟩ = some (.int .i64 q) := kalloc _ (kalloc _ (kalloc _ (kfresh (by first | rfl | (simp; done)) rfl)))
  have q5 : (((((((w.alloc (.cells #[.int .i64 p] 2)).alloc (.cells #[.int .i64 col] 2)).alloc (.cells #[.int .i64 a1, .int .i64 a2] 26)).alloc (.cells #[.int .i64 q] 2)).alloc (.map #[] 0)).alloc (.cells #[.map (some (w.heap.size + 1 + 1 + 1 + 1))] 93)).alloc (.cells #[.int .i64 p] 2)).cell? ⟨w.heap.size + 1 + 1 + 1 + 1 + 1, 0, none⟩ = some (.map (some (w.heap.size + 1 + 1 + 1 + 1))) := kalloc _ (kfresh (by first | rfl | (simp; done)) rfl)
  have q6 : (((((((w.alloc (.cells #[.int .i64 p] 2)).alloc (.cells #[.int .i64 col] 2)).alloc (.cells #[.int .i64 a1, .int .i64 a2] 26)).alloc (.cells #[.int .i64 q] 2)).alloc (.map #[] 0)).alloc (.cells #[.map (some (w.heap.size + 1 + 1 + 1 + 1))] 93)).alloc (.cells #[.int .i64 p] 2)).cell? ⟨w.heap.size + 1 + 1 + 1 + 1 + 1 + 1, 0, none⟩ = some (.int .i64 p) := kfresh (by first | rfl | (simp; done)) rfl
  have hmap := ((World.ownsMap_made (H := Unit) ((((w.alloc (.cells #[.int .i64 p] 2)).alloc (.cells #[.int .i64 col] 2)).alloc (.cells #[.int .i64 a1, .int .i64 a2] 26)).alloc (.cells #[.int .i64 q] 2)) Try.prog 26 (Go.plainElem Try.prog 4)).kept (World.grownBy_alloc _ (.cells #[.map (some (w.heap.size + 1 + 1 + 1 + 1))] 93) none) (by simp)).kept (World.grownBy_alloc _ (.cells #[.int .i64 p] 2) none) (by simp)
  rw [show ((((w.alloc (.cells #[.int .i64 p] 2)).alloc (.cells #[.int .i64 col] 2)).alloc (.cells #[.int .i64 a1, .int .i64 a2] 26)).alloc (.cells #[.int .i64 q] 2)).heap.size = w.heap.size + 1 + 1 + 1 + 1 from by simp] at hmap
  have hB0 : Below w.heap.size w (((((((w.alloc (.cells #[.int .i64 p] 2)).alloc (.cells #[.int .i64 col] 2)).alloc (.cells #[.int .i64 a1, .int .i64 a2] 26)).alloc (.cells #[.int .i64 q] 2)).alloc (.map #[] 0)).alloc (.cells #[.map (some (w.heap.size + 1 + 1 + 1 + 1))] 93)).alloc (.cells #[.int .i64 p] 2)) := by (repeat (first | exact Below.refl _ _ | refine balloc ?_ _ | refine bdrewN ?_ _ | refine Below.drew ?_ | refine Below.setCell ?_ (by first | (simp; done) | (simp; omega)) _))
  have hsz : (((((((w.alloc (.cells #[.int .i64 p] 2)).alloc (.cells #[.int .i64 col] 2)).alloc (.cells #[.int .i64 a1, .int .i64 a2] 26)).alloc (.cells #[.int .i64 q] 2)).alloc (.map #[] 0)).alloc (.cells #[.map (some (w.heap.size + 1 + 1 + 1 + 1))] 93)).alloc (.cells #[.int .i64 p] 2)).heap.size = w.heap.size + 1 + 1 + 1 + 1 + 1 + 1 + 1 := by simp
  obtain ⟨W0, hW0⟩ : ∃ W0, W0 = ((((((w.alloc (.cells #[.int .i64 p] 2)).alloc (.cells #[.int .i64 col] 2)).alloc (.cells #[.int .i64 a1, .int .i64 a2] 26)).alloc (.cells #[.int .i64 q] 2)).alloc (.map #[] 0)).alloc (.cells #[.map (some (w.heap.size + 1 + 1 + 1 + 1))] 93)).alloc (.cells #[.int .i64 p] 2) := ⟨_, rfl⟩
  rw [← hW0] at q0 q1 q2 q3 q4 q5 q6 hmap hB0 hsz ⊢
  clear hW0
  refine wpIn_rangeFunc_ownH rfl (by decide) (gf := 95) (lb := #[.pointer (some ⟨w.heap.size + 1 + 1 + 1 + 1 + 1 + 1, 0, none⟩)]) rfl trivial (enters_of Try.func95 (by kernel_rfl) rfl)
    (seqAll_stops 8 (w.heap.size + 1 + 1 + 1 + 1 + 1 + 1) (w.heap.size + 1 + 1 + 1 + 1 + 1 + 1) (w.heap.size + 1 + 1 + 1 + 1 + 1 + 1 + 1) p (by decide) hp W0 q6 ⟨Nat.le_refl _, Nat.lt_succ_self _⟩ (by omega)) btw_trans (btw_putObj (by omega)) (Below.refl _ _) (fun _ => rfl)
    (fun pre W => (W.ownsMap Try.prog 26 (Go.plainElem Try.prog 4) (w.heap.size + 1 + 1 + 1 + 1) pre.length (setD ((pre.map toP).filter (fun x => qdr p col a1 a2 x.1 x.2 == q))) ∧ (Btw 0 (w.heap.size + 1 + 1 + 1 + 1) W0 W ∧ Btw (w.heap.size + 1 + 1 + 1 + 1 + 1) (w.heap.size + 1 + 1 + 1 + 1 + 1 + 1 + 1) W0 W)) ∧ Below w.heap.size w W)
    (fun _ _ _ => False)
    (OwnFrom.and (OwnFrom.and (map_own (by omega) _ _) (OwnFrom.and (btw_own (by omega)) (btw_own (by omega)))) (ownFrom_below (Nat.le_refl _) (by omega)))
    (fun _ _ _ _ _ hs _ _ => hs)
    ⟨⟨hmap, btw_refl _ _ _, btw_refl _ _ _⟩, hB0⟩
    (fun x a' W => ∃ Bx, W0.heap.size ≤ Bx ∧ Box2 W Bx 26 (toP x) ∧ a' = { tmps := #[.int .i64 p, .int .i64 col, .agg #[.int .i64 a1, .int .i64 a2], .int .i64 q, .pointer (some ⟨w.heap.size, 0, none⟩), .pointer (some ⟨w.heap.size + 1, 0, none⟩), .pointer (some ⟨w.heap.size + 1 + 1, 0, none⟩), .pointer (some ⟨w.heap.size + 1 + 1 + 1, 0, none⟩), .map none, .pointer (some ⟨w.heap.size + 1 + 1 + 1 + 1 + 1, 0, none⟩), .pointer (some ⟨Bx, 0, none⟩), .map (some (w.heap.size + 1 + 1 + 1 + 1)), .int .i64 p, .func (.func 95) #[] #[.pointer (some ⟨w.heap.size + 1 + 1 + 1 + 1 + 1 + 1, 0, none⟩)], .agg #[.int .i64 (x.1.val : Int), .int .i64 (x.2.val : Int)], undef, undef, undef, undef, undef, undef, undef, undef, undef, undef], defers := [] })
    (fun x a' _ X Y row hs hg hr => by obtain ⟨Bx, h1, h2, h3⟩ := hs; exact ⟨Bx, h1, box2_own Bx W0.heap.size 26 (toP x) () X Y row h2 hg hr, h3⟩)
    ?assign ?body ?done ?stop
  case assign =>
    rintro l pre x W K ⟨⟨hm, hb1, hb2⟩, hB⟩ hK
    simp only [ptV, toP]
    gi_wp2
    have hs0 := hb1.1
    exact hK _ _ ((KeepsOthers.alloc _ _).from _) (btw_alloc _ _ (by omega)) ⟨⟨hm.kept (World.grownBy_alloc _ _ none) (by simp), btw_trans hb1 (btw_alloc _ _ (by omega)), btw_trans hb2 (btw_alloc _ _ (by omega))⟩, hB.alloc hB.size _⟩ ⟨W.heap.size, hs0, box2_new W _ (toP x), rfl⟩
  case body =>
    rintro l pre x a' W hl ⟨r, hr⟩ ⟨⟨hm, hb1, hb2⟩, hB⟩ ⟨Bx, hBx, hX, rfl⟩ hlt
    have hX1 := box2_cell1 hX
    have hX2 := box2_cell2 hX
    have hXl := World.block_lt_of_cell? W ⟨Bx, 0, none⟩ hX1
    have hs0 := hb1.1
    have c0 := (btw_cell hb1 (Nat.zero_le _) (by omega) 0).trans q0
    have c1 := (btw_cell hb1 (Nat.zero_le _) (by omega) 0).trans q1
    have c2 := (btw_cell hb1 (Nat.zero_le _) (by omega) 0).trans q2
    have c3 := (btw_cell hb1 (Nat.zero_le _) (by omega) 1).trans q3
    have c4 := (btw_cell hb1 (Nat.zero_le _) (by omega) 0).trans q4
    have c5 := (btw_cell hb2 (Nat.le_refl _) (by omega) 0).trans q5
    obtain ⟨⟨x1, hx1⟩, ⟨x2, hx2⟩⟩ := x
    simp only [toP] at hX1 hX2
    have hS3 : w.heap.size + 1 + 1 + 1 < W.heap.size := by omega
    have hS5 : w.heap.size + 1 + 1 + 1 + 1 + 1 < W.heap.size := by omega
    have hmx : Try.prog.follows .mixedOrders = true := by kernel_rfl
    have hd1 : 1 ≤ 9 - 1 - 1 := by decide
    have hqd := fun w' => implQuad_any p col a1 a2 (x1 : Int) (x2 : Int) w' hp hc ha1 ha2 (by omega) (by omega)
    obtain ⟨v, hv⟩ : ∃ v, v = qdr p col a1 a2 (x1 : Int) (x2 : Int) := ⟨_, rfl⟩
    rw [← hv] at hqd
    have HV := Lib.hid hv
    clear hv
    have HQD := Lib.hid hqd
    clear hqd
    gi_wp2
    refine Code.wpIn_mono (Q := fun e a' w' => e = .normal ∧ a' = { tmps := #[.int .i64 p, .int .i64 col, .agg #[.int .i64 a1, .int .i64 a2], .int .i64 q, .pointer (some ⟨w.heap.size, 0, none⟩), .pointer (some ⟨w.heap.size + 1, 0, none⟩), .pointer (some ⟨w.heap.size + 1 + 1, 0, none⟩), .pointer (some ⟨w.heap.size + 1 + 1 + 1, 0, none⟩), .map none, .pointer (some ⟨w.heap.size + 1 + 1 + 1 + 1 + 1, 0, none⟩), .pointer (some ⟨Bx, 0, none⟩), .map (some (w.heap.size + 1 + 1 + 1 + 1)), .int .i64 p, .func (.func 95) #[] #[.pointer (some ⟨w.heap.size + 1 + 1 + 1 + 1 + 1 + 1, 0, none⟩)], .agg #[.int .i64 (x1 : Int), .int .i64 (x2 : Int)], .int .i64 p, .int .i64 col, .agg #[.int .i64 a1, .int .i64 a2], .agg #[.int .i64 (x1 : Int), .int .i64 (x2 : Int)], .int .i64 v, .int .i64 q, .bool (v == q), undef, undef, undef], defers := [] } ∧ Below W.heap.size W w') ?_ ?_
    · rintro e a' w' ⟨rfl, rfl, hB1⟩
      have k5 := (cell_back hB1 hS5 0).trans c5
      have k6 := (cell_back hB1 hXl 0).trans hX1
      have k7 := (cell_back hB1 hXl 1).trans hX2
      have hm1 := hm.kept ⟨hB1.os, hB1.tape, hB1.output, hB1.size, fun k hk _ => hB1.block k hk⟩ (row := none) (by simp)
      have hs1 := hB1.size
      have hb1' := btw_trans hb1 (btw_below (lo := 0) hB1 (by omega))
      have hb2' := btw_trans hb2 (btw_below (lo := w.heap.size + 1 + 1 + 1 + 1 + 1) hB1 (by omega))
      have hBw := bthen hB hB1
      have hfil : ((pre ++ [((⟨x1, hx1⟩, ⟨x2, hx2⟩) : Pt32)]).map toP).filter (fun x => qdr p col a1 a2 x.1 x.2 == q) = (pre.map toP).filter (fun x => qdr p col a1 a2 x.1 x.2 == q) ++ (if (v == q) = true then [((x1 : Int), (x2 : Int))] else []) := by
        rw [List.map_append, List.filter_append]
        congr 1
        simp only [List.map_cons, List.map_nil, toP, List.filter_cons, List.filter_nil]
        rw [← HV.out]
      have HF := Lib.hid hfil
      clear hfil
      have hle : (pre ++ [((⟨x1, hx1⟩, ⟨x2, hx2⟩) : Pt32)]).length = pre.length + 1 := by simp
      have HL := Lib.hid hle
      clear hle
      rcases bool_ways (v == q) with ht | ht
      · gi_wp2
        have HF2 := HF.out
        rw [if_neg (by rw [ht]; decide), List.append_nil] at HF2
        refine ⟨(KeepsOthers.of_grownBy (row := none) ⟨hB1.os, hB1.tape, hB1.output, hB1.size, fun k hk _ => hB1.block k hk⟩ (fun j o e => by cases e)).from _, btw_below hB1 (by omega), ⟨⟨?_, hb1', hb2'⟩, hBw⟩⟩
        rw [HF2, HL.out]; exact hm1.mono (by omega)
      · gi_wp2_with (gi_at_mapUpdate; refine wpListIn_mapUpdate_own _ rfl _ _ _ 93 rfl 26 4 ptLaw Try.underlying93 _ (w.heap.size + 1 + 1 + 1 + 1) pre.length _ rfl hm1 (by have := HSQ.out; unfold maxLen; omega) _ _ _ rfl rfl (keyOf_pt (by omega) (by omega)) _ [] (Go.plainElem_bool Try.underlying4 true) ?_)
        intro u hm2 hg2
        gi_wp2
        have HF2 := HF.out
        rw [if_pos ht] at HF2
        have hu := hg2.size
        refine ⟨((KeepsOthers.of_grownBy (row := none) ⟨hB1.os, hB1.tape, hB1.output, hB1.size, fun k hk _ => hB1.block k hk⟩ (fun j o e => by cases e)).from _).trans (KeepsFrom.of_grownBy hg2 (fun j e => by cases e; omega)), btw_trans (btw_below hB1 (by omega)) (btw_grown hg2 (by omega) (fun g e => by cases e; exact .inl (by omega))), ⟨⟨?_, btw_trans hb1' (btw_grown hg2 (by omega) (fun g e => by cases e; exact .inr (by omega))), btw_trans hb2' (btw_grown hg2 (by omega) (fun g e => by cases e; exact .inl (by omega)))⟩, hBw.grown hg2 (by have := hBw.size; omega) (fun g e => by cases e; omega)⟩⟩
        rw [HF2, HL.out, setD_snoc]; exact hm2
    · gi_region_with_o (refine ⟨trivial, ?_⟩; gi_at_call 63; refine (CallsIn.inRound l (callsIn_wide.2 (HQD.out _))).mono ?_; rintro e wq ⟨rfl, hB1⟩; have k4 := (cell_back hB1 (by first | exact hS3 | (simp; omega)) 0).trans (by first | exact c4 | exact kdrew c4))
      all_goals exact ⟨rfl, rfl, by first | with_reducible assumption | exact below_drew (by with_reducible assumption) | exact Below.drew (by with_reducible assumption) | exact Below.drew (below_drew (by with_reducible assumption))⟩
  case done =>
    rintro D ys W hD rfl ⟨⟨hm, hb1, hb2⟩, hB⟩ hK
    have c5 := (btw_cell hb2 (Nat.le_refl _) (by omega) 0).trans q5
    gi_wp2
    refine ⟨by simp, .inl ⟨_, _, rfl, run_takeDeferred hK, ?_⟩⟩
    have e1 := allF_back (m := p.toNat) (x := p.toNat) (by omega) (by omega)
    have e2 := allF_len p.toNat p.toNat 0
    have hsq := HSQ.out
    rw [e1] at hm
    exact ⟨_, results_tmp rfl _ _ _, _, _, by omega, rfl, hm.kept (grownBy_putObj' W D (.deferred none)) (by intro e; simp at e; omega), by rw [e2]; omega, hB.trans (belowK_b (w := w) (Nat.le_refl _) W D _ _ (by omega) hK rfl rfl)⟩
  case stop =>
    rintro D c pre W _ _ h _
    exact h.elim

theorem pointsAt_any (p col a1 a2 q : Int) (w : World) (hp : isP p = true) (hc : colB col = true) (ha1 : 0 ≤ a1 ∧ a1 ≤ 31) (ha2 : 0 ≤ a2 ∧ a2 ≤ 31) :
    Calls Try.prog 62 #[.int .i64 p, .int .i64 col, .agg #[.int .i64 a1, .int .i64 a2], .int .i64 q] w fun e w' => SetMade ((gridL tt2 p.toNat p.toNat).filter fun x => qdr p col a1 a2 x.1 x.2 == q) w e w' := by
  refine Calls.mono (pointsAtB_any p col a1 a2 q w hp hc ha1 ha2) ?_
  rintro e w' ⟨B, n, _, h⟩
  exact ⟨B, n, h⟩

end Go.Proofs.Ytibfbdgenamlkaa
