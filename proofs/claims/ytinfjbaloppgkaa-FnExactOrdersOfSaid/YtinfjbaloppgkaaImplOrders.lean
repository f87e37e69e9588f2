/-
  impl.ordersAndCounts: the orders that come, and how many numbers have each.
-/
import Derived.Test.YtinfjbaloppgkaaOrdKeys
import Derived.Test.YtinfjbaloppgkaaOwnLow
namespace Go.Proofs.Ytinfjbaloppgkaa
open Go.RowKit Go.ChangeShapes

/-- A pair of slices that a call has made. -/
def PairMade (L M : List Int) (w : World) (e : Ending) (w' : World) : Prop :=
  ∃ v n u m, e = .returned (.agg #[v, u]) ∧ w'.ownsRow w.heap.size 2 1 v n (ints L) ∧ w'.ownsRow w.heap.size 2 1 u m (ints M) ∧ Below w.heap.size w w' ∧ Apart v u
theorem nuL_take {p : Int} {L : List Int} {j : Nat} (h : j < L.length) : nuL p (L.take (j + 1)) = nuL p (L.take j) ++ [((grpL p p.toNat (L.getD j 0)).length : Int)] := by
  rw [show L.take (j + 1) = L.take j ++ [L.getD j 0] from by rw [← List.take_append_getElem h]; simp [List.getD_eq_getElem?_getD, List.getElem?_eq_getElem h]]
  unfold nuL
  rw [List.map_append]
  rfl
theorem or_r {p : Int} (hp : isP p = true) {j : Nat} (h : j < (orL p (4 * p.toNat + 4)).length) : 0 ≤ (orL p (4 * p.toNat + 4)).getD j 0 ∧ (orL p (4 * p.toNat + 4)).getD j 0 ≤ 1000 := by
  have hr := isP_range hp
  have hm : (orL p (4 * p.toNat + 4)).getD j 0 ∈ orL p (4 * p.toNat + 4) := by
    rw [List.getD_eq_getElem?_getD, List.getElem?_eq_getElem h]
    exact List.getElem_mem _
  obtain ⟨t, h1, _, h3⟩ := mem_upTo.1 hm
  omega

set_option linter.unusedSimpArgs false in
set_option linter.unusedVariables false in
set_option maxRecDepth 20000 in
set_option maxHeartbeats 4000000 in
theorem implOrders_any (p : Int) (w : World) (hp : isP p = true) :
    Calls Try.prog 70 #[.int .i64 p] w fun e w' => PairMade (orL p (4 * p.toNat + 4)) (nuL p (orL p (4 * p.toNat + 4))) w e w' := by
  have hr := isP_range hp
  obtain ⟨i0, hi, hz0, hz1, hz2⟩ := info_parts infoInt1
  have hqm : p.toNat ≤ 31 := by omega
  go_enter Try.func70, Try.ntmps70
  go_wp2_with fail
  refine Calls.mono (implGroups_any p _ hp) ?_
  rintro e w1 ⟨rfl, hown, hB, hws⟩
  rw [show (w.alloc (.cells #[.slice none 0 0, .slice none 0 0] 56)).heap.size = w.heap.size + 1 from by simp] at hown
  have r0 : w1.cell? ⟨w.heap.size, 0, none⟩ = some (.slice none 0 0) := kcall hB (kfresh rfl rfl)
  have r1 : w1.cell? ⟨w.heap.size, 1, none⟩ = some (.slice none 0 0) := kcall hB (kfresh rfl rfl)
  have f0 : w1.frozen? ⟨w.heap.size, 0, none⟩ = false := kfro hB (by first | (simp; done) | (simp; omega)) (fallocNew rfl)
  have f1 : w1.frozen? ⟨w.heap.size, 1, none⟩ = false := kfro hB (by first | (simp; done) | (simp; omega)) (fallocNew rfl)
  have hb1 : Below w.heap.size w w1 := by (repeat (first | with_reducible exact Below.refl _ _ | with_reducible exact hB | with_reducible refine balloc ?_ _ | with_reducible refine bdrewN ?_ _ | with_reducible refine Below.drew ?_ | with_reducible refine bthen ?_ (by with_reducible assumption) | with_reducible refine Below.setCell ?_ (by first | (simp; done) | (simp; omega)) _))
  have hl1 : w.heap.size < w1.heap.size := by have := hB.size; simp at this; omega
  clear hB hws
  go_wp2_with fail
  refine Calls.mono (keys_any _ _) ?_
  rintro e w2 ⟨rfl, rfl⟩
  go_wp2_with fail
  refine Calls.mono (sorted_any p hp _ _ _ _ hown) ?_
  rintro e w3 ⟨v, rfl, ho, hB⟩
  have hB1 : Below w1.heap.size w1 w3 := bthen ((Below.refl w1.heap.size w1).alloc (Nat.le_refl _) (.cells #[.map (some (w.heap.size + 1))] 54)) (by rw [show (w1.alloc (.cells #[.map (some (w.heap.size + 1))] 54)).heap.size = w1.heap.size + 1 from by simp]; exact hB)
  have hG := Lib.hid (groups_call hown hB1)
  have hlen : (orL p (4 * p.toNat + 4)).length ≤ 4 * p.toNat + 4 := upTo_le _ _
  have hor := fun j h => or_r (j := j) hp h
  have hnt := fun j h => nuL_take (p := p) (L := orL p (4 * p.toNat + 4)) (j := j) h
  obtain ⟨L, hL⟩ : ∃ L, L = orL p (4 * p.toNat + 4) := ⟨_, rfl⟩
  rw [← hL] at ho hlen hor hnt
  have HL := Lib.hid hL
  obtain ⟨n, hn⟩ : ∃ n, n = L.length := ⟨_, rfl⟩
  rw [← hn] at ho hlen hor hnt
  have HN := Lib.hid hn
  have HOR := Lib.hid hor
  have HNT := Lib.hid hnt
  clear hn hL hor hnt hown hB
  have q0 : w3.cell? ⟨w.heap.size, 0, none⟩ = some (.slice none 0 0) := (cell_old hB1 hl1 0).trans r0
  have q1 : w3.cell? ⟨w.heap.size, 1, none⟩ = some (.slice none 0 0) := (cell_old hB1 hl1 1).trans r1
  have g0 : w3.frozen? ⟨w.heap.size, 0, none⟩ = false := (hB1.frozen (p := ⟨w.heap.size, 0, none⟩) (by show w.heap.size < w1.heap.size; omega)).trans f0
  have g1 : w3.frozen? ⟨w.heap.size, 1, none⟩ = false := (hB1.frozen (p := ⟨w.heap.size, 1, none⟩) (by show w.heap.size < w1.heap.size; omega)).trans f1
  have hb3 : Below w.heap.size w w3 := bthen hb1 hB1
  have hl3 : w.heap.size < w3.heap.size := Nat.lt_of_lt_of_le hl1 hB1.size
  have hoB := own_base ho (Nat.le_trans (Nat.le_of_lt hl1) (Nat.le_succ _) : w.heap.size ≤ w1.heap.size + 1)
  have hlv := fun g hg => (ho.lt g hg)
  have HR := Lib.hid (And.intro q0 (And.intro q1 (And.intro g0 g1)))
  clear q0 q1 g0 g1 r0 r1 f0 f1
  obtain ⟨a, c, rfl⟩ : ∃ a c, v = .slice a n c := by
    rcases own_ways ho with ⟨h0, a, c, rfl⟩ | ⟨_, g, c, rfl, _⟩
    · exact ⟨a, c, by rw [h0]⟩
    · exact ⟨_, _, rfl⟩
  go_wp2_with fail
  go_loopw [5, 15] (fun u i wr => ∃ j : Nat, j ≤ n ∧ i = .int .i64 j ∧ wr.ownsRow w3.heap.size 2 1 u j (ints (nuL p (L.take j))) ∧ Below w3.heap.size w3 wr) (fun _ i _ => n - (intOf i).toNat)
  case atStart => exact ⟨0, by omega, rfl, by simpa [nuL, ints] using World.ownsRow_nil _ _ _ _, Below.refl _ _⟩
  case round =>
    obtain ⟨j, hj, rfl, hu, hbel⟩ := hrel
    by_cases hlt : j < n
    · rcases own_ways ho with ⟨h0, _⟩ | ⟨_, g, c2, hgc, hg1, hg2, _⟩
      · omega
      have hxr := HOR.out j hlt
      have HS := Lib.hid (HNT.out j hlt)
      have hcell : wr.cell? ⟨g, j, none⟩ = some (.int .i64 (L.getD j 0)) := by
        rw [hgc] at ho
        rw [cell_back hbel hg2 j, own_cell ho (by omega)]
      obtain ⟨x, hx⟩ : ∃ x, x = L.getD j 0 := ⟨_, rfl⟩
      rw [← hx] at hxr HS hcell
      clear hx
      obtain ⟨rfl, rfl⟩ : a = some ⟨g, 0, none⟩ ∧ c = c2 := by simpa using hgc
      clear hgc
      have hkey : keyOf Try.prog 2 (.int .i64 x) = some (.int .i64 x) := Maps.keyOf_int_mk Try.underlying2 (wfI (by omega))
      obtain ⟨v, zs, hrun, hat, hoi, hzl, _⟩ := (groups_call hG.out hbel).at intLaw Try.underlying54 (zeroS _) (by unfold maxLen; omega) hkey
      have hz := group_is (intLaw.key hkey) hat hoi
      subst hz
      obtain ⟨z, hz⟩ : ∃ z, z = (grpL p p.toNat x).length := ⟨_, rfl⟩
      rw [← hz] at HS hzl
      obtain ⟨a3, c3, rfl⟩ : ∃ a c, v = .slice a z c := by
        rcases own_ways hoi.1 with ⟨h0, a, c, rfl⟩ | ⟨_, g, c, rfl, _⟩
        · exact ⟨a, c, by rw [hz, h0]⟩
        · exact ⟨_, _, by rw [hz]⟩
      clear hat hoi hz hkey
      have hidx : (0 : Int) ≤ (j : Int) ∧ (j : Int) < (n : Int) := by omega
      have hsz := hbel.size
      go_wp2_with (at_builtin; refine wpList_append_own_at _ rfl _ _ 25 rfl w3.heap.size 2 i0 (.int .i64 0) 1 8 Try.underlying25 hi hz0 hz1 hz2 rfl (by decide) _ _ _ rfl (hu.alloc _) ⟨wr.heap.size, 0, none⟩ 1 1 [.int .i64 (z : Int)] rfl rfl (cell_one_new _ _ _) (int_oneCell _) (by unfold maxLen; omega) (by omega) (by simp; omega) ?_)
      intro u2 w4 hu2 hgr _ _
      have hall := (World.grownBy_alloc wr _ _).trans hgr
      have hb4 : Below w3.heap.size w3 w4 := hbel.grown hall hsz (fun g hg => (hu.lt g hg).1)
      have hu3 := own_snoc hu2 (rfl : j + 1 = j + 1)
      have HO := Lib.hid (And.intro hu3 hb4)
      clear hu hu2 hu3 hgr hall hbel hb4 hrun hcell
      go_wp2
      go_roundw
      case rel => exact ⟨j + 1, by omega, by go_num, by rw [HS.out]; exact HO.out.1, HO.out.2⟩
      case measure => simp [intOf]; omega
    · obtain rfl : j = n := by omega
      rw [List.take_of_length_le (by have := HN.out; omega)] at hu
      have k0 := (cell_old hbel hl3 0).trans HR.out.1
      have k1 := (cell_old hbel hl3 1).trans HR.out.2.1
      have m0 : wr.frozen? ⟨w.heap.size, 0, none⟩ = false := (hbel.frozen (p := ⟨w.heap.size, 0, none⟩) (by show w.heap.size < w3.heap.size; omega)).trans HR.out.2.2.1
      have m1 : wr.frozen? ⟨w.heap.size, 1, none⟩ = false := (hbel.frozen (p := ⟨w.heap.size, 1, none⟩) (by show w.heap.size < w3.heap.size; omega)).trans HR.out.2.2.2
      have hBw : Below w.heap.size w wr := bthen hb3 hbel
      have hov := own_call ho hbel
      have hvl := fun g hg => (hov.lt g hg).1
      have hul := fun g hg => (hu.lt g hg).1
      obtain ⟨a4, m4, c4, rfl⟩ := own_form hu
      have ev := own_setLow (u := .slice a4 m4 c4) (j := 1) (own_setLow (u := .slice a j c) (j := 0) (b := w.heap.size) (own_base hov (by omega : w.heap.size ≤ w1.heap.size + 1)) (fun g hg => by have := hvl g hg; omega)) (b := w.heap.size) (fun g hg => by have := hvl g hg; omega)
      have eu := own_setLow (u := .slice a4 m4 c4) (j := 1) (own_setLow (u := .slice a j c) (j := 0) (b := w.heap.size) (own_base hu (Nat.le_of_lt hl3)) (fun g hg => by have := hul g hg; omega)) (b := w.heap.size) (fun g hg => by have := hul g hg; omega)
      have eb : Below w.heap.size w ((wr.setCell ⟨w.heap.size, 0, none⟩ (.slice a j c)).setCell ⟨w.heap.size, 1, none⟩ (.slice a4 m4 c4)) := (hBw.setCell (Nat.le_refl _) _).setCell (Nat.le_refl _) _
      have c0 : ((wr.setCell ⟨w.heap.size, 0, none⟩ (.slice a j c)).setCell ⟨w.heap.size, 1, none⟩ (.slice a4 m4 c4)).cell? ⟨w.heap.size, 0, none⟩ = some (.slice a j c) := (kset2 k0 k1).1
      have c1 : ((wr.setCell ⟨w.heap.size, 0, none⟩ (.slice a j c)).setCell ⟨w.heap.size, 1, none⟩ (.slice a4 m4 c4)).cell? ⟨w.heap.size, 1, none⟩ = some (.slice a4 m4 c4) := (kset2 k0 k1).2
      have hap : Apart (.slice a j c) (.slice a4 m4 c4) := fun g h hg hh => by have h1 := (hlv g hg).2; have h2 := hul h hh; omega
      have HE := Lib.hid (And.intro ev (And.intro eu (And.intro eb hap)))
      clear ev eu eb hu hov hvl hul hbel
      go_wp2
      (refine bodyPost_ret (v := .agg #[.slice a j c, .slice a4 m4 c4]) (by simp [results, Try.results70, go_sem, c0, c1]) rfl ⟨_, _, _, _, rfl, by rw [← HL.out]; exact HE.out.1, by rw [← HL.out]; exact HE.out.2.1, HE.out.2.2⟩)

end Go.Proofs.Ytinfjbaloppgkaa
