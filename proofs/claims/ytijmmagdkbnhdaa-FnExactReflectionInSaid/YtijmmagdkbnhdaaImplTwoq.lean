/-
  impl.twoPointsOn.
-/
import Derived.Test.YtijmmagdkbnhdaaCollectPtsq
import Derived.Test.YtijmmagdkbnhdaaPointsOfq
import Derived.Test.YtijmmagdkbnhdaaSeqPtsFq
import Derived.Test.YtijmmagdkbnhdaaFlatAtq
import Derived.Deep.RegionHeld3
import Derived.Deep.DeepCutAuto
import Derived.Test.YtijmmagdkbnhdaaMgq0

namespace Go.Proofs.Ytijmmagdkbnhdaa
open Go.RowKit

theorem arrayAtN {P : Program} {t e : TypeId} (h : P.underlying t = some (.array 2 e)) (a : Option Addr) (n c : Nat) (hn : 2 ≤ n) (w : World) : (Instr.arrayAt t (.slice a n c)).run P w = .ok (.pointer a) w := by
  simp [Instr.arrayAt, run_underlying h]
  omega
theorem cmb_at0 {p : Int} (s n : Int) (hs : 0 ≤ s ∧ s < p) : cmb p s n 0 = s := by rw [cmb, Int.zero_mul, Int.add_zero, Int.emod_eq_of_lt hs.1 hs.2]
theorem cmb_at1 {p : Int} (s n : Int) (hn : 0 ≤ n ∧ n < p) : cmb p s n 1 = n := by rw [cmb, Int.one_mul, show s + (n - s) = n by omega, Int.emod_eq_of_lt hn.1 hn.2]
theorem sq_rP {p l1 l2 l3 : Int} (hp : isP p = true) : (0 ≤ sqS1 p l1 l2 l3 ∧ sqS1 p l1 l2 l3 < p) ∧ (0 ≤ sqS2 p l1 l2 l3 ∧ sqS2 p l1 l2 l3 < p) ∧ (0 ≤ sqN1 p l1 l2 l3 ∧ sqN1 p l1 l2 l3 < p) ∧ (0 ≤ sqN2 p l1 l2 l3 ∧ sqN2 p l1 l2 l3 < p) := by
  have hr := isP_range hp
  have h1 := modR (-l3) hp
  have h2 := modR (-l3 * inv p l2) hp
  have h3 := modR (-(l1 + l3) * inv p l2) hp
  unfold sqS1 sqS2 sqN1 sqN2
  cases h : (l2 == 0) <;> simp <;> omega

set_option maxRecDepth 20000 in
set_option maxHeartbeats 2000000 in
theorem twoPts_any (p l1 l2 l3 : Int) (w : World) (hp : isP p = true) (hl1 : 0 ≤ l1 ∧ l1 < p) (hl2 : 0 ≤ l2 ∧ l2 < p) (hl3 : 0 ≤ l3 ∧ l3 < p) :
    Calls Try.prog 60 #[.int .i64 p, .agg #[.int .i64 l1, .int .i64 l2, .int .i64 l3]] w fun e w' =>
      e = .returned (.agg #[.int .i64 (sqS1 p l1 l2 l3), .int .i64 (sqS2 p l1 l2 l3), .int .i64 (sqN1 p l1 l2 l3), .int .i64 (sqN2 p l1 l2 l3)]) ∧ Below w.heap.size w w' := by
  have hr := isP_range hp
  have hpo := fun w' => pointsOf_any p l1 l2 l3 w' hp hl1 hl2 hl3
  obtain ⟨rs1, rs2, rn1, rn2⟩ := sq_rP (l1 := l1) (l2 := l2) (l3 := l3) hp
  obtain ⟨s1, hs1⟩ : ∃ x, x = sqS1 p l1 l2 l3 := ⟨_, rfl⟩
  obtain ⟨s2, hs2⟩ : ∃ x, x = sqS2 p l1 l2 l3 := ⟨_, rfl⟩
  obtain ⟨n1, hn1⟩ : ∃ x, x = sqN1 p l1 l2 l3 := ⟨_, rfl⟩
  obtain ⟨n2, hn2⟩ : ∃ x, x = sqN2 p l1 l2 l3 := ⟨_, rfl⟩
  rw [← hs1, ← hs2, ← hn1, ← hn2] at hpo ⊢
  rw [← hs1] at rs1
  rw [← hs2] at rs2
  rw [← hn1] at rn1
  rw [← hn2] at rn2
  clear hs1 hs2 hn1 hn2
  have HPO := Lib.hid hpo
  clear hpo
  have hpn : 3 ≤ p.toNat ∧ p.toNat ≤ 31 := by omega
  have hat := fun n c a w' hn => @arrayAtN Try.prog 78 25 (by kernel_rfl) a n c hn w'
  go_enter Try.func60, Try.ntmps60
  go_wp2_with fail
  refine Calls.mono (HPO.out _) ?_
  rintro e wa ⟨b0, b1, b2, rfl, g1, g2, g3, g4, g0, z0, z1, z2, hBa⟩
  have y0 := World.block_lt_of_cell? wa ⟨b0, 0, none⟩ g0
  have y1 := World.block_lt_of_cell? wa ⟨b1, 0, none⟩ g1
  have y2 := World.block_lt_of_cell? wa ⟨b2, 0, none⟩ g3
  simp only at y0 y1 y2
  go_wp2_with fail
  refine Calls.mono (collect_any (cbF p s1 s2 n1 n2 p.toNat) p.toNat 0 wa.heap.size 145 _ wa (enters_of Try.func145 (by kernel_rfl) rfl) (by omega) (Nat.le_refl _) (fun W hW => seqOn_of (seqPtsF_stops 8 b0 b1 b2 0 wa.heap.size p s1 s2 n1 n2 (by decide) hp ⟨rs1.1, by omega⟩ ⟨rs2.1, by omega⟩ ⟨rn1.1, by omega⟩ ⟨rn2.1, by omega⟩ W ((cell_back hW y0 0).trans g0) ((cell_back hW y1 0).trans g1) ((cell_back hW y1 1).trans g2) ((cell_back hW y2 0).trans g3) ((cell_back hW y2 1).trans g4) ⟨Nat.zero_le _, y0⟩ ⟨Nat.zero_le _, y1⟩ ⟨Nat.zero_le _, y2⟩ hW.size) fun _ _ h => h.1)) ?_
  rintro e wb ⟨vb, rfl, hob, hBb⟩
  rw [cbF_back _ _ _ _ _ hp] at hob
  have hlen : (cbs p s1 s2 n1 n2 p.toNat).length = p.toNat := by simp [cbs]
  rw [hlen] at hob
  obtain ⟨ao, cap, rfl, hnl, hsh⟩ := own_shape hob
  obtain ⟨g, rfl, hg1, hg2⟩ := hsh (by omega)
  have hflat : ∃ r, flat (cbs p s1 s2 n1 n2 p.toNat) = s1 :: s2 :: n1 :: n2 :: r := by
    obtain ⟨m, hm⟩ : ∃ m, p.toNat = m + 1 + 1 := ⟨p.toNat - 2, by omega⟩
    have e : flat (cbs p s1 s2 n1 n2 (m + 1 + 1)) = cmb p s1 n1 0 :: cmb p s2 n2 0 :: cmb p s1 n1 1 :: cmb p s2 n2 1 :: flat ((List.range m).map fun t : Nat => (cmb p s1 n1 ((t + 1 + 1 : Nat) : Int), cmb p s2 n2 ((t + 1 + 1 : Nat) : Int))) := by
      rw [cbs, List.range_succ_eq_map, List.range_succ_eq_map]
      simp [flat, List.flatMap_map, List.map_map, Function.comp_def]
    exact ⟨_, by rw [hm, e, cmb_at0 s1 n1 rs1, cmb_at0 s2 n2 rs2, cmb_at1 s1 n1 rn1, cmb_at1 s2 n2 rn2]⟩
  obtain ⟨rr, hrr⟩ := hflat
  rw [hrr] at hob
  have c0 := (own_cell hob (j := 0) (by omega)).trans (by rfl : _ = some (.int .i64 s1))
  have c1 := (own_cell hob (j := 1) (by omega)).trans (by rfl : _ = some (.int .i64 s2))
  have c2 := (own_cell hob (j := 2) (by omega)).trans (by rfl : _ = some (.int .i64 n1))
  have c3 := (own_cell hob (j := 3) (by omega)).trans (by rfl : _ = some (.int .i64 n2))
  have hat' := fun w' => hat p.toNat cap (some ⟨g, 0, none⟩) w' (by omega)
  clear hat hob hrr
  have hB := bthen hBa hBb
  (obtain ⟨hBbc, hBbf⟩ := bcell hBb; have hBbs := hBb.size; (try simp at hBbs); (try have hBbq1 := Nat.lt_of_succ_le hBbs); (try have hBbq2 := Nat.lt_of_succ_lt hBbq1); (try have hBbq3 := Nat.lt_of_succ_lt hBbq2); (try have hBbzw0 : w.heap.size < wb.heap.size := (by omega)); (try have hBbzw1 : w.heap.size + 1 < wb.heap.size := (by omega)); (try have hBbzw2 : w.heap.size + 1 + 1 < wb.heap.size := (by omega)); (try have hBbzw3 : w.heap.size + 1 + 1 + 1 < wb.heap.size := (by omega)); (try have hBbzw4 : w.heap.size + 1 + 1 + 1 + 1 < wb.heap.size := (by omega)); (try have hBbzwa0 : wa.heap.size < wb.heap.size := (by omega)); (try have hBbzwa1 : wa.heap.size + 1 < wb.heap.size := (by omega)); (try have hBbzwa2 : wa.heap.size + 1 + 1 < wb.heap.size := (by omega)); (try have hBbzwa3 : wa.heap.size + 1 + 1 + 1 < wb.heap.size := (by omega)); (try have hBbzwa4 : wa.heap.size + 1 + 1 + 1 + 1 < wb.heap.size := (by omega)))
  obtain ⟨hBac, hBaf⟩ := bcell hBa
  have hBas := hBa.size
  (try simp at hBas)
  have hq1 : w.heap.size + 1 < wa.heap.size := by omega
  have hq2 : w.heap.size + 1 < wb.heap.size := by omega
  go_wp2
  (refine bodyPost_ret (v := .agg #[.int .i64 s1, .int .i64 s2, .int .i64 n1, .int .i64 n2]) (by simp [results, Try.results60, go_sem, *]) rfl ⟨rfl, ?_⟩)
  (repeat (first | with_reducible exact Below.refl _ _ | with_reducible exact hB | with_reducible refine balloc ?_ _ | with_reducible refine bdrewN ?_ _ | with_reducible refine Below.drew ?_ | with_reducible refine bthen ?_ (by with_reducible assumption) | with_reducible refine Below.setCell ?_ (by first | (simp; done) | (simp; omega)) _))

end Go.Proofs.Ytijmmagdkbnhdaa
