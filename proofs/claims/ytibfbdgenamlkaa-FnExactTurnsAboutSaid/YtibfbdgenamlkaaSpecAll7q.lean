/-
  spec.l07All: the moves of a sign that keep the point (0, 0), in order.
-/
import Derived.Test.YtibfbdgenamlkaaMgq0
import Derived.Test.YtibfbdgenamlkaaSpecPut7q
import Derived.Test.YtibfbdgenamlkaaSpecGoodq
import Derived.Test.YtibfbdgenamlkaaSpecSignq
import Derived.Test.YtibfbdgenamlkaaModq
import Derived.Test.YtibfbdgenamlkaaInvq
import Derived.Test.YtibfbdgenamlkaaGrowq
import Derived.Test.YtibfbdgenamlkaaLastq
import Derived.Deep.RegionHeld3
import Derived.Deep.DeepCutAuto

namespace Go.Proofs.Ytibfbdgenamlkaa
open Go.RowKit

set_option linter.unusedSimpArgs false in
set_option linter.unusedVariables false in
set_option maxRecDepth 20000 in
set_option maxHeartbeats 4000000 in
theorem specAll7_any (p c z : Int) (w : World) (hp : isP p = true) (hc : colB c = true) (hz : -31 ≤ z ∧ z ≤ 31) :
    Calls Try.prog 29 #[.int .i64 p, .int .i64 c, .int .i64 z] w fun e w' => ∃ g cap : Nat, e = .returned (.slice (some ⟨g, 0, none⟩) (allM p c z).length cap) ∧
      w'.ownsRow w.heap.size 62 6 (.slice (some ⟨g, 0, none⟩) (allM p c z).length cap) (allM p c z).length (ints (flat6 (allM p c z))) ∧ Below w.heap.size w w' := by
  have hr := isP_range hp
  have hcr := colB_range hc
  have hc0 : (p.toNat : Int) = p := Int.toNat_of_nonneg (by omega)
  have HC0 := Lib.hid hc0
  clear hc0
  obtain ⟨f, hf⟩ : ∃ f : Int → Int → Bool, f = alF p c z := ⟨_, rfl⟩
  have HV := Lib.hid (show allM p c z = srtM (alL p c z (gridL f p.toNat p.toNat)) by rw [hf]; rfl)
  have HFE := Lib.hid (show ∀ x y, f x y = alF p c z x y from fun x y => by rw [hf])
  clear hf
  go_enter Try.func29, Try.ntmps29
  go_wp2_with fail
  go_loopw [7, 8, 9] (fun v i _ wr => ∃ x : Nat, (x : Int) ≤ p ∧ i = .int .i64 x ∧ ∃ g m cap : Nat, m = (srtM (alL p c z (gridL f p.toNat x))).length ∧ v = .slice (some ⟨g, 0, none⟩) m cap ∧ wr.ownsRow w.heap.size 62 6 (.slice (some ⟨g, 0, none⟩) m cap) m (ints (flat6 (srtM (alL p c z (gridL f p.toNat x))))) ∧ Below w.heap.size w wr) (fun _ i _ _ => p.toNat - (intOf i).toNat)
  case atStart => exact ⟨0, by omega, rfl, w.heap.size, 0, 0, rfl, rfl, own_lit0 _ _ _ (Nat.le_refl _) rfl, (Below.refl _ _).alloc (Nat.le_refl _) _⟩
  case round =>
    obtain ⟨x, hx, rfl, g, m, cap, hm, rfl, hown, hbel⟩ := hrel
    by_cases hlt : (x : Int) < p
    · have HG0 := Lib.hid (gridL_succ f p.toNat x)
      obtain ⟨wo, rfl⟩ : ∃ wo : World, wo = wr := ⟨_, rfl⟩
      go_wp2_with fail
      go_loopw [7, 9] (fun v i wr => ∃ y : Nat, (y : Int) ≤ p ∧ i = .int .i64 y ∧ ∃ g m cap : Nat, m = (srtM (alL p c z (gridL f p.toNat x ++ rowL f x y))).length ∧ v = .slice (some ⟨g, 0, none⟩) m cap ∧ wr.ownsRow w.heap.size 62 6 (.slice (some ⟨g, 0, none⟩) m cap) m (ints (flat6 (srtM (alL p c z (gridL f p.toNat x ++ rowL f x y))))) ∧ Below w.heap.size w wr) (fun _ i _ => p.toNat - (intOf i).toNat)
      case atStart => exact ⟨0, by omega, rfl, g, m, cap, by simpa [rowL] using hm, rfl, by simpa [rowL] using hown, hbel⟩
      case round =>
        clear hown hm hbel
        obtain ⟨y, hy, rfl, g, m, cap, hm, rfl, hown, hbel⟩ := hrel
        have hsr := hbel.size
        have hrl := rowL_le f x y
        have hgl := gridL_le f p.toNat x
        have hxm : x * p.toNat ≤ 961 := Nat.le_trans (Nat.mul_le_mul (by omega : x ≤ 31) (by omega : p.toNat ≤ 31)) (by decide)
        have hln := srtM_le (alL p c z (gridL f p.toNat x ++ rowL f x y))
        rw [alL_len, List.length_append] at hln
        by_cases hlty : (y : Int) < p
        · obtain ⟨m2, h2⟩ : ∃ v, v = alQ p c z (y : Int) % p := ⟨_, rfl⟩
          obtain ⟨m4, h4⟩ : ∃ v, v = alR p c z (x : Int) % p := ⟨_, rfl⟩
          have r2 := modR (alQ p c z (y : Int)) hp
          have r4 := modR (alR p c z (x : Int)) hp
          rw [← h2] at r2
          rw [← h4] at r4
          have hF : f (x : Int) (y : Int) = (mvB p c x m2 y m4 && (sgn p x m2 y m4 == z % p)) := by rw [HFE.out, h2, h4]; rfl
          have hM : alM p c z ((x : Int), (y : Int)) = ((x : Int), m2, (y : Int), m4, 0, 0) := by rw [h2, h4]; rfl
          have hnew := al_new (p := p) (c := c) (z := z) f p.toNat x y
          rw [hM] at hnew
          have HF := Lib.hid hF
          have HNW := Lib.hid hnew
          have HM := Lib.hid hM
          have H2 := Lib.hid h2
          have H4 := Lib.hid h4
          clear hF hnew hM h2 h4
          have hG := fun w' => specGood_any p c (x : Int) m2 (y : Int) m4 0 0 w' hp hc (by omega) (by omega) (by omega) (by omega) (by omega) (by omega)
          have hS := fun w' => specSign_any p (x : Int) m2 (y : Int) m4 0 0 w' hp (by omega) (by omega) (by omega) (by omega) (by omega) (by omega)
          have HG := Lib.hid hG
          have HS := Lib.hid hS
          clear hG hS
          have hzm := modR z hp
          have b1 := mulSS 31 31 961 (by decide) (by decide) (a := z) (b := (y : Int)) (by omega) (by omega)
          have b2 := mulSS 31 31 961 (by decide) (by decide) (a := z) (b := (x : Int)) (by omega) (by omega)
          have b3 := mulSS 31 31 961 (by decide) (by decide) (a := -z) (b := (y : Int)) (by omega) (by omega)
          have e1 : IntKind.i64.wrap (z * (y : Int)) = z * (y : Int) := wrapI _ (by omega)
          have e2 : IntKind.i64.wrap (z * (x : Int)) = z * (x : Int) := wrapI _ (by omega)
          have e3 : IntKind.i64.wrap (-z * (y : Int)) = -z * (y : Int) := wrapI _ (by omega)
          have e4 : IntKind.i64.wrap (-z) = -z := wrapI _ (by omega)
          have HO := Lib.hid hown
          have HMM := Lib.hid hm
          clear hown hm
          have hi1 := inv_range (x : Int) hp
          have hi2 := inv_range (y : Int) hp
          rcases (by omega : c = 0 ∨ c = 1 ∨ c = 2) with rfl | rfl | rfl
          · have H10 := Lib.hid (show (-z * (y : Int)) % p = m2 from by rw [H2.out]; simp [alQ])
            have H11 := Lib.hid (show (z * (x : Int)) % p = m4 from by rw [H4.out]; simp [alR])
            go_wp2_with fail
            refine Calls.mono (mod_any _ p _ (by omega) (by omega) (by omega) (by omega)) ?_
            rw [H10.out]
            rintro e w' ⟨rfl, rfl⟩
            go_wp2_with fail
            refine Calls.mono (mod_any _ p _ (by omega) (by omega) (by omega) (by omega)) ?_
            rw [H11.out]
            rintro e w' ⟨rfl, rfl⟩
            go_wp2_with fail
            refine Calls.mono (HG.out _) ?_
            rintro e w2 ⟨rfl, hB2⟩
            have s0 : w2.cell? ⟨wr.heap.size, 0, none⟩ = some (.int .i64 (x : Int)) := kcall hB2 (by (first | with_reducible assumption | (repeat (first | with_reducible assumption | ((with_reducible refine kfresh ?_ ?_) <;> (first | with_reducible rfl | (simp; done))) | ((with_reducible refine ksameS ?_); focus ((repeat (first | with_reducible exact kis_of (by with_reducible assumption) | with_reducible refine kis_set ?_ | ((with_reducible refine kis_new ?_ ?_) <;> (first | with_reducible rfl | rfl | (simp; done))) | with_reducible refine kis_alloc _ ?_ | with_reducible refine kis_drew ?_ | with_reducible refine kis_call (by with_reducible assumption) ?_ | with_reducible exact kis_of (kcall (by with_reducible assumption) (by with_reducible assumption)))); done)) | with_reducible refine kother (by decide) ?_ | with_reducible refine kset (by first | omega | (simp; done) | (simp; omega)) ?_ | with_reducible refine kalloc _ ?_ | with_reducible refine kdrew ?_ | with_reducible refine kdrewN ?_ | with_reducible refine kcall (by with_reducible assumption) ?_))))
            have s1 : w2.cell? ⟨wr.heap.size, 1, none⟩ = some (.int .i64 m2) := kcall hB2 (by (first | with_reducible assumption | (repeat (first | with_reducible assumption | ((with_reducible refine kfresh ?_ ?_) <;> (first | with_reducible rfl | (simp; done))) | ((with_reducible refine ksameS ?_); focus ((repeat (first | with_reducible exact kis_of (by with_reducible assumption) | with_reducible refine kis_set ?_ | ((with_reducible refine kis_new ?_ ?_) <;> (first | with_reducible rfl | rfl | (simp; done))) | with_reducible refine kis_alloc _ ?_ | with_reducible refine kis_drew ?_ | with_reducible refine kis_call (by with_reducible assumption) ?_ | with_reducible exact kis_of (kcall (by with_reducible assumption) (by with_reducible assumption)))); done)) | with_reducible refine kother (by decide) ?_ | with_reducible refine kset (by first | omega | (simp; done) | (simp; omega)) ?_ | with_reducible refine kalloc _ ?_ | with_reducible refine kdrew ?_ | with_reducible refine kdrewN ?_ | with_reducible refine kcall (by with_reducible assumption) ?_))))
            have s2 : w2.cell? ⟨wr.heap.size, 2, none⟩ = some (.int .i64 (y : Int)) := kcall hB2 (by (first | with_reducible assumption | (repeat (first | with_reducible assumption | ((with_reducible refine kfresh ?_ ?_) <;> (first | with_reducible rfl | (simp; done))) | ((with_reducible refine ksameS ?_); focus ((repeat (first | with_reducible exact kis_of (by with_reducible assumption) | with_reducible refine kis_set ?_ | ((with_reducible refine kis_new ?_ ?_) <;> (first | with_reducible rfl | rfl | (simp; done))) | with_reducible refine kis_alloc _ ?_ | with_reducible refine kis_drew ?_ | with_reducible refine kis_call (by with_reducible assumption) ?_ | with_reducible exact kis_of (kcall (by with_reducible assumption) (by with_reducible assumption)))); done)) | with_reducible refine kother (by decide) ?_ | with_reducible refine kset (by first | omega | (simp; done) | (simp; omega)) ?_ | with_reducible refine kalloc _ ?_ | with_reducible refine kdrew ?_ | with_reducible refine kdrewN ?_ | with_reducible refine kcall (by with_reducible assumption) ?_))))
            have s3 : w2.cell? ⟨wr.heap.size, 3, none⟩ = some (.int .i64 m4) := kcall hB2 (by (first | with_reducible assumption | (repeat (first | with_reducible assumption | ((with_reducible refine kfresh ?_ ?_) <;> (first | with_reducible rfl | (simp; done))) | ((with_reducible refine ksameS ?_); focus ((repeat (first | with_reducible exact kis_of (by with_reducible assumption) | with_reducible refine kis_set ?_ | ((with_reducible refine kis_new ?_ ?_) <;> (first | with_reducible rfl | rfl | (simp; done))) | with_reducible refine kis_alloc _ ?_ | with_reducible refine kis_drew ?_ | with_reducible refine kis_call (by with_reducible assumption) ?_ | with_reducible exact kis_of (kcall (by with_reducible assumption) (by with_reducible assumption)))); done)) | with_reducible refine kother (by decide) ?_ | with_reducible refine kset (by first | omega | (simp; done) | (simp; omega)) ?_ | with_reducible refine kalloc _ ?_ | with_reducible refine kdrew ?_ | with_reducible refine kdrewN ?_ | with_reducible refine kcall (by with_reducible assumption) ?_))))
            have s4 : w2.cell? ⟨wr.heap.size, 4, none⟩ = some (.int .i64 0) := kcall hB2 (by (first | with_reducible assumption | (repeat (first | with_reducible assumption | ((with_reducible refine kfresh ?_ ?_) <;> (first | with_reducible rfl | (simp; done))) | ((with_reducible refine ksameS ?_); focus ((repeat (first | with_reducible exact kis_of (by with_reducible assumption) | with_reducible refine kis_set ?_ | ((with_reducible refine kis_new ?_ ?_) <;> (first | with_reducible rfl | rfl | (simp; done))) | with_reducible refine kis_alloc _ ?_ | with_reducible refine kis_drew ?_ | with_reducible refine kis_call (by with_reducible assumption) ?_ | with_reducible exact kis_of (kcall (by with_reducible assumption) (by with_reducible assumption)))); done)) | with_reducible refine kother (by decide) ?_ | with_reducible refine kset (by first | omega | (simp; done) | (simp; omega)) ?_ | with_reducible refine kalloc _ ?_ | with_reducible refine kdrew ?_ | with_reducible refine kdrewN ?_ | with_reducible refine kcall (by with_reducible assumption) ?_))))
            have s5 : w2.cell? ⟨wr.heap.size, 5, none⟩ = some (.int .i64 0) := kcall hB2 (by (first | with_reducible assumption | (repeat (first | with_reducible assumption | ((with_reducible refine kfresh ?_ ?_) <;> (first | with_reducible rfl | (simp; done))) | ((with_reducible refine ksameS ?_); focus ((repeat (first | with_reducible exact kis_of (by with_reducible assumption) | with_reducible refine kis_set ?_ | ((with_reducible refine kis_new ?_ ?_) <;> (first | with_reducible rfl | rfl | (simp; done))) | with_reducible refine kis_alloc _ ?_ | with_reducible refine kis_drew ?_ | with_reducible refine kis_call (by with_reducible assumption) ?_ | with_reducible exact kis_of (kcall (by with_reducible assumption) (by with_reducible assumption)))); done)) | with_reducible refine kother (by decide) ?_ | with_reducible refine kset (by first | omega | (simp; done) | (simp; omega)) ?_ | with_reducible refine kalloc _ ?_ | with_reducible refine kdrew ?_ | with_reducible refine kdrewN ?_ | with_reducible refine kcall (by with_reducible assumption) ?_))))
            have hW2 : Below wr.heap.size wr w2 := bthen (by (repeat (first | with_reducible exact Below.refl _ _ | with_reducible refine balloc ?_ _ | with_reducible refine bdrewN ?_ _ | with_reducible refine Below.drew ?_ | with_reducible refine bthen ?_ (by with_reducible assumption) | with_reducible refine Below.setCell ?_ (by first | (simp; done) | (simp; omega)) _))) hB2
            have hsW := hW2.size
            have ho2 := own_call HO.out hW2
            have hb2 := hbel.trans (hW2.mono hsr)
            have hlw : wr.heap.size < w2.heap.size := World.block_lt_of_cell? w2 ⟨wr.heap.size, 0, none⟩ s0
            clear hB2
            rcases bool_ways (mvB p 0 (x : Int) m2 (y : Int) m4) with hm1 | hm1
            · have hfa : f (x : Int) (y : Int) = false := by rw [HF.out, hm1]; rfl
              have HU := Lib.hid (rowL_no hfa)
              have HQ := Lib.hid ho2
              clear ho2
              go_wp2
              go_roundw
              case rel => exact ⟨y + 1, by omega, by go_num, g, m, cap, by rw [HU.out]; exact HMM.out, rfl, by rw [HU.out]; exact HQ.out, hb2⟩
              case measure => have := HC0.out; simp [intOf]; omega
            · rcases bool_ways (sgn p (x : Int) m2 (y : Int) m4 == z % p) with hm2 | hm2
              · have hfa : f (x : Int) (y : Int) = false := by rw [HF.out, hm1, hm2]; rfl
                go_wp2_with fail
                refine Calls.mono (HS.out _) ?_
                rintro e w3 ⟨rfl, hB3⟩
                have hW3 := hB3.size
                have ho3 := own_call ho2 hB3
                have hb3 := hb2.trans (hB3.mono hb2.size)
                have t0 := kcall hB3 s0
                have t1 := kcall hB3 s1
                have t2 := kcall hB3 s2
                have t3 := kcall hB3 s3
                have t4 := kcall hB3 s4
                have t5 := kcall hB3 s5
                go_wp2_with fail
                refine Calls.mono (mod_any z p _ (by omega) (by omega) (by omega) (by omega)) ?_
                rintro e w' ⟨rfl, rfl⟩
                clear ho2 hB3
                have HU := Lib.hid (rowL_no hfa)
                have HQ := Lib.hid ho3
                clear ho3
                go_wp2
                go_roundw
                case rel => exact ⟨y + 1, by omega, by go_num, g, m, cap, by rw [HU.out]; exact HMM.out, rfl, by rw [HU.out]; exact HQ.out, hb3⟩
                case measure => have := HC0.out; simp [intOf]; omega
              · have hfa : f (x : Int) (y : Int) = true := by rw [HF.out, hm1, hm2]; rfl
                go_wp2_with fail
                refine Calls.mono (HS.out _) ?_
                rintro e w3 ⟨rfl, hB3⟩
                have hW3 := hB3.size
                have ho3 := own_call ho2 hB3
                have hb3 := hb2.trans (hB3.mono hb2.size)
                have t0 := kcall hB3 s0
                have t1 := kcall hB3 s1
                have t2 := kcall hB3 s2
                have t3 := kcall hB3 s3
                have t4 := kcall hB3 s4
                have t5 := kcall hB3 s5
                go_wp2_with fail
                refine Calls.mono (mod_any z p _ (by omega) (by omega) (by omega) (by omega)) ?_
                rintro e w' ⟨rfl, rfl⟩
                clear ho2 hB3
                have HE := Lib.hid (show insM (srtM (alL p 0 z (gridL f p.toNat x ++ rowL f x y))) ((x : Int), m2, (y : Int), m4, 0, 0) = srtM (alL p 0 z (gridL f p.toNat x ++ rowL f x (y + 1))) from by rw [rowL_yes hfa, ← List.append_assoc, alL_snoc, HM.out, srtM_snoc])
                go_wp2_with fail
                refine Calls.mono (put7_any (srtM (alL p 0 z (gridL f p.toNat x ++ rowL f x y))) (x : Int) m2 (y : Int) m4 0 0 g m cap w.heap.size _ HMM.out (by omega) (srtM_sorted _) HNW.out (by omega) ho3) ?_
                rintro e w4 ⟨g', cap', rfl, ho4, hB4⟩
                rw [HE.out] at ho4 ⊢
                obtain ⟨M, hMl⟩ : ∃ M, M = (srtM (alL p 0 z (gridL f p.toNat x ++ rowL f x (y + 1)))).length := ⟨_, rfl⟩
                rw [← hMl] at ho4 ⊢
                have HML := Lib.hid hMl
                have HQ := Lib.hid ho4
                clear hMl ho4 ho3
                go_wp2
                go_roundw
                case rel => exact ⟨y + 1, by omega, by go_num, g', M, cap', HML.out, rfl, HQ.out, hb3.trans (hB4.mono hb3.size)⟩
                case measure => have := HC0.out; simp [intOf]; omega
          · have H10 := Lib.hid (show (z * (y : Int)) % p = m2 from by rw [H2.out]; simp [alQ])
            have H11 := Lib.hid (show (z * (x : Int)) % p = m4 from by rw [H4.out]; simp [alR])
            go_wp2_with fail
            refine Calls.mono (mod_any _ p _ (by omega) (by omega) (by omega) (by omega)) ?_
            rw [H10.out]
            rintro e w' ⟨rfl, rfl⟩
            go_wp2_with fail
            refine Calls.mono (mod_any _ p _ (by omega) (by omega) (by omega) (by omega)) ?_
            rw [H11.out]
            rintro e w' ⟨rfl, rfl⟩
            go_wp2_with fail
            refine Calls.mono (HG.out _) ?_
            rintro e w2 ⟨rfl, hB2⟩
            have s0 : w2.cell? ⟨wr.heap.size, 0, none⟩ = some (.int .i64 (x : Int)) := kcall hB2 (by (first | with_reducible assumption | (repeat (first | with_reducible assumption | ((with_reducible refine kfresh ?_ ?_) <;> (first | with_reducible rfl | (simp; done))) | ((with_reducible refine ksameS ?_); focus ((repeat (first | with_reducible exact kis_of (by with_reducible assumption) | with_reducible refine kis_set ?_ | ((with_reducible refine kis_new ?_ ?_) <;> (first | with_reducible rfl | rfl | (simp; done))) | with_reducible refine kis_alloc _ ?_ | with_reducible refine kis_drew ?_ | with_reducible refine kis_call (by with_reducible assumption) ?_ | with_reducible exact kis_of (kcall (by with_reducible assumption) (by with_reducible assumption)))); done)) | with_reducible refine kother (by decide) ?_ | with_reducible refine kset (by first | omega | (simp; done) | (simp; omega)) ?_ | with_reducible refine kalloc _ ?_ | with_reducible refine kdrew ?_ | with_reducible refine kdrewN ?_ | with_reducible refine kcall (by with_reducible assumption) ?_))))
            have s1 : w2.cell? ⟨wr.heap.size, 1, none⟩ = some (.int .i64 m2) := kcall hB2 (by (first | with_reducible assumption | (repeat (first | with_reducible assumption | ((with_reducible refine kfresh ?_ ?_) <;> (first | with_reducible rfl | (simp; done))) | ((with_reducible refine ksameS ?_); focus ((repeat (first | with_reducible exact kis_of (by with_reducible assumption) | with_reducible refine kis_set ?_ | ((with_reducible refine kis_new ?_ ?_) <;> (first | with_reducible rfl | rfl | (simp; done))) | with_reducible refine kis_alloc _ ?_ | with_reducible refine kis_drew ?_ | with_reducible refine kis_call (by with_reducible assumption) ?_ | with_reducible exact kis_of (kcall (by with_reducible assumption) (by with_reducible assumption)))); done)) | with_reducible refine kother (by decide) ?_ | with_reducible refine kset (by first | omega | (simp; done) | (simp; omega)) ?_ | with_reducible refine kalloc _ ?_ | with_reducible refine kdrew ?_ | with_reducible refine kdrewN ?_ | with_reducible refine kcall (by with_reducible assumption) ?_))))
            have s2 : w2.cell? ⟨wr.heap.size, 2, none⟩ = some (.int .i64 (y : Int)) := kcall hB2 (by (first | with_reducible assumption | (repeat (first | with_reducible assumption | ((with_reducible refine kfresh ?_ ?_) <;> (first | with_reducible rfl | (simp; done))) | ((with_reducible refine ksameS ?_); focus ((repeat (first | with_reducible exact kis_of (by with_reducible assumption) | with_reducible refine kis_set ?_ | ((with_reducible refine kis_new ?_ ?_) <;> (first | with_reducible rfl | rfl | (simp; done))) | with_reducible refine kis_alloc _ ?_ | with_reducible refine kis_drew ?_ | with_reducible refine kis_call (by with_reducible assumption) ?_ | with_reducible exact kis_of (kcall (by with_reducible assumption) (by with_reducible assumption)))); done)) | with_reducible refine kother (by decide) ?_ | with_reducible refine kset (by first | omega | (simp; done) | (simp; omega)) ?_ | with_reducible refine kalloc _ ?_ | with_reducible refine kdrew ?_ | with_reducible refine kdrewN ?_ | with_reducible refine kcall (by with_reducible assumption) ?_))))
            have s3 : w2.cell? ⟨wr.heap.size, 3, none⟩ = some (.int .i64 m4) := kcall hB2 (by (first | with_reducible assumption | (repeat (first | with_reducible assumption | ((with_reducible refine kfresh ?_ ?_) <;> (first | with_reducible rfl | (simp; done))) | ((with_reducible refine ksameS ?_); focus ((repeat (first | with_reducible exact kis_of (by with_reducible assumption) | with_reducible refine kis_set ?_ | ((with_reducible refine kis_new ?_ ?_) <;> (first | with_reducible rfl | rfl | (simp; done))) | with_reducible refine kis_alloc _ ?_ | with_reducible refine kis_drew ?_ | with_reducible refine kis_call (by with_reducible assumption) ?_ | with_reducible exact kis_of (kcall (by with_reducible assumption) (by with_reducible assumption)))); done)) | with_reducible refine kother (by decide) ?_ | with_reducible refine kset (by first | omega | (simp; done) | (simp; omega)) ?_ | with_reducible refine kalloc _ ?_ | with_reducible refine kdrew ?_ | with_reducible refine kdrewN ?_ | with_reducible refine kcall (by with_reducible assumption) ?_))))
            have s4 : w2.cell? ⟨wr.heap.size, 4, none⟩ = some (.int .i64 0) := kcall hB2 (by (first | with_reducible assumption | (repeat (first | with_reducible assumption | ((with_reducible refine kfresh ?_ ?_) <;> (first | with_reducible rfl | (simp; done))) | ((with_reducible refine ksameS ?_); focus ((repeat (first | with_reducible exact kis_of (by with_reducible assumption) | with_reducible refine kis_set ?_ | ((with_reducible refine kis_new ?_ ?_) <;> (first | with_reducible rfl | rfl | (simp; done))) | with_reducible refine kis_alloc _ ?_ | with_reducible refine kis_drew ?_ | with_reducible refine kis_call (by with_reducible assumption) ?_ | with_reducible exact kis_of (kcall (by with_reducible assumption) (by with_reducible assumption)))); done)) | with_reducible refine kother (by decide) ?_ | with_reducible refine kset (by first | omega | (simp; done) | (simp; omega)) ?_ | with_reducible refine kalloc _ ?_ | with_reducible refine kdrew ?_ | with_reducible refine kdrewN ?_ | with_reducible refine kcall (by with_reducible assumption) ?_))))
            have s5 : w2.cell? ⟨wr.heap.size, 5, none⟩ = some (.int .i64 0) := kcall hB2 (by (first | with_reducible assumption | (repeat (first | with_reducible assumption | ((with_reducible refine kfresh ?_ ?_) <;> (first | with_reducible rfl | (simp; done))) | ((with_reducible refine ksameS ?_); focus ((repeat (first | with_reducible exact kis_of (by with_reducible assumption) | with_reducible refine kis_set ?_ | ((with_reducible refine kis_new ?_ ?_) <;> (first | with_reducible rfl | rfl | (simp; done))) | with_reducible refine kis_alloc _ ?_ | with_reducible refine kis_drew ?_ | with_reducible refine kis_call (by with_reducible assumption) ?_ | with_reducible exact kis_of (kcall (by with_reducible assumption) (by with_reducible assumption)))); done)) | with_reducible refine kother (by decide) ?_ | with_reducible refine kset (by first | omega | (simp; done) | (simp; omega)) ?_ | with_reducible refine kalloc _ ?_ | with_reducible refine kdrew ?_ | with_reducible refine kdrewN ?_ | with_reducible refine kcall (by with_reducible assumption) ?_))))
            have hW2 : Below wr.heap.size wr w2 := bthen (by (repeat (first | with_reducible exact Below.refl _ _ | with_reducible refine balloc ?_ _ | with_reducible refine bdrewN ?_ _ | with_reducible refine Below.drew ?_ | with_reducible refine bthen ?_ (by with_reducible assumption) | with_reducible refine Below.setCell ?_ (by first | (simp; done) | (simp; omega)) _))) hB2
            have hsW := hW2.size
            have ho2 := own_call HO.out hW2
            have hb2 := hbel.trans (hW2.mono hsr)
            have hlw : wr.heap.size < w2.heap.size := World.block_lt_of_cell? w2 ⟨wr.heap.size, 0, none⟩ s0
            clear hB2
            rcases bool_ways (mvB p 1 (x : Int) m2 (y : Int) m4) with hm1 | hm1
            · have hfa : f (x : Int) (y : Int) = false := by rw [HF.out, hm1]; rfl
              have HU := Lib.hid (rowL_no hfa)
              have HQ := Lib.hid ho2
              clear ho2
              go_wp2
              go_roundw
              case rel => exact ⟨y + 1, by omega, by go_num, g, m, cap, by rw [HU.out]; exact HMM.out, rfl, by rw [HU.out]; exact HQ.out, hb2⟩
              case measure => have := HC0.out; simp [intOf]; omega
            · rcases bool_ways (sgn p (x : Int) m2 (y : Int) m4 == z % p) with hm2 | hm2
              · have hfa : f (x : Int) (y : Int) = false := by rw [HF.out, hm1, hm2]; rfl
                go_wp2_with fail
                refine Calls.mono (HS.out _) ?_
                rintro e w3 ⟨rfl, hB3⟩
                have hW3 := hB3.size
                have ho3 := own_call ho2 hB3
                have hb3 := hb2.trans (hB3.mono hb2.size)
                have t0 := kcall hB3 s0
                have t1 := kcall hB3 s1
                have t2 := kcall hB3 s2
                have t3 := kcall hB3 s3
                have t4 := kcall hB3 s4
                have t5 := kcall hB3 s5
                go_wp2_with fail
                refine Calls.mono (mod_any z p _ (by omega) (by omega) (by omega) (by omega)) ?_
                rintro e w' ⟨rfl, rfl⟩
                clear ho2 hB3
                have HU := Lib.hid (rowL_no hfa)
                have HQ := Lib.hid ho3
                clear ho3
                go_wp2
                go_roundw
                case rel => exact ⟨y + 1, by omega, by go_num, g, m, cap, by rw [HU.out]; exact HMM.out, rfl, by rw [HU.out]; exact HQ.out, hb3⟩
                case measure => have := HC0.out; simp [intOf]; omega
              · have hfa : f (x : Int) (y : Int) = true := by rw [HF.out, hm1, hm2]; rfl
                go_wp2_with fail
                refine Calls.mono (HS.out _) ?_
                rintro e w3 ⟨rfl, hB3⟩
                have hW3 := hB3.size
                have ho3 := own_call ho2 hB3
                have hb3 := hb2.trans (hB3.mono hb2.size)
                have t0 := kcall hB3 s0
                have t1 := kcall hB3 s1
                have t2 := kcall hB3 s2
                have t3 := kcall hB3 s3
                have t4 := kcall hB3 s4
                have t5 := kcall hB3 s5
                go_wp2_with fail
                refine Calls.mono (mod_any z p _ (by omega) (by omega) (by omega) (by omega)) ?_
                rintro e w' ⟨rfl, rfl⟩
                clear ho2 hB3
                have HE := Lib.hid (show insM (srtM (alL p 1 z (gridL f p.toNat x ++ rowL f x y))) ((x : Int), m2, (y : Int), m4, 0, 0) = srtM (alL p 1 z (gridL f p.toNat x ++ rowL f x (y + 1))) from by rw [rowL_yes hfa, ← List.append_assoc, alL_snoc, HM.out, srtM_snoc])
                go_wp2_with fail
                refine Calls.mono (put7_any (srtM (alL p 1 z (gridL f p.toNat x ++ rowL f x y))) (x : Int) m2 (y : Int) m4 0 0 g m cap w.heap.size _ HMM.out (by omega) (srtM_sorted _) HNW.out (by omega) ho3) ?_
                rintro e w4 ⟨g', cap', rfl, ho4, hB4⟩
                rw [HE.out] at ho4 ⊢
                obtain ⟨M, hMl⟩ : ∃ M, M = (srtM (alL p 1 z (gridL f p.toNat x ++ rowL f x (y + 1)))).length := ⟨_, rfl⟩
                rw [← hMl] at ho4 ⊢
                have HML := Lib.hid hMl
                have HQ := Lib.hid ho4
                clear hMl ho4 ho3
                go_wp2
                go_roundw
                case rel => exact ⟨y + 1, by omega, by go_num, g', M, cap', HML.out, rfl, HQ.out, hb3.trans (hB4.mono hb3.size)⟩
                case measure => have := HC0.out; simp [intOf]; omega
          · rcases bool_ways ((x : Int) != 0) with bx | bx
            · rcases bool_ways ((y : Int) != 0) with by_ | by_
              · have EX := Lib.hid (show (x : Int) = 0 from by simpa using bx)
                have EY := Lib.hid (show (y : Int) = 0 from by simpa using by_)
                have H10 := Lib.hid (show ((y : Int)) % p = m2 from by rw [H2.out]; unfold alQ; rw [if_neg (show ¬ (2 : Int) = 0 by decide), if_pos (show (2 : Int) = 2 from rfl), if_pos EY.out])
                have H11 := Lib.hid (show ((x : Int)) % p = m4 from by rw [H4.out]; unfold alR; rw [if_pos (show (2 : Int) = 2 from rfl), if_pos EX.out])
                go_wp2_with fail
                refine Calls.mono (mod_any _ p _ (by omega) (by omega) (by omega) (by omega)) ?_
                rw [H10.out]
                rintro e w' ⟨rfl, rfl⟩
                go_wp2_with fail
                refine Calls.mono (mod_any _ p _ (by omega) (by omega) (by omega) (by omega)) ?_
                rw [H11.out]
                rintro e w' ⟨rfl, rfl⟩
                go_wp2_with fail
                refine Calls.mono (HG.out _) ?_
                rintro e w2 ⟨rfl, hB2⟩
                have s0 : w2.cell? ⟨wr.heap.size, 0, none⟩ = some (.int .i64 (x : Int)) := kcall hB2 (by (first | with_reducible assumption | (repeat (first | with_reducible assumption | ((with_reducible refine kfresh ?_ ?_) <;> (first | with_reducible rfl | (simp; done))) | ((with_reducible refine ksameS ?_); focus ((repeat (first | with_reducible exact kis_of (by with_reducible assumption) | with_reducible refine kis_set ?_ | ((with_reducible refine kis_new ?_ ?_) <;> (first | with_reducible rfl | rfl | (simp; done))) | with_reducible refine kis_alloc _ ?_ | with_reducible refine kis_drew ?_ | with_reducible refine kis_call (by with_reducible assumption) ?_ | with_reducible exact kis_of (kcall (by with_reducible assumption) (by with_reducible assumption)))); done)) | with_reducible refine kother (by decide) ?_ | with_reducible refine kset (by first | omega | (simp; done) | (simp; omega)) ?_ | with_reducible refine kalloc _ ?_ | with_reducible refine kdrew ?_ | with_reducible refine kdrewN ?_ | with_reducible refine kcall (by with_reducible assumption) ?_))))
                have s1 : w2.cell? ⟨wr.heap.size, 1, none⟩ = some (.int .i64 m2) := kcall hB2 (by (first | with_reducible assumption | (repeat (first | with_reducible assumption | ((with_reducible refine kfresh ?_ ?_) <;> (first | with_reducible rfl | (simp; done))) | ((with_reducible refine ksameS ?_); focus ((repeat (first | with_reducible exact kis_of (by with_reducible assumption) | with_reducible refine kis_set ?_ | ((with_reducible refine kis_new ?_ ?_) <;> (first | with_reducible rfl | rfl | (simp; done))) | with_reducible refine kis_alloc _ ?_ | with_reducible refine kis_drew ?_ | with_reducible refine kis_call (by with_reducible assumption) ?_ | with_reducible exact kis_of (kcall (by with_reducible assumption) (by with_reducible assumption)))); done)) | with_reducible refine kother (by decide) ?_ | with_reducible refine kset (by first | omega | (simp; done) | (simp; omega)) ?_ | with_reducible refine kalloc _ ?_ | with_reducible refine kdrew ?_ | with_reducible refine kdrewN ?_ | with_reducible refine kcall (by with_reducible assumption) ?_))))
                have s2 : w2.cell? ⟨wr.heap.size, 2, none⟩ = some (.int .i64 (y : Int)) := kcall hB2 (by (first | with_reducible assumption | (repeat (first | with_reducible assumption | ((with_reducible refine kfresh ?_ ?_) <;> (first | with_reducible rfl | (simp; done))) | ((with_reducible refine ksameS ?_); focus ((repeat (first | with_reducible exact kis_of (by with_reducible assumption) | with_reducible refine kis_set ?_ | ((with_reducible refine kis_new ?_ ?_) <;> (first | with_reducible rfl | rfl | (simp; done))) | with_reducible refine kis_alloc _ ?_ | with_reducible refine kis_drew ?_ | with_reducible refine kis_call (by with_reducible assumption) ?_ | with_reducible exact kis_of (kcall (by with_reducible assumption) (by with_reducible assumption)))); done)) | with_reducible refine kother (by decide) ?_ | with_reducible refine kset (by first | omega | (simp; done) | (simp; omega)) ?_ | with_reducible refine kalloc _ ?_ | with_reducible refine kdrew ?_ | with_reducible refine kdrewN ?_ | with_reducible refine kcall (by with_reducible assumption) ?_))))
                have s3 : w2.cell? ⟨wr.heap.size, 3, none⟩ = some (.int .i64 m4) := kcall hB2 (by (first | with_reducible assumption | (repeat (first | with_reducible assumption | ((with_reducible refine kfresh ?_ ?_) <;> (first | with_reducible rfl | (simp; done))) | ((with_reducible refine ksameS ?_); focus ((repeat (first | with_reducible exact kis_of (by with_reducible assumption) | with_reducible refine kis_set ?_ | ((with_reducible refine kis_new ?_ ?_) <;> (first | with_reducible rfl | rfl | (simp; done))) | with_reducible refine kis_alloc _ ?_ | with_reducible refine kis_drew ?_ | with_reducible refine kis_call (by with_reducible assumption) ?_ | with_reducible exact kis_of (kcall (by with_reducible assumption) (by with_reducible assumption)))); done)) | with_reducible refine kother (by decide) ?_ | with_reducible refine kset (by first | omega | (simp; done) | (simp; omega)) ?_ | with_reducible refine kalloc _ ?_ | with_reducible refine kdrew ?_ | with_reducible refine kdrewN ?_ | with_reducible refine kcall (by with_reducible assumption) ?_))))
                have s4 : w2.cell? ⟨wr.heap.size, 4, none⟩ = some (.int .i64 0) := kcall hB2 (by (first | with_reducible assumption | (repeat (first | with_reducible assumption | ((with_reducible refine kfresh ?_ ?_) <;> (first | with_reducible rfl | (simp; done))) | ((with_reducible refine ksameS ?_); focus ((repeat (first | with_reducible exact kis_of (by with_reducible assumption) | with_reducible refine kis_set ?_ | ((with_reducible refine kis_new ?_ ?_) <;> (first | with_reducible rfl | rfl | (simp; done))) | with_reducible refine kis_alloc _ ?_ | with_reducible refine kis_drew ?_ | with_reducible refine kis_call (by with_reducible assumption) ?_ | with_reducible exact kis_of (kcall (by with_reducible assumption) (by with_reducible assumption)))); done)) | with_reducible refine kother (by decide) ?_ | with_reducible refine kset (by first | omega | (simp; done) | (simp; omega)) ?_ | with_reducible refine kalloc _ ?_ | with_reducible refine kdrew ?_ | with_reducible refine kdrewN ?_ | with_reducible refine kcall (by with_reducible assumption) ?_))))
                have s5 : w2.cell? ⟨wr.heap.size, 5, none⟩ = some (.int .i64 0) := kcall hB2 (by (first | with_reducible assumption | (repeat (first | with_reducible assumption | ((with_reducible refine kfresh ?_ ?_) <;> (first | with_reducible rfl | (simp; done))) | ((with_reducible refine ksameS ?_); focus ((repeat (first | with_reducible exact kis_of (by with_reducible assumption) | with_reducible refine kis_set ?_ | ((with_reducible refine kis_new ?_ ?_) <;> (first | with_reducible rfl | rfl | (simp; done))) | with_reducible refine kis_alloc _ ?_ | with_reducible refine kis_drew ?_ | with_reducible refine kis_call (by with_reducible assumption) ?_ | with_reducible exact kis_of (kcall (by with_reducible assumption) (by with_reducible assumption)))); done)) | with_reducible refine kother (by decide) ?_ | with_reducible refine kset (by first | omega | (simp; done) | (simp; omega)) ?_ | with_reducible refine kalloc _ ?_ | with_reducible refine kdrew ?_ | with_reducible refine kdrewN ?_ | with_reducible refine kcall (by with_reducible assumption) ?_))))
                have hW2 : Below wr.heap.size wr w2 := bthen (by (repeat (first | with_reducible exact Below.refl _ _ | with_reducible refine balloc ?_ _ | with_reducible refine bdrewN ?_ _ | with_reducible refine Below.drew ?_ | with_reducible refine bthen ?_ (by with_reducible assumption) | with_reducible refine Below.setCell ?_ (by first | (simp; done) | (simp; omega)) _))) hB2
                have hsW := hW2.size
                have ho2 := own_call HO.out hW2
                have hb2 := hbel.trans (hW2.mono hsr)
                have hlw : wr.heap.size < w2.heap.size := World.block_lt_of_cell? w2 ⟨wr.heap.size, 0, none⟩ s0
                clear hB2
                rcases bool_ways (mvB p 2 (x : Int) m2 (y : Int) m4) with hm1 | hm1
                · have hfa : f (x : Int) (y : Int) = false := by rw [HF.out, hm1]; rfl
                  have HU := Lib.hid (rowL_no hfa)
                  have HQ := Lib.hid ho2
                  clear ho2
                  go_wp2
                  go_roundw
                  case rel => exact ⟨y + 1, by omega, by go_num, g, m, cap, by rw [HU.out]; exact HMM.out, rfl, by rw [HU.out]; exact HQ.out, hb2⟩
                  case measure => have := HC0.out; simp [intOf]; omega
                · rcases bool_ways (sgn p (x : Int) m2 (y : Int) m4 == z % p) with hm2 | hm2
                  · have hfa : f (x : Int) (y : Int) = false := by rw [HF.out, hm1, hm2]; rfl
                    go_wp2_with fail
                    refine Calls.mono (HS.out _) ?_
                    rintro e w3 ⟨rfl, hB3⟩
                    have hW3 := hB3.size
                    have ho3 := own_call ho2 hB3
                    have hb3 := hb2.trans (hB3.mono hb2.size)
                    have t0 := kcall hB3 s0
                    have t1 := kcall hB3 s1
                    have t2 := kcall hB3 s2
                    have t3 := kcall hB3 s3
                    have t4 := kcall hB3 s4
                    have t5 := kcall hB3 s5
                    go_wp2_with fail
                    refine Calls.mono (mod_any z p _ (by omega) (by omega) (by omega) (by omega)) ?_
                    rintro e w' ⟨rfl, rfl⟩
                    clear ho2 hB3
                    have HU := Lib.hid (rowL_no hfa)
                    have HQ := Lib.hid ho3
                    clear ho3
                    go_wp2
                    go_roundw
                    case rel => exact ⟨y + 1, by omega, by go_num, g, m, cap, by rw [HU.out]; exact HMM.out, rfl, by rw [HU.out]; exact HQ.out, hb3⟩
                    case measure => have := HC0.out; simp [intOf]; omega
                  · have hfa : f (x : Int) (y : Int) = true := by rw [HF.out, hm1, hm2]; rfl
                    go_wp2_with fail
                    refine Calls.mono (HS.out _) ?_
                    rintro e w3 ⟨rfl, hB3⟩
                    have hW3 := hB3.size
                    have ho3 := own_call ho2 hB3
                    have hb3 := hb2.trans (hB3.mono hb2.size)
                    have t0 := kcall hB3 s0
                    have t1 := kcall hB3 s1
                    have t2 := kcall hB3 s2
                    have t3 := kcall hB3 s3
                    have t4 := kcall hB3 s4
                    have t5 := kcall hB3 s5
                    go_wp2_with fail
                    refine Calls.mono (mod_any z p _ (by omega) (by omega) (by omega) (by omega)) ?_
                    rintro e w' ⟨rfl, rfl⟩
                    clear ho2 hB3
                    have HE := Lib.hid (show insM (srtM (alL p 2 z (gridL f p.toNat x ++ rowL f x y))) ((x : Int), m2, (y : Int), m4, 0, 0) = srtM (alL p 2 z (gridL f p.toNat x ++ rowL f x (y + 1))) from by rw [rowL_yes hfa, ← List.append_assoc, alL_snoc, HM.out, srtM_snoc])
                    go_wp2_with fail
                    refine Calls.mono (put7_any (srtM (alL p 2 z (gridL f p.toNat x ++ rowL f x y))) (x : Int) m2 (y : Int) m4 0 0 g m cap w.heap.size _ HMM.out (by omega) (srtM_sorted _) HNW.out (by omega) ho3) ?_
                    rintro e w4 ⟨g', cap', rfl, ho4, hB4⟩
                    rw [HE.out] at ho4 ⊢
                    obtain ⟨M, hMl⟩ : ∃ M, M = (srtM (alL p 2 z (gridL f p.toNat x ++ rowL f x (y + 1)))).length := ⟨_, rfl⟩
                    rw [← hMl] at ho4 ⊢
                    have HML := Lib.hid hMl
                    have HQ := Lib.hid ho4
                    clear hMl ho4 ho3
                    go_wp2
                    go_roundw
                    case rel => exact ⟨y + 1, by omega, by go_num, g', M, cap', HML.out, rfl, HQ.out, hb3.trans (hB4.mono hb3.size)⟩
                    case measure => have := HC0.out; simp [intOf]; omega
              · have EX := Lib.hid (show (x : Int) = 0 from by simpa using bx)
                have EY := Lib.hid (show ¬ (y : Int) = 0 from by simpa using by_)
                have H10 := Lib.hid (show (inv p (y : Int)) % p = m2 from by rw [H2.out]; unfold alQ; rw [if_neg (show ¬ (2 : Int) = 0 by decide), if_pos (show (2 : Int) = 2 from rfl), if_neg EY.out])
                have H11 := Lib.hid (show ((x : Int)) % p = m4 from by rw [H4.out]; unfold alR; rw [if_pos (show (2 : Int) = 2 from rfl), if_pos EX.out])
                go_wp2_with fail
                refine Calls.mono (inverse_any (y : Int) p _ hp (by omega) (by omega)) ?_
                rintro e w' ⟨rfl, rfl⟩
                go_wp2_with fail
                refine Calls.mono (mod_any _ p _ (by omega) (by omega) (by omega) (by omega)) ?_
                rw [H10.out]
                rintro e w' ⟨rfl, rfl⟩
                go_wp2_with fail
                refine Calls.mono (mod_any _ p _ (by omega) (by omega) (by omega) (by omega)) ?_
                rw [H11.out]
                rintro e w' ⟨rfl, rfl⟩
                go_wp2_with fail
                refine Calls.mono (HG.out _) ?_
                rintro e w2 ⟨rfl, hB2⟩
                have s0 : w2.cell? ⟨wr.heap.size, 0, none⟩ = some (.int .i64 (x : Int)) := kcall hB2 (by (first | with_reducible assumption | (repeat (first | with_reducible assumption | ((with_reducible refine kfresh ?_ ?_) <;> (first | with_reducible rfl | (simp; done))) | ((with_reducible refine ksameS ?_); focus ((repeat (first | with_reducible exact kis_of (by with_reducible assumption) | with_reducible refine kis_set ?_ | ((with_reducible refine kis_new ?_ ?_) <;> (first | with_reducible rfl | rfl | (simp; done))) | with_reducible refine kis_alloc _ ?_ | with_reducible refine kis_drew ?_ | with_reducible refine kis_call (by with_reducible assumption) ?_ | with_reducible exact kis_of (kcall (by with_reducible assumption) (by with_reducible assumption)))); done)) | with_reducible refine kother (by decide) ?_ | with_reducible refine kset (by first | omega | (simp; done) | (simp; omega)) ?_ | with_reducible refine kalloc _ ?_ | with_reducible refine kdrew ?_ | with_reducible refine kdrewN ?_ | with_reducible refine kcall (by with_reducible assumption) ?_))))
                have s1 : w2.cell? ⟨wr.heap.size, 1, none⟩ = some (.int .i64 m2) := kcall hB2 (by (first | with_reducible assumption | (repeat (first | with_reducible assumption | ((with_reducible refine kfresh ?_ ?_) <;> (first | with_reducible rfl | (simp; done))) | ((with_reducible refine ksameS ?_); focus ((repeat (first | with_reducible exact kis_of (by with_reducible assumption) | with_reducible refine kis_set ?_ | ((with_reducible refine kis_new ?_ ?_) <;> (first | with_reducible rfl | rfl | (simp; done))) | with_reducible refine kis_alloc _ ?_ | with_reducible refine kis_drew ?_ | with_reducible refine kis_call (by with_reducible assumption) ?_ | with_reducible exact kis_of (kcall (by with_reducible assumption) (by with_reducible assumption)))); done)) | with_reducible refine kother (by decide) ?_ | with_reducible refine kset (by first | omega | (simp; done) | (simp; omega)) ?_ | with_reducible refine kalloc _ ?_ | with_reducible refine kdrew ?_ | with_reducible refine kdrewN ?_ | with_reducible refine kcall (by with_reducible assumption) ?_))))
                have s2 : w2.cell? ⟨wr.heap.size, 2, none⟩ = some (.int .i64 (y : Int)) := kcall hB2 (by (first | with_reducible assumption | (repeat (first | with_reducible assumption | ((with_reducible refine kfresh ?_ ?_) <;> (first | with_reducible rfl | (simp; done))) | ((with_reducible refine ksameS ?_); focus ((repeat (first | with_reducible exact kis_of (by with_reducible assumption) | with_reducible refine kis_set ?_ | ((with_reducible refine kis_new ?_ ?_) <;> (first | with_reducible rfl | rfl | (simp; done))) | with_reducible refine kis_alloc _ ?_ | with_reducible refine kis_drew ?_ | with_reducible refine kis_call (by with_reducible assumption) ?_ | with_reducible exact kis_of (kcall (by with_reducible assumption) (by with_reducible assumption)))); done)) | with_reducible refine kother (by decide) ?_ | with_reducible refine kset (by first | omega | (simp; done) | (simp; omega)) ?_ | with_reducible refine kalloc _ ?_ | with_reducible refine kdrew ?_ | with_reducible refine kdrewN ?_ | with_reducible refine kcall (by with_reducible assumption) ?_))))
                have s3 : w2.cell? ⟨wr.heap.size, 3, none⟩ = some (.int .i64 m4) := kcall hB2 (by (first | with_reducible assumption | (repeat (first | with_reducible assumption | ((with_reducible refine kfresh ?_ ?_) <;> (first | with_reducible rfl | (simp; done))) | ((with_reducible refine ksameS ?_); focus ((repeat (first | with_reducible exact kis_of (by with_reducible assumption) | with_reducible refine kis_set ?_ | ((with_reducible refine kis_new ?_ ?_) <;> (first | with_reducible rfl | rfl | (simp; done))) | with_reducible refine kis_alloc _ ?_ | with_reducible refine kis_drew ?_ | with_reducible refine kis_call (by with_reducible assumption) ?_ | with_reducible exact kis_of (kcall (by with_reducible assumption) (by with_reducible assumption)))); done)) | with_reducible refine kother (by decide) ?_ | with_reducible refine kset (by first | omega | (simp; done) | (simp; omega)) ?_ | with_reducible refine kalloc _ ?_ | with_reducible refine kdrew ?_ | with_reducible refine kdrewN ?_ | with_reducible refine kcall (by with_reducible assumption) ?_))))
                have s4 : w2.cell? ⟨wr.heap.size, 4, none⟩ = some (.int .i64 0) := kcall hB2 (by (first | with_reducible assumption | (repeat (first | with_reducible assumption | ((with_reducible refine kfresh ?_ ?_) <;> (first | with_reducible rfl | (simp; done))) | ((with_reducible refine ksameS ?_); focus ((repeat (first | with_reducible exact kis_of (by with_reducible assumption) | with_reducible refine kis_set ?_ | ((with_reducible refine kis_new ?_ ?_) <;> (first | with_reducible rfl | rfl | (simp; done))) | with_reducible refine kis_alloc _ ?_ | with_reducible refine kis_drew ?_ | with_reducible refine kis_call (by with_reducible assumption) ?_ | with_reducible exact kis_of (kcall (by with_reducible assumption) (by with_reducible assumption)))); done)) | with_reducible refine kother (by decide) ?_ | with_reducible refine kset (by first | omega | (simp; done) | (simp; omega)) ?_ | with_reducible refine kalloc _ ?_ | with_reducible refine kdrew ?_ | with_reducible refine kdrewN ?_ | with_reducible refine kcall (by with_reducible assumption) ?_))))
                have s5 : w2.cell? ⟨wr.heap.size, 5, none⟩ = some (.int .i64 0) := kcall hB2 (by (first | with_reducible assumption | (repeat (first | with_reducible assumption | ((with_reducible refine kfresh ?_ ?_) <;> (first | with_reducible rfl | (simp; done))) | ((with_reducible refine ksameS ?_); focus ((repeat (first | with_reducible exact kis_of (by with_reducible assumption) | with_reducible refine kis_set ?_ | ((with_reducible refine kis_new ?_ ?_) <;> (first | with_reducible rfl | rfl | (simp; done))) | with_reducible refine kis_alloc _ ?_ | with_reducible refine kis_drew ?_ | with_reducible refine kis_call (by with_reducible assumption) ?_ | with_reducible exact kis_of (kcall (by with_reducible assumption) (by with_reducible assumption)))); done)) | with_reducible refine kother (by decide) ?_ | with_reducible refine kset (by first | omega | (simp; done) | (simp; omega)) ?_ | with_reducible refine kalloc _ ?_ | with_reducible refine kdrew ?_ | with_reducible refine kdrewN ?_ | with_reducible refine kcall (by with_reducible assumption) ?_))))
                have hW2 : Below wr.heap.size wr w2 := bthen (by (repeat (first | with_reducible exact Below.refl _ _ | with_reducible refine balloc ?_ _ | with_reducible refine bdrewN ?_ _ | with_reducible refine Below.drew ?_ | with_reducible refine bthen ?_ (by with_reducible assumption) | with_reducible refine Below.setCell ?_ (by first | (simp; done) | (simp; omega)) _))) hB2
                have hsW := hW2.size
                have ho2 := own_call HO.out hW2
                have hb2 := hbel.trans (hW2.mono hsr)
                have hlw : wr.heap.size < w2.heap.size := World.block_lt_of_cell? w2 ⟨wr.heap.size, 0, none⟩ s0
                clear hB2
                rcases bool_ways (mvB p 2 (x : Int) m2 (y : Int) m4) with hm1 | hm1
                · have hfa : f (x : Int) (y : Int) = false := by rw [HF.out, hm1]; rfl
                  have HU := Lib.hid (rowL_no hfa)
                  have HQ := Lib.hid ho2
                  clear ho2
                  go_wp2
                  go_roundw
                  case rel => exact ⟨y + 1, by omega, by go_num, g, m, cap, by rw [HU.out]; exact HMM.out, rfl, by rw [HU.out]; exact HQ.out, hb2⟩
                  case measure => have := HC0.out; simp [intOf]; omega
                · rcases bool_ways (sgn p (x : Int) m2 (y : Int) m4 == z % p) with hm2 | hm2
                  · have hfa : f (x : Int) (y : Int) = false := by rw [HF.out, hm1, hm2]; rfl
                    go_wp2_with fail
                    refine Calls.mono (HS.out _) ?_
                    rintro e w3 ⟨rfl, hB3⟩
                    have hW3 := hB3.size
                    have ho3 := own_call ho2 hB3
                    have hb3 := hb2.trans (hB3.mono hb2.size)
                    have t0 := kcall hB3 s0
                    have t1 := kcall hB3 s1
                    have t2 := kcall hB3 s2
                    have t3 := kcall hB3 s3
                    have t4 := kcall hB3 s4
                    have t5 := kcall hB3 s5
                    go_wp2_with fail
                    refine Calls.mono (mod_any z p _ (by omega) (by omega) (by omega) (by omega)) ?_
                    rintro e w' ⟨rfl, rfl⟩
                    clear ho2 hB3
                    have HU := Lib.hid (rowL_no hfa)
                    have HQ := Lib.hid ho3
                    clear ho3
                    go_wp2
                    go_roundw
                    case rel => exact ⟨y + 1, by omega, by go_num, g, m, cap, by rw [HU.out]; exact HMM.out, rfl, by rw [HU.out]; exact HQ.out, hb3⟩
                    case measure => have := HC0.out; simp [intOf]; omega
                  · have hfa : f (x : Int) (y : Int) = true := by rw [HF.out, hm1, hm2]; rfl
                    go_wp2_with fail
                    refine Calls.mono (HS.out _) ?_
                    rintro e w3 ⟨rfl, hB3⟩
                    have hW3 := hB3.size
                    have ho3 := own_call ho2 hB3
                    have hb3 := hb2.trans (hB3.mono hb2.size)
                    have t0 := kcall hB3 s0
                    have t1 := kcall hB3 s1
                    have t2 := kcall hB3 s2
                    have t3 := kcall hB3 s3
                    have t4 := kcall hB3 s4
                    have t5 := kcall hB3 s5
                    go_wp2_with fail
                    refine Calls.mono (mod_any z p _ (by omega) (by omega) (by omega) (by omega)) ?_
                    rintro e w' ⟨rfl, rfl⟩
                    clear ho2 hB3
                    have HE := Lib.hid (show insM (srtM (alL p 2 z (gridL f p.toNat x ++ rowL f x y))) ((x : Int), m2, (y : Int), m4, 0, 0) = srtM (alL p 2 z (gridL f p.toNat x ++ rowL f x (y + 1))) from by rw [rowL_yes hfa, ← List.append_assoc, alL_snoc, HM.out, srtM_snoc])
                    go_wp2_with fail
                    refine Calls.mono (put7_any (srtM (alL p 2 z (gridL f p.toNat x ++ rowL f x y))) (x : Int) m2 (y : Int) m4 0 0 g m cap w.heap.size _ HMM.out (by omega) (srtM_sorted _) HNW.out (by omega) ho3) ?_
                    rintro e w4 ⟨g', cap', rfl, ho4, hB4⟩
                    rw [HE.out] at ho4 ⊢
                    obtain ⟨M, hMl⟩ : ∃ M, M = (srtM (alL p 2 z (gridL f p.toNat x ++ rowL f x (y + 1)))).length := ⟨_, rfl⟩
                    rw [← hMl] at ho4 ⊢
                    have HML := Lib.hid hMl
                    have HQ := Lib.hid ho4
                    clear hMl ho4 ho3
                    go_wp2
                    go_roundw
                    case rel => exact ⟨y + 1, by omega, by go_num, g', M, cap', HML.out, rfl, HQ.out, hb3.trans (hB4.mono hb3.size)⟩
                    case measure => have := HC0.out; simp [intOf]; omega
            · rcases bool_ways ((y : Int) != 0) with by_ | by_
              · have EX := Lib.hid (show ¬ (x : Int) = 0 from by simpa using bx)
                have EY := Lib.hid (show (y : Int) = 0 from by simpa using by_)
                have H10 := Lib.hid (show ((y : Int)) % p = m2 from by rw [H2.out]; unfold alQ; rw [if_neg (show ¬ (2 : Int) = 0 by decide), if_pos (show (2 : Int) = 2 from rfl), if_pos EY.out])
                have H11 := Lib.hid (show (inv p (x : Int)) % p = m4 from by rw [H4.out]; unfold alR; rw [if_pos (show (2 : Int) = 2 from rfl), if_neg EX.out])
                go_wp2_with fail
                refine Calls.mono (inverse_any (x : Int) p _ hp (by omega) (by omega)) ?_
                rintro e w' ⟨rfl, rfl⟩
                go_wp2_with fail
                refine Calls.mono (mod_any _ p _ (by omega) (by omega) (by omega) (by omega)) ?_
                rw [H10.out]
                rintro e w' ⟨rfl, rfl⟩
                go_wp2_with fail
                refine Calls.mono (mod_any _ p _ (by omega) (by omega) (by omega) (by omega)) ?_
                rw [H11.out]
                rintro e w' ⟨rfl, rfl⟩
                go_wp2_with fail
                refine Calls.mono (HG.out _) ?_
                rintro e w2 ⟨rfl, hB2⟩
                have s0 : w2.cell? ⟨wr.heap.size, 0, none⟩ = some (.int .i64 (x : Int)) := kcall hB2 (by (first | with_reducible assumption | (repeat (first | with_reducible assumption | ((with_reducible refine kfresh ?_ ?_) <;> (first | with_reducible rfl | (simp; done))) | ((with_reducible refine ksameS ?_); focus ((repeat (first | with_reducible exact kis_of (by with_reducible assumption) | with_reducible refine kis_set ?_ | ((with_reducible refine kis_new ?_ ?_) <;> (first | with_reducible rfl | rfl | (simp; done))) | with_reducible refine kis_alloc _ ?_ | with_reducible refine kis_drew ?_ | with_reducible refine kis_call (by with_reducible assumption) ?_ | with_reducible exact kis_of (kcall (by with_reducible assumption) (by with_reducible assumption)))); done)) | with_reducible refine kother (by decide) ?_ | with_reducible refine kset (by first | omega | (simp; done) | (simp; omega)) ?_ | with_reducible refine kalloc _ ?_ | with_reducible refine kdrew ?_ | with_reducible refine kdrewN ?_ | with_reducible refine kcall (by with_reducible assumption) ?_))))
                have s1 : w2.cell? ⟨wr.heap.size, 1, none⟩ = some (.int .i64 m2) := kcall hB2 (by (first | with_reducible assumption | (repeat (first | with_reducible assumption | ((with_reducible refine kfresh ?_ ?_) <;> (first | with_reducible rfl | (simp; done))) | ((with_reducible refine ksameS ?_); focus ((repeat (first | with_reducible exact kis_of (by with_reducible assumption) | with_reducible refine kis_set ?_ | ((with_reducible refine kis_new ?_ ?_) <;> (first | with_reducible rfl | rfl | (simp; done))) | with_reducible refine kis_alloc _ ?_ | with_reducible refine kis_drew ?_ | with_reducible refine kis_call (by with_reducible assumption) ?_ | with_reducible exact kis_of (kcall (by with_reducible assumption) (by with_reducible assumption)))); done)) | with_reducible refine kother (by decide) ?_ | with_reducible refine kset (by first | omega | (simp; done) | (simp; omega)) ?_ | with_reducible refine kalloc _ ?_ | with_reducible refine kdrew ?_ | with_reducible refine kdrewN ?_ | with_reducible refine kcall (by with_reducible assumption) ?_))))
                have s2 : w2.cell? ⟨wr.heap.size, 2, none⟩ = some (.int .i64 (y : Int)) := kcall hB2 (by (first | with_reducible assumption | (repeat (first | with_reducible assumption | ((with_reducible refine kfresh ?_ ?_) <;> (first | with_reducible rfl | (simp; done))) | ((with_reducible refine ksameS ?_); focus ((repeat (first | with_reducible exact kis_of (by with_reducible assumption) | with_reducible refine kis_set ?_ | ((with_reducible refine kis_new ?_ ?_) <;> (first | with_reducible rfl | rfl | (simp; done))) | with_reducible refine kis_alloc _ ?_ | with_reducible refine kis_drew ?_ | with_reducible refine kis_call (by with_reducible assumption) ?_ | with_reducible exact kis_of (kcall (by with_reducible assumption) (by with_reducible assumption)))); done)) | with_reducible refine kother (by decide) ?_ | with_reducible refine kset (by first | omega | (simp; done) | (simp; omega)) ?_ | with_reducible refine kalloc _ ?_ | with_reducible refine kdrew ?_ | with_reducible refine kdrewN ?_ | with_reducible refine kcall (by with_reducible assumption) ?_))))
                have s3 : w2.cell? ⟨wr.heap.size, 3, none⟩ = some (.int .i64 m4) := kcall hB2 (by (first | with_reducible assumption | (repeat (first | with_reducible assumption | ((with_reducible refine kfresh ?_ ?_) <;> (first | with_reducible rfl | (simp; done))) | ((with_reducible refine ksameS ?_); focus ((repeat (first | with_reducible exact kis_of (by with_reducible assumption) | with_reducible refine kis_set ?_ | ((with_reducible refine kis_new ?_ ?_) <;> (first | with_reducible rfl | rfl | (simp; done))) | with_reducible refine kis_alloc _ ?_ | with_reducible refine kis_drew ?_ | with_reducible refine kis_call (by with_reducible assumption) ?_ | with_reducible exact kis_of (kcall (by with_reducible assumption) (by with_reducible assumption)))); done)) | with_reducible refine kother (by decide) ?_ | with_reducible refine kset (by first | omega | (simp; done) | (simp; omega)) ?_ | with_reducible refine kalloc _ ?_ | with_reducible refine kdrew ?_ | with_reducible refine kdrewN ?_ | with_reducible refine kcall (by with_reducible assumption) ?_))))
                have s4 : w2.cell? ⟨wr.heap.size, 4, none⟩ = some (.int .i64 0) := kcall hB2 (by (first | with_reducible assumption | (repeat (first | with_reducible assumption | ((with_reducible refine kfresh ?_ ?_) <;> (first | with_reducible rfl | (simp; done))) | ((with_reducible refine ksameS ?_); focus ((repeat (first | with_reducible exact kis_of (by with_reducible assumption) | with_reducible refine kis_set ?_ | ((with_reducible refine kis_new ?_ ?_) <;> (first | with_reducible rfl | rfl | (simp; done))) | with_reducible refine kis_alloc _ ?_ | with_reducible refine kis_drew ?_ | with_reducible refine kis_call (by with_reducible assumption) ?_ | with_reducible exact kis_of (kcall (by with_reducible assumption) (by with_reducible assumption)))); done)) | with_reducible refine kother (by decide) ?_ | with_reducible refine kset (by first | omega | (simp; done) | (simp; omega)) ?_ | with_reducible refine kalloc _ ?_ | with_reducible refine kdrew ?_ | with_reducible refine kdrewN ?_ | with_reducible refine kcall (by with_reducible assumption) ?_))))
                have s5 : w2.cell? ⟨wr.heap.size, 5, none⟩ = some (.int .i64 0) := kcall hB2 (by (first | with_reducible assumption | (repeat (first | with_reducible assumption | ((with_reducible refine kfresh ?_ ?_) <;> (first | with_reducible rfl | (simp; done))) | ((with_reducible refine ksameS ?_); focus ((repeat (first | with_reducible exact kis_of (by with_reducible assumption) | with_reducible refine kis_set ?_ | ((with_reducible refine kis_new ?_ ?_) <;> (first | with_reducible rfl | rfl | (simp; done))) | with_reducible refine kis_alloc _ ?_ | with_reducible refine kis_drew ?_ | with_reducible refine kis_call (by with_reducible assumption) ?_ | with_reducible exact kis_of (kcall (by with_reducible assumption) (by with_reducible assumption)))); done)) | with_reducible refine kother (by decide) ?_ | with_reducible refine kset (by first | omega | (simp; done) | (simp; omega)) ?_ | with_reducible refine kalloc _ ?_ | with_reducible refine kdrew ?_ | with_reducible refine kdrewN ?_ | with_reducible refine kcall (by with_reducible assumption) ?_))))
                have hW2 : Below wr.heap.size wr w2 := bthen (by (repeat (first | with_reducible exact Below.refl _ _ | with_reducible refine balloc ?_ _ | with_reducible refine bdrewN ?_ _ | with_reducible refine Below.drew ?_ | with_reducible refine bthen ?_ (by with_reducible assumption) | with_reducible refine Below.setCell ?_ (by first | (simp; done) | (simp; omega)) _))) hB2
                have hsW := hW2.size
                have ho2 := own_call HO.out hW2
                have hb2 := hbel.trans (hW2.mono hsr)
                have hlw : wr.heap.size < w2.heap.size := World.block_lt_of_cell? w2 ⟨wr.heap.size, 0, none⟩ s0
                clear hB2
                rcases bool_ways (mvB p 2 (x : Int) m2 (y : Int) m4) with hm1 | hm1
                · have hfa : f (x : Int) (y : Int) = false := by rw [HF.out, hm1]; rfl
                  have HU := Lib.hid (rowL_no hfa)
                  have HQ := Lib.hid ho2
                  clear ho2
                  go_wp2
                  go_roundw
                  case rel => exact ⟨y + 1, by omega, by go_num, g, m, cap, by rw [HU.out]; exact HMM.out, rfl, by rw [HU.out]; exact HQ.out, hb2⟩
                  case measure => have := HC0.out; simp [intOf]; omega
                · rcases bool_ways (sgn p (x : Int) m2 (y : Int) m4 == z % p) with hm2 | hm2
                  · have hfa : f (x : Int) (y : Int) = false := by rw [HF.out, hm1, hm2]; rfl
                    go_wp2_with fail
                    refine Calls.mono (HS.out _) ?_
                    rintro e w3 ⟨rfl, hB3⟩
                    have hW3 := hB3.size
                    have ho3 := own_call ho2 hB3
                    have hb3 := hb2.trans (hB3.mono hb2.size)
                    have t0 := kcall hB3 s0
                    have t1 := kcall hB3 s1
                    have t2 := kcall hB3 s2
                    have t3 := kcall hB3 s3
                    have t4 := kcall hB3 s4
                    have t5 := kcall hB3 s5
                    go_wp2_with fail
                    refine Calls.mono (mod_any z p _ (by omega) (by omega) (by omega) (by omega)) ?_
                    rintro e w' ⟨rfl, rfl⟩
                    clear ho2 hB3
                    have HU := Lib.hid (rowL_no hfa)
                    have HQ := Lib.hid ho3
                    clear ho3
                    go_wp2
                    go_roundw
                    case rel => exact ⟨y + 1, by omega, by go_num, g, m, cap, by rw [HU.out]; exact HMM.out, rfl, by rw [HU.out]; exact HQ.out, hb3⟩
                    case measure => have := HC0.out; simp [intOf]; omega
                  · have hfa : f (x : Int) (y : Int) = true := by rw [HF.out, hm1, hm2]; rfl
                    go_wp2_with fail
                    refine Calls.mono (HS.out _) ?_
                    rintro e w3 ⟨rfl, hB3⟩
                    have hW3 := hB3.size
                    have ho3 := own_call ho2 hB3
                    have hb3 := hb2.trans (hB3.mono hb2.size)
                    have t0 := kcall hB3 s0
                    have t1 := kcall hB3 s1
                    have t2 := kcall hB3 s2
                    have t3 := kcall hB3 s3
                    have t4 := kcall hB3 s4
                    have t5 := kcall hB3 s5
                    go_wp2_with fail
                    refine Calls.mono (mod_any z p _ (by omega) (by omega) (by omega) (by omega)) ?_
                    rintro e w' ⟨rfl, rfl⟩
                    clear ho2 hB3
                    have HE := Lib.hid (show insM (srtM (alL p 2 z (gridL f p.toNat x ++ rowL f x y))) ((x : Int), m2, (y : Int), m4, 0, 0) = srtM (alL p 2 z (gridL f p.toNat x ++ rowL f x (y + 1))) from by rw [rowL_yes hfa, ← List.append_assoc, alL_snoc, HM.out, srtM_snoc])
                    go_wp2_with fail
                    refine Calls.mono (put7_any (srtM (alL p 2 z (gridL f p.toNat x ++ rowL f x y))) (x : Int) m2 (y : Int) m4 0 0 g m cap w.heap.size _ HMM.out (by omega) (srtM_sorted _) HNW.out (by omega) ho3) ?_
                    rintro e w4 ⟨g', cap', rfl, ho4, hB4⟩
                    rw [HE.out] at ho4 ⊢
                    obtain ⟨M, hMl⟩ : ∃ M, M = (srtM (alL p 2 z (gridL f p.toNat x ++ rowL f x (y + 1)))).length := ⟨_, rfl⟩
                    rw [← hMl] at ho4 ⊢
                    have HML := Lib.hid hMl
                    have HQ := Lib.hid ho4
                    clear hMl ho4 ho3
                    go_wp2
                    go_roundw
                    case rel => exact ⟨y + 1, by omega, by go_num, g', M, cap', HML.out, rfl, HQ.out, hb3.trans (hB4.mono hb3.size)⟩
                    case measure => have := HC0.out; simp [intOf]; omega
              · have EX := Lib.hid (show ¬ (x : Int) = 0 from by simpa using bx)
                have EY := Lib.hid (show ¬ (y : Int) = 0 from by simpa using by_)
                have H10 := Lib.hid (show (inv p (y : Int)) % p = m2 from by rw [H2.out]; unfold alQ; rw [if_neg (show ¬ (2 : Int) = 0 by decide), if_pos (show (2 : Int) = 2 from rfl), if_neg EY.out])
                have H11 := Lib.hid (show (inv p (x : Int)) % p = m4 from by rw [H4.out]; unfold alR; rw [if_pos (show (2 : Int) = 2 from rfl), if_neg EX.out])
                go_wp2_with fail
                refine Calls.mono (inverse_any (x : Int) p _ hp (by omega) (by omega)) ?_
                rintro e w' ⟨rfl, rfl⟩
                go_wp2_with fail
                refine Calls.mono (inverse_any (y : Int) p _ hp (by omega) (by omega)) ?_
                rintro e w' ⟨rfl, rfl⟩
                go_wp2_with fail
                refine Calls.mono (mod_any _ p _ (by omega) (by omega) (by omega) (by omega)) ?_
                rw [H10.out]
                rintro e w' ⟨rfl, rfl⟩
                go_wp2_with fail
                refine Calls.mono (mod_any _ p _ (by omega) (by omega) (by omega) (by omega)) ?_
                rw [H11.out]
                rintro e w' ⟨rfl, rfl⟩
                go_wp2_with fail
                refine Calls.mono (HG.out _) ?_
                rintro e w2 ⟨rfl, hB2⟩
                have s0 : w2.cell? ⟨wr.heap.size, 0, none⟩ = some (.int .i64 (x : Int)) := kcall hB2 (by (first | with_reducible assumption | (repeat (first | with_reducible assumption | ((with_reducible refine kfresh ?_ ?_) <;> (first | with_reducible rfl | (simp; done))) | ((with_reducible refine ksameS ?_); focus ((repeat (first | with_reducible exact kis_of (by with_reducible assumption) | with_reducible refine kis_set ?_ | ((with_reducible refine kis_new ?_ ?_) <;> (first | with_reducible rfl | rfl | (simp; done))) | with_reducible refine kis_alloc _ ?_ | with_reducible refine kis_drew ?_ | with_reducible refine kis_call (by with_reducible assumption) ?_ | with_reducible exact kis_of (kcall (by with_reducible assumption) (by with_reducible assumption)))); done)) | with_reducible refine kother (by decide) ?_ | with_reducible refine kset (by first | omega | (simp; done) | (simp; omega)) ?_ | with_reducible refine kalloc _ ?_ | with_reducible refine kdrew ?_ | with_reducible refine kdrewN ?_ | with_reducible refine kcall (by with_reducible assumption) ?_))))
                have s1 : w2.cell? ⟨wr.heap.size, 1, none⟩ = some (.int .i64 m2) := kcall hB2 (by (first | with_reducible assumption | (repeat (first | with_reducible assumption | ((with_reducible refine kfresh ?_ ?_) <;> (first | with_reducible rfl | (simp; done))) | ((with_reducible refine ksameS ?_); focus ((repeat (first | with_reducible exact kis_of (by with_reducible assumption) | with_reducible refine kis_set ?_ | ((with_reducible refine kis_new ?_ ?_) <;> (first | with_reducible rfl | rfl | (simp; done))) | with_reducible refine kis_alloc _ ?_ | with_reducible refine kis_drew ?_ | with_reducible refine kis_call (by with_reducible assumption) ?_ | with_reducible exact kis_of (kcall (by with_reducible assumption) (by with_reducible assumption)))); done)) | with_reducible refine kother (by decide) ?_ | with_reducible refine kset (by first | omega | (simp; done) | (simp; omega)) ?_ | with_reducible refine kalloc _ ?_ | with_reducible refine kdrew ?_ | with_reducible refine kdrewN ?_ | with_reducible refine kcall (by with_reducible assumption) ?_))))
                have s2 : w2.cell? ⟨wr.heap.size, 2, none⟩ = some (.int .i64 (y : Int)) := kcall hB2 (by (first | with_reducible assumption | (repeat (first | with_reducible assumption | ((with_reducible refine kfresh ?_ ?_) <;> (first | with_reducible rfl | (simp; done))) | ((with_reducible refine ksameS ?_); focus ((repeat (first | with_reducible exact kis_of (by with_reducible assumption) | with_reducible refine kis_set ?_ | ((with_reducible refine kis_new ?_ ?_) <;> (first | with_reducible rfl | rfl | (simp; done))) | with_reducible refine kis_alloc _ ?_ | with_reducible refine kis_drew ?_ | with_reducible refine kis_call (by with_reducible assumption) ?_ | with_reducible exact kis_of (kcall (by with_reducible assumption) (by with_reducible assumption)))); done)) | with_reducible refine kother (by decide) ?_ | with_reducible refine kset (by first | omega | (simp; done) | (simp; omega)) ?_ | with_reducible refine kalloc _ ?_ | with_reducible refine kdrew ?_ | with_reducible refine kdrewN ?_ | with_reducible refine kcall (by with_reducible assumption) ?_))))
                have s3 : w2.cell? ⟨wr.heap.size, 3, none⟩ = some (.int .i64 m4) := kcall hB2 (by (first | with_reducible assumption | (repeat (first | with_reducible assumption | ((with_reducible refine kfresh ?_ ?_) <;> (first | with_reducible rfl | (simp; done))) | ((with_reducible refine ksameS ?_); focus ((repeat (first | with_reducible exact kis_of (by with_reducible assumption) | with_reducible refine kis_set ?_ | ((with_reducible refine kis_new ?_ ?_) <;> (first | with_reducible rfl | rfl | (simp; done))) | with_reducible refine kis_alloc _ ?_ | with_reducible refine kis_drew ?_ | with_reducible refine kis_call (by with_reducible assumption) ?_ | with_reducible exact kis_of (kcall (by with_reducible assumption) (by with_reducible assumption)))); done)) | with_reducible refine kother (by decide) ?_ | with_reducible refine kset (by first | omega | (simp; done) | (simp; omega)) ?_ | with_reducible refine kalloc _ ?_ | with_reducible refine kdrew ?_ | with_reducible refine kdrewN ?_ | with_reducible refine kcall (by with_reducible assumption) ?_))))
                have s4 : w2.cell? ⟨wr.heap.size, 4, none⟩ = some (.int .i64 0) := kcall hB2 (by (first | with_reducible assumption | (repeat (first | with_reducible assumption | ((with_reducible refine kfresh ?_ ?_) <;> (first | with_reducible rfl | (simp; done))) | ((with_reducible refine ksameS ?_); focus ((repeat (first | with_reducible exact kis_of (by with_reducible assumption) | with_reducible refine kis_set ?_ | ((with_reducible refine kis_new ?_ ?_) <;> (first | with_reducible rfl | rfl | (simp; done))) | with_reducible refine kis_alloc _ ?_ | with_reducible refine kis_drew ?_ | with_reducible refine kis_call (by with_reducible assumption) ?_ | with_reducible exact kis_of (kcall (by with_reducible assumption) (by with_reducible assumption)))); done)) | with_reducible refine kother (by decide) ?_ | with_reducible refine kset (by first | omega | (simp; done) | (simp; omega)) ?_ | with_reducible refine kalloc _ ?_ | with_reducible refine kdrew ?_ | with_reducible refine kdrewN ?_ | with_reducible refine kcall (by with_reducible assumption) ?_))))
                have s5 : w2.cell? ⟨wr.heap.size, 5, none⟩ = some (.int .i64 0) := kcall hB2 (by (first | with_reducible assumption | (repeat (first | with_reducible assumption | ((with_reducible refine kfresh ?_ ?_) <;> (first | with_reducible rfl | (simp; done))) | ((with_reducible refine ksameS ?_); focus ((repeat (first | with_reducible exact kis_of (by with_reducible assumption) | with_reducible refine kis_set ?_ | ((with_reducible refine kis_new ?_ ?_) <;> (first | with_reducible rfl | rfl | (simp; done))) | with_reducible refine kis_alloc _ ?_ | with_reducible refine kis_drew ?_ | with_reducible refine kis_call (by with_reducible assumption) ?_ | with_reducible exact kis_of (kcall (by with_reducible assumption) (by with_reducible assumption)))); done)) | with_reducible refine kother (by decide) ?_ | with_reducible refine kset (by first | omega | (simp; done) | (simp; omega)) ?_ | with_reducible refine kalloc _ ?_ | with_reducible refine kdrew ?_ | with_reducible refine kdrewN ?_ | with_reducible refine kcall (by with_reducible assumption) ?_))))
                have hW2 : Below wr.heap.size wr w2 := bthen (by (repeat (first | with_reducible exact Below.refl _ _ | with_reducible refine balloc ?_ _ | with_reducible refine bdrewN ?_ _ | with_reducible refine Below.drew ?_ | with_reducible refine bthen ?_ (by with_reducible assumption) | with_reducible refine Below.setCell ?_ (by first | (simp; done) | (simp; omega)) _))) hB2
                have hsW := hW2.size
                have ho2 := own_call HO.out hW2
                have hb2 := hbel.trans (hW2.mono hsr)
                have hlw : wr.heap.size < w2.heap.size := World.block_lt_of_cell? w2 ⟨wr.heap.size, 0, none⟩ s0
                clear hB2
                rcases bool_ways (mvB p 2 (x : Int) m2 (y : Int) m4) with hm1 | hm1
                · have hfa : f (x : Int) (y : Int) = false := by rw [HF.out, hm1]; rfl
                  have HU := Lib.hid (rowL_no hfa)
                  have HQ := Lib.hid ho2
                  clear ho2
                  go_wp2
                  go_roundw
                  case rel => exact ⟨y + 1, by omega, by go_num, g, m, cap, by rw [HU.out]; exact HMM.out, rfl, by rw [HU.out]; exact HQ.out, hb2⟩
                  case measure => have := HC0.out; simp [intOf]; omega
                · rcases bool_ways (sgn p (x : Int) m2 (y : Int) m4 == z % p) with hm2 | hm2
                  · have hfa : f (x : Int) (y : Int) = false := by rw [HF.out, hm1, hm2]; rfl
                    go_wp2_with fail
                    refine Calls.mono (HS.out _) ?_
                    rintro e w3 ⟨rfl, hB3⟩
                    have hW3 := hB3.size
                    have ho3 := own_call ho2 hB3
                    have hb3 := hb2.trans (hB3.mono hb2.size)
                    have t0 := kcall hB3 s0
                    have t1 := kcall hB3 s1
                    have t2 := kcall hB3 s2
                    have t3 := kcall hB3 s3
                    have t4 := kcall hB3 s4
                    have t5 := kcall hB3 s5
                    go_wp2_with fail
                    refine Calls.mono (mod_any z p _ (by omega) (by omega) (by omega) (by omega)) ?_
                    rintro e w' ⟨rfl, rfl⟩
                    clear ho2 hB3
                    have HU := Lib.hid (rowL_no hfa)
                    have HQ := Lib.hid ho3
                    clear ho3
                    go_wp2
                    go_roundw
                    case rel => exact ⟨y + 1, by omega, by go_num, g, m, cap, by rw [HU.out]; exact HMM.out, rfl, by rw [HU.out]; exact HQ.out, hb3⟩
                    case measure => have := HC0.out; simp [intOf]; omega
                  · have hfa : f (x : Int) (y : Int) = true := by rw [HF.out, hm1, hm2]; rfl
                    go_wp2_with fail
                    refine Calls.mono (HS.out _) ?_
                    rintro e w3 ⟨rfl, hB3⟩
                    have hW3 := hB3.size
                    have ho3 := own_call ho2 hB3
                    have hb3 := hb2.trans (hB3.mono hb2.size)
                    have t0 := kcall hB3 s0
                    have t1 := kcall hB3 s1
                    have t2 := kcall hB3 s2
                    have t3 := kcall hB3 s3
                    have t4 := kcall hB3 s4
                    have t5 := kcall hB3 s5
                    go_wp2_with fail
                    refine Calls.mono (mod_any z p _ (by omega) (by omega) (by omega) (by omega)) ?_
                    rintro e w' ⟨rfl, rfl⟩
                    clear ho2 hB3
                    have HE := Lib.hid (show insM (srtM (alL p 2 z (gridL f p.toNat x ++ rowL f x y))) ((x : Int), m2, (y : Int), m4, 0, 0) = srtM (alL p 2 z (gridL f p.toNat x ++ rowL f x (y + 1))) from by rw [rowL_yes hfa, ← List.append_assoc, alL_snoc, HM.out, srtM_snoc])
                    go_wp2_with fail
                    refine Calls.mono (put7_any (srtM (alL p 2 z (gridL f p.toNat x ++ rowL f x y))) (x : Int) m2 (y : Int) m4 0 0 g m cap w.heap.size _ HMM.out (by omega) (srtM_sorted _) HNW.out (by omega) ho3) ?_
                    rintro e w4 ⟨g', cap', rfl, ho4, hB4⟩
                    rw [HE.out] at ho4 ⊢
                    obtain ⟨M, hMl⟩ : ∃ M, M = (srtM (alL p 2 z (gridL f p.toNat x ++ rowL f x (y + 1)))).length := ⟨_, rfl⟩
                    rw [← hMl] at ho4 ⊢
                    have HML := Lib.hid hMl
                    have HQ := Lib.hid ho4
                    clear hMl ho4 ho3
                    go_wp2
                    go_roundw
                    case rel => exact ⟨y + 1, by omega, by go_num, g', M, cap', HML.out, rfl, HQ.out, hb3.trans (hB4.mono hb3.size)⟩
                    case measure => have := HC0.out; simp [intOf]; omega
        · have hy' : y = p.toNat := by have := HC0.out; omega
          subst hy'
          rw [← HG0.out] at hm hown
          have HN := Lib.hid hown
          have HMM := Lib.hid hm
          clear hown hm hln
          go_wp2
          go_roundw
          case rel => exact ⟨x + 1, by omega, by go_num, g, m, cap, HMM.out, rfl, HN.out, hbel⟩
          case measure => have := HC0.out; simp [intOf]; omega
    · have hx' : x = p.toNat := by have := HC0.out; omega
      subst hx'
      rw [← HV.out] at hown hm
      subst hm
      have HO := Lib.hid hown
      clear hown
      go_wp2
      (refine bodyPost_ret (v := .slice (some ⟨g, 0, none⟩) (allM p c z).length cap) (by simp [results, Try.results29, go_sem]) rfl ⟨g, cap, rfl, HO.out, hbel⟩)

end Go.Proofs.Ytibfbdgenamlkaa
