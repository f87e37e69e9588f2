/-
  slices.Index and slices.Contains at columns; impl.onlySolution: numbers that solve rows, if all others are multiples of them.
  impl.onlySolution: numbers that solve rows, if all others are multiples of them.
-/
import Derived.Test.YtmpgpmcmhbpjeaaSolve
import Derived.Test.YtmpgpmcmhbpjeaaFree
import Derived.Test.YtmpgpmcmhbpjeaaImplRest
import Derived.WalkKit
import Derived.Lib.Hide
import Derived.Test.YtmpgpmcmhbpjeaaStepMake

namespace Go.Proofs.Ytmpgpmcmhbpjeaa
open Go.RowKit

set_option linter.unusedVariables false in
set_option maxRecDepth 20000 in
set_option maxHeartbeats 2000000 in
theorem indexInt_any (G r lc f : Nat) (L : Nat → Nat) (w : World) (hr : r ≤ 8) (hf : f ≤ 8) (hc : ∀ i, i < r → w.cell? ⟨G, i, none⟩ = some (.int .i64 (L i : Int))) :
    Calls Try.prog 104 #[.slice (some ⟨G, 0, none⟩) r lc, .int .i64 (f : Int)] w fun e w' => ((∃ a : Nat, a < r ∧ L a = f ∧ e = .returned (.int .i64 (a : Int))) ∨ ((∀ a, a < r → L a ≠ f) ∧ e = .returned (.int .i64 (-1)))) ∧ w = w' := by
  have HC := Lib.hid hc
  clear hc
  go_enter Try.func104, Try.ntmps104
  go_wp2
  go_loop [5, 8] (fun _ i => ∃ k : Nat, k ≤ r ∧ i = .int .i64 k ∧ ∀ a, a < k → L a ≠ f) (fun _ i => r - (intOf i).toNat)
  case atStart => exact ⟨0, by omega, rfl, fun a ha => by omega⟩
  case round =>
    obtain ⟨k, hk, rfl, hz⟩ := hrel
    have HZ := Lib.hid hz
    clear hz
    by_cases hlt : k < r
    · have hik : (0 : Int) ≤ (k : Int) ∧ (k : Int) < (r : Int) := by omega
      have hkq : (k : Int) < (r : Int) := by omega
      have hh := HC.out k hlt
      obtain ⟨x, hx⟩ : ∃ x, x = L k := ⟨_, rfl⟩
      rw [← hx] at hh
      have HX := Lib.hid hx
      clear hx
      by_cases h0 : x = f
      · have hb : ((f : Int) == (x : Int)) = true := by rw [h0]; simp
        have hb2 : ((f : Int) = (x : Int)) := by rw [h0]
        go_wp2
        go_ret
        exact ⟨.inl ⟨k, hlt, by rw [← HX.out]; exact h0, rfl⟩, rfl⟩
      · have hb : ((f : Int) == (x : Int)) = false := by rw [beq_eq_false_iff_ne]; omega
        have hb2 : ¬ ((f : Int) = (x : Int)) := by omega
        go_wp2
        go_round
        case rel => exact ⟨k + 1, by omega, by go_num, fun a ha => by
          by_cases e : a = k
          · subst e; rw [← HX.out]; exact h0
          · exact HZ.out a (by omega)⟩
        case measure => simp [intOf]; omega
    · obtain rfl : k = r := by omega
      go_wp2
      go_ret
      exact ⟨.inr ⟨HZ.out, rfl⟩, rfl⟩
set_option maxRecDepth 20000 in
set_option maxHeartbeats 1000000 in
theorem containsInt_any (G r lc f : Nat) (L : Nat → Nat) (w : World) (hr : r ≤ 8) (hf : f ≤ 8) (hc : ∀ i, i < r → w.cell? ⟨G, i, none⟩ = some (.int .i64 (L i : Int))) :
    Calls Try.prog 82 #[.slice (some ⟨G, 0, none⟩) r lc, .int .i64 (f : Int)] w fun e w' => (((∃ a, a < r ∧ L a = f) ∧ e = .returned (.bool true)) ∨ ((∀ a, a < r → L a ≠ f) ∧ e = .returned (.bool false))) ∧ w = w' := by
  have hi := indexInt_any G r lc f L w hr hf hc
  clear hc
  go_enter Try.func82, Try.ntmps82
  go_wp2_with fail
  refine Calls.mono hi ?_
  rintro e w' ⟨hF, rfl⟩
  clear hi
  rcases hF with ⟨a, ha, hL, rfl⟩ | ⟨hz, rfl⟩
  · have h1 : (0 : Int) ≤ (a : Int) := by omega
    have HL := Lib.hid (show ∃ a, a < r ∧ L a = f from ⟨a, ha, hL⟩)
    clear hL ha
    go_wp2
    go_ret
    exact ⟨.inl ⟨HL.out, by first | rfl | simp [h1]⟩, rfl⟩
  · have HZ := Lib.hid hz
    clear hz
    go_wp2
    go_ret
    exact ⟨.inr ⟨HZ.out, by first | rfl | simp⟩, rfl⟩

end Go.Proofs.Ytmpgpmcmhbpjeaa

namespace Go.Proofs.Ytmpgpmcmhbpjeaa
open Go.RowKit

theorem own_frozen {w : World} {base : Nat} {e : TypeId} {k n g cap : Nat} {v : List Value} (h : w.ownsRow base e k (.slice (some ⟨g, 0, none⟩) n cap) n v) (j : Nat) : w.frozen? ⟨g, j, none⟩ = false := by
  rcases h.2 with ⟨h1, _⟩ | ⟨g', cap', cur, h1, _, hh, _⟩
  · simp at h1
  · simp at h1
    obtain ⟨rfl, _⟩ := h1
    simp only [World.frozen?, hh]
    simp
theorem apart_of_grown {F : Nat} {W W' : World} (h : W.grownBy W' none) : Apart F W W' := ⟨h.os, h.tape, h.output, h.size, fun k hk _ => h.block k hk (fun e => by cases e)⟩
/-- What is answered where numbers are found, and where none are. -/
def OnlyBy (n : Nat) [NeZero n] (N m : Nat) (M0 : Nat → Nat → Int) (x : Nat → Int) : Prop :=
  ∃ (f r : Nat) (L : Nat → Nat) (M : Nat → Nat → Int), Rrf (n : Int) N m M L r m ∧ r + 1 = m ∧ Free m L r f ∧ x f = 1 ∧ (∀ k, k < r → x (L k) = (-M k f) % (n : Int)) ∧ ∀ v : Nat → Fin n, Sol n N m M v ↔ Sol n N m M0 v
def OnlyNot (n : Nat) [NeZero n] (N m : Nat) (M0 : Nat → Nat → Int) : Prop :=
  ∃ (r : Nat) (L : Nat → Nat) (M : Nat → Nat → Int), Rrf (n : Int) N m M L r m ∧ r + 1 ≠ m ∧ ∀ v : Nat → Fin n, Sol n N m M v ↔ Sol n N m M0 v
def OnlyAns (n : Nat) [NeZero n] (R B N m : Nat) (M0 : Nat → Nat → Int) (w : World) (e : Ending) (w' : World) : Prop :=
  Apart2 R B w w' ∧ ((OnlyNot n N m M0 ∧ e = .returned (.tuple #[.slice none 0 0, .bool false])) ∨ ∃ (F : Nat) (x : Nat → Int), OnlyBy n N m M0 x ∧ (∀ j, j < m → 0 ≤ x j ∧ x j < (n : Int)) ∧ w.heap.size ≤ F ∧ (∀ j, j < m → w'.cell? ⟨F, j, none⟩ = some (.int .i64 (x j))) ∧ e = .returned (.tuple #[.slice (some ⟨F, 0, none⟩) m m, .bool true]))
/-- The numbers so far. -/
structure FillAt (n F m f : Nat) (L : Nat → Nat) (M : Nat → Nat → Int) (w : World) (k : Nat) (x : Nat → Int) (W : World) : Prop where
  num : ∀ j, j < m → W.cell? ⟨F, j, none⟩ = some (.int .i64 (x j))
  nfz : ∀ j, j < m → W.frozen? ⟨F, j, none⟩ = false
  rng : ∀ j, j < m → 0 ≤ x j ∧ x j < (n : Int)
  one : x f = 1
  led : ∀ i, i < k → x (L i) = (-M i f) % (n : Int)
  apt : Apart F w W
def put1 (x : Nat → Int) (j : Nat) (v : Int) (i : Nat) : Int := if i = j then v else x i
theorem FillAt.step {n F m f r : Nat} {L : Nat → Nat} {M : Nat → Nat → Int} {w : World} {k : Nat} {x : Nat → Int} {W : World} (h : FillAt n F m f L M w k x W) (hp : isP (n : Int) = true) (hk : k < r) (hm : L k < m) (hf : Free m L r f) (hin : ∀ i, i < r → i ≠ k → L i ≠ L k) :
    FillAt n F m f L M w (k + 1) (put1 x (L k) ((-M k f) % (n : Int))) (W.setCell ⟨F, L k, none⟩ (.int .i64 ((-M k f) % (n : Int)))) := by
  refine ⟨fun j hj => ?_, fun j hj => fset (h.nfz j hj), fun j hj => ?_, ?_, fun i hi => ?_, h.apt.set _ _⟩
  · by_cases e : j = L k
    · rw [put1, if_pos e, e]; exact ksame (h.num _ hm)
    · rw [put1, if_neg e]; exact kother e (h.num j hj)
  · by_cases e : j = L k
    · rw [put1, if_pos e]; exact modR _ hp
    · rw [put1, if_neg e]; exact h.rng j hj
  · rw [put1, if_neg (fun e => hf.2 k hk e.symm)]; exact h.one
  · by_cases e : i = k
    · rw [e, put1, if_pos rfl]
    · rw [put1, if_neg (hin i (by omega) e)]; exact h.led i (by omega)

set_option linter.unusedVariables false in
set_option linter.unusedSimpArgs false in
set_option maxRecDepth 20000 in
set_option maxHeartbeats 8000000 in
theorem onlySolution_any (n N m R B cap : Nat) [NeZero n] (o0 : Nat → Nat) (M0 : Nat → Nat → Int) (w : World) (hp : isP (n : Int) = true) (hL : LayM w R B N m o0 M0) (hN : N ≤ 8) (hN0 : 0 < N) (hm : m ≤ 8) (hm0 : 1 < m) (hcap : N ≤ cap)
    (hrng : ∀ i j, i < N → j < m → 0 ≤ M0 i j ∧ M0 i j < (n : Int)) :
    Calls Try.prog 48 #[.int .i64 (n : Int), .slice (some ⟨R, 0, none⟩) N cap] w fun e w' => OnlyAns n R B N m M0 w e w' := by
  have hr := isP_range hp
  obtain ⟨i0, hi0, hz0, hz1, hz2⟩ := info_parts infoInt1
  have hsolve := solve_any n N m R B cap o0 M0 w hp hL hN hN0 hm (by omega) hcap hrng
  have hlRB := hL.lt hN0 (by omega)
  clear hL hrng
  have HSV := Lib.hid hsolve
  clear hsolve
  go_enter Try.func48, Try.ntmps48
  go_wp2_with fail
  refine Calls.mono HSV.out ?_
  clear HSV
  rintro e w1 ⟨la, r, lc, L, o, M, rfl, hM⟩
  have rN := hM.rrf.rN
  have rm := hM.rrf.cm
  have hh0 := hM.lay.head 0 hN0
  have hs1 := hM.apt.size
  have hi0N : (0 : Int) < (N : Int) := by omega
  have hNc : (0 : Int) < (cap : Int) := by omega
  have rM : r ≤ m := by
    rcases Nat.eq_zero_or_pos r with e | e
    · omega
    · have h1 := hM.rrf.gap (a := 0) (b := r - 1) (by omega) (by omega)
      have h2 := hM.rrf.up (r - 1) (by omega)
      omega
  by_cases hrm : r + 1 = m
  · rcases own_ways hM.row with ⟨h0, _⟩ | ⟨_, G, lc', hla, hg1, hg2, _⟩
    · omega
    obtain ⟨rfl, rfl⟩ : la = some ⟨G, 0, none⟩ ∧ lc = lc' := by simpa using hla
    clear hla
    have hLc : ∀ i, i < r → w1.cell? ⟨G, i, none⟩ = some (.int .i64 (L i : Int)) := fun i hi => by
      have := own_cell hM.row (j := i) (by omega)
      rwa [tab_getD _ hi] at this
    obtain ⟨f, hfr, hfree, hbef, hbeh⟩ := hM.rrf.first (by omega)
    have hup := hM.rrf.up
    have hinj : ∀ k, k < r → ∀ i, i < r → i ≠ k → L i ≠ L k := fun k hk i hi hne e => hne (hM.rrf.inj hi hk e)
    have hfm := hfree.1
    have HLC := Lib.hid hLc
    have HFR := Lib.hid hfree
    have HBE := Lib.hid hbef
    have HUP := Lib.hid hup
    have HIN := Lib.hid hinj
    have HM := Lib.hid hM
    clear hM hLc hfree hbef hbeh hup hinj
    have hrmi : (r : Int) = (m : Int) - 1 := by omega
    have hrm2 : ((r : Int) != (m : Int) - 1) = false := by simp; omega
    have hrm3 : ((r : Int) == (m : Int) - 1) = true := by simp; omega
    go_wp2_with fail
    go_loop [8] (fun i => ∃ k : Nat, k ≤ f ∧ i = .int .i64 k) (fun i => f - (intOf i).toNat)
    case atStart => exact ⟨0, by omega, rfl⟩
    case round =>
      obtain ⟨k, hk, rfl⟩ := hrel
      by_cases hlt : k < f
      · have hik : (0 : Int) ≤ (k : Int) ∧ (k : Int) < 8 := by omega
        go_wp2_with fail
        refine Calls.mono (containsInt_any G r lc k L w1 (by omega) (by omega) HLC.out) ?_
        rintro e w' ⟨hF, rfl⟩
        rcases hF with ⟨_, rfl⟩ | ⟨h, _⟩
        · go_wp2
          go_round
          case rel => exact ⟨k + 1, by omega, by go_num⟩
          case measure => simp [intOf]; omega
        · exact absurd (HBE.out k hlt) (h k (by omega))
      · obtain rfl : k = f := by omega
        have hik : (0 : Int) ≤ (k : Int) ∧ (k : Int) < (m : Int) := by omega
        go_wp2_with fail
        refine Calls.mono (containsInt_any G r lc k L w1 (by omega) (by omega) HLC.out) ?_
        rintro e w' ⟨hF, rfl⟩
        rcases hF with ⟨⟨a, ha, e⟩, _⟩ | ⟨_, rfl⟩
        · exact absurd e (HFR.out.2 a ha)
        · go_wp2_with (at_make; refine wpList_make_full _ rfl _ _ 50 rfl w1.heap.size 2 i0 (.int .i64 0) 1 Try.underlying50 hi0 hz0 hz1 .i64 .i64 (m : Int) (m : Int) m rfl rfl rfl rfl (by rw [hz2]; omega) (by unfold maxLen; omega) (Nat.le_refl _) ?_)
          intro wm hom hgm
          rw [made_tabQ] at hom
          have hap0 : Apart w1.heap.size w1 wm := apart_of_grown hgm
          have hnm : ∀ j, j < m → wm.cell? ⟨w1.heap.size, j, none⟩ = some (.int .i64 0) := fun j hj => by
            have := own_cell hom (j := j) (by omega)
            rwa [tab_getD _ (by omega)] at this
          have hF0 := Lib.hid (show FillAt n w1.heap.size m k L M w1 0 (put1 (fun _ => 0) k 1) (wm.setCell ⟨w1.heap.size, k, none⟩ (.int .i64 1)) from
            ⟨fun j hj => by
              by_cases e : j = k
              · rw [put1, if_pos e, e]; exact ksame (hnm _ hfm)
              · rw [put1, if_neg e]; exact kother e (hnm j hj), fun j hj => fset (own_frozen hom j), fun j hj => by
              by_cases e : j = k
              · rw [put1, if_pos e]; omega
              · rw [put1, if_neg e]; omega, by rw [put1, if_pos rfl], fun i hi => by omega, hap0.set _ _⟩)
          have hk1 := hnm k hfm
          have hk2 := own_frozen hom k
          clear hom hgm hap0 hnm
          go_wp2_with fail
          go_loopw [10, 11, 36] (fun _ _ i wr => ∃ i0 : Nat, i0 ≤ r ∧ i = .int .i64 i0 ∧ ∃ x, FillAt n w1.heap.size m k L M w1 i0 x wr) (fun _ _ i _ => r - (intOf i).toNat)
          case atStart => exact ⟨0, by omega, rfl, _, hF0.out⟩
          case round =>
            obtain ⟨q, hq, rfl, x, hFill⟩ := hrel
            have HFI := Lib.hid hFill
            clear hFill
            have hlW := HM.out.lay.lt hN0 (by omega)
            by_cases hlt2 : q < r
            · have hiq : (0 : Int) ≤ (q : Int) ∧ (q : Int) < (r : Int) ∧ (q : Int) < (N : Int) ∧ (q : Int) < (cap : Int) := by omega
              obtain ⟨hiq1, hiq2, hiq3, hiq4⟩ := hiq
              have hLq := HFI.out.apt.cell (by omega) (HLC.out q hlt2)
              have hlay := HM.out.lay.blocks (HFI.out.apt.block R hlW.1 (by omega)) (HFI.out.apt.block B hlW.2 (by omega))
              have hhq := hlay.head q (by omega)
              have hnq := hlay.num q k (by omega) hfm
              have hrq := HM.out.rrf.rng q k (by omega) hfm
              have hLm := HUP.out q hlt2
              have hcq := HFI.out.num (L q) hLm
              have hfq := HFI.out.nfz (L q) hLm
              have hST := Lib.hid (HFI.out.step hp hlt2 hLm HFR.out (HIN.out q hlt2))
              clear hlay
              obtain ⟨c, hc⟩ : ∃ c, c = L q := ⟨_, rfl⟩
              obtain ⟨y, hy⟩ : ∃ y, y = M q k := ⟨_, rfl⟩
              rw [← hc, ← hy] at hST
              rw [← hc] at hLq hcq hfq hLm
              rw [← hy] at hnq hrq
              clear hc hy
              have hci : (0 : Int) ≤ (c : Int) ∧ (c : Int) < (m : Int) := by omega
              go_wp2_with fail
              refine Calls.mono (rest_any _ _ _ (by omega) (by omega) (by omega) (by omega)) ?_
              rintro e w' ⟨rfl, rfl⟩
              go_wp2
              go_roundw
              case rel => exact ⟨q + 1, by omega, by go_num, _, hST.out⟩
              case measure => simp [intOf]; omega
            · obtain rfl : q = r := by omega
              have hA2 : Apart2 R B w wr := HM.out.apt.trans ⟨HFI.out.apt.os, HFI.out.apt.tape, HFI.out.apt.output, HFI.out.apt.size, fun k1 h1 _ _ => HFI.out.apt.block k1 h1 (by omega)⟩
              have HA := Lib.hid hA2
              clear hA2
              go_wp2
              (refine bodyPost_ret (v := .tuple #[.slice (some ⟨w1.heap.size, 0, none⟩) m m, .bool true]) (by simp [results, Try.results48, go_sem]) rfl ⟨HA.out, .inr ⟨w1.heap.size, x, ⟨k, q, L, M, HM.out.rrf, hrm, HFR.out, HFI.out.one, HFI.out.led, HM.out.sol⟩, HFI.out.rng, hs1, HFI.out.num, rfl⟩⟩)
  · have HM := Lib.hid hM
    clear hM
    have hrm2 : ((r : Int) != (m : Int) - 1) = true := by simp; omega
    have hrm3 : ((r : Int) == (m : Int) - 1) = false := by simp; omega
    have hrm4 : ¬ ((r : Int) = (m : Int) - 1) := by omega
    go_wp2
    (refine bodyPost_ret (v := .tuple #[.slice none 0 0, .bool false]) (by simp [results, Try.results48, go_sem]) rfl ⟨HM.out.apt, .inl ⟨⟨r, L, M, HM.out.rrf, hrm, HM.out.sol⟩, rfl⟩⟩)

end Go.Proofs.Ytmpgpmcmhbpjeaa
