/-
  impl.rowsOf: a list cut into rows.
-/
import Derived.Test.YtmpgpmcmhbpjeaaLayMat
import Derived.Test.YtmpgpmcmhbpjeaaCoefMath
import Derived.Test.YtmpgpmcmhbpjeaaGrow
import Derived.Test.YtmpgpmcmhbpjeaaRows
import Derived.OwnWalk
import Derived.WalkKit
import Derived.Lib.Hide
namespace Go.Proofs.Ytmpgpmcmhbpjeaa
open Go.RowKit

theorem infoSl4 : (Try.prog.info? 50).map (fun i => (i.zero, i.size, i.bytes)) = some (some (.slice none 0 0), 1, 24) := by kernel_rfl
theorem own_cap4 {w : World} {base : Nat} {e : TypeId} {k n g cap : Nat} {xs : List Value} (h : w.ownsRow base e k (.slice (some ⟨g, 0, none⟩) n cap) n xs) : n ≤ cap := by
  rcases h.2 with ⟨h', _⟩ | ⟨g', cap', cur, h', hb, hg, hnc, _⟩
  · simp at h'
  · simp only [Value.slice.injEq, Option.some.injEq, Addr.mk.injEq, and_true, true_and] at h'
    omega
/-- The headers of rows of 4 numbers. -/
def hds4 (T k : Nat) : List Value := (List.range k).map fun i : Nat => Value.slice (some ⟨T, i * 4, none⟩) 4 4
theorem hds4_succ (T k : Nat) : hds4 T (k + 1) = hds4 T k ++ [.slice (some ⟨T, k * 4, none⟩) 4 4] := by simp [hds4, List.range_succ]
set_option linter.unusedVariables false in
set_option maxRecDepth 20000 in
set_option maxHeartbeats 4000000 in
theorem rowsOf4_any (T cap0 k base : Nat) (xs : List Int) (w : World) (hown : w.ownsRow base 2 1 (.slice (some ⟨T, 0, none⟩) (k * 4) cap0) (k * 4) (ints xs)) (hk : k ≤ 8) (hk0 : 0 < k) :
    Calls Try.prog 49 #[.slice (some ⟨T, 0, none⟩) (k * 4) cap0, .int .i64 4] w fun e w' => ∃ R cap : Nat, e = .returned (.slice (some ⟨R, 0, none⟩) k cap) ∧ k ≤ cap ∧ w.heap.size ≤ R ∧ LayM w' R T k 4 (fun i => i * 4) (fun i j => xs.getD (i * 4 + j) 0) ∧ Below w.heap.size w w' := by
  obtain ⟨i0, hi, hz0, hz1, hz2⟩ := info_parts infoSl4
  have hcap0 := own_cap4 hown
  have hT := (hown.lt T rfl).2
  have HOW := Lib.hid hown
  clear hown
  go_enter Try.func49, Try.ntmps49
  go_wp2_with fail
  go_loopw [5, 6, 7] (fun v s _ wr => ∃ i : Nat, i ≤ k ∧ s = .int .i64 ((i * 4 : Nat) : Int) ∧ wr.ownsRow w.heap.size 50 1 v i (hds4 T i) ∧ Below w.heap.size w wr) (fun _ s _ _ => k * 4 - (intOf s).toNat)
  case atStart => exact ⟨0, by omega, rfl, World.ownsRow_nil _ _ _ _, Below.refl _ _⟩
  case round =>
    obtain ⟨i, hik, rfl, hown, hbel⟩ := hrel
    have hsr := hbel.size
    by_cases hlt : i < k
    · obtain ⟨s, hs⟩ : ∃ s, s = i * 4 := ⟨_, rfl⟩
      have HS := Lib.hid (hds4_succ T i)
      obtain ⟨N, hN⟩ : ∃ N, N = k * 4 := ⟨_, rfl⟩
      have h1 : (s : Int) < (N : Int) := by omega
      have h2 : IntKind.i64.wrap ((s : Int) + 4) = (s : Int) + 4 := wrapI _ (by omega)
      have h3 : (0 : Int) ≤ (s : Int) := by omega
      have h4 : (s : Int) + 4 ≤ (cap0 : Int) := by omega
      have h5 : (s : Int) ≤ (s : Int) + 4 := by omega
      have h6 : (0 : Int) ≤ (s : Int) + 4 := by omega
      have h7 : s < cap0 := by omega
      have h8 : ((s : Int) + 4).toNat = s + 4 := by omega
      have h9 : s + 4 - s = 4 := by omega
      rw [← hs] at HS ⊢
      rw [← hN]
      have HSS := Lib.hid hs
      have HNN := Lib.hid hN
      clear hs hN
      go_wp2_with (at_builtin; refine wpList_append_own _ rfl _ _ 68 rfl w.heap.size 50 i0 (.slice none 0 0) 1 24 Try.underlying68 hi hz0 hz1 hz2 rfl (by decide) _ _ _ rfl (hown.alloc _) ⟨wr.heap.size, 0, none⟩ 1 1 [.slice (some ⟨T, s, none⟩) 4 4] rfl rfl ?c1 ?c2 ?c3 ?c4 ?c5 ?_)
      case c1 =>
        intro j u hj
        match j, hj with
        | 0, hj => simp at hj; subst hj; simp [Addr.add]
      case c2 => intro u hu; simp at hu; subst hu; rfl
      case c3 => unfold maxLen; omega
      case c4 => omega
      case c5 => simp; omega
      intro v' w3 hown' hgrow _
      have hb3 : Below w.heap.size w w3 := (hbel.alloc hsr _).grown hgrow (by simp; omega) (fun g' hg' => (hown.lt g' hg').1)
      rw [← HS.out] at hown'
      have HO := Lib.hid hown'
      clear hown' hgrow hown hbel
      go_wp2
      go_roundw
      case rel => exact ⟨i + 1, by omega, by rw [show ((i + 1) * 4 : Nat) = s + 4 from by have := HSS.out; omega]; go_num, HO.out, hb3⟩
      case measure => have := HSS.out; have := HNN.out; simp [intOf]; omega
    · obtain rfl : i = k := by omega
      rcases own_ways hown with ⟨h0, _⟩ | ⟨_, R, cap, rfl, hg1, hg2, _⟩
      · omega
      have hcap := own_cap4 hown
      have hl2 := own_below HOW.out hbel (fun g hg => by cases hg; exact hT)
      have HP := Lib.hid (show LayM wr R T i 4 (fun i => i * 4) (fun i j => xs.getD (i * 4 + j) 0) from
        ⟨fun a ha => by rw [hown.cellAt a (by omega)]; simp [hds4, ha], fun a ha => hown.frozenAt a, fun a j ha hj => own_cell hl2 (by omega), fun a j ha hj => hl2.frozenAt _, fun a a' j j' ha ha' hj hj' e => by omega, by omega⟩)
      clear hl2
      obtain ⟨N, hN⟩ : ∃ N, N = i * 4 := ⟨_, rfl⟩
      rw [← hN]
      clear hN HOW
      go_wp2
      (refine bodyPost_ret (v := .slice (some ⟨R, 0, none⟩) i cap) (by simp [results, Try.results49, go_sem]) rfl ⟨R, cap, rfl, hcap, hg1, HP.out, hbel⟩)

end Go.Proofs.Ytmpgpmcmhbpjeaa
