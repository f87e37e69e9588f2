/-
  CountTurns: the program's.
-/
import Derived.Test.YtibfbdgenamlkaaSpecCountTurns
import Derived.Test.YtibfbdgenamlkaaImplTurns
import Derived.Test.YtibfbdgenamlkaaImplCol
import Derived.Test.YtibfbdgenamlkaaCode
namespace Go.Proofs.Ytibfbdgenamlkaa
open Go.RowKit

/-- Moves about (0, 0) are put where they are. -/
theorem about_zero {p c : Int} (hp : isP p = true) : (tuM p c 0 0).length = (allM p c 1).length := by
  have hm : ∀ z, z ∈ tuM p c 0 0 ↔ z ∈ allM p c 1 := fun z => by
    rw [tuM, srtM_mem, List.mem_map]
    have key : ∀ m ∈ allM p c 1, aboutM p 0 0 m = m := fun m hm => by
      obtain ⟨_, _, _, _, h5, h6⟩ := allM_r hp hm
      obtain ⟨m1, m2, m3, m4, m5, m6⟩ := m
      simp only at h5 h6
      subst h5 h6
      simp [aboutM, ld]
    constructor
    · rintro ⟨m, hm, rfl⟩; rw [key m hm]; exact hm
    · intro h; exact ⟨z, h, key z h⟩
  have := lt6_unique (xs := tuM p c 0 0) (ys := allM p c 1) (srtM_sorted _) (srtM_sorted _) hm
  rw [this]
set_option maxRecDepth 20000 in
set_option maxHeartbeats 1000000 in
theorem implCountTurns_any (p col : Int) (w : World) : Calls Try.prog 15 #[.int .i64 p, .int .i64 col] w fun e w' => e = .returned (.tuple #[.int .i64 (ctV p col), .int .i64 (ctC p col)]) ∧ Below w.heap.size w w' := by
  obtain ⟨k, hk⟩ : ∃ k, k = codeOf p (colB col) := ⟨_, rfl⟩
  have hcall := fun w' => codeFor_any p (colB col) w'
  rw [← hk] at hcall
  by_cases h0 : k = 0
  · subst h0
    have hp : isP p = true := by
      cases hh : isP p
      · rw [codeOf_no hh] at hk; cases hk
      · rfl
    have hr := isP_range hp
    have hc : colB col = true := by
      cases hh : colB col
      · rw [hh, codeOf_out hp rfl] at hk; cases hk
      · rfl
    have HV := Lib.hid (show ctV p col = ((tuM p col 0 0).length : Int) ∧ ctC p col = 0 from ⟨by rw [ctV, ← hk, if_pos rfl, about_zero hp], hk.symm⟩)
    have hle := tuM_le col 0 0 hp
    rw [hc] at hcall
    clear hk
    go_enter Try.func15, Try.ntmps15
    go_wp2_with fail
    refine Calls.mono (isColour_any _ _) ?_
    rintro e w' ⟨rfl, rfl⟩
    go_wp2_with fail
    refine Calls.mono (hcall _) ?_
    rintro e w' ⟨rfl, rfl⟩
    go_wp2_with fail
    refine Calls.mono (implTurns_any p col 0 0 _ hp hc (by omega) (by omega)) ?_
    rintro e w2 ⟨v, rfl, ho, hB⟩
    obtain ⟨ao, cap, rfl⟩ : ∃ ao cap, v = .slice ao (tuM p col 0 0).length cap := by
      rcases own_ways ho with ⟨h0, ao, cap, rfl⟩ | ⟨h0, g, cap, rfl, _⟩
      · exact ⟨_, _, by rw [h0]⟩
      · exact ⟨_, _, rfl⟩
    clear ho
    go_wp2
    (refine bodyPost_ret (v := .tuple #[.int .i64 (ctV p col), .int .i64 (ctC p col)]) (by simp [results, Try.results15, go_sem, HV.out.1, HV.out.2, *]) rfl ⟨?_, ?_⟩)
    · rfl
    · exact hB
  · have HV := Lib.hid (show ctV p col = 0 ∧ ctC p col = k from ⟨by rw [ctV, ← hk, if_neg h0], hk.symm⟩)
    have h1 : (k != 0) = true := by simpa using h0
    clear hk
    go_enter Try.func15, Try.ntmps15
    go_wp2_with fail
    refine Calls.mono (isColour_any _ _) ?_
    rintro e w' ⟨rfl, rfl⟩
    go_wp2_with fail
    refine Calls.mono (hcall _) ?_
    rintro e w' ⟨rfl, rfl⟩
    go_wp2
    (refine bodyPost_ret (v := .tuple #[.int .i64 (ctV p col), .int .i64 (ctC p col)]) (by simp [results, Try.results15, go_sem, HV.out.1, HV.out.2, *]) rfl ⟨?_, ?_⟩)
    · rfl
    · exact Below.refl _ _

end Go.Proofs.Ytibfbdgenamlkaa
