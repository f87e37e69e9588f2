/-
  The program's ConicOf answers as its model at every input.
  No further condition: every input that the row speaks of.
-/
import Derived.Test.YtijmmagdkbnhdaaPost
import Derived.Test.YtijmmagdkbnhdaaWConicOf
import Derived.OpenShut
namespace Go.Proofs.Ytijmmagdkbnhdaa.fnExactConicOf
open Go.ChangeShapes Go.WideShapes Go.ChangeAt Go.RowKit

set_option linter.unusedSimpArgs false in
theorem own : ownKnob Try.prog.godebug = none := by kernel_rfl

set_option linter.unusedVariables false in
set_option maxRecDepth 100000 in
set_option linter.unusedSimpArgs false in
theorem lifted (os : Os) (started : os.Started) (H : Type) (enc : TypeId × Value → H) :
    ReturnsInHanded {} Try.checked os 5 .any (Rows.fnExactConicOfSpec.pre6 enc Try.prog Try.f5 Rows.fnExactConicOfRow.domain false) (Rows.fnExactConicOfSpec.post enc Try.prog Try.f5 false true false false) := by
  refine returnsInHanded_of_change (C := Try.checked) own started (by kernel_rfl) Try.func5
    (ChangeSpec.witness6 (enc := enc) (C := Try.checked) false ⟨#[], #[.int .i64 0, .slice none 0 0], []⟩ 8 (by kernel_rfl) (by kernel_rfl) (by kernel_rfl) (by kernel_rfl)) ?_
  intro W base args ds gs before hval0 hW hcnd _
  have hval : ∀ (j : Nat) t v, Try.f5.params[j]? = some t → args[j]? = some v → Value.okWide Try.prog W .any base t v := hval0
  have hW' := hW
  obtain ⟨p, q, hA0, hV, rfl, hfz, hnd⟩ := hW
  have hA : DataW.TrodAll enc Try.prog W 0 (fun _ => true) true Try.f5.params.toList args.toList ds p := hA0
  rw [Try.params5] at hA hval
  obtain ⟨v0, vs0, d0, ds0, p0, q0, hargs, rfl, rfl, h0, r0⟩ := trodAll_cons hA
  obtain ⟨v1, vs1, d1, ds1, p1, q1, rfl, rfl, rfl, h1, r1⟩ := trodAll_cons r0
  obtain ⟨rfl, rfl, rfl⟩ := trodAll_nil r1
  obtain rfl : args = #[v0, v1] := by cases args; simp_all
  obtain ⟨rfl, rfl⟩ := trodVars_none hV
  obtain ⟨a0, rfl, rfl, rfl, w0⟩ := open_int Try.underlying2 (hval 0 2 v0 rfl rfl) h0
  obtain ⟨sa, sl, sc, rfl⟩ := okWide_slice Try.underlying40 (hval 1 40 v1 rfl rfl)
  obtain ⟨fuel, hfl⟩ := h1
  have hone : Try.prog.cellsOf 2 = 1 := by kernel_rfl
  rcases open_ints Try.underlying40 Try.underlying2 hone hfl with ⟨hcs, hx⟩ | ⟨a, len, cap, zs, hcs, hba, hle, hmax, hall, hx, hcell, hwf⟩
  · simp [Value.cells] at hcs
    obtain ⟨rfl, rfl, rfl⟩ := hcs
    simp only [Prod.mk.injEq] at hx
    obtain ⟨rfl, rfl⟩ := hx
    clear hA0 hval0
    simp only [List.append_nil] at hW'
    refine (exactConicOf_walk a0 (.slice none 0 0) 0 (fun _ => 0) W (.inl ⟨rfl, _, _, rfl⟩)).mono fun e W' ⟨he, hg⟩ => ?_
    subst he
    exact ⟨_, rfl, post_below (pa := []) (pv := []) hW' (fun _ _ _ => (trodAll_cons_mk (shut_bool Try.underlying4 _) trodAll_mk0)) (fun sp _ => (trodAll_cons_mk (shut_int Try.underlying2 w0) (trodAll_cons_mk (shut_slice_nil Try.underlying40) trodAll_mk0))) (fun _ _ => rfl) rfl
      hg (ok_one (by kernel_rfl) rfl (okWide_bool_mk Try.underlying4 _))⟩
  · simp [Value.cells] at hcs
    obtain ⟨rfl, rfl, rfl⟩ := hcs
    simp only [Prod.mk.injEq] at hx
    obtain ⟨rfl, rfl⟩ := hx
    clear hA0 hval0
    simp only [List.append_nil, List.nil_append] at hW'
    have hall' : zs.length = sc := by simpa using hall
    have hin : SliceIn W (.slice (some a) sl sc) sl (fun i => zs.getD i 0) := by
      by_cases h0 : sl = 0
      · subst h0; exact .inl ⟨rfl, _, _, rfl⟩
      · obtain ⟨b, off, rfl, hc⟩ := ints_at hcell (by omega)
        refine .inr ⟨by omega, b, off, sc, rfl, ?_, fun i hi => hc i (by omega)⟩
        have := World.block_lt_of_cell? W ⟨b, off + 0, none⟩ (hc 0 (by omega))
        simpa using this
    have hrow : ∀ sp : Nat → Bool, (∀ q ∈ MemPlace.row a zs.length, sp q.block = true) → zs.length = if sp a.block then sc else sl := by
      intro sp hsp
      by_cases h0 : zs.length = 0
      · split <;> omega
      · have hm : MemPlace.cell a.block (a.off + 0) ∈ MemPlace.row a zs.length := MemPlace.mem_row.2 ⟨0, by omega, rfl⟩
        have := hsp _ hm
        rw [if_pos (by simpa [MemPlace.block] using this)]; exact hall'
    refine (exactConicOf_walk a0 (.slice (some a) sl sc) sl (fun i => zs.getD i 0) W hin).mono fun e W' ⟨he, hg⟩ => ?_
    subst he
    have hcell' : ∀ i, i < zs.length → W'.cell? (a.add i) = some (.int .i64 (zs.getD i 0)) := fun i hi => (hg.cell (p := a.add i) (World.block_lt_of_cell? W (a.add i) (hcell i hi))).trans (hcell i hi)
    exact ⟨_, rfl, post_below (pa := MemPlace.row a zs.length) (pv := []) hW' (fun _ _ _ => (trodAll_cons_mk (shut_bool Try.underlying4 _) trodAll_mk0)) (fun sp hsp => by
        have h2 := trodAll_cons_mk (shut_int Try.underlying2 w0) (trodAll_cons_mk (p := MemPlace.row a zs.length) (v := .slice (some a) sl sc) ⟨2, shut_ints (enc := enc) (w := W') (base := 0) (spare := sp) (held := true) 0 Try.underlying40 Try.underlying2 hone (Nat.zero_le _) hle hmax (hrow sp hsp) hcell' hwf⟩ trodAll_mk0)
        simp only [List.append_nil, List.nil_append] at h2
        exact h2) (fun _ _ => rfl) (by simp)
      hg (ok_one (by kernel_rfl) rfl (okWide_bool_mk Try.underlying4 _))⟩

set_option linter.unusedSimpArgs false in
theorem over : Rows.fnExactConicOfRow.holds Try.pinned (OpenSpec.ofChange Rows.fnExactConicOfSpec) :=
  OpenClaim.holds_of_wide 5 Try.f5 rfl rfl rfl rfl rfl rfl rfl ⟨rfl, rfl, rfl, rfl, rfl⟩ rfl rfl rfl rfl rfl (by kernel_rfl) Try.func5 (by kernel_rfl)
    (of_decide_eq_true (by kernel_rfl)) (by unfold Func.isWrapper; first | (rw [if_pos (by decide +kernel)]; kernel_rfl) | (rw [if_neg (by decide +kernel)]; exact ⟨rfl, rfl⟩))
    (fun os started H enc _ => lifted os started H enc)

set_option linter.unusedSimpArgs false in
/-- The statement. -/
theorem proved : Rows.FnExactConicOfSaid :=
  over

#print axioms proved
end Go.Proofs.Ytijmmagdkbnhdaa.fnExactConicOf
