/-
  Right angles: the law of the right angle, and all four numbers.
  No further condition: every input that the row speaks of.
-/
import Derived.Test.YtodabjolblamgaaPost
import Derived.Test.YtodabjolblamgaaSlice
import Derived.Test.YtodabjolblamgaaDraw
import Derived.OpenShut
import Derived.OwnWalk
import Derived.LoopN
import Derived.Test.YtodabjolblamgaaWFnRightAngles
namespace Go.Proofs.Ytodabjolblamgaa.fnRightAngles
open Go.ChangeShapes Go.WideShapes Go.ChangeAt Go.RowKit

theorem own : ownKnob Try.prog.godebug = none := by kernel_rfl

set_option linter.unusedVariables false in
set_option maxRecDepth 100000 in
set_option linter.unusedSimpArgs false in
theorem lifted (os : Os) (started : os.Started) (H : Type) (enc : TypeId × Value → H) :
    ReturnsInHanded {} Try.checked os 4 .any (Rows.fnRightAnglesSpec.pre6 enc Try.prog Try.f4 Rows.fnRightAnglesRow.domain false) (Rows.fnRightAnglesSpec.post enc Try.prog Try.f4 false true false false) := by
  refine returnsInHanded_of_change (C := Try.checked) own started (by kernel_rfl) Try.func4
    (ChangeSpec.witness6 (enc := enc) (C := Try.checked) false ⟨#[], #[.slice none 0 0], []⟩ 8 (by kernel_rfl) (by kernel_rfl) (by kernel_rfl) (by kernel_rfl)) ?_
  intro W base args ds gs before hval0 hW hcnd _
  have hval : ∀ (j : Nat) t v, Try.f4.params[j]? = some t → args[j]? = some v → Value.okWide Try.prog W .any base t v := hval0
  have hW' := hW
  obtain ⟨p, q, hA0, hV, rfl, hfz, hnd⟩ := hW
  have hA : DataW.TrodAll enc Try.prog W 0 (fun _ => true) true Try.f4.params.toList args.toList ds p := hA0
  rw [Try.params4] at hA hval
  obtain ⟨v0, vs0, d0, ds0, p0, q0, hargs, rfl, rfl, h0, r0⟩ := trodAll_cons hA
  obtain ⟨rfl, rfl, rfl⟩ := trodAll_nil r0
  obtain rfl : args = #[v0] := by cases args; simp_all
  obtain ⟨rfl, rfl⟩ := trodVars_none hV
  obtain ⟨sa, sl, sc, rfl⟩ := okWide_slice Try.underlying22 (hval 0 22 v0 rfl rfl)
  obtain ⟨fuel, hfl⟩ := h0
  have hone : Try.prog.cellsOf 5 = 1 := by kernel_rfl
  rcases open_ints Try.underlying22 Try.underlying5 hone hfl with ⟨hcs, hx⟩ | ⟨a, len, cap, zs, hcs, hba, hle, hmax, hall, hx, hcell, hwf⟩
  · simp [Value.cells] at hcs
    obtain ⟨rfl, rfl, rfl⟩ := hcs
    simp only [Prod.mk.injEq] at hx
    obtain ⟨rfl, rfl⟩ := hx
    clear hA0 hval0
    simp only [List.append_nil] at hW'
    refine (fnRightAngles_walk none 0 0 W (by omega) fun _ => ⟨by omega, fun j hj => by omega⟩).mono fun e W' ⟨he, hg⟩ => ?_
    subst he
    exact ⟨_, rfl, post_below (pa := []) (pv := []) hW' (fun _ _ _ => (trodAll_cons_mk (shut_bool Try.underlying4 _) trodAll_mk0)) (fun sp _ => (trodAll_cons_mk (shut_slice_nil Try.underlying22) trodAll_mk0)) (fun _ _ => rfl) rfl
      hg (ok_one (by kernel_rfl) rfl (okWide_bool_mk Try.underlying4 _))⟩
  · simp [Value.cells] at hcs
    obtain ⟨rfl, rfl, rfl⟩ := hcs
    simp only [Prod.mk.injEq] at hx
    obtain ⟨rfl, rfl⟩ := hx
    clear hA0 hval0
    simp only [List.append_nil] at hW'
    have hall' : zs.length = sc := by simpa using hall
    have hin : sl ≤ 4096 → CodeAt W W.heap.size (some a) sl := by
      intro h4
      refine ⟨by omega, fun j hj => ?_⟩
      obtain ⟨b, off, rfl, hc⟩ := ints_at hcell (by omega)
      have hw := hwf (zs.getD j 0) (by rw [List.getD_eq_getElem?_getD, List.getElem?_eq_getElem (show j < zs.length by omega)]; exact List.getElem_mem _)
      have hcj := hc j (by omega)
      have hlt := World.block_lt_of_cell? W ⟨b, off + j, none⟩ hcj
      have hw2 : IntKind.u8.min ≤ zs.getD j 0 ∧ zs.getD j 0 ≤ IntKind.u8.max := by simpa [Lit.wf] using hw
      rw [show IntKind.u8.min = 0 from rfl, show IntKind.u8.max = 255 from rfl] at hw2
      exact ⟨b, off, _, rfl, by simpa using hlt, hcj, by omega, by omega⟩
    have hrow : ∀ sp : Nat → Bool, (∀ q ∈ MemPlace.row a zs.length, sp q.block = true) → zs.length = if sp a.block then sc else sl := by
      intro sp hsp
      by_cases h0 : zs.length = 0
      · split <;> omega
      · have hm : MemPlace.cell a.block (a.off + 0) ∈ MemPlace.row a zs.length := MemPlace.mem_row.2 ⟨0, by omega, rfl⟩
        have := hsp _ hm
        rw [if_pos (by simpa [MemPlace.block] using this)]; exact hall'
    refine (fnRightAngles_walk (some a) sl sc W (by unfold maxLen at hmax; omega) hin).mono fun e W' ⟨he, hg⟩ => ?_
    subst he
    have hcell' : ∀ i, i < zs.length → W'.cell? (a.add i) = some (.int .u8 (zs.getD i 0)) := fun i hi => (hg.cell (p := a.add i) (World.block_lt_of_cell? W (a.add i) (hcell i hi))).trans (hcell i hi)
    exact ⟨_, rfl, post_below (pa := MemPlace.row a zs.length) (pv := []) hW' (fun _ _ _ => (trodAll_cons_mk (shut_bool Try.underlying4 _) trodAll_mk0)) (fun sp hsp => by
        have h2 := trodAll_cons_mk (p := MemPlace.row a zs.length) (v := .slice (some a) sl sc) ⟨2, shut_ints (enc := enc) (w := W') (base := 0) (spare := sp) (held := true) 0 Try.underlying22 Try.underlying5 hone (Nat.zero_le _) hle hmax (hrow sp hsp) hcell' hwf⟩ trodAll_mk0
        simp only [List.append_nil, List.nil_append] at h2
        exact h2) (fun _ _ => rfl) (by simp)
      hg (ok_one (by kernel_rfl) rfl (okWide_bool_mk Try.underlying4 _))⟩

theorem over : Rows.fnRightAnglesRow.holds Try.pinned (OpenSpec.ofChange Rows.fnRightAnglesSpec) :=
  OpenClaim.holds_of_wide 4 Try.f4 rfl rfl rfl rfl rfl rfl rfl ⟨rfl, rfl, rfl, rfl, rfl⟩ rfl rfl rfl rfl rfl (by kernel_rfl) Try.func4 (by kernel_rfl)
    (of_decide_eq_true (by kernel_rfl)) (by unfold Func.isWrapper; first | (rw [if_pos (by decide +kernel)]; kernel_rfl) | (rw [if_neg (by decide +kernel)]; exact ⟨rfl, rfl⟩))
    (fun os started H enc _ => lifted os started H enc)

/-- The statement. -/
theorem proved : Rows.FnRightAnglesSaid :=
  over

#print axioms proved
end Go.Proofs.Ytodabjolblamgaa.fnRightAngles
