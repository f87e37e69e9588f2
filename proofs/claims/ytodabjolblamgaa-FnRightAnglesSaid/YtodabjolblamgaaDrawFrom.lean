/-
  spec.l01From: the source of a code.
-/
import Derived.Test.YtodabjolblamgaaDraw
import Derived.Deep.DeepCutAuto
namespace Go.Proofs.Ytodabjolblamgaa
open Go.RowKit

/-- A source that a call has made. -/
def FromPost (base m c : Nat) (a : Option Addr) (w : World) (e : Ending) (w' : World) : Prop :=
  e = .returned (.pointer (some ⟨w.heap.size, 0, none⟩)) ∧ Src w' base w.heap.size a m c ∧ Below base w w'
theorem code_below {w w' : World} {base m : Nat} {a : Option Addr} (h : CodeAt w base a m) (hb : Below base w w') : CodeAt w' base a m := ⟨h.1, fun j hj => by
  obtain ⟨cb, co, y, e, hcb, hcy, hy⟩ := h.2 j hj
  exact ⟨cb, co, y, e, hcb, (cell_old hb hcb _).trans hcy, hy⟩⟩

set_option linter.unusedSimpArgs false in
set_option linter.unusedVariables false in
set_option maxRecDepth 20000 in
set_option maxHeartbeats 2000000 in
theorem from_any (base m c : Nat) (a : Option Addr) (w : World) (hc : CodeAt w base a m) (hm : m ≤ 4096) (hb : base ≤ w.heap.size) :
    Calls Try.prog 65 #[.slice a m c] w fun e w' => FromPost base m c a w e w' := by
  have e0 : IntKind.u64.wrap (m : Int) = (m : Int) := IntWalk.u64_in _ (by omega)
  have e1 : IntKind.u64.wrap (13701 + (m : Int)) = 13701 + (m : Int) := IntWalk.u64_in _ (by omega)
  have hs0 : Src (w.alloc (.cells #[.slice a m c, .int .i64 0, .int .u64 (13701 + (m : Int))] 129)) base w.heap.size a m c :=
    ⟨hb, by simp, code_below hc ((Below.refl base w).alloc hb _), 0, 13701 + (m : Int), kfresh rfl rfl, kfresh rfl rfl, kfresh rfl rfl, fallocNew rfl, fallocNew rfl, by omega, by omega, by omega⟩
  have HS0 := Lib.hid hs0
  clear hs0 hc
  go_enter Try.func65, Try.ntmps65
  go_wp2_with fail
  go_loopw [4] (fun i wr => ∃ k : Nat, k ≤ m ∧ i = .int .i64 k ∧ Src wr base w.heap.size a m c ∧ Below base w wr) (fun i _ => m - (intOf i).toNat)
  case atStart => exact ⟨0, by omega, rfl, HS0.out, (Below.refl base w).alloc hb _⟩
  case round =>
    obtain ⟨k, hk, rfl, hs, hbel⟩ := hrel
    by_cases hkm : k < m
    · obtain ⟨hb1, hb2, hcode, t, h, k0, k1, k2, f1, f2, ht, hh0, hh1⟩ := hs
      obtain ⟨cb, co, y, rfl, hcb, hcy, hy0, hy1⟩ := hcode.2 k hkm
      have hkm' : (k : Int) < (m : Int) := by omega
      have hk4 : (k : Int) < 4096 := by omega
      have hidx : (0 : Int) ≤ (k : Int) ∧ (k : Int) < (m : Int) := by omega
      have e3 : IntKind.u64.wrap y = y := IntWalk.u64_in _ (by omega)
      have HC := Lib.hid hcode
      have HS := Lib.hid (fun (z : Int) (n : Nat) => (show Src ((wr.drewN n).setCell ⟨w.heap.size, 2, none⟩ (.int .u64 (IntKind.u64.wrap z))) base w.heap.size (some ⟨cb, co, none⟩) m c ∧ Below base w ((wr.drewN n).setCell ⟨w.heap.size, 2, none⟩ (.int .u64 (IntKind.u64.wrap z))) from
        ⟨⟨hb1, by simpa [World.setCell] using hb2, code_below hcode ((below_drewN (Below.refl base wr) n).setCell hb1 _), t, IntKind.u64.wrap z, kother (W := wr.drewN n) (by decide) k0, kother (W := wr.drewN n) (by decide) k1, ksame (W := wr.drewN n) k2, fset (W := wr.drewN n) f1, fset (W := wr.drewN n) f2, ht, by rw [IntKind.wrap_u64]; omega, by rw [IntKind.wrap_u64]; omega⟩, (below_drewN hbel n).setCell hb1 _⟩))
      clear hcode hbel
      go_upto_region 5 with fail
      (refine region_tail 15 (by kernel_rfl) (by kernel_rfl) ?_; simp only [List.take_succ_cons, List.take_zero, List.drop_succ_cons, List.drop_zero]; repeat still_step)
      refine wpStill_nil ?_
      go_wp2
      go_roundw
      case rel => exact ⟨k + 1, by omega, by go_num, (HS.out _ 0).1, (HS.out _ 0).2.drew⟩
      case measure => simp [intOf]; omega
    · go_wp2
      go_ret
      exact ⟨rfl, hs, hbel⟩

end Go.Proofs.Ytodabjolblamgaa
