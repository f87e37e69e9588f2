/-
  impl.poleOf: the pole of a line, if there is one.
-/
import Derived.Test.YtmpgpmcmhbpjeaaPoleSol
import Derived.Test.YtmpgpmcmhbpjeaaImplRows
import Derived.Test.YtmpgpmcmhbpjeaaImplQuot
import Derived.Test.YtmpgpmcmhbpjeaaQuotS
import Derived.Test.YtmpgpmcmhbpjeaaRowsOf4
import Derived.Test.YtmpgpmcmhbpjeaaImplRest
import Derived.Test.YtmpgpmcmhbpjeaaLast
import Derived.LoopN
import Derived.Deep.RegionHeld3
import Derived.Deep.DeepCutAuto
namespace Go.Proofs.Ytmpgpmcmhbpjeaa
open Go.RowKit

theorem Apart2.frozenP {r s : Nat} {a W : World} (h : Apart2 r s a W) {b j : Nat} (hr : b ≠ r) (hs : b ≠ s) (hl : b < a.heap.size) (hf : a.frozen? ⟨b, j, none⟩ = false) : W.frozen? ⟨b, j, none⟩ = false :=
  (frozen_of_block (w := a) (a := ⟨b, j, none⟩) (h.block b hl hr hs)).trans hf
theorem ints_one (ys : List Int) : ∀ u ∈ ints ys, u.oneCell' = true := fun u hu => by
  obtain ⟨y, _, rfl⟩ := List.mem_map.1 hu
  rfl
theorem own_one {W : World} {base : Nat} {e : TypeId} {k n : Nat} {v : Value} {xs : List Value} (h : W.ownsRow base e k v n xs) (hn : 0 < n) : ∃ g cap, v = .slice (some ⟨g, 0, none⟩) n cap := by
  rcases own_ways h with ⟨rfl, _⟩ | ⟨_, g, cap, rfl, _⟩
  · omega
  · exact ⟨_, _, rfl⟩
theorem index_rw0 (a b c d e f g h i : Int) (w : World) : (Instr.index 103 (.agg #[.int .i64 a, .int .i64 b, .int .i64 c, .int .i64 d, .int .i64 e, .int .i64 f, .int .i64 g, .int .i64 h, .int .i64 i]) (.int .i64 0)).run Try.prog w = .ok (.agg #[.int .i64 a, .int .i64 b, .int .i64 c]) w := by
  simp [Instr.index, asIntOf, part, isAgg, sizeOf, run_underlying (by kernel_rfl : Try.prog.underlying 103 = some (.array 3 23)), go_sem]; rfl
theorem index_rw1 (a b c d e f g h i : Int) (w : World) : (Instr.index 103 (.agg #[.int .i64 a, .int .i64 b, .int .i64 c, .int .i64 d, .int .i64 e, .int .i64 f, .int .i64 g, .int .i64 h, .int .i64 i]) (.int .i64 1)).run Try.prog w = .ok (.agg #[.int .i64 d, .int .i64 e, .int .i64 f]) w := by
  simp [Instr.index, asIntOf, part, isAgg, sizeOf, run_underlying (by kernel_rfl : Try.prog.underlying 103 = some (.array 3 23)), go_sem]; rfl
theorem index_rw2 (a b c d e f g h i : Int) (w : World) : (Instr.index 103 (.agg #[.int .i64 a, .int .i64 b, .int .i64 c, .int .i64 d, .int .i64 e, .int .i64 f, .int .i64 g, .int .i64 h, .int .i64 i]) (.int .i64 2)).run Try.prog w = .ok (.agg #[.int .i64 g, .int .i64 h, .int .i64 i]) w := by
  simp [Instr.index, asIntOf, part, isAgg, sizeOf, run_underlying (by kernel_rfl : Try.prog.underlying 103 = some (.array 3 23)), go_sem]; rfl
/-- impl.onlySolution at the rows. -/
theorem onlyPole_any (p k1 k2 k3 k4 k5 k6 l1 l2 l3 : Int) (R B cap : Nat) (w : World) (hp : isP p = true) (hk : cnB p k1 k2 k3 k4 k5 k6 = true) (hl : lineB p l1 l2 l3 = true) (hd : (dtm p k1 k2 k3 k4 k5 k6 == 0) = false) (hcap : 3 ≤ cap)
    (hL : LayM w R B 3 4 (fun i => i * 4) (fun i j => (poR p k1 k2 k3 k4 k5 k6 l1 l2 l3).getD (i * 4 + j) 0)) :
    Calls Try.prog 48 #[.int .i64 p, .slice (some ⟨R, 0, none⟩) 3 cap] w fun e w' => Apart2 R B w w' ∧ ∃ (F : Nat) (x0 x1 x2 x3 : Int), w.heap.size ≤ F ∧ (0 ≤ x0 ∧ x0 < p) ∧ (0 ≤ x1 ∧ x1 < p) ∧ (0 ≤ x2 ∧ x2 < p) ∧ w'.cell? ⟨F, 0, none⟩ = some (.int .i64 x0) ∧ w'.cell? ⟨F, 1, none⟩ = some (.int .i64 x1) ∧ w'.cell? ⟨F, 2, none⟩ = some (.int .i64 x2) ∧ w'.cell? ⟨F, 3, none⟩ = some (.int .i64 x3) ∧
        (x2 = 0 → poF p k1 k2 k3 k4 k5 k6 l1 l2 l3 = none) ∧ (x2 ≠ 0 → poF p k1 k2 k3 k4 k5 k6 l1 l2 l3 = some (x0 * inv p x2 % p, x1 * inv p x2 % p)) ∧ e = .returned (.tuple #[.slice (some ⟨F, 0, none⟩) 4 4, .bool true]) := by
  obtain ⟨n, rfl⟩ := Int.eq_ofNat_of_zero_le (by have := isP_range hp; omega : 0 ≤ p)
  haveI := neZero_of hp
  have hD : K n (dtm n k1 k2 k3 k4 k5 k6) ≠ 0 := K_small (dtm_r _ _ _ _ _ _ hp) (by simpa using hd)
  obtain ⟨c1, c2, c3, c4, c5, c6⟩ := nums6 (cnB_nums hk)
  refine Calls.mono (onlySolution_any n 3 4 R B cap _ _ w hp hL (by decide) (by decide) (by decide) (by decide) hcap (fun i j hi hj => ?_)) ?_
  · have h1 : i = 0 ∨ i = 1 ∨ i = 2 := by omega
    have h2 : j = 0 ∨ j = 1 ∨ j = 2 ∨ j = 3 := by omega
    rcases h1 with rfl | rfl | rfl <;> rcases h2 with rfl | rfl | rfl | rfl <;> first | exact c2 | exact c4 | exact c5 | exact modR _ hp
  · rintro e w' ⟨hap, hA⟩
    refine ⟨hap, ?_⟩
    rcases hA with ⟨hn, rfl⟩ | ⟨F, x, hx, hr, hF, hc, rfl⟩
    · exact (pole_not hp hD hn).elim
    · obtain ⟨q1, q2⟩ := pole_is hp hl hd hr hx
      exact ⟨F, x 0, x 1, x 2, x 3, hF, hr 0 (by decide), hr 1 (by decide), hr 2 (by decide), hc 0 (by decide), hc 1 (by decide), hc 2 (by decide), hc 3 (by decide), q1, q2, rfl⟩
set_option linter.unusedVariables false in
set_option linter.unusedSimpArgs false in
set_option maxRecDepth 20000 in
set_option maxHeartbeats 8000000 in
theorem implPoleIn (p k1 k2 k3 k4 k5 k6 l1 l2 l3 : Int) (w : World) (hp : isP p = true) (hk : cnB p k1 k2 k3 k4 k5 k6 = true) (hl : lineB p l1 l2 l3 = true) (hd : (dtm p k1 k2 k3 k4 k5 k6 == 0) = false) :
    Calls Try.prog 40 #[.int .i64 p, .agg #[.int .i64 k1, .int .i64 k2, .int .i64 k3, .int .i64 k4, .int .i64 k5, .int .i64 k6], .agg #[.int .i64 l1, .int .i64 l2, .int .i64 l3]] w fun e w' => e = .returned (.tuple #[.agg #[.int .i64 (poX p k1 k2 k3 k4 k5 k6 l1 l2 l3), .int .i64 (poY p k1 k2 k3 k4 k5 k6 l1 l2 l3)], .bool (poF p k1 k2 k3 k4 k5 k6 l1 l2 l3).isSome]) ∧ Below w.heap.size w w' := by
  have hr := isP_range hp
  obtain ⟨i0, hi, hz0, hz1, hz2⟩ := info_parts infoInt1
  have hkn := nums6 (cnB_nums hk)
  have hln := nums3 (lineB_in hl).2
  have hix0 := index_rw0
  have hix1 := index_rw1
  have hix2 := index_rw2
  have HPO := Lib.hid (fun (R B cap : Nat) (W : World) => onlyPole_any p k1 k2 k3 k4 k5 k6 l1 l2 l3 R B cap W hp hk hl hd)
  unfold poR at HPO
  have hcall := fun W => polarRows_any p k1 k2 k3 k4 k5 k6 W hp (by omega) (by omega) (by omega) (by omega) (by omega) (by omega)
  obtain ⟨q0, hq0'⟩ : ∃ z : Int, z = 2 * k1 % p := ⟨_, rfl⟩
  have Hq0 := Lib.hid hq0'
  obtain ⟨q1, hq1'⟩ : ∃ z : Int, z = 2 * k3 % p := ⟨_, rfl⟩
  have Hq1 := Lib.hid hq1'
  obtain ⟨q2, hq2'⟩ : ∃ z : Int, z = 2 * k6 % p := ⟨_, rfl⟩
  have Hq2 := Lib.hid hq2'
  obtain ⟨z0, hz0'⟩ : ∃ z : Int, z = -l1 % p := ⟨_, rfl⟩
  have Hz0 := Lib.hid hz0'
  obtain ⟨z1, hz1'⟩ : ∃ z : Int, z = -l2 % p := ⟨_, rfl⟩
  have Hz1 := Lib.hid hz1'
  obtain ⟨z2, hz2'⟩ : ∃ z : Int, z = -l3 % p := ⟨_, rfl⟩
  have Hz2 := Lib.hid hz2'
  rw [← hq0', ← hq1', ← hq2', ← hz0', ← hz1', ← hz2'] at HPO
  rw [← hq0', ← hq1', ← hq2'] at hcall
  clear hq0'
  clear hq1'
  clear hq2'
  clear hz0'
  clear hz1'
  clear hz2'
  have HCL := Lib.hid hcall
  clear hcall
  go_enter Try.func40, Try.ntmps40
  go_upto_region 0 with fail
  go_cut [4, 5, 6, 7] (fun s4 s5 s6 s7 wx => s4 = .pointer (some ⟨w.heap.size, 0, none⟩) ∧ s5 = .pointer (some ⟨w.heap.size + 1, 0, none⟩) ∧ s6 = .pointer (some ⟨w.heap.size + 1 + 1, 0, none⟩) ∧ s7 = .bool false ∧ wx.cell? ⟨w.heap.size, 0, none⟩ = some (.int .i64 k1) ∧ wx.cell? ⟨w.heap.size, 1, none⟩ = some (.int .i64 k2) ∧ wx.cell? ⟨w.heap.size, 2, none⟩ = some (.int .i64 k3) ∧ wx.cell? ⟨w.heap.size, 3, none⟩ = some (.int .i64 k4) ∧ wx.cell? ⟨w.heap.size, 4, none⟩ = some (.int .i64 k5) ∧ wx.cell? ⟨w.heap.size, 5, none⟩ = some (.int .i64 k6) ∧ wx.cell? ⟨w.heap.size + 1, 0, none⟩ = some (.int .i64 l1) ∧ wx.cell? ⟨w.heap.size + 1, 1, none⟩ = some (.int .i64 l2) ∧ wx.cell? ⟨w.heap.size + 1, 2, none⟩ = some (.int .i64 l3) ∧ wx.cell? ⟨w.heap.size + 1 + 1, 0, none⟩ = some (.int .i64 0) ∧ wx.cell? ⟨w.heap.size + 1 + 1, 1, none⟩ = some (.int .i64 0) ∧ wx.frozen? ⟨w.heap.size + 1 + 1, 0, none⟩ = false ∧ wx.frozen? ⟨w.heap.size + 1 + 1, 1, none⟩ = false ∧ Below w.heap.size w wx ∧ w.heap.size + 1 + 1 < wx.heap.size)
  case first =>
    go_wp2
    go_meet
    refine ⟨rfl, rfl, rfl, rfl, ?_, ?_, ?_, ?_, ?_, ?_, ?_, ?_, ?_, ?_, ?_, ?_, ?_, ?_, ?_⟩
    · (repeat (first | with_reducible assumption | ((with_reducible refine kfresh ?_ ?_) <;> (first | with_reducible rfl | (simp; done))) | ((with_reducible refine ksameS ?_); focus ((repeat (first | with_reducible exact kis_of (by with_reducible assumption) | with_reducible refine kis_set ?_ | ((with_reducible refine kis_new ?_ ?_) <;> (first | with_reducible rfl | rfl | (simp; done))) | with_reducible refine kis_alloc _ ?_ | with_reducible refine kis_drew ?_ | with_reducible refine kis_call (by with_reducible assumption) ?_ | with_reducible exact kis_of (kcall (by with_reducible assumption) (by with_reducible assumption)))); done)) | with_reducible refine kother (by decide) ?_ | with_reducible refine kset (by first | omega | (simp; done) | (simp; omega)) ?_ | with_reducible refine kalloc _ ?_ | with_reducible refine kdrew ?_ | with_reducible refine kdrewN ?_ | with_reducible refine kcall (by with_reducible assumption) ?_))
    · (repeat (first | with_reducible assumption | ((with_reducible refine kfresh ?_ ?_) <;> (first | with_reducible rfl | (simp; done))) | ((with_reducible refine ksameS ?_); focus ((repeat (first | with_reducible exact kis_of (by with_reducible assumption) | with_reducible refine kis_set ?_ | ((with_reducible refine kis_new ?_ ?_) <;> (first | with_reducible rfl | rfl | (simp; done))) | with_reducible refine kis_alloc _ ?_ | with_reducible refine kis_drew ?_ | with_reducible refine kis_call (by with_reducible assumption) ?_ | with_reducible exact kis_of (kcall (by with_reducible assumption) (by with_reducible assumption)))); done)) | with_reducible refine kother (by decide) ?_ | with_reducible refine kset (by first | omega | (simp; done) | (simp; omega)) ?_ | with_reducible refine kalloc _ ?_ | with_reducible refine kdrew ?_ | with_reducible refine kdrewN ?_ | with_reducible refine kcall (by with_reducible assumption) ?_))
    · (repeat (first | with_reducible assumption | ((with_reducible refine kfresh ?_ ?_) <;> (first | with_reducible rfl | (simp; done))) | ((with_reducible refine ksameS ?_); focus ((repeat (first | with_reducible exact kis_of (by with_reducible assumption) | with_reducible refine kis_set ?_ | ((with_reducible refine kis_new ?_ ?_) <;> (first | with_reducible rfl | rfl | (simp; done))) | with_reducible refine kis_alloc _ ?_ | with_reducible refine kis_drew ?_ | with_reducible refine kis_call (by with_reducible assumption) ?_ | with_reducible exact kis_of (kcall (by with_reducible assumption) (by with_reducible assumption)))); done)) | with_reducible refine kother (by decide) ?_ | with_reducible refine kset (by first | omega | (simp; done) | (simp; omega)) ?_ | with_reducible refine kalloc _ ?_ | with_reducible refine kdrew ?_ | with_reducible refine kdrewN ?_ | with_reducible refine kcall (by with_reducible assumption) ?_))
    · (repeat (first | with_reducible assumption | ((with_reducible refine kfresh ?_ ?_) <;> (first | with_reducible rfl | (simp; done))) | ((with_reducible refine ksameS ?_); focus ((repeat (first | with_reducible exact kis_of (by with_reducible assumption) | with_reducible refine kis_set ?_ | ((with_reducible refine kis_new ?_ ?_) <;> (first | with_reducible rfl | rfl | (simp; done))) | with_reducible refine kis_alloc _ ?_ | with_reducible refine kis_drew ?_ | with_reducible refine kis_call (by with_reducible assumption) ?_ | with_reducible exact kis_of (kcall (by with_reducible assumption) (by with_reducible assumption)))); done)) | with_reducible refine kother (by decide) ?_ | with_reducible refine kset (by first | omega | (simp; done) | (simp; omega)) ?_ | with_reducible refine kalloc _ ?_ | with_reducible refine kdrew ?_ | with_reducible refine kdrewN ?_ | with_reducible refine kcall (by with_reducible assumption) ?_))
    · (repeat (first | with_reducible assumption | ((with_reducible refine kfresh ?_ ?_) <;> (first | with_reducible rfl | (simp; done))) | ((with_reducible refine ksameS ?_); focus ((repeat (first | with_reducible exact kis_of (by with_reducible assumption) | with_reducible refine kis_set ?_ | ((with_reducible refine kis_new ?_ ?_) <;> (first | with_reducible rfl | rfl | (simp; done))) | with_reducible refine kis_alloc _ ?_ | with_reducible refine kis_drew ?_ | with_reducible refine kis_call (by with_reducible assumption) ?_ | with_reducible exact kis_of (kcall (by with_reducible assumption) (by with_reducible assumption)))); done)) | with_reducible refine kother (by decide) ?_ | with_reducible refine kset (by first | omega | (simp; done) | (simp; omega)) ?_ | with_reducible refine kalloc _ ?_ | with_reducible refine kdrew ?_ | with_reducible refine kdrewN ?_ | with_reducible refine kcall (by with_reducible assumption) ?_))
    · (repeat (first | with_reducible assumption | ((with_reducible refine kfresh ?_ ?_) <;> (first | with_reducible rfl | (simp; done))) | ((with_reducible refine ksameS ?_); focus ((repeat (first | with_reducible exact kis_of (by with_reducible assumption) | with_reducible refine kis_set ?_ | ((with_reducible refine kis_new ?_ ?_) <;> (first | with_reducible rfl | rfl | (simp; done))) | with_reducible refine kis_alloc _ ?_ | with_reducible refine kis_drew ?_ | with_reducible refine kis_call (by with_reducible assumption) ?_ | with_reducible exact kis_of (kcall (by with_reducible assumption) (by with_reducible assumption)))); done)) | with_reducible refine kother (by decide) ?_ | with_reducible refine kset (by first | omega | (simp; done) | (simp; omega)) ?_ | with_reducible refine kalloc _ ?_ | with_reducible refine kdrew ?_ | with_reducible refine kdrewN ?_ | with_reducible refine kcall (by with_reducible assumption) ?_))
    · (repeat (first | with_reducible assumption | ((with_reducible refine kfresh ?_ ?_) <;> (first | with_reducible rfl | (simp; done))) | ((with_reducible refine ksameS ?_); focus ((repeat (first | with_reducible exact kis_of (by with_reducible assumption) | with_reducible refine kis_set ?_ | ((with_reducible refine kis_new ?_ ?_) <;> (first | with_reducible rfl | rfl | (simp; done))) | with_reducible refine kis_alloc _ ?_ | with_reducible refine kis_drew ?_ | with_reducible refine kis_call (by with_reducible assumption) ?_ | with_reducible exact kis_of (kcall (by with_reducible assumption) (by with_reducible assumption)))); done)) | with_reducible refine kother (by decide) ?_ | with_reducible refine kset (by first | omega | (simp; done) | (simp; omega)) ?_ | with_reducible refine kalloc _ ?_ | with_reducible refine kdrew ?_ | with_reducible refine kdrewN ?_ | with_reducible refine kcall (by with_reducible assumption) ?_))
    · (repeat (first | with_reducible assumption | ((with_reducible refine kfresh ?_ ?_) <;> (first | with_reducible rfl | (simp; done))) | ((with_reducible refine ksameS ?_); focus ((repeat (first | with_reducible exact kis_of (by with_reducible assumption) | with_reducible refine kis_set ?_ | ((with_reducible refine kis_new ?_ ?_) <;> (first | with_reducible rfl | rfl | (simp; done))) | with_reducible refine kis_alloc _ ?_ | with_reducible refine kis_drew ?_ | with_reducible refine kis_call (by with_reducible assumption) ?_ | with_reducible exact kis_of (kcall (by with_reducible assumption) (by with_reducible assumption)))); done)) | with_reducible refine kother (by decide) ?_ | with_reducible refine kset (by first | omega | (simp; done) | (simp; omega)) ?_ | with_reducible refine kalloc _ ?_ | with_reducible refine kdrew ?_ | with_reducible refine kdrewN ?_ | with_reducible refine kcall (by with_reducible assumption) ?_))
    · (repeat (first | with_reducible assumption | ((with_reducible refine kfresh ?_ ?_) <;> (first | with_reducible rfl | (simp; done))) | ((with_reducible refine ksameS ?_); focus ((repeat (first | with_reducible exact kis_of (by with_reducible assumption) | with_reducible refine kis_set ?_ | ((with_reducible refine kis_new ?_ ?_) <;> (first | with_reducible rfl | rfl | (simp; done))) | with_reducible refine kis_alloc _ ?_ | with_reducible refine kis_drew ?_ | with_reducible refine kis_call (by with_reducible assumption) ?_ | with_reducible exact kis_of (kcall (by with_reducible assumption) (by with_reducible assumption)))); done)) | with_reducible refine kother (by decide) ?_ | with_reducible refine kset (by first | omega | (simp; done) | (simp; omega)) ?_ | with_reducible refine kalloc _ ?_ | with_reducible refine kdrew ?_ | with_reducible refine kdrewN ?_ | with_reducible refine kcall (by with_reducible assumption) ?_))
    · (repeat (first | with_reducible assumption | ((with_reducible refine kfresh ?_ ?_) <;> (first | with_reducible rfl | (simp; done))) | ((with_reducible refine ksameS ?_); focus ((repeat (first | with_reducible exact kis_of (by with_reducible assumption) | with_reducible refine kis_set ?_ | ((with_reducible refine kis_new ?_ ?_) <;> (first | with_reducible rfl | rfl | (simp; done))) | with_reducible refine kis_alloc _ ?_ | with_reducible refine kis_drew ?_ | with_reducible refine kis_call (by with_reducible assumption) ?_ | with_reducible exact kis_of (kcall (by with_reducible assumption) (by with_reducible assumption)))); done)) | with_reducible refine kother (by decide) ?_ | with_reducible refine kset (by first | omega | (simp; done) | (simp; omega)) ?_ | with_reducible refine kalloc _ ?_ | with_reducible refine kdrew ?_ | with_reducible refine kdrewN ?_ | with_reducible refine kcall (by with_reducible assumption) ?_))
    · (repeat (first | with_reducible assumption | ((with_reducible refine kfresh ?_ ?_) <;> (first | with_reducible rfl | (simp; done))) | ((with_reducible refine ksameS ?_); focus ((repeat (first | with_reducible exact kis_of (by with_reducible assumption) | with_reducible refine kis_set ?_ | ((with_reducible refine kis_new ?_ ?_) <;> (first | with_reducible rfl | rfl | (simp; done))) | with_reducible refine kis_alloc _ ?_ | with_reducible refine kis_drew ?_ | with_reducible refine kis_call (by with_reducible assumption) ?_ | with_reducible exact kis_of (kcall (by with_reducible assumption) (by with_reducible assumption)))); done)) | with_reducible refine kother (by decide) ?_ | with_reducible refine kset (by first | omega | (simp; done) | (simp; omega)) ?_ | with_reducible refine kalloc _ ?_ | with_reducible refine kdrew ?_ | with_reducible refine kdrewN ?_ | with_reducible refine kcall (by with_reducible assumption) ?_))
    · (repeat (first | with_reducible assumption | with_reducible refine fdrew ?_ | with_reducible refine fdrewN ?_ | with_reducible refine fset ?_ | ((with_reducible refine fallocNew ?_) <;> (first | with_reducible rfl | (simp; done))) | ((with_reducible refine kfro (by with_reducible assumption) ?_ ?_); focus (first | with_reducible assumption | omega | (simp; done) | (simp; omega))) | ((with_reducible refine falloc ?_ ?_); focus (first | with_reducible assumption | omega | (simp; done) | (simp; omega)))))
    · (repeat (first | with_reducible assumption | with_reducible refine fdrew ?_ | with_reducible refine fdrewN ?_ | with_reducible refine fset ?_ | ((with_reducible refine fallocNew ?_) <;> (first | with_reducible rfl | (simp; done))) | ((with_reducible refine kfro (by with_reducible assumption) ?_ ?_); focus (first | with_reducible assumption | omega | (simp; done) | (simp; omega))) | ((with_reducible refine falloc ?_ ?_); focus (first | with_reducible assumption | omega | (simp; done) | (simp; omega)))))
    · (repeat (first | with_reducible exact Below.refl _ _ | with_reducible refine balloc ?_ _ | with_reducible refine bdrewN ?_ _ | with_reducible refine Below.drew ?_ | with_reducible refine bthen ?_ (by with_reducible assumption) | with_reducible refine Below.setCell ?_ (by first | (simp; done) | (simp; omega)) _))
    · (first | omega | (simp; done) | (simp; omega))
  case' rest => obtain ⟨rfl, rfl, rfl, rfl, c0, c1, c2, c3, c4, c5, c6, c7, c8, c9, c10, f0, f1, hx0, hs0⟩ := hcut
  obtain ⟨wO, rfl⟩ : ∃ wO : World, wO = wc := ⟨_, rfl⟩
  go_wp2_with fail
  refine Calls.mono (HCL.out _) ?_
  clear HCL
  rintro e wa ⟨rfl, hBa⟩
  have hsa := hBa.size
  have a6 := (cell_back hBa (by omega) 0).trans c6
  have a7 := (cell_back hBa (by omega) 1).trans c7
  have a8 := (cell_back hBa (by omega) 2).trans c8
  have a9 := (cell_back hBa (by omega) 0).trans c9
  have a10 := (cell_back hBa (by omega) 1).trans c10
  have af0 := kfro hBa (by omega) f0
  have af1 := kfro hBa (by omega) f1
  have hwa : Below w.heap.size w wa := bthen hx0 hBa
  clear c0 c1 c2 c3 c4 c5 c6 c7 c8 c9 c10 hBa hx0 f0 f1
  have lX : w.heap.size + 1 + 1 < wa.heap.size := by omega
  have own0 : wa.ownsRow wa.heap.size 2 1 (.slice none 0 0) 0 (ints []) := World.ownsRow_nil _ _ _ _
  have P0 : Below wa.heap.size wa wa := Below.refl _ _
  go_wp2_with fail
  refine wp_loop_rounds 4 ?_
  rw [rounds_succ]
  have hs_wa := P0.size
  have y0 : wa.cell? ⟨w.heap.size + 1, 0, none⟩ = some (.int .i64 l1) := a6
  go_upto_region 5 with fail
  have bc0 : (wa.alloc (.cells #[.int .i64 q0, .int .i64 k2, .int .i64 k4] 23)).cell? ⟨wa.heap.size, 0, none⟩ = some (.int .i64 q0) ∧ (wa.alloc (.cells #[.int .i64 q0, .int .i64 k2, .int .i64 k4] 23)).cell? ⟨wa.heap.size, 1, none⟩ = some (.int .i64 k2) ∧ (wa.alloc (.cells #[.int .i64 q0, .int .i64 k2, .int .i64 k4] 23)).cell? ⟨wa.heap.size, 2, none⟩ = some (.int .i64 k4) := ⟨kfresh rfl rfl, kfresh rfl rfl, kfresh rfl rfl⟩
  have hb0 : Below wa.heap.size wa (wa.alloc (.cells #[.int .i64 q0, .int .i64 k2, .int .i64 k4] 23)) := P0.alloc P0.size _
  have ow0 := own0.alloc (.cells #[.int .i64 q0, .int .i64 k2, .int .i64 k4] 23)
  have yl0 : (wa.alloc (.cells #[.int .i64 q0, .int .i64 k2, .int .i64 k4] 23)).cell? ⟨w.heap.size + 1, 0, none⟩ = some (.int .i64 l1) := kalloc _ y0
  have sY0 : (wa.alloc (.cells #[.int .i64 q0, .int .i64 k2, .int .i64 k4] 23)).heap.size = wa.heap.size + 1 := by simp
  obtain ⟨Y0, hY0⟩ : ∃ X, X = (wa.alloc (.cells #[.int .i64 q0, .int .i64 k2, .int .i64 k4] 23)) := ⟨_, rfl⟩
  rw [← hY0] at bc0 hb0 ow0 yl0 sY0 ⊢
  clear hY0
  have lgl : w.heap.size + 1 < Y0.heap.size := by omega
  have ogb : ∀ g, ((.slice none 0 0) : Value).ownBlock = some g → g < Y0.heap.size := fun g hg => by have := (own0.lt g hg).2; omega
  have hlY : ∀ W : World, Below Y0.heap.size Y0 W → W.cell? ⟨w.heap.size + 1, 0, none⟩ = some (.int .i64 l1) := fun W h => bholds yl0 h
  clear sY0
  refine wp_last (fun Kb0 hKb0 => ?_)
  go_cut [8] (fun s8 wx => ∃ g c : Nat, s8 = .slice (some ⟨g, 0, none⟩) 4 c ∧ wx.ownsRow wa.heap.size 2 1 s8 4 (ints [q0, k2, k4, z0]) ∧ Below wa.heap.size wa wx)
  case first =>
    (refine wp_region_held_drew (S := (fun W => Y0.heap.size ≤ W.heap.size ∧ W.cell? ⟨w.heap.size + 1, 0, none⟩ = some (.int .i64 l1))) (by kernel_rfl) (by exact ⟨Nat.le_refl _, hlY _ (Below.drew (Below.refl _ _))⟩) (fun hHeld => ?_))
    (refine wpAnyH_take (i := 0) (v := ?_) rfl (by kernel_rfl) (by kernel_rfl) (by kernel_rfl) (fun _ _ _ h => h) (Or.inl ⟨by rfl, ?_⟩) (by with_reducible assumption) ?_; rotate_left; (focus (intro wz hSw; (try dsimp only at hSw); go_simp; try with_reducible rfl)); try simp only [Act.put, List.getElem_toArray, List.getElem_cons_zero, List.getElem_cons_succ, List.setIfInBounds_toArray, List.set_cons_zero, List.set_cons_succ])
    (refine wpAnyH_take (i := 1) (v := ?_) rfl (by kernel_rfl) (by kernel_rfl) (by kernel_rfl) (fun _ _ _ h => h) (Or.inl ⟨by rfl, ?_⟩) (by with_reducible assumption) ?_; rotate_left; (focus (intro wz hSw; (try dsimp only at hSw); go_simp; try with_reducible rfl)); try simp only [Act.put, List.getElem_toArray, List.getElem_cons_zero, List.getElem_cons_succ, List.setIfInBounds_toArray, List.set_cons_zero, List.set_cons_succ])
    (refine wpAnyH_take (i := 3) (v := ?_) rfl (by kernel_rfl) (by kernel_rfl) (by kernel_rfl) (fun _ _ _ h => h) (Or.inl ⟨by rfl, ?_⟩) (by with_reducible assumption) ?_; rotate_left; (focus (intro wz hSw; (try dsimp only at hSw); go_simp; try with_reducible rfl)); try simp only [Act.put, List.getElem_toArray, List.getElem_cons_zero, List.getElem_cons_succ, List.setIfInBounds_toArray, List.set_cons_zero, List.set_cons_succ])
    (refine wpAnyH_take (i := 4) (v := ?_) rfl (by kernel_rfl) (by kernel_rfl) (by kernel_rfl) (fun _ _ _ h => h) (Or.inl ⟨by rfl, ?_⟩) (by with_reducible assumption) ?_; rotate_left; (focus (intro wz hSw; (try dsimp only at hSw); go_simp; try with_reducible rfl)); try simp only [Act.put, List.getElem_toArray, List.getElem_cons_zero, List.getElem_cons_succ, List.setIfInBounds_toArray, List.set_cons_zero, List.set_cons_succ])
    (refine wpAnyH_take (i := 5) (v := ?_) rfl (by kernel_rfl) (by kernel_rfl) (by kernel_rfl) (fun _ _ _ h => h) (Or.inl ⟨by rfl, ?_⟩) (by with_reducible assumption) ?_; rotate_left; (focus (intro wz hSw; (try dsimp only at hSw); go_simp; try with_reducible rfl)); try simp only [Act.put, List.getElem_toArray, List.getElem_cons_zero, List.getElem_cons_succ, List.setIfInBounds_toArray, List.set_cons_zero, List.set_cons_succ])
    (refine wpAnyH_take (i := 6) (v := ?_) rfl (by kernel_rfl) (by kernel_rfl) (by kernel_rfl) (fun _ _ _ h => h) (Or.inl ⟨by rfl, ?_⟩) (by with_reducible assumption) ?_; rotate_left; (focus (intro wz hSw; (try dsimp only at hSw); go_simp; try with_reducible rfl)); try simp only [Act.put, List.getElem_toArray, List.getElem_cons_zero, List.getElem_cons_succ, List.setIfInBounds_toArray, List.set_cons_zero, List.set_cons_succ])
    (refine wpAnyH_take (i := 7) (v := ?_) rfl (by kernel_rfl) (by kernel_rfl) (by kernel_rfl) (fun _ _ _ h => h) (Or.inl ⟨by rfl, ?_⟩) (by with_reducible assumption) ?_; rotate_left; (focus (intro wz hSw; (try dsimp only at hSw); go_simp; try with_reducible rfl)); try simp only [Act.put, List.getElem_toArray, List.getElem_cons_zero, List.getElem_cons_succ, List.setIfInBounds_toArray, List.set_cons_zero, List.set_cons_succ])
    rw [wrapI (-l1) (by omega)]
    refine wpAnyH_ready (rs := [2]) (by kernel_rfl) (by simp) ?_
    refine AllReadyH.cons rfl (fun K hK => ?_) AllReadyH.nil
    refine step_append_own rfl _ _ 50 rfl wa.heap.size 2 i0 (.int .i64 0) 1 8 Try.underlying50 hi hz0 hz1 hz2 rfl (by decide) (.slice none 0 0) 0 (ints []) rfl (own_drew ow0) ⟨wa.heap.size, 0, none⟩ 3 3 (ints [q0, k2, k4]) rfl rfl (fun j u hj => ?nw) (ints_one _) (by unfold maxLen; omega) (by omega) (Below.drew hb0).size ?_
    case nw =>
      match j, hj with
      | 0, hj => simp [ints] at hj; subst hj; exact kdrew bc0.1
      | 1, hj => simp [ints] at hj; subst hj; exact kdrew bc0.2.1
      | 2, hj => simp [ints] at hj; subst hj; exact kdrew bc0.2.2
      | j + 3, hj => simp [ints] at hj
    intro v1 u1 o1 gr1
    have B_u1 : Below wa.heap.size wa u1 := Below.grown (Below.drew hb0) gr1 (Below.drew hb0).size (fun q e => (ow0.lt q e).1)
    have le1 : Y0.heap.size ≤ u1.heap.size := gr1.size
    have k1' : u1.cell? ⟨w.heap.size + 1, 0, none⟩ = some (.int .i64 l1) := (World.cell?_of_block (a := ⟨w.heap.size + 1, 0, none⟩) (gr1.block _ (by simp only [World.drew]; omega) (fun e => by have := (ow0.lt _ e.symm).1; (try simp only at this); omega))).trans (kdrew yl0)
    clear gr1
    refine hK.out _ _ ⟨le1, k1'⟩ (fun hHeld => ?_)
    clear hHeld hK K
    try simp only [Act.put, List.getElem_toArray, List.getElem_cons_zero, List.getElem_cons_succ, List.setIfInBounds_toArray, List.set_cons_zero, List.set_cons_succ]
    refine wpAnyH_ready (rs := [8]) (by kernel_rfl) (by simp) ?_
    refine AllReadyH.cons rfl (fun K hK => ?_) AllReadyH.nil
    go_simp
    refine Calls.mono (rest_any _ _ _ (by omega) (by omega) (by omega) (by omega)) ?_
    rintro e w' ⟨rfl, rfl⟩
    refine hK.out _ _ ⟨le1, k1'⟩ (fun hHeld => ?_)
    clear hHeld hK K
    try simp only [Act.put, List.getElem_toArray, List.getElem_cons_zero, List.getElem_cons_succ, List.setIfInBounds_toArray, List.set_cons_zero, List.set_cons_succ]
    rw [← Hz0.out]
    refine wpAnyH_ready (rs := [9]) (by kernel_rfl) (by simp) ?_
    refine AllReadyH.cons rfl (fun K hK => ?_) AllReadyH.nil
    go_simp
    have cf : (u1.alloc (.cells #[.int .i64 z0] 2)).cell? ⟨u1.heap.size, 0, none⟩ = some (.int .i64 z0) := kfresh rfl rfl
    have B_u2 : Below wa.heap.size wa (u1.alloc (.cells #[.int .i64 z0] 2)) := B_u1.alloc B_u1.size _
    have o1' := o1.alloc (.cells #[.int .i64 z0] 2)
    have le2 : Y0.heap.size ≤ (u1.alloc (.cells #[.int .i64 z0] 2)).heap.size := by simp; omega
    have k2' : (u1.alloc (.cells #[.int .i64 z0] 2)).cell? ⟨w.heap.size + 1, 0, none⟩ = some (.int .i64 l1) := kalloc _ k1'
    refine hK.out _ _ ⟨le2, k2'⟩ (fun hHeld => ?_)
    clear hHeld hK K
    try simp only [Act.put, List.getElem_toArray, List.getElem_cons_zero, List.getElem_cons_succ, List.setIfInBounds_toArray, List.set_cons_zero, List.set_cons_succ]
    obtain ⟨u2, hu2⟩ : ∃ X, X = (u1.alloc (.cells #[.int .i64 z0] 2)) := ⟨_, rfl⟩
    rw [← hu2] at cf B_u2 o1' le2 k2' ⊢
    clear hu2
    refine wpAnyH_ready (rs := [10]) (by kernel_rfl) (by simp) ?_
    refine AllReadyH.cons rfl (fun K hK => ?_) AllReadyH.nil
    rw [← ints_append] at o1'
    have lgl2 : w.heap.size + 1 < u2.heap.size := by omega
    refine step_append_own rfl _ _ 50 rfl wa.heap.size 2 i0 (.int .i64 0) 1 8 Try.underlying50 hi hz0 hz1 hz2 rfl (by decide) v1 (0 + 3) (ints ([] ++ [q0, k2, k4])) rfl o1' ⟨u1.heap.size, 0, none⟩ 1 1 (ints [z0]) rfl rfl (fun j u hj => ?nw) (ints_one _) (by unfold maxLen; omega) (by omega) B_u2.size ?_
    case nw =>
      match j, hj with
      | 0, hj => simp [ints] at hj; subst hj; exact cf
      | j + 1, hj => simp [ints] at hj
    intro v2 wf o2 gr2
    have B_wf : Below wa.heap.size wa wf := Below.grown B_u2 gr2 B_u2.size (fun q e => (o1'.lt q e).1)
    have kf : wf.cell? ⟨w.heap.size + 1, 0, none⟩ = some (.int .i64 l1) := (World.cell?_of_block (a := ⟨w.heap.size + 1, 0, none⟩) (gr2.block _ (by show w.heap.size + 1 < _; omega) (fun e => by have := (o1'.lt _ e.symm).1; (try simp only at this); omega))).trans k2'
    have lf := Nat.le_trans le2 gr2.size
    clear gr2
    refine hK.out _ _ ⟨lf, kf⟩ (fun hHeld => ?_)
    clear hHeld hK K
    try simp only [Act.put, List.getElem_toArray, List.getElem_cons_zero, List.getElem_cons_succ, List.setIfInBounds_toArray, List.set_cons_zero, List.set_cons_succ]
    have hS0 := And.intro lf kf
    (refine wpAnyH_take (i := 11) (v := ?_) rfl (by kernel_rfl) (by kernel_rfl) (by kernel_rfl) (fun _ _ _ h => h) (Or.inl ⟨by rfl, ?_⟩) (by with_reducible assumption) ?_; rotate_left; (focus (intro wz hSw; (try dsimp only at hSw); go_simp; try with_reducible rfl)); try simp only [Act.put, List.getElem_toArray, List.getElem_cons_zero, List.getElem_cons_succ, List.setIfInBounds_toArray, List.set_cons_zero, List.set_cons_succ])
    refine wpAnyH_done (by kernel_rfl) ?_ _
    go_wp2_with fail
    go_meet
    obtain ⟨g, c, rfl⟩ := own_one o2 (by omega)
    exact ⟨g, c, rfl, o2, B_wf⟩
  case' rest => obtain ⟨g1, cc1, rfl, own1, P1⟩ := hcut
  obtain ⟨X1, rfl⟩ : ∃ W : World, W = wc := ⟨_, rfl⟩
  clear lgl ogb hlY bc0 hb0 ow0 yl0 y0
  refine hKb0 _ _ ?_
  go_wp2
  rw [rounds_succ]
  have hs_X1 := P1.size
  have y1 : X1.cell? ⟨w.heap.size + 1, 1, none⟩ = some (.int .i64 l2) := (cell_old P1 (by omega) 1).trans a7
  go_upto_region 5 with fail
  have bc1 : (X1.alloc (.cells #[.int .i64 k2, .int .i64 q1, .int .i64 k5] 23)).cell? ⟨X1.heap.size, 0, none⟩ = some (.int .i64 k2) ∧ (X1.alloc (.cells #[.int .i64 k2, .int .i64 q1, .int .i64 k5] 23)).cell? ⟨X1.heap.size, 1, none⟩ = some (.int .i64 q1) ∧ (X1.alloc (.cells #[.int .i64 k2, .int .i64 q1, .int .i64 k5] 23)).cell? ⟨X1.heap.size, 2, none⟩ = some (.int .i64 k5) := ⟨kfresh rfl rfl, kfresh rfl rfl, kfresh rfl rfl⟩
  have hb1 : Below wa.heap.size wa (X1.alloc (.cells #[.int .i64 k2, .int .i64 q1, .int .i64 k5] 23)) := P1.alloc P1.size _
  have ow1 := own1.alloc (.cells #[.int .i64 k2, .int .i64 q1, .int .i64 k5] 23)
  have yl1 : (X1.alloc (.cells #[.int .i64 k2, .int .i64 q1, .int .i64 k5] 23)).cell? ⟨w.heap.size + 1, 1, none⟩ = some (.int .i64 l2) := kalloc _ y1
  have sY1 : (X1.alloc (.cells #[.int .i64 k2, .int .i64 q1, .int .i64 k5] 23)).heap.size = X1.heap.size + 1 := by simp
  obtain ⟨Y1, hY1⟩ : ∃ X, X = (X1.alloc (.cells #[.int .i64 k2, .int .i64 q1, .int .i64 k5] 23)) := ⟨_, rfl⟩
  rw [← hY1] at bc1 hb1 ow1 yl1 sY1 ⊢
  clear hY1
  have lgl : w.heap.size + 1 < Y1.heap.size := by omega
  have ogb : ∀ g, ((.slice (some ⟨g1, 0, none⟩) 4 cc1) : Value).ownBlock = some g → g < Y1.heap.size := fun g hg => by have := (own1.lt g hg).2; omega
  have hlY : ∀ W : World, Below Y1.heap.size Y1 W → W.cell? ⟨w.heap.size + 1, 1, none⟩ = some (.int .i64 l2) := fun W h => bholds yl1 h
  clear sY1
  refine wp_last (fun Kb1 hKb1 => ?_)
  go_cut [8] (fun s8 wx => ∃ g c : Nat, s8 = .slice (some ⟨g, 0, none⟩) 8 c ∧ wx.ownsRow wa.heap.size 2 1 s8 8 (ints [q0, k2, k4, z0, k2, q1, k5, z1]) ∧ Below wa.heap.size wa wx)
  case first =>
    (refine wp_region_held_drew (S := (fun W => Y1.heap.size ≤ W.heap.size ∧ W.cell? ⟨w.heap.size + 1, 1, none⟩ = some (.int .i64 l2))) (by kernel_rfl) (by exact ⟨Nat.le_refl _, hlY _ (Below.drew (Below.refl _ _))⟩) (fun hHeld => ?_))
    (refine wpAnyH_take (i := 0) (v := ?_) rfl (by kernel_rfl) (by kernel_rfl) (by kernel_rfl) (fun _ _ _ h => h) (Or.inl ⟨by rfl, ?_⟩) (by with_reducible assumption) ?_; rotate_left; (focus (intro wz hSw; (try dsimp only at hSw); go_simp; try with_reducible rfl)); try simp only [Act.put, List.getElem_toArray, List.getElem_cons_zero, List.getElem_cons_succ, List.setIfInBounds_toArray, List.set_cons_zero, List.set_cons_succ])
    (refine wpAnyH_take (i := 1) (v := ?_) rfl (by kernel_rfl) (by kernel_rfl) (by kernel_rfl) (fun _ _ _ h => h) (Or.inl ⟨by rfl, ?_⟩) (by with_reducible assumption) ?_; rotate_left; (focus (intro wz hSw; (try dsimp only at hSw); go_simp; try with_reducible rfl)); try simp only [Act.put, List.getElem_toArray, List.getElem_cons_zero, List.getElem_cons_succ, List.setIfInBounds_toArray, List.set_cons_zero, List.set_cons_succ])
    (refine wpAnyH_take (i := 3) (v := ?_) rfl (by kernel_rfl) (by kernel_rfl) (by kernel_rfl) (fun _ _ _ h => h) (Or.inl ⟨by rfl, ?_⟩) (by with_reducible assumption) ?_; rotate_left; (focus (intro wz hSw; (try dsimp only at hSw); go_simp; try with_reducible rfl)); try simp only [Act.put, List.getElem_toArray, List.getElem_cons_zero, List.getElem_cons_succ, List.setIfInBounds_toArray, List.set_cons_zero, List.set_cons_succ])
    (refine wpAnyH_take (i := 4) (v := ?_) rfl (by kernel_rfl) (by kernel_rfl) (by kernel_rfl) (fun _ _ _ h => h) (Or.inl ⟨by rfl, ?_⟩) (by with_reducible assumption) ?_; rotate_left; (focus (intro wz hSw; (try dsimp only at hSw); go_simp; try with_reducible rfl)); try simp only [Act.put, List.getElem_toArray, List.getElem_cons_zero, List.getElem_cons_succ, List.setIfInBounds_toArray, List.set_cons_zero, List.set_cons_succ])
    (refine wpAnyH_take (i := 5) (v := ?_) rfl (by kernel_rfl) (by kernel_rfl) (by kernel_rfl) (fun _ _ _ h => h) (Or.inl ⟨by rfl, ?_⟩) (by with_reducible assumption) ?_; rotate_left; (focus (intro wz hSw; (try dsimp only at hSw); go_simp; try with_reducible rfl)); try simp only [Act.put, List.getElem_toArray, List.getElem_cons_zero, List.getElem_cons_succ, List.setIfInBounds_toArray, List.set_cons_zero, List.set_cons_succ])
    (refine wpAnyH_take (i := 6) (v := ?_) rfl (by kernel_rfl) (by kernel_rfl) (by kernel_rfl) (fun _ _ _ h => h) (Or.inl ⟨by rfl, ?_⟩) (by with_reducible assumption) ?_; rotate_left; (focus (intro wz hSw; (try dsimp only at hSw); go_simp; try with_reducible rfl)); try simp only [Act.put, List.getElem_toArray, List.getElem_cons_zero, List.getElem_cons_succ, List.setIfInBounds_toArray, List.set_cons_zero, List.set_cons_succ])
    (refine wpAnyH_take (i := 7) (v := ?_) rfl (by kernel_rfl) (by kernel_rfl) (by kernel_rfl) (fun _ _ _ h => h) (Or.inl ⟨by rfl, ?_⟩) (by with_reducible assumption) ?_; rotate_left; (focus (intro wz hSw; (try dsimp only at hSw); go_simp; try with_reducible rfl)); try simp only [Act.put, List.getElem_toArray, List.getElem_cons_zero, List.getElem_cons_succ, List.setIfInBounds_toArray, List.set_cons_zero, List.set_cons_succ])
    rw [wrapI (-l2) (by omega)]
    refine wpAnyH_ready (rs := [2]) (by kernel_rfl) (by simp) ?_
    refine AllReadyH.cons rfl (fun K hK => ?_) AllReadyH.nil
    refine step_append_own rfl _ _ 50 rfl wa.heap.size 2 i0 (.int .i64 0) 1 8 Try.underlying50 hi hz0 hz1 hz2 rfl (by decide) (.slice (some ⟨g1, 0, none⟩) 4 cc1) 4 (ints [q0, k2, k4, z0]) rfl (own_drew ow1) ⟨X1.heap.size, 0, none⟩ 3 3 (ints [k2, q1, k5]) rfl rfl (fun j u hj => ?nw) (ints_one _) (by unfold maxLen; omega) (by omega) (Below.drew hb1).size ?_
    case nw =>
      match j, hj with
      | 0, hj => simp [ints] at hj; subst hj; exact kdrew bc1.1
      | 1, hj => simp [ints] at hj; subst hj; exact kdrew bc1.2.1
      | 2, hj => simp [ints] at hj; subst hj; exact kdrew bc1.2.2
      | j + 3, hj => simp [ints] at hj
    intro v1 u1 o1 gr1
    have B_u1 : Below wa.heap.size wa u1 := Below.grown (Below.drew hb1) gr1 (Below.drew hb1).size (fun q e => (ow1.lt q e).1)
    have le1 : Y1.heap.size ≤ u1.heap.size := gr1.size
    have k1' : u1.cell? ⟨w.heap.size + 1, 1, none⟩ = some (.int .i64 l2) := (World.cell?_of_block (a := ⟨w.heap.size + 1, 1, none⟩) (gr1.block _ (by simp only [World.drew]; omega) (fun e => by have := (ow1.lt _ e.symm).1; (try simp only at this); omega))).trans (kdrew yl1)
    clear gr1
    refine hK.out _ _ ⟨le1, k1'⟩ (fun hHeld => ?_)
    clear hHeld hK K
    try simp only [Act.put, List.getElem_toArray, List.getElem_cons_zero, List.getElem_cons_succ, List.setIfInBounds_toArray, List.set_cons_zero, List.set_cons_succ]
    refine wpAnyH_ready (rs := [8]) (by kernel_rfl) (by simp) ?_
    refine AllReadyH.cons rfl (fun K hK => ?_) AllReadyH.nil
    go_simp
    refine Calls.mono (rest_any _ _ _ (by omega) (by omega) (by omega) (by omega)) ?_
    rintro e w' ⟨rfl, rfl⟩
    refine hK.out _ _ ⟨le1, k1'⟩ (fun hHeld => ?_)
    clear hHeld hK K
    try simp only [Act.put, List.getElem_toArray, List.getElem_cons_zero, List.getElem_cons_succ, List.setIfInBounds_toArray, List.set_cons_zero, List.set_cons_succ]
    rw [← Hz1.out]
    refine wpAnyH_ready (rs := [9]) (by kernel_rfl) (by simp) ?_
    refine AllReadyH.cons rfl (fun K hK => ?_) AllReadyH.nil
    go_simp
    have cf : (u1.alloc (.cells #[.int .i64 z1] 2)).cell? ⟨u1.heap.size, 0, none⟩ = some (.int .i64 z1) := kfresh rfl rfl
    have B_u2 : Below wa.heap.size wa (u1.alloc (.cells #[.int .i64 z1] 2)) := B_u1.alloc B_u1.size _
    have o1' := o1.alloc (.cells #[.int .i64 z1] 2)
    have le2 : Y1.heap.size ≤ (u1.alloc (.cells #[.int .i64 z1] 2)).heap.size := by simp; omega
    have k2' : (u1.alloc (.cells #[.int .i64 z1] 2)).cell? ⟨w.heap.size + 1, 1, none⟩ = some (.int .i64 l2) := kalloc _ k1'
    refine hK.out _ _ ⟨le2, k2'⟩ (fun hHeld => ?_)
    clear hHeld hK K
    try simp only [Act.put, List.getElem_toArray, List.getElem_cons_zero, List.getElem_cons_succ, List.setIfInBounds_toArray, List.set_cons_zero, List.set_cons_succ]
    obtain ⟨u2, hu2⟩ : ∃ X, X = (u1.alloc (.cells #[.int .i64 z1] 2)) := ⟨_, rfl⟩
    rw [← hu2] at cf B_u2 o1' le2 k2' ⊢
    clear hu2
    refine wpAnyH_ready (rs := [10]) (by kernel_rfl) (by simp) ?_
    refine AllReadyH.cons rfl (fun K hK => ?_) AllReadyH.nil
    rw [← ints_append] at o1'
    have lgl2 : w.heap.size + 1 < u2.heap.size := by omega
    refine step_append_own rfl _ _ 50 rfl wa.heap.size 2 i0 (.int .i64 0) 1 8 Try.underlying50 hi hz0 hz1 hz2 rfl (by decide) v1 (4 + 3) (ints ([q0, k2, k4, z0] ++ [k2, q1, k5])) rfl o1' ⟨u1.heap.size, 0, none⟩ 1 1 (ints [z1]) rfl rfl (fun j u hj => ?nw) (ints_one _) (by unfold maxLen; omega) (by omega) B_u2.size ?_
    case nw =>
      match j, hj with
      | 0, hj => simp [ints] at hj; subst hj; exact cf
      | j + 1, hj => simp [ints] at hj
    intro v2 wf o2 gr2
    have B_wf : Below wa.heap.size wa wf := Below.grown B_u2 gr2 B_u2.size (fun q e => (o1'.lt q e).1)
    have kf : wf.cell? ⟨w.heap.size + 1, 1, none⟩ = some (.int .i64 l2) := (World.cell?_of_block (a := ⟨w.heap.size + 1, 1, none⟩) (gr2.block _ (by show w.heap.size + 1 < _; omega) (fun e => by have := (o1'.lt _ e.symm).1; (try simp only at this); omega))).trans k2'
    have lf := Nat.le_trans le2 gr2.size
    clear gr2
    refine hK.out _ _ ⟨lf, kf⟩ (fun hHeld => ?_)
    clear hHeld hK K
    try simp only [Act.put, List.getElem_toArray, List.getElem_cons_zero, List.getElem_cons_succ, List.setIfInBounds_toArray, List.set_cons_zero, List.set_cons_succ]
    have hS0 := And.intro lf kf
    (refine wpAnyH_take (i := 11) (v := ?_) rfl (by kernel_rfl) (by kernel_rfl) (by kernel_rfl) (fun _ _ _ h => h) (Or.inl ⟨by rfl, ?_⟩) (by with_reducible assumption) ?_; rotate_left; (focus (intro wz hSw; (try dsimp only at hSw); go_simp; try with_reducible rfl)); try simp only [Act.put, List.getElem_toArray, List.getElem_cons_zero, List.getElem_cons_succ, List.setIfInBounds_toArray, List.set_cons_zero, List.set_cons_succ])
    refine wpAnyH_done (by kernel_rfl) ?_ _
    go_wp2_with fail
    go_meet
    obtain ⟨g, c, rfl⟩ := own_one o2 (by omega)
    exact ⟨g, c, rfl, o2, B_wf⟩
  case' rest => obtain ⟨g2, cc2, rfl, own2, P2⟩ := hcut
  obtain ⟨X2, rfl⟩ : ∃ W : World, W = wc := ⟨_, rfl⟩
  clear lgl ogb hlY bc1 hb1 ow1 yl1 y1
  refine hKb1 _ _ ?_
  go_wp2
  rw [rounds_succ]
  have hs_X2 := P2.size
  have y2 : X2.cell? ⟨w.heap.size + 1, 2, none⟩ = some (.int .i64 l3) := (cell_old P2 (by omega) 2).trans a8
  go_upto_region 5 with fail
  have bc2 : (X2.alloc (.cells #[.int .i64 k4, .int .i64 k5, .int .i64 q2] 23)).cell? ⟨X2.heap.size, 0, none⟩ = some (.int .i64 k4) ∧ (X2.alloc (.cells #[.int .i64 k4, .int .i64 k5, .int .i64 q2] 23)).cell? ⟨X2.heap.size, 1, none⟩ = some (.int .i64 k5) ∧ (X2.alloc (.cells #[.int .i64 k4, .int .i64 k5, .int .i64 q2] 23)).cell? ⟨X2.heap.size, 2, none⟩ = some (.int .i64 q2) := ⟨kfresh rfl rfl, kfresh rfl rfl, kfresh rfl rfl⟩
  have hb2 : Below wa.heap.size wa (X2.alloc (.cells #[.int .i64 k4, .int .i64 k5, .int .i64 q2] 23)) := P2.alloc P2.size _
  have ow2 := own2.alloc (.cells #[.int .i64 k4, .int .i64 k5, .int .i64 q2] 23)
  have yl2 : (X2.alloc (.cells #[.int .i64 k4, .int .i64 k5, .int .i64 q2] 23)).cell? ⟨w.heap.size + 1, 2, none⟩ = some (.int .i64 l3) := kalloc _ y2
  have sY2 : (X2.alloc (.cells #[.int .i64 k4, .int .i64 k5, .int .i64 q2] 23)).heap.size = X2.heap.size + 1 := by simp
  obtain ⟨Y2, hY2⟩ : ∃ X, X = (X2.alloc (.cells #[.int .i64 k4, .int .i64 k5, .int .i64 q2] 23)) := ⟨_, rfl⟩
  rw [← hY2] at bc2 hb2 ow2 yl2 sY2 ⊢
  clear hY2
  have lgl : w.heap.size + 1 < Y2.heap.size := by omega
  have ogb : ∀ g, ((.slice (some ⟨g2, 0, none⟩) 8 cc2) : Value).ownBlock = some g → g < Y2.heap.size := fun g hg => by have := (own2.lt g hg).2; omega
  have hlY : ∀ W : World, Below Y2.heap.size Y2 W → W.cell? ⟨w.heap.size + 1, 2, none⟩ = some (.int .i64 l3) := fun W h => bholds yl2 h
  clear sY2
  refine wp_last (fun Kb2 hKb2 => ?_)
  go_cut [8] (fun s8 wx => ∃ g c : Nat, s8 = .slice (some ⟨g, 0, none⟩) 12 c ∧ wx.ownsRow wa.heap.size 2 1 s8 12 (ints [q0, k2, k4, z0, k2, q1, k5, z1, k4, k5, q2, z2]) ∧ Below wa.heap.size wa wx)
  case first =>
    (refine wp_region_held_drew (S := (fun W => Y2.heap.size ≤ W.heap.size ∧ W.cell? ⟨w.heap.size + 1, 2, none⟩ = some (.int .i64 l3))) (by kernel_rfl) (by exact ⟨Nat.le_refl _, hlY _ (Below.drew (Below.refl _ _))⟩) (fun hHeld => ?_))
    (refine wpAnyH_take (i := 0) (v := ?_) rfl (by kernel_rfl) (by kernel_rfl) (by kernel_rfl) (fun _ _ _ h => h) (Or.inl ⟨by rfl, ?_⟩) (by with_reducible assumption) ?_; rotate_left; (focus (intro wz hSw; (try dsimp only at hSw); go_simp; try with_reducible rfl)); try simp only [Act.put, List.getElem_toArray, List.getElem_cons_zero, List.getElem_cons_succ, List.setIfInBounds_toArray, List.set_cons_zero, List.set_cons_succ])
    (refine wpAnyH_take (i := 1) (v := ?_) rfl (by kernel_rfl) (by kernel_rfl) (by kernel_rfl) (fun _ _ _ h => h) (Or.inl ⟨by rfl, ?_⟩) (by with_reducible assumption) ?_; rotate_left; (focus (intro wz hSw; (try dsimp only at hSw); go_simp; try with_reducible rfl)); try simp only [Act.put, List.getElem_toArray, List.getElem_cons_zero, List.getElem_cons_succ, List.setIfInBounds_toArray, List.set_cons_zero, List.set_cons_succ])
    (refine wpAnyH_take (i := 3) (v := ?_) rfl (by kernel_rfl) (by kernel_rfl) (by kernel_rfl) (fun _ _ _ h => h) (Or.inl ⟨by rfl, ?_⟩) (by with_reducible assumption) ?_; rotate_left; (focus (intro wz hSw; (try dsimp only at hSw); go_simp; try with_reducible rfl)); try simp only [Act.put, List.getElem_toArray, List.getElem_cons_zero, List.getElem_cons_succ, List.setIfInBounds_toArray, List.set_cons_zero, List.set_cons_succ])
    (refine wpAnyH_take (i := 4) (v := ?_) rfl (by kernel_rfl) (by kernel_rfl) (by kernel_rfl) (fun _ _ _ h => h) (Or.inl ⟨by rfl, ?_⟩) (by with_reducible assumption) ?_; rotate_left; (focus (intro wz hSw; (try dsimp only at hSw); go_simp; try with_reducible rfl)); try simp only [Act.put, List.getElem_toArray, List.getElem_cons_zero, List.getElem_cons_succ, List.setIfInBounds_toArray, List.set_cons_zero, List.set_cons_succ])
    (refine wpAnyH_take (i := 5) (v := ?_) rfl (by kernel_rfl) (by kernel_rfl) (by kernel_rfl) (fun _ _ _ h => h) (Or.inl ⟨by rfl, ?_⟩) (by with_reducible assumption) ?_; rotate_left; (focus (intro wz hSw; (try dsimp only at hSw); go_simp; try with_reducible rfl)); try simp only [Act.put, List.getElem_toArray, List.getElem_cons_zero, List.getElem_cons_succ, List.setIfInBounds_toArray, List.set_cons_zero, List.set_cons_succ])
    (refine wpAnyH_take (i := 6) (v := ?_) rfl (by kernel_rfl) (by kernel_rfl) (by kernel_rfl) (fun _ _ _ h => h) (Or.inl ⟨by rfl, ?_⟩) (by with_reducible assumption) ?_; rotate_left; (focus (intro wz hSw; (try dsimp only at hSw); go_simp; try with_reducible rfl)); try simp only [Act.put, List.getElem_toArray, List.getElem_cons_zero, List.getElem_cons_succ, List.setIfInBounds_toArray, List.set_cons_zero, List.set_cons_succ])
    (refine wpAnyH_take (i := 7) (v := ?_) rfl (by kernel_rfl) (by kernel_rfl) (by kernel_rfl) (fun _ _ _ h => h) (Or.inl ⟨by rfl, ?_⟩) (by with_reducible assumption) ?_; rotate_left; (focus (intro wz hSw; (try dsimp only at hSw); go_simp; try with_reducible rfl)); try simp only [Act.put, List.getElem_toArray, List.getElem_cons_zero, List.getElem_cons_succ, List.setIfInBounds_toArray, List.set_cons_zero, List.set_cons_succ])
    rw [wrapI (-l3) (by omega)]
    refine wpAnyH_ready (rs := [2]) (by kernel_rfl) (by simp) ?_
    refine AllReadyH.cons rfl (fun K hK => ?_) AllReadyH.nil
    refine step_append_own rfl _ _ 50 rfl wa.heap.size 2 i0 (.int .i64 0) 1 8 Try.underlying50 hi hz0 hz1 hz2 rfl (by decide) (.slice (some ⟨g2, 0, none⟩) 8 cc2) 8 (ints [q0, k2, k4, z0, k2, q1, k5, z1]) rfl (own_drew ow2) ⟨X2.heap.size, 0, none⟩ 3 3 (ints [k4, k5, q2]) rfl rfl (fun j u hj => ?nw) (ints_one _) (by unfold maxLen; omega) (by omega) (Below.drew hb2).size ?_
    case nw =>
      match j, hj with
      | 0, hj => simp [ints] at hj; subst hj; exact kdrew bc2.1
      | 1, hj => simp [ints] at hj; subst hj; exact kdrew bc2.2.1
      | 2, hj => simp [ints] at hj; subst hj; exact kdrew bc2.2.2
      | j + 3, hj => simp [ints] at hj
    intro v1 u1 o1 gr1
    have B_u1 : Below wa.heap.size wa u1 := Below.grown (Below.drew hb2) gr1 (Below.drew hb2).size (fun q e => (ow2.lt q e).1)
    have le1 : Y2.heap.size ≤ u1.heap.size := gr1.size
    have k1' : u1.cell? ⟨w.heap.size + 1, 2, none⟩ = some (.int .i64 l3) := (World.cell?_of_block (a := ⟨w.heap.size + 1, 2, none⟩) (gr1.block _ (by simp only [World.drew]; omega) (fun e => by have := (ow2.lt _ e.symm).1; (try simp only at this); omega))).trans (kdrew yl2)
    clear gr1
    refine hK.out _ _ ⟨le1, k1'⟩ (fun hHeld => ?_)
    clear hHeld hK K
    try simp only [Act.put, List.getElem_toArray, List.getElem_cons_zero, List.getElem_cons_succ, List.setIfInBounds_toArray, List.set_cons_zero, List.set_cons_succ]
    refine wpAnyH_ready (rs := [8]) (by kernel_rfl) (by simp) ?_
    refine AllReadyH.cons rfl (fun K hK => ?_) AllReadyH.nil
    go_simp
    refine Calls.mono (rest_any _ _ _ (by omega) (by omega) (by omega) (by omega)) ?_
    rintro e w' ⟨rfl, rfl⟩
    refine hK.out _ _ ⟨le1, k1'⟩ (fun hHeld => ?_)
    clear hHeld hK K
    try simp only [Act.put, List.getElem_toArray, List.getElem_cons_zero, List.getElem_cons_succ, List.setIfInBounds_toArray, List.set_cons_zero, List.set_cons_succ]
    rw [← Hz2.out]
    refine wpAnyH_ready (rs := [9]) (by kernel_rfl) (by simp) ?_
    refine AllReadyH.cons rfl (fun K hK => ?_) AllReadyH.nil
    go_simp
    have cf : (u1.alloc (.cells #[.int .i64 z2] 2)).cell? ⟨u1.heap.size, 0, none⟩ = some (.int .i64 z2) := kfresh rfl rfl
    have B_u2 : Below wa.heap.size wa (u1.alloc (.cells #[.int .i64 z2] 2)) := B_u1.alloc B_u1.size _
    have o1' := o1.alloc (.cells #[.int .i64 z2] 2)
    have le2 : Y2.heap.size ≤ (u1.alloc (.cells #[.int .i64 z2] 2)).heap.size := by simp; omega
    have k2' : (u1.alloc (.cells #[.int .i64 z2] 2)).cell? ⟨w.heap.size + 1, 2, none⟩ = some (.int .i64 l3) := kalloc _ k1'
    refine hK.out _ _ ⟨le2, k2'⟩ (fun hHeld => ?_)
    clear hHeld hK K
    try simp only [Act.put, List.getElem_toArray, List.getElem_cons_zero, List.getElem_cons_succ, List.setIfInBounds_toArray, List.set_cons_zero, List.set_cons_succ]
    obtain ⟨u2, hu2⟩ : ∃ X, X = (u1.alloc (.cells #[.int .i64 z2] 2)) := ⟨_, rfl⟩
    rw [← hu2] at cf B_u2 o1' le2 k2' ⊢
    clear hu2
    refine wpAnyH_ready (rs := [10]) (by kernel_rfl) (by simp) ?_
    refine AllReadyH.cons rfl (fun K hK => ?_) AllReadyH.nil
    rw [← ints_append] at o1'
    have lgl2 : w.heap.size + 1 < u2.heap.size := by omega
    refine step_append_own rfl _ _ 50 rfl wa.heap.size 2 i0 (.int .i64 0) 1 8 Try.underlying50 hi hz0 hz1 hz2 rfl (by decide) v1 (8 + 3) (ints ([q0, k2, k4, z0, k2, q1, k5, z1] ++ [k4, k5, q2])) rfl o1' ⟨u1.heap.size, 0, none⟩ 1 1 (ints [z2]) rfl rfl (fun j u hj => ?nw) (ints_one _) (by unfold maxLen; omega) (by omega) B_u2.size ?_
    case nw =>
      match j, hj with
      | 0, hj => simp [ints] at hj; subst hj; exact cf
      | j + 1, hj => simp [ints] at hj
    intro v2 wf o2 gr2
    have B_wf : Below wa.heap.size wa wf := Below.grown B_u2 gr2 B_u2.size (fun q e => (o1'.lt q e).1)
    have kf : wf.cell? ⟨w.heap.size + 1, 2, none⟩ = some (.int .i64 l3) := (World.cell?_of_block (a := ⟨w.heap.size + 1, 2, none⟩) (gr2.block _ (by show w.heap.size + 1 < _; omega) (fun e => by have := (o1'.lt _ e.symm).1; (try simp only at this); omega))).trans k2'
    have lf := Nat.le_trans le2 gr2.size
    clear gr2
    refine hK.out _ _ ⟨lf, kf⟩ (fun hHeld => ?_)
    clear hHeld hK K
    try simp only [Act.put, List.getElem_toArray, List.getElem_cons_zero, List.getElem_cons_succ, List.setIfInBounds_toArray, List.set_cons_zero, List.set_cons_succ]
    have hS0 := And.intro lf kf
    (refine wpAnyH_take (i := 11) (v := ?_) rfl (by kernel_rfl) (by kernel_rfl) (by kernel_rfl) (fun _ _ _ h => h) (Or.inl ⟨by rfl, ?_⟩) (by with_reducible assumption) ?_; rotate_left; (focus (intro wz hSw; (try dsimp only at hSw); go_simp; try with_reducible rfl)); try simp only [Act.put, List.getElem_toArray, List.getElem_cons_zero, List.getElem_cons_succ, List.setIfInBounds_toArray, List.set_cons_zero, List.set_cons_succ])
    refine wpAnyH_done (by kernel_rfl) ?_ _
    go_wp2_with fail
    go_meet
    obtain ⟨g, c, rfl⟩ := own_one o2 (by omega)
    exact ⟨g, c, rfl, o2, B_wf⟩
  case' rest => obtain ⟨g3, cc3, rfl, own3, P3⟩ := hcut
  obtain ⟨X3, rfl⟩ : ∃ W : World, W = wc := ⟨_, rfl⟩
  clear lgl ogb hlY bc2 hb2 ow2 yl2 y2
  refine hKb2 _ _ ?_
  go_wp2
  rw [rounds_succ]
  have lg3 := (own3.lt g3 rfl).1
  have hsX := P3.size
  have t0 := (cell_old P3 lX 0).trans a9
  have t1 := (cell_old P3 lX 1).trans a10
  have tf0 := kfro P3 lX af0
  have tf1 := kfro P3 lX af1
  have hwX : Below w.heap.size w X3 := bthen hwa P3
  clear a6 a7 a8 a9 a10 af0 af1 hwa
  go_wp2_with fail
  refine Calls.mono (rowsOf4_any g3 cc3 3 wa.heap.size [q0, k2, k4, z0, k2, q1, k5, z1, k4, k5, q2, z2] _ own3 (by decide) (by decide)) ?_
  rintro e w2 ⟨R, cap, rfl, hcap, hR, hLa, hB2⟩
  have HLa := Lib.hid hLa
  clear hLa
  have hs2 := hB2.size
  have u0 := (cell_back hB2 (by omega) 0).trans t0
  have u1 := (cell_back hB2 (by omega) 1).trans t1
  have uf0 := kfro hB2 (by omega) tf0
  have uf1 := kfro hB2 (by omega) tf1
  have hw2 : Below w.heap.size w w2 := bthen hwX hB2
  clear hwX t0 t1 tf0 tf1 hB2 own1 own2 own3 P1 P2 P3
  go_wp2_with fail
  refine Calls.mono (HPO.out R g3 cap w2 hcap HLa.out) ?_
  clear HLa
  rintro e wb ⟨hap, F, x0, x1, x2, x3, hF, r0, r1, r2, d0, d1, d2, d3, hN, hS, rfl⟩
  have hsb := hap.size
  have v0 := hap.cell (by omega) (by omega) u0
  have v1 := hap.cell (by omega) (by omega) u1
  have vf0 := hap.frozenP (by omega) (by omega) (by omega) uf0
  have vf1 := hap.frozenP (by omega) (by omega) (by omega) uf1
  have hwb : Below w.heap.size w wb := Apart2.below hw2 (by omega) (by omega) hap
  have lB : w.heap.size + 1 + 1 < wb.heap.size := by omega
  clear hap hw2 u0 u1 uf0 uf1 HPO
  by_cases h2 : x2 = 0
  · have hn := hN h2
    have HV := Lib.hid (show poX p k1 k2 k3 k4 k5 k6 l1 l2 l3 = 0 ∧ poY p k1 k2 k3 k4 k5 k6 l1 l2 l3 = 0 ∧ (poF p k1 k2 k3 k4 k5 k6 l1 l2 l3).isSome = false from ⟨by rw [poX, hn]; rfl, by rw [poY, hn]; rfl, by rw [hn]; rfl⟩)
    have hb : (x2 == 0) = true := by rw [h2]; rfl
    clear hN hS hn
    subst h2
    go_wp2
    (refine bodyPost_ret (v := .tuple #[.agg #[.int .i64 (poX p k1 k2 k3 k4 k5 k6 l1 l2 l3), .int .i64 (poY p k1 k2 k3 k4 k5 k6 l1 l2 l3)], .bool (poF p k1 k2 k3 k4 k5 k6 l1 l2 l3).isSome]) (by simp [results, Try.results40, go_sem, HV.out.1, HV.out.2.1, HV.out.2.2, *]) rfl ⟨?_, ?_⟩)
    · rfl
    · (repeat (first | with_reducible exact Below.refl _ _ | with_reducible exact hwb | with_reducible refine balloc ?_ _ | with_reducible refine bdrewN ?_ _ | with_reducible refine Below.drew ?_ | with_reducible refine bthen ?_ (by with_reducible assumption) | with_reducible refine Below.setCell ?_ (by first | (simp; done) | (simp; omega)) _))
  · have hn := hS h2
    obtain ⟨s0, hs0'⟩ : ∃ z : Int, z = x0 * inv p x2 % p := ⟨_, rfl⟩
    obtain ⟨s1, hs1'⟩ : ∃ z : Int, z = x1 * inv p x2 % p := ⟨_, rfl⟩
    rw [← hs0', ← hs1'] at hn
    have HQ0 := Lib.hid hs0'
    have HQ1 := Lib.hid hs1'
    clear hs0' hs1'
    have HV := Lib.hid (show poX p k1 k2 k3 k4 k5 k6 l1 l2 l3 = s0 ∧ poY p k1 k2 k3 k4 k5 k6 l1 l2 l3 = s1 ∧ (poF p k1 k2 k3 k4 k5 k6 l1 l2 l3).isSome = true from ⟨by rw [poX, hn]; rfl, by rw [poY, hn]; rfl, by rw [hn]; rfl⟩)
    have hb : (x2 == 0) = false := by simpa using h2
    clear hN hS hn
    have lF := World.block_lt_of_cell? _ ⟨F, 0, none⟩ d0
    simp only at lF
    go_upto_region 10 with fail
    (refine wp_region_held_drew (S := (fun W => W.cell? ⟨F, 0, none⟩ = some (.int .i64 x0) ∧ W.cell? ⟨F, 1, none⟩ = some (.int .i64 x1) ∧ W.cell? ⟨F, 2, none⟩ = some (.int .i64 x2) ∧ W.frozen? ⟨w.heap.size + 1 + 1, 0, none⟩ = false ∧ W.frozen? ⟨w.heap.size + 1 + 1, 1, none⟩ = false)) (by kernel_rfl) (by exact ⟨kdrew d0, kdrew d1, kdrew d2, fdrew vf0, fdrew vf1⟩) (fun hHeld => ?_))
    (refine wpAnyH_take (i := 0) (v := ?_) rfl (by kernel_rfl) (by kernel_rfl) (by kernel_rfl) (fun _ _ _ h => h) (Or.inl ⟨by rfl, ?_⟩) (by with_reducible assumption) ?_; rotate_left; (focus (intro wz hSw; (try dsimp only at hSw); go_simp; try with_reducible rfl)); try simp only [Act.put, List.getElem_toArray, List.getElem_cons_zero, List.getElem_cons_succ, List.setIfInBounds_toArray, List.set_cons_zero, List.set_cons_succ])
    (refine wpAnyH_take (i := 1) (v := ?_) rfl (by kernel_rfl) (by kernel_rfl) (by kernel_rfl) (fun _ _ _ h => h) (Or.inl ⟨by rfl, ?_⟩) (by with_reducible assumption) ?_; rotate_left; (focus (intro wz hSw; (try dsimp only at hSw); go_simp; try with_reducible rfl)); try simp only [Act.put, List.getElem_toArray, List.getElem_cons_zero, List.getElem_cons_succ, List.setIfInBounds_toArray, List.set_cons_zero, List.set_cons_succ])
    (refine wpAnyH_take (i := 2) (v := ?_) rfl (by kernel_rfl) (by kernel_rfl) (by kernel_rfl) (fun _ _ _ h => h) (Or.inl ⟨by rfl, ?_⟩) (by with_reducible assumption) ?_; rotate_left; (focus (intro wz hSw; (try dsimp only at hSw); go_simp; try with_reducible rfl)); try simp only [Act.put, List.getElem_toArray, List.getElem_cons_zero, List.getElem_cons_succ, List.setIfInBounds_toArray, List.set_cons_zero, List.set_cons_succ])
    (refine wpAnyH_take (i := 3) (v := ?_) rfl (by kernel_rfl) (by kernel_rfl) (by kernel_rfl) (fun _ _ _ h => h) (Or.inl ⟨by rfl, ?_⟩) (by with_reducible assumption) ?_; rotate_left; (focus (intro wz hSw; (try dsimp only at hSw); go_simp; try with_reducible rfl)); try simp only [Act.put, List.getElem_toArray, List.getElem_cons_zero, List.getElem_cons_succ, List.setIfInBounds_toArray, List.set_cons_zero, List.set_cons_succ])
    (refine wpAnyH_take (i := 4) (v := ?_) rfl (by kernel_rfl) (by kernel_rfl) (by kernel_rfl) (fun _ _ _ h => h) (Or.inl ⟨by rfl, ?_⟩) (by with_reducible assumption) ?_; rotate_left; (focus (intro wz hSw; (try dsimp only at hSw); go_simp; try with_reducible rfl)); try simp only [Act.put, List.getElem_toArray, List.getElem_cons_zero, List.getElem_cons_succ, List.setIfInBounds_toArray, List.set_cons_zero, List.set_cons_succ])
    (refine wpAnyH_take (i := 5) (v := ?_) rfl (by kernel_rfl) (by kernel_rfl) (by kernel_rfl) (fun _ _ _ h => h) (Or.inl ⟨by rfl, ?_⟩) (by with_reducible assumption) ?_; rotate_left; (focus (intro wz hSw; (try dsimp only at hSw); go_simp; try with_reducible rfl)); try simp only [Act.put, List.getElem_toArray, List.getElem_cons_zero, List.getElem_cons_succ, List.setIfInBounds_toArray, List.set_cons_zero, List.set_cons_succ])
    (refine wpAnyH_take (i := 6) (v := ?_) rfl (by kernel_rfl) (by kernel_rfl) (by kernel_rfl) (fun _ _ _ h => h) (Or.inl ⟨by rfl, ?_⟩) (by with_reducible assumption) ?_; rotate_left; (focus (intro wz hSw; (try dsimp only at hSw); go_simp; try with_reducible rfl)); try simp only [Act.put, List.getElem_toArray, List.getElem_cons_zero, List.getElem_cons_succ, List.setIfInBounds_toArray, List.set_cons_zero, List.set_cons_succ])
    (refine wpAnyH_take (i := 8) (v := ?_) rfl (by kernel_rfl) (by kernel_rfl) (by kernel_rfl) (fun _ _ _ h => h) (Or.inl ⟨by rfl, ?_⟩) (by with_reducible assumption) ?_; rotate_left; (focus (intro wz hSw; (try dsimp only at hSw); go_simp; try with_reducible rfl)); try simp only [Act.put, List.getElem_toArray, List.getElem_cons_zero, List.getElem_cons_succ, List.setIfInBounds_toArray, List.set_cons_zero, List.set_cons_succ])
    (refine wpAnyH_take (i := 9) (v := ?_) rfl (by kernel_rfl) (by kernel_rfl) (by kernel_rfl) (fun _ _ _ h => h) (Or.inl ⟨by rfl, ?_⟩) (by with_reducible assumption) ?_; rotate_left; (focus (intro wz hSw; (try dsimp only at hSw); go_simp; try with_reducible rfl)); try simp only [Act.put, List.getElem_toArray, List.getElem_cons_zero, List.getElem_cons_succ, List.setIfInBounds_toArray, List.set_cons_zero, List.set_cons_succ])
    (refine wpAnyH_take (i := 10) (v := ?_) rfl (by kernel_rfl) (by kernel_rfl) (by kernel_rfl) (fun _ _ _ h => h) (Or.inl ⟨by rfl, ?_⟩) (by with_reducible assumption) ?_; rotate_left; (focus (intro wz hSw; (try dsimp only at hSw); go_simp; try with_reducible rfl)); try simp only [Act.put, List.getElem_toArray, List.getElem_cons_zero, List.getElem_cons_succ, List.setIfInBounds_toArray, List.set_cons_zero, List.set_cons_succ])
    (refine wpAnyH_take (i := 11) (v := ?_) rfl (by kernel_rfl) (by kernel_rfl) (by kernel_rfl) (fun _ _ _ h => h) (Or.inl ⟨by rfl, ?_⟩) (by with_reducible assumption) ?_; rotate_left; (focus (intro wz hSw; (try dsimp only at hSw); go_simp; try with_reducible rfl)); try simp only [Act.put, List.getElem_toArray, List.getElem_cons_zero, List.getElem_cons_succ, List.setIfInBounds_toArray, List.set_cons_zero, List.set_cons_succ])
    (refine wpAnyH_take (i := 12) (v := ?_) rfl (by kernel_rfl) (by kernel_rfl) (by kernel_rfl) (fun _ _ _ h => h) (Or.inl ⟨by rfl, ?_⟩) (by with_reducible assumption) ?_; rotate_left; (focus (intro wz hSw; (try dsimp only at hSw); go_simp; try with_reducible rfl)); try simp only [Act.put, List.getElem_toArray, List.getElem_cons_zero, List.getElem_cons_succ, List.setIfInBounds_toArray, List.set_cons_zero, List.set_cons_succ])
    (refine wpAnyH_take (i := 13) (v := ?_) rfl (by kernel_rfl) (by kernel_rfl) (by kernel_rfl) (fun _ _ _ h => h) (Or.inl ⟨by rfl, ?_⟩) (by with_reducible assumption) ?_; rotate_left; (focus (intro wz hSw; (try dsimp only at hSw); go_simp; try with_reducible rfl)); try simp only [Act.put, List.getElem_toArray, List.getElem_cons_zero, List.getElem_cons_succ, List.setIfInBounds_toArray, List.set_cons_zero, List.set_cons_succ])
    (refine wpAnyH_take (i := 14) (v := ?_) rfl (by kernel_rfl) (by kernel_rfl) (by kernel_rfl) (fun _ _ _ h => h) (Or.inl ⟨by rfl, ?_⟩) (by with_reducible assumption) ?_; rotate_left; (focus (intro wz hSw; (try dsimp only at hSw); go_simp; try with_reducible rfl)); try simp only [Act.put, List.getElem_toArray, List.getElem_cons_zero, List.getElem_cons_succ, List.setIfInBounds_toArray, List.set_cons_zero, List.set_cons_succ])
    refine wpAnyH_ready (rs := [7]) (by kernel_rfl) (by simp) ?_
    refine AllReadyH.cons rfl (fun K hK => ?_) AllReadyH.nil
    go_simp
    refine Calls.mono (quotient_any _ _ _ _ hp (by omega) (by omega)) ?_
    rintro e y1 ⟨rfl, hq0⟩
    rw [← HQ0.out]
    have hqs0 := hq0.size
    simp only [World.drew] at hqs0
    have e0_0 := (cell_back hq0 (by first | exact lF | omega) 0).trans (kdrew d0)
    have e0_1 := (cell_back hq0 (by first | exact lF | omega) 1).trans (kdrew d1)
    have e0_2 := (cell_back hq0 (by first | exact lF | omega) 2).trans (kdrew d2)
    have ef0_0 := kfro hq0 (by first | exact lB | omega) (fdrew vf0)
    have ef0_1 := kfro hq0 (by first | exact lB | omega) (fdrew vf1)
    have ev0_0 := (cell_back hq0 (by first | exact lB | omega) 0).trans (kdrew v0)
    have ev0_1 := (cell_back hq0 (by first | exact lB | omega) 1).trans (kdrew v1)
    have ew0 : Below w.heap.size w y1 := bthen (Below.drew hwb) hq0
    have lF := Nat.lt_of_lt_of_le lF hqs0
    have lB := Nat.lt_of_lt_of_le lB hqs0
    have hS0 : y1.cell? ⟨F, 0, none⟩ = some (.int .i64 x0) ∧ y1.cell? ⟨F, 1, none⟩ = some (.int .i64 x1) ∧ y1.cell? ⟨F, 2, none⟩ = some (.int .i64 x2) ∧ y1.frozen? ⟨w.heap.size + 1 + 1, 0, none⟩ = false ∧ y1.frozen? ⟨w.heap.size + 1 + 1, 1, none⟩ = false := ⟨e0_0, e0_1, e0_2, ef0_0, ef0_1⟩
    refine hK.out _ _ hS0 (fun hHeld => ?_)
    clear hHeld hK K
    try simp only [Act.put, List.getElem_toArray, List.getElem_cons_zero, List.getElem_cons_succ, List.setIfInBounds_toArray, List.set_cons_zero, List.set_cons_succ]
    refine wpAnyH_ready (rs := [15]) (by kernel_rfl) (by simp) ?_
    refine AllReadyH.cons rfl (fun K hK => ?_) AllReadyH.nil
    go_simp
    refine Calls.mono (quotient_any _ _ _ _ hp (by omega) (by omega)) ?_
    rintro e y2 ⟨rfl, hq1⟩
    rw [← HQ1.out]
    have hqs1 := hq1.size
    have e1_0 := (cell_back hq1 (by first | exact lF | omega) 0).trans (e0_0)
    have e1_1 := (cell_back hq1 (by first | exact lF | omega) 1).trans (e0_1)
    have e1_2 := (cell_back hq1 (by first | exact lF | omega) 2).trans (e0_2)
    have ef1_0 := kfro hq1 (by first | exact lB | omega) (ef0_0)
    have ef1_1 := kfro hq1 (by first | exact lB | omega) (ef0_1)
    have ev1_0 := (cell_back hq1 (by first | exact lB | omega) 0).trans (ev0_0)
    have ev1_1 := (cell_back hq1 (by first | exact lB | omega) 1).trans (ev0_1)
    have ew1 : Below w.heap.size w y2 := bthen ew0 hq1
    have lF := Nat.lt_of_lt_of_le lF hqs1
    have lB := Nat.lt_of_lt_of_le lB hqs1
    have hS1 : y2.cell? ⟨F, 0, none⟩ = some (.int .i64 x0) ∧ y2.cell? ⟨F, 1, none⟩ = some (.int .i64 x1) ∧ y2.cell? ⟨F, 2, none⟩ = some (.int .i64 x2) ∧ y2.frozen? ⟨w.heap.size + 1 + 1, 0, none⟩ = false ∧ y2.frozen? ⟨w.heap.size + 1 + 1, 1, none⟩ = false := ⟨e1_0, e1_1, e1_2, ef1_0, ef1_1⟩
    refine hK.out _ _ hS1 (fun hHeld => ?_)
    clear hHeld hK K
    try simp only [Act.put, List.getElem_toArray, List.getElem_cons_zero, List.getElem_cons_succ, List.setIfInBounds_toArray, List.set_cons_zero, List.set_cons_succ]
    (refine wpAnyH_take (i := 16) (v := ?_) rfl (by kernel_rfl) (by kernel_rfl) (by kernel_rfl) (fun _ _ _ h => h) (Or.inl ⟨by rfl, ?_⟩) (by with_reducible assumption) ?_; rotate_left; (focus (intro wz hSw; (try dsimp only at hSw); go_simp; try with_reducible rfl)); try simp only [Act.put, List.getElem_toArray, List.getElem_cons_zero, List.getElem_cons_succ, List.setIfInBounds_toArray, List.set_cons_zero, List.set_cons_succ])
    clear hS0 hS1
    refine wpAnyH_ready (rs := [17]) (by kernel_rfl) (by simp) ?_
    refine AllReadyH.cons rfl (fun K hK => ?_) AllReadyH.nil
    go_simp
    have n0 : ((y2.setCell ⟨w.heap.size + 1 + 1, 0, none⟩ (.int .i64 s0)).setCell ⟨w.heap.size + 1 + 1, 1, none⟩ (.int .i64 s1)).cell? ⟨w.heap.size + 1 + 1, 0, none⟩ = some (.int .i64 s0) := by (repeat (first | with_reducible assumption | ((with_reducible refine kfresh ?_ ?_) <;> (first | with_reducible rfl | (simp; done))) | ((with_reducible refine ksameS ?_); focus ((repeat (first | with_reducible exact kis_of (by with_reducible assumption) | with_reducible refine kis_set ?_ | ((with_reducible refine kis_new ?_ ?_) <;> (first | with_reducible rfl | rfl | (simp; done))) | with_reducible refine kis_alloc _ ?_ | with_reducible refine kis_drew ?_ | with_reducible refine kis_call (by with_reducible assumption) ?_ | with_reducible exact kis_of (kcall (by with_reducible assumption) (by with_reducible assumption)))); done)) | with_reducible refine kother (by decide) ?_ | with_reducible refine kset (by first | omega | (simp; done) | (simp; omega)) ?_ | with_reducible refine kalloc _ ?_ | with_reducible refine kdrew ?_ | with_reducible refine kdrewN ?_ | with_reducible refine kcall (by with_reducible assumption) ?_))
    have n1 : ((y2.setCell ⟨w.heap.size + 1 + 1, 0, none⟩ (.int .i64 s0)).setCell ⟨w.heap.size + 1 + 1, 1, none⟩ (.int .i64 s1)).cell? ⟨w.heap.size + 1 + 1, 1, none⟩ = some (.int .i64 s1) := by (repeat (first | with_reducible assumption | ((with_reducible refine kfresh ?_ ?_) <;> (first | with_reducible rfl | (simp; done))) | ((with_reducible refine ksameS ?_); focus ((repeat (first | with_reducible exact kis_of (by with_reducible assumption) | with_reducible refine kis_set ?_ | ((with_reducible refine kis_new ?_ ?_) <;> (first | with_reducible rfl | rfl | (simp; done))) | with_reducible refine kis_alloc _ ?_ | with_reducible refine kis_drew ?_ | with_reducible refine kis_call (by with_reducible assumption) ?_ | with_reducible exact kis_of (kcall (by with_reducible assumption) (by with_reducible assumption)))); done)) | with_reducible refine kother (by decide) ?_ | with_reducible refine kset (by first | omega | (simp; done) | (simp; omega)) ?_ | with_reducible refine kalloc _ ?_ | with_reducible refine kdrew ?_ | with_reducible refine kdrewN ?_ | with_reducible refine kcall (by with_reducible assumption) ?_))
    have nw : Below w.heap.size w ((y2.setCell ⟨w.heap.size + 1 + 1, 0, none⟩ (.int .i64 s0)).setCell ⟨w.heap.size + 1 + 1, 1, none⟩ (.int .i64 s1)) := Below.setCell (Below.setCell ew1 (by first | (simp; done) | (simp; omega)) _) (by first | (simp; done) | (simp; omega)) _
    have m0 : ((y2.setCell ⟨w.heap.size + 1 + 1, 0, none⟩ (.int .i64 s0)).setCell ⟨w.heap.size + 1 + 1, 1, none⟩ (.int .i64 s1)).cell? ⟨F, 0, none⟩ = some (.int .i64 x0) := kset (by show F ≠ _; omega) (kset (by show F ≠ _; omega) e1_0)
    have m1 : ((y2.setCell ⟨w.heap.size + 1 + 1, 0, none⟩ (.int .i64 s0)).setCell ⟨w.heap.size + 1 + 1, 1, none⟩ (.int .i64 s1)).cell? ⟨F, 1, none⟩ = some (.int .i64 x1) := kset (by show F ≠ _; omega) (kset (by show F ≠ _; omega) e1_1)
    have m2 : ((y2.setCell ⟨w.heap.size + 1 + 1, 0, none⟩ (.int .i64 s0)).setCell ⟨w.heap.size + 1 + 1, 1, none⟩ (.int .i64 s1)).cell? ⟨F, 2, none⟩ = some (.int .i64 x2) := kset (by show F ≠ _; omega) (kset (by show F ≠ _; omega) e1_2)
    have mf0 : ((y2.setCell ⟨w.heap.size + 1 + 1, 0, none⟩ (.int .i64 s0)).setCell ⟨w.heap.size + 1 + 1, 1, none⟩ (.int .i64 s1)).frozen? ⟨w.heap.size + 1 + 1, 0, none⟩ = false := fset (fset ef1_0)
    have mf1 : ((y2.setCell ⟨w.heap.size + 1 + 1, 0, none⟩ (.int .i64 s0)).setCell ⟨w.heap.size + 1 + 1, 1, none⟩ (.int .i64 s1)).frozen? ⟨w.heap.size + 1 + 1, 1, none⟩ = false := fset (fset ef1_1)
    refine hK.out _ _ ⟨m0, m1, m2, mf0, mf1⟩ (fun hHeld => ?_)
    clear hHeld hK K
    try simp only [Act.put, List.getElem_toArray, List.getElem_cons_zero, List.getElem_cons_succ, List.setIfInBounds_toArray, List.set_cons_zero, List.set_cons_succ]
    obtain ⟨yf, hyf⟩ : ∃ X, X = ((y2.setCell ⟨w.heap.size + 1 + 1, 0, none⟩ (.int .i64 s0)).setCell ⟨w.heap.size + 1 + 1, 1, none⟩ (.int .i64 s1)) := ⟨_, rfl⟩
    rw [← hyf] at n0 n1 nw m0 m1 m2 mf0 mf1 ⊢
    clear hyf
    have hS0 : yf.cell? ⟨F, 0, none⟩ = some (.int .i64 x0) ∧ yf.cell? ⟨F, 1, none⟩ = some (.int .i64 x1) ∧ yf.cell? ⟨F, 2, none⟩ = some (.int .i64 x2) ∧ yf.frozen? ⟨w.heap.size + 1 + 1, 0, none⟩ = false ∧ yf.frozen? ⟨w.heap.size + 1 + 1, 1, none⟩ = false := ⟨m0, m1, m2, mf0, mf1⟩
    (refine wpAnyH_take (i := 18) (v := ?_) rfl (by kernel_rfl) (by kernel_rfl) (by kernel_rfl) (fun _ _ _ h => h) (Or.inl ⟨by rfl, ?_⟩) (by with_reducible assumption) ?_; rotate_left; (focus (intro wz hSw; (try dsimp only at hSw); go_simp; try with_reducible rfl)); try simp only [Act.put, List.getElem_toArray, List.getElem_cons_zero, List.getElem_cons_succ, List.setIfInBounds_toArray, List.set_cons_zero, List.set_cons_succ])
    refine wpAnyH_done (by kernel_rfl) ?_ _
    clear hS0
    go_wp2
    (refine bodyPost_ret (v := .tuple #[.agg #[.int .i64 (poX p k1 k2 k3 k4 k5 k6 l1 l2 l3), .int .i64 (poY p k1 k2 k3 k4 k5 k6 l1 l2 l3)], .bool (poF p k1 k2 k3 k4 k5 k6 l1 l2 l3).isSome]) (by simp [results, Try.results40, go_sem, HV.out.1, HV.out.2.1, HV.out.2.2, *]) rfl ⟨?_, ?_⟩)
    · rfl
    · (repeat (first | with_reducible exact Below.refl _ _ | with_reducible exact nw | with_reducible refine balloc ?_ _ | with_reducible refine bdrewN ?_ _ | with_reducible refine Below.drew ?_ | with_reducible refine bthen ?_ (by with_reducible assumption) | with_reducible refine Below.setCell ?_ (by first | (simp; done) | (simp; omega)) _))

end Go.Proofs.Ytmpgpmcmhbpjeaa
