/-
  impl.bisectors.
-/
import Derived.Test.YtmpgpmcmhbpjeaaMgb0
import Derived.Test.YtmpgpmcmhbpjeaaCountSMathb
import Derived.Test.YtmpgpmcmhbpjeaaImplLinesThroughb
import Derived.Test.YtmpgpmcmhbpjeaaImplSpreadb
import Derived.LoopN
import Derived.OwnWalk
import Derived.Deep.RegionHeld3
import Derived.Deep.DeepCutAuto

namespace Go.Proofs.Ytmpgpmcmhbpjeaa
open Go.RowKit

theorem index_ln0 (a b c d e f : Int) (w : World) : (Instr.index 132 (.agg #[.int .i64 a, .int .i64 b, .int .i64 c, .int .i64 d, .int .i64 e, .int .i64 f]) (.int .i64 0)).run Try.prog w = .ok (.agg #[.int .i64 a, .int .i64 b, .int .i64 c]) w := by
  simp [Instr.index, asIntOf, part, isAgg, sizeOf, run_underlying (by kernel_rfl : Try.prog.underlying 132 = some (.array 2 30)), go_sem]; rfl
theorem index_ln1 (a b c d e f : Int) (w : World) : (Instr.index 132 (.agg #[.int .i64 a, .int .i64 b, .int .i64 c, .int .i64 d, .int .i64 e, .int .i64 f]) (.int .i64 1)).run Try.prog w = .ok (.agg #[.int .i64 d, .int .i64 e, .int .i64 f]) w := by
  simp [Instr.index, asIntOf, part, isAgg, sizeOf, run_underlying (by kernel_rfl : Try.prog.underlying 132 = some (.array 2 30)), go_sem]; rfl
theorem setCell_grownB (W : World) (a : Addr) (v : Value) : W.grownBy (W.setCell a v) (some a.block) := ⟨rfl, rfl, rfl, by simp [World.setCell], fun k _ h => Below.heap_setCell W a v k (fun e => h (by rw [e]))⟩
set_option linter.unusedVariables false in
set_option linter.unusedSimpArgs false in
set_option maxRecDepth 20000 in
set_option maxHeartbeats 8000000 in
theorem bisectors_any (p col l1 l2 l3 m1 m2 m3 a1 a2 : Int) (w : World) (hp : isP p = true) (hc : colB col = true) (hL : lineB p l1 l2 l3 = true) (hM : lineB p m1 m2 m3 = true) (hnl : nullB p col l1 l2 = false) (hnm : nullB p col m1 m2 = false) (ha1 : 0 ≤ a1 ∧ a1 < p) (ha2 : 0 ≤ a2 ∧ a2 < p) :
    Calls Try.prog 68 #[.int .i64 p, shV col, .agg #[.int .i64 l1, .int .i64 l2, .int .i64 l3], .agg #[.int .i64 m1, .int .i64 m2, .int .i64 m3], .agg #[.int .i64 a1, .int .i64 a2]] w fun e w' => SlicePost 30 3 (flat3 (biT p col l1 l2 m1 m2 a1 a2)) 0 w e w' := by
  have hr := isP_range hp
  have rl := nums3 (lineB_in hL).2
  have rm := nums3 (lineB_in hM).2
  have hix0 := index_ln0
  have hix1 := index_ln1
  obtain ⟨i0, hi, hz0, hz1, hz2⟩ := info_parts infoLn
  have hna : numsIn p [a1, a2] = true := by simp [numsIn, inB]; omega
  go_enter Try.func68, Try.ntmps68
  go_upto_region 1 with fail
  refine wp_name (fun wN hwN => ?_)
  have ka0 : wN.cell? ⟨w.heap.size, 0, none⟩ = some (.int .i64 l1) := by rw [hwN]; (repeat (first | with_reducible assumption | ((with_reducible refine kfresh ?_ ?_) <;> (first | with_reducible rfl | (simp; done))) | ((with_reducible refine ksameS ?_); focus ((repeat (first | with_reducible exact kis_of (by with_reducible assumption) | with_reducible refine kis_set ?_ | ((with_reducible refine kis_new ?_ ?_) <;> (first | with_reducible rfl | rfl | (simp; done))) | with_reducible refine kis_alloc _ ?_ | with_reducible refine kis_drew ?_ | with_reducible refine kis_call (by with_reducible assumption) ?_ | with_reducible exact kis_of (kcall (by with_reducible assumption) (by with_reducible assumption)))); done)) | with_reducible refine kother (by decide) ?_ | with_reducible refine kset (by first | omega | (simp; done) | (simp; omega)) ?_ | with_reducible refine kalloc _ ?_ | with_reducible refine kdrew ?_ | with_reducible refine kdrewN ?_ | with_reducible refine kcall (by with_reducible assumption) ?_))
  have ka1 : wN.cell? ⟨w.heap.size, 1, none⟩ = some (.int .i64 l2) := by rw [hwN]; (repeat (first | with_reducible assumption | ((with_reducible refine kfresh ?_ ?_) <;> (first | with_reducible rfl | (simp; done))) | ((with_reducible refine ksameS ?_); focus ((repeat (first | with_reducible exact kis_of (by with_reducible assumption) | with_reducible refine kis_set ?_ | ((with_reducible refine kis_new ?_ ?_) <;> (first | with_reducible rfl | rfl | (simp; done))) | with_reducible refine kis_alloc _ ?_ | with_reducible refine kis_drew ?_ | with_reducible refine kis_call (by with_reducible assumption) ?_ | with_reducible exact kis_of (kcall (by with_reducible assumption) (by with_reducible assumption)))); done)) | with_reducible refine kother (by decide) ?_ | with_reducible refine kset (by first | omega | (simp; done) | (simp; omega)) ?_ | with_reducible refine kalloc _ ?_ | with_reducible refine kdrew ?_ | with_reducible refine kdrewN ?_ | with_reducible refine kcall (by with_reducible assumption) ?_))
  have ka2 : wN.cell? ⟨w.heap.size, 2, none⟩ = some (.int .i64 l3) := by rw [hwN]; (repeat (first | with_reducible assumption | ((with_reducible refine kfresh ?_ ?_) <;> (first | with_reducible rfl | (simp; done))) | ((with_reducible refine ksameS ?_); focus ((repeat (first | with_reducible exact kis_of (by with_reducible assumption) | with_reducible refine kis_set ?_ | ((with_reducible refine kis_new ?_ ?_) <;> (first | with_reducible rfl | rfl | (simp; done))) | with_reducible refine kis_alloc _ ?_ | with_reducible refine kis_drew ?_ | with_reducible refine kis_call (by with_reducible assumption) ?_ | with_reducible exact kis_of (kcall (by with_reducible assumption) (by with_reducible assumption)))); done)) | with_reducible refine kother (by decide) ?_ | with_reducible refine kset (by first | omega | (simp; done) | (simp; omega)) ?_ | with_reducible refine kalloc _ ?_ | with_reducible refine kdrew ?_ | with_reducible refine kdrewN ?_ | with_reducible refine kcall (by with_reducible assumption) ?_))
  have ka3 : wN.cell? ⟨w.heap.size + 1, 0, none⟩ = some (.int .i64 m1) := by rw [hwN]; (repeat (first | with_reducible assumption | ((with_reducible refine kfresh ?_ ?_) <;> (first | with_reducible rfl | (simp; done))) | ((with_reducible refine ksameS ?_); focus ((repeat (first | with_reducible exact kis_of (by with_reducible assumption) | with_reducible refine kis_set ?_ | ((with_reducible refine kis_new ?_ ?_) <;> (first | with_reducible rfl | rfl | (simp; done))) | with_reducible refine kis_alloc _ ?_ | with_reducible refine kis_drew ?_ | with_reducible refine kis_call (by with_reducible assumption) ?_ | with_reducible exact kis_of (kcall (by with_reducible assumption) (by with_reducible assumption)))); done)) | with_reducible refine kother (by decide) ?_ | with_reducible refine kset (by first | omega | (simp; done) | (simp; omega)) ?_ | with_reducible refine kalloc _ ?_ | with_reducible refine kdrew ?_ | with_reducible refine kdrewN ?_ | with_reducible refine kcall (by with_reducible assumption) ?_))
  have ka4 : wN.cell? ⟨w.heap.size + 1, 1, none⟩ = some (.int .i64 m2) := by rw [hwN]; (repeat (first | with_reducible assumption | ((with_reducible refine kfresh ?_ ?_) <;> (first | with_reducible rfl | (simp; done))) | ((with_reducible refine ksameS ?_); focus ((repeat (first | with_reducible exact kis_of (by with_reducible assumption) | with_reducible refine kis_set ?_ | ((with_reducible refine kis_new ?_ ?_) <;> (first | with_reducible rfl | rfl | (simp; done))) | with_reducible refine kis_alloc _ ?_ | with_reducible refine kis_drew ?_ | with_reducible refine kis_call (by with_reducible assumption) ?_ | with_reducible exact kis_of (kcall (by with_reducible assumption) (by with_reducible assumption)))); done)) | with_reducible refine kother (by decide) ?_ | with_reducible refine kset (by first | omega | (simp; done) | (simp; omega)) ?_ | with_reducible refine kalloc _ ?_ | with_reducible refine kdrew ?_ | with_reducible refine kdrewN ?_ | with_reducible refine kcall (by with_reducible assumption) ?_))
  have ka5 : wN.cell? ⟨w.heap.size + 1, 2, none⟩ = some (.int .i64 m3) := by rw [hwN]; (repeat (first | with_reducible assumption | ((with_reducible refine kfresh ?_ ?_) <;> (first | with_reducible rfl | (simp; done))) | ((with_reducible refine ksameS ?_); focus ((repeat (first | with_reducible exact kis_of (by with_reducible assumption) | with_reducible refine kis_set ?_ | ((with_reducible refine kis_new ?_ ?_) <;> (first | with_reducible rfl | rfl | (simp; done))) | with_reducible refine kis_alloc _ ?_ | with_reducible refine kis_drew ?_ | with_reducible refine kis_call (by with_reducible assumption) ?_ | with_reducible exact kis_of (kcall (by with_reducible assumption) (by with_reducible assumption)))); done)) | with_reducible refine kother (by decide) ?_ | with_reducible refine kset (by first | omega | (simp; done) | (simp; omega)) ?_ | with_reducible refine kalloc _ ?_ | with_reducible refine kdrew ?_ | with_reducible refine kdrewN ?_ | with_reducible refine kcall (by with_reducible assumption) ?_))
  have ka6 : wN.cell? ⟨w.heap.size + 1 + 1, 0, none⟩ = some (.int .i64 a1) := by rw [hwN]; (repeat (first | with_reducible assumption | ((with_reducible refine kfresh ?_ ?_) <;> (first | with_reducible rfl | (simp; done))) | ((with_reducible refine ksameS ?_); focus ((repeat (first | with_reducible exact kis_of (by with_reducible assumption) | with_reducible refine kis_set ?_ | ((with_reducible refine kis_new ?_ ?_) <;> (first | with_reducible rfl | rfl | (simp; done))) | with_reducible refine kis_alloc _ ?_ | with_reducible refine kis_drew ?_ | with_reducible refine kis_call (by with_reducible assumption) ?_ | with_reducible exact kis_of (kcall (by with_reducible assumption) (by with_reducible assumption)))); done)) | with_reducible refine kother (by decide) ?_ | with_reducible refine kset (by first | omega | (simp; done) | (simp; omega)) ?_ | with_reducible refine kalloc _ ?_ | with_reducible refine kdrew ?_ | with_reducible refine kdrewN ?_ | with_reducible refine kcall (by with_reducible assumption) ?_))
  have ka7 : wN.cell? ⟨w.heap.size + 1 + 1, 1, none⟩ = some (.int .i64 a2) := by rw [hwN]; (repeat (first | with_reducible assumption | ((with_reducible refine kfresh ?_ ?_) <;> (first | with_reducible rfl | (simp; done))) | ((with_reducible refine ksameS ?_); focus ((repeat (first | with_reducible exact kis_of (by with_reducible assumption) | with_reducible refine kis_set ?_ | ((with_reducible refine kis_new ?_ ?_) <;> (first | with_reducible rfl | rfl | (simp; done))) | with_reducible refine kis_alloc _ ?_ | with_reducible refine kis_drew ?_ | with_reducible refine kis_call (by with_reducible assumption) ?_ | with_reducible exact kis_of (kcall (by with_reducible assumption) (by with_reducible assumption)))); done)) | with_reducible refine kother (by decide) ?_ | with_reducible refine kset (by first | omega | (simp; done) | (simp; omega)) ?_ | with_reducible refine kalloc _ ?_ | with_reducible refine kdrew ?_ | with_reducible refine kdrewN ?_ | with_reducible refine kcall (by with_reducible assumption) ?_))
  have hW0 : Below w.heap.size w wN := by rw [hwN]; (repeat (first | with_reducible exact Below.refl _ _ | with_reducible refine balloc ?_ _ | with_reducible refine bdrewN ?_ _ | with_reducible refine Below.drew ?_ | with_reducible refine bthen ?_ (by with_reducible assumption) | with_reducible refine Below.setCell ?_ (by first | (simp; done) | (simp; omega)) _))
  have hl0 : w.heap.size + 1 + 1 < wN.heap.size := by rw [hwN]; simp
  clear hwN
  refine wp_scope_straight ?_
  (go_wp2_with fail; refine Calls.mono (implLinesThrough_good p a1 a2 _ hp hna) ?_; rintro e wz ⟨vz, nz, rfl, hoz, hBz⟩)
  have hgl : (pencil p a1 a2 p.toNat).length ≤ 32 := by rw [pencil_length]; omega
  have hgm := fun (z : Int × Int × Int) (hz : z ∈ pencil p a1 a2 p.toNat) => nums3 (lineB_in ((pencil_mem hp z).1 hz).1).2
  obtain rfl := rows3_len hoz
  have hbt := biT_all p col l1 l2 m1 m2 a1 a2
  obtain ⟨ps, hps⟩ : ∃ ps : List (Int × Int × Int), ps = pencil p a1 a2 p.toNat := ⟨_, rfl⟩
  rw [← hps] at hoz hgl hgm hbt
  clear hps
  have HGM := Lib.hid hgm
  clear hgm
  obtain ⟨az, cz, rfl, _, hsh⟩ := own_shapeL hoz
  have HSH := Lib.hid hsh
  clear hsh
  have hsz := hBz.size
  have hWz : Below w.heap.size w wz := bthen hW0 hBz
  obtain ⟨ft, hft⟩ : ∃ ft : Int × Int × Int → Bool, ft = biG p col l1 l2 m1 m2 := ⟨_, rfl⟩
  rw [← hft] at hbt
  have HBT := Lib.hid hbt
  clear hbt
  have HFT := Lib.hid (show ∀ x : Int × Int × Int, ft x = (!nullB p col x.1 x.2.1 && (spO p col x.1 x.2.1 l1 l2 == spO p col x.1 x.2.1 m1 m2)) from fun x => by rw [hft]; rfl)
  clear hft
  have kz0 := (cell_back hBz (by omega) 0).trans ka0
  have kz1 := (cell_back hBz (by omega) 1).trans ka1
  have kz2 := (cell_back hBz (by omega) 2).trans ka2
  have kz3 := (cell_back hBz (by omega) 0).trans ka3
  have kz4 := (cell_back hBz (by omega) 1).trans ka4
  have kz5 := (cell_back hBz (by omega) 2).trans ka5
  clear ka0 ka1 ka2 ka3 ka4 ka5 ka6 ka7 hBz hW0
  have lz : w.heap.size + 1 < wz.heap.size := by omega
  go_wp2_with fail
  refine wp_label ?_
  go_wp2_with fail
  go_loopw [12, 30] (fun v i wr => ∃ j : Nat, j ≤ ps.length ∧ i = .int .i64 j ∧ wr.ownsRow wz.heap.size 30 3 v ((ps.take j).filter ft).length (ints (flat3 ((ps.take j).filter ft))) ∧ Below wz.heap.size wz wr) (fun _ i _ => ps.length - (intOf i).toNat)
  case atStart => exact ⟨0, by omega, rfl, by simpa [flat3, ints] using (World.ownsRow_nil wz wz.heap.size 30 3), Below.refl _ _⟩
  case round =>
    obtain ⟨j, hj, rfl, hown, hbel⟩ := hrel
    have hle := siftL_le ft ps j
    have hsr := hbel.size
    by_cases hlt : j < ps.length
    · obtain ⟨g, rfl, hg0, hg1⟩ := HSH.out (by omega)
      have hozr := own_below hoz hbel (fun g' e => by cases e; exact hg1)
      have hget := flat3_at ps j hlt
      have hmem := HGM.out ps[j] (List.getElem_mem hlt)
      have c0 := (own_cell hozr (j := j * 3) (by omega)).trans (by rw [hget.1])
      have c1 := (own_cell hozr (j := j * 3 + 1) (by omega)).trans (by rw [hget.2.1])
      have c2 := (own_cell hozr (j := j * 3 + 2) (by omega)).trans (by rw [hget.2.2])
      have hYes := siftL_yes (f := ft) (xs := ps) hlt
      have hNo := siftL_no (f := ft) (xs := ps) hlt
      have hft := HFT.out ps[j]
      have HFl := Lib.hid (flat3_append ((ps.take j).filter ft) ps[j])
      obtain ⟨x, hx⟩ : ∃ x, x = ps[j] := ⟨_, rfl⟩
      rw [← hx] at c0 c1 c2 hYes hNo hft hmem HFl
      clear hx hget hozr
      obtain ⟨x1, x2, x3⟩ := x
      simp only at c0 c1 c2 hft hmem HFl
      obtain ⟨bo, hbo⟩ : ∃ b, b = ft (x1, x2, x3) := ⟨_, rfl⟩
      rw [← hbo] at hYes hNo hft
      clear hbo
      have hv1 := spV_in2 (p := p) (c := col) (l1 := x1) (l2 := x2) hnl
      have hv2 := spV_in2 (p := p) (c := col) (l1 := x1) (l2 := x2) hnm
      have hcall1 := fun w' => spread_any p col x1 x2 x3 l1 l2 l3 w' hp hc (by omega) (by omega) (by omega) (by omega)
      have hcall2 := fun w' => spread_any p col x1 x2 x3 m1 m2 m3 w' hp hc (by omega) (by omega) (by omega) (by omega)
      rw [hv1.1, hv1.2] at hcall1
      rw [hv2.1, hv2.2] at hcall2
      clear hv1 hv2
      obtain ⟨bn, hbn⟩ : ∃ b, b = nullB p col x1 x2 := ⟨_, rfl⟩
      obtain ⟨z1, hz1'⟩ : ∃ z, z = spO p col x1 x2 l1 l2 := ⟨_, rfl⟩
      obtain ⟨z2, hz2'⟩ : ∃ z, z = spO p col x1 x2 m1 m2 := ⟨_, rfl⟩
      rw [← hbn, ← hz1'] at hcall1
      rw [← hbn, ← hz2'] at hcall2
      rw [← hbn, ← hz1', ← hz2'] at hft
      clear hbn hz1' hz2'
      have HFB := Lib.hid hft
      have HC1 := Lib.hid hcall1
      have HC2 := Lib.hid hcall2
      clear hft hcall1 hcall2
      have kk0 := (cell_old hbel (by omega) 0).trans kz0
      have kk1 := (cell_old hbel (by omega) 1).trans kz1
      have kk2 := (cell_old hbel (by omega) 2).trans kz2
      have kk3 := (cell_old hbel (by omega) 0).trans kz3
      have kk4 := (cell_old hbel (by omega) 1).trans kz4
      have kk5 := (cell_old hbel (by omega) 2).trans kz5
      have hjn : (j : Int) < (ps.length : Int) := by omega
      go_upto_region 7 with fail
      refine wp_name (fun wR hwR => ?_)
      have hR : Below wr.heap.size wr wR := by rw [hwR]; (repeat (first | with_reducible exact Below.refl _ _ | with_reducible refine balloc ?_ _ | with_reducible refine bdrewN ?_ _ | with_reducible refine Below.drew ?_ | with_reducible refine bthen ?_ (by with_reducible assumption) | with_reducible refine Below.setCell ?_ (by first | (simp; done) | (simp; omega)) _))
      have sR : wr.heap.size + 1 < wR.heap.size := by rw [hwR]; simp
      have sR0 : wr.heap.size < wR.heap.size := by omega
      have r0 : wR.cell? ⟨wr.heap.size, 0, none⟩ = some (.int .i64 x1) := by rw [hwR]; (repeat (first | with_reducible assumption | ((with_reducible refine kfresh ?_ ?_) <;> (first | with_reducible rfl | (simp; done))) | ((with_reducible refine ksameS ?_); focus ((repeat (first | with_reducible exact kis_of (by with_reducible assumption) | with_reducible refine kis_set ?_ | ((with_reducible refine kis_new ?_ ?_) <;> (first | with_reducible rfl | rfl | (simp; done))) | with_reducible refine kis_alloc _ ?_ | with_reducible refine kis_drew ?_ | with_reducible refine kis_call (by with_reducible assumption) ?_ | with_reducible exact kis_of (kcall (by with_reducible assumption) (by with_reducible assumption)))); done)) | with_reducible refine kother (by decide) ?_ | with_reducible refine kset (by first | omega | (simp; done) | (simp; omega)) ?_ | with_reducible refine kalloc _ ?_ | with_reducible refine kdrew ?_ | with_reducible refine kdrewN ?_ | with_reducible refine kcall (by with_reducible assumption) ?_))
      have r1 : wR.cell? ⟨wr.heap.size, 1, none⟩ = some (.int .i64 x2) := by rw [hwR]; (repeat (first | with_reducible assumption | ((with_reducible refine kfresh ?_ ?_) <;> (first | with_reducible rfl | (simp; done))) | ((with_reducible refine ksameS ?_); focus ((repeat (first | with_reducible exact kis_of (by with_reducible assumption) | with_reducible refine kis_set ?_ | ((with_reducible refine kis_new ?_ ?_) <;> (first | with_reducible rfl | rfl | (simp; done))) | with_reducible refine kis_alloc _ ?_ | with_reducible refine kis_drew ?_ | with_reducible refine kis_call (by with_reducible assumption) ?_ | with_reducible exact kis_of (kcall (by with_reducible assumption) (by with_reducible assumption)))); done)) | with_reducible refine kother (by decide) ?_ | with_reducible refine kset (by first | omega | (simp; done) | (simp; omega)) ?_ | with_reducible refine kalloc _ ?_ | with_reducible refine kdrew ?_ | with_reducible refine kdrewN ?_ | with_reducible refine kcall (by with_reducible assumption) ?_))
      have r2 : wR.cell? ⟨wr.heap.size, 2, none⟩ = some (.int .i64 x3) := by rw [hwR]; (repeat (first | with_reducible assumption | ((with_reducible refine kfresh ?_ ?_) <;> (first | with_reducible rfl | (simp; done))) | ((with_reducible refine ksameS ?_); focus ((repeat (first | with_reducible exact kis_of (by with_reducible assumption) | with_reducible refine kis_set ?_ | ((with_reducible refine kis_new ?_ ?_) <;> (first | with_reducible rfl | rfl | (simp; done))) | with_reducible refine kis_alloc _ ?_ | with_reducible refine kis_drew ?_ | with_reducible refine kis_call (by with_reducible assumption) ?_ | with_reducible exact kis_of (kcall (by with_reducible assumption) (by with_reducible assumption)))); done)) | with_reducible refine kother (by decide) ?_ | with_reducible refine kset (by first | omega | (simp; done) | (simp; omega)) ?_ | with_reducible refine kalloc _ ?_ | with_reducible refine kdrew ?_ | with_reducible refine kdrewN ?_ | with_reducible refine kcall (by with_reducible assumption) ?_))
      have s0 : wR.cell? ⟨wr.heap.size + 1, 0, none⟩ = some (.int .i64 0) := by rw [hwR]; (repeat (first | with_reducible assumption | ((with_reducible refine kfresh ?_ ?_) <;> (first | with_reducible rfl | (simp; done))) | ((with_reducible refine ksameS ?_); focus ((repeat (first | with_reducible exact kis_of (by with_reducible assumption) | with_reducible refine kis_set ?_ | ((with_reducible refine kis_new ?_ ?_) <;> (first | with_reducible rfl | rfl | (simp; done))) | with_reducible refine kis_alloc _ ?_ | with_reducible refine kis_drew ?_ | with_reducible refine kis_call (by with_reducible assumption) ?_ | with_reducible exact kis_of (kcall (by with_reducible assumption) (by with_reducible assumption)))); done)) | with_reducible refine kother (by decide) ?_ | with_reducible refine kset (by first | omega | (simp; done) | (simp; omega)) ?_ | with_reducible refine kalloc _ ?_ | with_reducible refine kdrew ?_ | with_reducible refine kdrewN ?_ | with_reducible refine kcall (by with_reducible assumption) ?_))
      have s1 : wR.cell? ⟨wr.heap.size + 1, 1, none⟩ = some (.int .i64 0) := by rw [hwR]; (repeat (first | with_reducible assumption | ((with_reducible refine kfresh ?_ ?_) <;> (first | with_reducible rfl | (simp; done))) | ((with_reducible refine ksameS ?_); focus ((repeat (first | with_reducible exact kis_of (by with_reducible assumption) | with_reducible refine kis_set ?_ | ((with_reducible refine kis_new ?_ ?_) <;> (first | with_reducible rfl | rfl | (simp; done))) | with_reducible refine kis_alloc _ ?_ | with_reducible refine kis_drew ?_ | with_reducible refine kis_call (by with_reducible assumption) ?_ | with_reducible exact kis_of (kcall (by with_reducible assumption) (by with_reducible assumption)))); done)) | with_reducible refine kother (by decide) ?_ | with_reducible refine kset (by first | omega | (simp; done) | (simp; omega)) ?_ | with_reducible refine kalloc _ ?_ | with_reducible refine kdrew ?_ | with_reducible refine kdrewN ?_ | with_reducible refine kcall (by with_reducible assumption) ?_))
      have sf0 : wR.frozen? ⟨wr.heap.size + 1, 0, none⟩ = false := by rw [hwR]; (repeat (first | with_reducible assumption | with_reducible refine fdrew ?_ | with_reducible refine fdrewN ?_ | with_reducible refine fset ?_ | ((with_reducible refine fallocNew ?_) <;> (first | with_reducible rfl | (simp; done))) | ((with_reducible refine kfro (by with_reducible assumption) ?_ ?_); focus (first | with_reducible assumption | omega | (simp; done) | (simp; omega))) | ((with_reducible refine falloc ?_ ?_); focus (first | with_reducible assumption | omega | (simp; done) | (simp; omega)))))
      have sf1 : wR.frozen? ⟨wr.heap.size + 1, 1, none⟩ = false := by rw [hwR]; (repeat (first | with_reducible assumption | with_reducible refine fdrew ?_ | with_reducible refine fdrewN ?_ | with_reducible refine fset ?_ | ((with_reducible refine fallocNew ?_) <;> (first | with_reducible rfl | (simp; done))) | ((with_reducible refine kfro (by with_reducible assumption) ?_ ?_); focus (first | with_reducible assumption | omega | (simp; done) | (simp; omega))) | ((with_reducible refine falloc ?_ ?_); focus (first | with_reducible assumption | omega | (simp; done) | (simp; omega)))))
      clear hwR
      have kr0 := (cell_back hR (by omega) 0).trans kk0
      have kr1 := (cell_back hR (by omega) 1).trans kk1
      have kr2 := (cell_back hR (by omega) 2).trans kk2
      have kr3 := (cell_back hR (by omega) 0).trans kk3
      have kr4 := (cell_back hR (by omega) 1).trans kk4
      have kr5 := (cell_back hR (by omega) 2).trans kk5
      have hownL := fun g' (e : some g' = _) => (hown.lt g' e.symm).2
      have howR := own_call hown hR
      have hbR : Below wz.heap.size wz wR := hbel.trans (hR.mono hsr)
      clear kk0 kk1 kk2 kk3 kk4 kk5 hown hR hbel c0 c1 c2
      go_wp2_with fail
      refine wp_loop_rounds 3 ?_
      rw [rounds_succ]
      go_wp2_with fail
      refine Calls.mono (HC1.out _) ?_
      rintro e w1 ⟨rfl, hB1⟩
      have hb1 : Below wR.heap.size wR w1 := by (repeat (first | with_reducible exact Below.refl _ _ | with_reducible exact hB1 | with_reducible refine balloc ?_ _ | with_reducible refine bdrewN ?_ _ | with_reducible refine Below.drew ?_ | with_reducible refine bthen ?_ (by with_reducible assumption) | with_reducible refine Below.setCell ?_ (by first | (simp; done) | (simp; omega)) _))
      have hs1 := hb1.size
      have t0 := (cell_back hb1 (by omega) 0).trans r0
      have t1 := (cell_back hb1 (by omega) 1).trans r1
      have t2 := (cell_back hb1 (by omega) 2).trans r2
      have u0 := (cell_back hb1 sR 0).trans s0
      have u1 := (cell_back hb1 sR 1).trans s1
      have uf0 := kfro hb1 sR sf0
      have uf1 := kfro hb1 sR sf1
      have ho1 := own_call howR hb1
      have hbz1 : Below wz.heap.size wz w1 := hbR.trans (hb1.mono hbR.size)
      clear r0 r1 r2 s0 s1 sf0 sf1 howR hbR hB1
      cases bn
      · have hz3 : bo = (z1 == z2) := by rw [HFB.out]; rfl
        have HZ3 := Lib.hid hz3
        clear hz3
        go_wp2
        rw [rounds_succ]
        refine wp_name (fun w2 hw2 => ?_)
        have v0 : w2.cell? ⟨wr.heap.size + 1, 0, none⟩ = some (.int .i64 z1) := by rw [hw2]; exact ksame u0
        have v1 : w2.cell? ⟨wr.heap.size + 1, 1, none⟩ = some (.int .i64 0) := by rw [hw2]; exact kother (by decide) u1
        have y0 : w2.cell? ⟨wr.heap.size, 0, none⟩ = some (.int .i64 x1) := by rw [hw2]; exact kset (by omega) t0
        have y1 : w2.cell? ⟨wr.heap.size, 1, none⟩ = some (.int .i64 x2) := by rw [hw2]; exact kset (by omega) t1
        have y2 : w2.cell? ⟨wr.heap.size, 2, none⟩ = some (.int .i64 x3) := by rw [hw2]; exact kset (by omega) t2
        have vf0 : w2.frozen? ⟨wr.heap.size + 1, 0, none⟩ = false := by rw [hw2]; exact fset uf0
        have vf1 : w2.frozen? ⟨wr.heap.size + 1, 1, none⟩ = false := by rw [hw2]; exact fset uf1
        have hs2 : w2.heap.size = w1.heap.size := by rw [hw2]; simp [World.setCell]
        have sR1 : wr.heap.size < w2.heap.size := by omega
        have sR2 : wr.heap.size + 1 < w2.heap.size := by omega
        clear hs2
        have ho2 : w2.ownsRow wz.heap.size 30 3 u12 ((ps.take j).filter ft).length (ints (flat3 ((ps.take j).filter ft))) := by rw [hw2]; exact ho1.kept (setCell_grownB w1 ⟨wr.heap.size + 1, 0, none⟩ _) (.inr fun e => by have := (hownL _ e.symm); simp only at this; omega)
        have hbz2 : Below wz.heap.size wz w2 := by rw [hw2]; exact Below.setCell hbz1 (by show wz.heap.size ≤ wr.heap.size + 1; omega) _
        clear hw2 t0 t1 t2 u0 u1 uf0 uf1 ho1 hbz1
        go_wp2_with fail
        refine Calls.mono (HC2.out _) ?_
        rintro e w3 ⟨rfl, hB3⟩
        have hb3 : Below w2.heap.size w2 w3 := by (repeat (first | with_reducible exact Below.refl _ _ | with_reducible exact hB3 | with_reducible refine balloc ?_ _ | with_reducible refine bdrewN ?_ _ | with_reducible refine Below.drew ?_ | with_reducible refine bthen ?_ (by with_reducible assumption) | with_reducible refine Below.setCell ?_ (by first | (simp; done) | (simp; omega)) _))
        have hs3 := hb3.size
        have p0 := (cell_back hb3 (by omega) 0).trans y0
        have p1 := (cell_back hb3 (by omega) 1).trans y1
        have p2 := (cell_back hb3 (by omega) 2).trans y2
        have q0 := (cell_back hb3 sR2 0).trans v0
        have q1 := (cell_back hb3 sR2 1).trans v1
        have qf0 := kfro hb3 sR2 vf0
        have qf1 := kfro hb3 sR2 vf1
        have ho3 := own_call ho2 hb3
        have hbz3 : Below wz.heap.size wz w3 := hbz2.trans (hb3.mono hbz2.size)
        clear y0 y1 y2 v0 v1 vf0 vf1 ho2 hbz2 hB3
        go_wp2
        rw [rounds_succ]
        refine wp_name (fun w4 hw4 => ?_)
        have v0 : w4.cell? ⟨wr.heap.size + 1, 0, none⟩ = some (.int .i64 z1) := by rw [hw4]; exact kother (by decide) q0
        have v1 : w4.cell? ⟨wr.heap.size + 1, 1, none⟩ = some (.int .i64 z2) := by rw [hw4]; exact ksame q1
        have y0 : w4.cell? ⟨wr.heap.size, 0, none⟩ = some (.int .i64 x1) := by rw [hw4]; exact kset (by omega) p0
        have y1 : w4.cell? ⟨wr.heap.size, 1, none⟩ = some (.int .i64 x2) := by rw [hw4]; exact kset (by omega) p1
        have y2 : w4.cell? ⟨wr.heap.size, 2, none⟩ = some (.int .i64 x3) := by rw [hw4]; exact kset (by omega) p2
        have hs4 : wr.heap.size < w4.heap.size := by rw [hw4]; simp [World.setCell]; omega
        have ho4 : w4.ownsRow wz.heap.size 30 3 u12 ((ps.take j).filter ft).length (ints (flat3 ((ps.take j).filter ft))) := by rw [hw4]; exact ho3.kept (setCell_grownB w3 ⟨wr.heap.size + 1, 1, none⟩ _) (.inr fun e => by have := (hownL _ e.symm); simp only at this; omega)
        have hbz4 : Below wz.heap.size wz w4 := by rw [hw4]; exact Below.setCell hbz3 (by show wz.heap.size ≤ wr.heap.size + 1; omega) _
        have hsz4 : wz.heap.size ≤ w4.heap.size := hbz4.size
        clear hw4 p0 p1 p2 q0 q1 qf0 qf1 ho3 hbz3
        cases bo
        · have hq := HZ3.out.symm
          have HN := Lib.hid (hNo rfl)
          clear hYes hNo
          have HO := Lib.hid ho4
          clear ho4 hownL
          go_wp2
          go_roundw
          case rel => exact ⟨j + 1, by omega, by go_num, by rw [HN.out]; exact HO.out, hbz4⟩
          case measure => simp [intOf]; omega
        · have hq := HZ3.out.symm
          have HN := Lib.hid (hYes rfl)
          clear hYes hNo hownL
          go_wp2_with (at_builtin; refine wpList_append_own _ rfl _ _ 43 rfl wz.heap.size 30 i0 (.agg #[.int .i64 0, .int .i64 0, .int .i64 0]) 3 24 Try.underlying43 hi hz0 hz1 hz2 rfl (by decide) _ _ _ rfl (ho4.alloc _) ⟨w4.heap.size, 0, none⟩ 1 1 [.int .i64 x1, .int .i64 x2, .int .i64 x3] rfl rfl (ln_cells rfl) (ln_one _ _ _) ?c3 ?c4 ?c5 ?_)
          case c3 => unfold maxLen; omega
          case c4 => omega
          case c5 => simp; omega
          intro v' w5 hown' hgrow _
          have hb5 : Below wz.heap.size wz w5 := (hbz4.alloc hsz4 _).grown hgrow (by simp; omega) (fun g' hg' => (ho4.lt g' hg').1)
          have HO := Lib.hid (show w5.ownsRow wz.heap.size 30 3 v' ((ps.take (j + 1)).filter ft).length (ints (flat3 ((ps.take (j + 1)).filter ft))) from by rw [HN.out, HFl.out, ints_append, List.length_append]; exact hown')
          clear hown' hgrow ho4 hbz4
          go_wp2
          go_roundw
          case rel => exact ⟨j + 1, by omega, by go_num, HO.out, hb5⟩
          case measure => simp [intOf]; omega
      · obtain rfl : bo = false := by rw [HFB.out]; rfl
        have HN := Lib.hid (hNo rfl)
        clear hYes hNo
        have HO := Lib.hid ho1
        clear ho1
        go_wp2
        go_roundw
        case rel => exact ⟨j + 1, by omega, by go_num, by rw [HN.out]; exact HO.out, hbz1⟩
        case measure => simp [intOf]; omega
    · have ej : j = ps.length := by omega
      subst ej
      rw [List.take_length, HBT.out] at hown
      have HO := Lib.hid hown
      clear hown
      go_wp2
      (refine bodyPost_ret (v := .tuple #[u12, .int .i64 0]) (by simp [results, Try.results68, go_sem]) rfl (slicePost_mk (own_base HO.out (by have := hWz.size; omega)) (hWz.trans (hbel.mono hWz.size))))

end Go.Proofs.Ytmpgpmcmhbpjeaa
