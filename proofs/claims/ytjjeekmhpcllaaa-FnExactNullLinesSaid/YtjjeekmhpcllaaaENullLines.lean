/-
  NullLines: the program's and the model's.
-/
import Derived.Test.YtjjeekmhpcllaaaSNullLines
import Derived.Test.YtjjeekmhpcllaaaImplLinesThrough
import Derived.Test.YtjjeekmhpcllaaaPtsAt
import Derived.Test.YtjjeekmhpcllaaaImplLineR
import Derived.Test.YtjjeekmhpcllaaaImplCol
import Derived.Test.YtjjeekmhpcllaaaImplPts
import Derived.Test.YtjjeekmhpcllaaaCode
import Derived.Test.YtjjeekmhpcllaaaArrEq
import Derived.Test.YtjjeekmhpcllaaaSortLns
import Derived.Test.YtjjeekmhpcllaaaCollG
import Derived.Maps.RangeWalk
import Derived.Test.YtjjeekmhpcllaaaBaseMath
namespace Go.Proofs.Ytjjeekmhpcllaaa
open Go.RowKit

theorem nu_cnt {p col a1 a2 : Int} (hp : isP p = true) : Maps.size (setD ((gridL tt2 p.toNat p.toNat).filter fun x => qdr p col a1 a2 x.1 x.2 == 0)) ≤ 961 := by
  have hr := isP_range hp
  have hR : ∀ z, z ∈ ((gridL tt2 p.toNat p.toNat).filter fun x => qdr p col a1 a2 x.1 x.2 == 0) → (0 ≤ z.1 ∧ z.1 ≤ 31) ∧ 0 ≤ z.2 ∧ z.2 ≤ 31 := fun z hz => by
    have := grid_mem ((List.mem_filter.1 hz).1)
    omega
  rw [setD_size hR ((grid_nodup tt2 p.toNat p.toNat).filter _)]
  refine Nat.le_trans (List.length_filter_le _ _) ?_
  rw [gridT_len]
  exact Nat.le_trans (Nat.mul_le_mul (by omega : p.toNat ≤ 31) (by omega : p.toNat ≤ 31)) (by decide)
theorem null_facts {p col a1 a2 : Int} (hp : isP p = true) (hc : colB col = true) (ha1 : 0 ≤ a1 ∧ a1 < p) (ha2 : 0 ≤ a2 ∧ a2 < p) {ss : List (Int × Int)} (hnd : ss.Nodup) (hm : ∀ x, x ∈ ss ↔ x ∈ ((gridL tt2 p.toNat p.toNat).filter fun x => qdr p col a1 a2 x.1 x.2 == 0)) :
    KeysOf 29 lnV (fun x => klL x.1 x.2.1 x.2.2) (linesR p a1 a2 ss) (setL (linesR p a1 a2 ss)) ∧ Maps.size (setL (linesR p a1 a2 ss)) ≤ 1000000 ∧
    (∀ ls : List (Int × Int × Int), (ls.Nodup ∧ ∀ x, x ∈ ls ↔ x ∈ linesR p a1 a2 ss) → ls.length ≤ 1000000) ∧
    (∀ (d : Array (Int × Int × Int)) (ls : List (Int × Int × Int)), (ls.Nodup ∧ ∀ x, x ∈ ls ↔ x ∈ linesR p a1 a2 ss) → d.toList.Perm ls →
      (∀ i j, i < j → j < d.size → Go.Proofs.ltOf cfL d[j]! d[i]! = false) → d.toList = nulls p col a1 a2 (p.toNat + 1)) := by
  have hr := isP_range hp
  have hpn : (p.toNat : Int) = p := Int.toNat_of_nonneg (by omega)
  have hR : ∀ z, z ∈ linesR p a1 a2 ss → LnR z := fun z hz => by
    have := linesR_r hp _ z hz
    unfold LnR; omega
  have hsrt : (nulls p col a1 a2 (p.toNat + 1)).Pairwise Lt3 := (nulls_sorted p col a1 a2 (p.toNat + 1)).imp fun h => h
  have hLn : (nulls p col a1 a2 (p.toNat + 1)).Nodup := hsrt.imp fun h e => by subst e; simp only [Lt3] at h; omega
  have hall := fun z => nulls_mem (bs := ss) hp hc ha1 ha2 (fun b => by rw [hm b, List.mem_filter, grid_all, hpn, beq_iff_eq]) z
  have hlen : ss.length ≤ 961 := by
    have h1 := ((List.perm_ext_iff_of_nodup hnd ((grid_nodup tt2 p.toNat p.toNat).filter _)).2 hm).length_eq
    rw [h1]
    refine Nat.le_trans (List.length_filter_le _ _) ?_
    rw [gridT_len]
    exact Nat.le_trans (Nat.mul_le_mul (by omega : p.toNat ≤ 31) (by omega : p.toNat ≤ 31)) (by decide)
  refine ⟨setL_keys hR, ?_, fun ls h => ?_, fun d ls h hpm hs => ?_⟩
  · have h1 := setL_size hR
    have h2 := linesR_le p a1 a2 ss
    omega
  · have h1 := ((List.perm_ext_iff_of_nodup h.1 hLn).2 fun z => (h.2 z).trans (hall z)).length_eq
    have h2 := nulls_len p col a1 a2 (p.toNat + 1)
    omega
  · exact sorted_lines hsrt h.1 (fun z => (h.2 z).trans (hall z)) hpm hs

set_option linter.unusedSimpArgs false in
set_option maxRecDepth 20000 in
set_option maxHeartbeats 4000000 in
theorem implNullLines_any (p col a1 a2 : Int) (w : World) :
    Calls Try.prog 50 #[.int .i64 p, .int .i64 col, .agg #[.int .i64 a1, .int .i64 a2]] w fun e w' =>
      SlicePost 29 3 (nuL p col a1 a2) (nuC p col a1 a2) w e w' := by
  have heq := equalPoint
  go_enter Try.func50, Try.ntmps50
  rcases bool_ways (colB col) with hd1 | hd1
  · skip
    rcases bool_ways (isP p) with hd2 | hd2
    · skip
      have c_1 : codeOf p false = 1 := codeOf_no hd2
      have cN : ∀ b, codeOf p b = 1 := fun b => codeOf_no hd2
      go_wp2_with fail
      refine Calls.mono (isColour_any _ _) ?_
      rintro e w' ⟨rfl, rfl⟩
      go_wp2_with fail
      refine Calls.mono (codeFor_any _ _ _) ?_
      rintro e w' ⟨rfl, rfl⟩
      have HV := Lib.hid (nu_no (col := col) (a1 := a1) (a2 := a2) hd2)
      go_wp2
      (refine bodyPost_ret (v := .tuple #[.slice none 0 0, .int .i64 (nuC p col a1 a2)]) (by simp [results, Try.results50, go_sem, HV.out.2]) rfl (slicePost_nil HV.out.1 ?_))
      (repeat (first | with_reducible exact Below.refl _ _ | with_reducible refine balloc ?_ _ | with_reducible refine bdrewN ?_ _ | with_reducible refine Below.drew ?_ | with_reducible refine bthen ?_ (by with_reducible assumption) | with_reducible refine Below.setCell ?_ (by first | (simp; done) | (simp; omega)) _))
    · have hp := hd2
      have hr := isP_range hp
      have c_1 : codeOf p false = 2 := codeOf_out hp (by simp)
      have cT : codeOf p true = 0 := codeOf_in hp rfl
      have cF : codeOf p false = 2 := codeOf_out hp rfl
      go_wp2_with fail
      refine Calls.mono (isColour_any _ _) ?_
      rintro e w' ⟨rfl, rfl⟩
      go_wp2_with fail
      refine Calls.mono (codeFor_any _ _ _) ?_
      rintro e w' ⟨rfl, rfl⟩
      have HV := Lib.hid (nu_out (col := col) (a1 := a1) (a2 := a2) hp (by simp [nuB, hd1, hd2]))
      go_wp2
      (refine bodyPost_ret (v := .tuple #[.slice none 0 0, .int .i64 (nuC p col a1 a2)]) (by simp [results, Try.results50, go_sem, HV.out.2]) rfl (slicePost_nil HV.out.1 ?_))
      (repeat (first | with_reducible exact Below.refl _ _ | with_reducible refine balloc ?_ _ | with_reducible refine bdrewN ?_ _ | with_reducible refine Below.drew ?_ | with_reducible refine bthen ?_ (by with_reducible assumption) | with_reducible refine Below.setCell ?_ (by first | (simp; done) | (simp; omega)) _))
  · have hc := hd1
    have hcr := colB_range hc
    rcases bool_ways (isP p) with hd2 | hd2
    · skip
      have c_1 : codeOf p (numsIn p [a1, a2]) = 1 := codeOf_no hd2
      have cN : ∀ b, codeOf p b = 1 := fun b => codeOf_no hd2
      go_wp2_with fail
      refine Calls.mono (isColour_any _ _) ?_
      rintro e w' ⟨rfl, rfl⟩
      go_wp2_with fail
      refine Calls.mono (implPoints1 _ _ _ _ _ (by first | rfl | (simp; done))) ?_
      rintro e w1 ⟨rfl, hB1⟩
      (obtain ⟨hB1c, hB1f⟩ := bcell hB1; have hB1s := hB1.size; (try simp at hB1s); (try have hB1q1 := Nat.lt_of_succ_le hB1s); (try have hB1q2 := Nat.lt_of_succ_lt hB1q1); (try have hB1q3 := Nat.lt_of_succ_lt hB1q2); (try have hB1zw0 : w.heap.size < w1.heap.size := (by omega)); (try have hB1zw1 : w.heap.size + 1 < w1.heap.size := (by omega)); (try have hB1zw2 : w.heap.size + 1 + 1 < w1.heap.size := (by omega)); (try have hB1zw3 : w.heap.size + 1 + 1 + 1 < w1.heap.size := (by omega)); (try have hB1zw4 : w.heap.size + 1 + 1 + 1 + 1 < w1.heap.size := (by omega)))
      go_wp2_with fail
      refine Calls.mono (codeFor_any _ _ _) ?_
      rintro e w' ⟨rfl, rfl⟩
      have HV := Lib.hid (nu_no (col := col) (a1 := a1) (a2 := a2) hd2)
      go_wp2
      (refine bodyPost_ret (v := .tuple #[.slice none 0 0, .int .i64 (nuC p col a1 a2)]) (by simp [results, Try.results50, go_sem, HV.out.2]) rfl (slicePost_nil HV.out.1 ?_))
      (repeat (first | with_reducible exact Below.refl _ _ | with_reducible refine balloc ?_ _ | with_reducible refine bdrewN ?_ _ | with_reducible refine Below.drew ?_ | with_reducible refine bthen ?_ (by with_reducible assumption) | with_reducible refine Below.setCell ?_ (by first | (simp; done) | (simp; omega)) _))
    · have hp := hd2
      have hr := isP_range hp
      rcases bool_ways (numsIn p [a1, a2]) with hd3 | hd3
      · skip
        have c_1 : codeOf p (numsIn p [a1, a2]) = 2 := codeOf_out hp (by simp [hd3])
        have cT : codeOf p true = 0 := codeOf_in hp rfl
        have cF : codeOf p false = 2 := codeOf_out hp rfl
        go_wp2_with fail
        refine Calls.mono (isColour_any _ _) ?_
        rintro e w' ⟨rfl, rfl⟩
        go_wp2_with fail
        refine Calls.mono (implPoints1 _ _ _ _ _ (by first | rfl | (simp; done))) ?_
        rintro e w1 ⟨rfl, hB1⟩
        (obtain ⟨hB1c, hB1f⟩ := bcell hB1; have hB1s := hB1.size; (try simp at hB1s); (try have hB1q1 := Nat.lt_of_succ_le hB1s); (try have hB1q2 := Nat.lt_of_succ_lt hB1q1); (try have hB1q3 := Nat.lt_of_succ_lt hB1q2); (try have hB1zw0 : w.heap.size < w1.heap.size := (by omega)); (try have hB1zw1 : w.heap.size + 1 < w1.heap.size := (by omega)); (try have hB1zw2 : w.heap.size + 1 + 1 < w1.heap.size := (by omega)); (try have hB1zw3 : w.heap.size + 1 + 1 + 1 < w1.heap.size := (by omega)); (try have hB1zw4 : w.heap.size + 1 + 1 + 1 + 1 < w1.heap.size := (by omega)))
        go_wp2_with fail
        refine Calls.mono (codeFor_any _ _ _) ?_
        rintro e w' ⟨rfl, rfl⟩
        have HV := Lib.hid (nu_out (col := col) (a1 := a1) (a2 := a2) hp (by simp [nuB, hd1, hd2, hd3]))
        go_wp2
        (refine bodyPost_ret (v := .tuple #[.slice none 0 0, .int .i64 (nuC p col a1 a2)]) (by simp [results, Try.results50, go_sem, HV.out.2]) rfl (slicePost_nil HV.out.1 ?_))
        (repeat (first | with_reducible exact Below.refl _ _ | with_reducible refine balloc ?_ _ | with_reducible refine bdrewN ?_ _ | with_reducible refine Below.drew ?_ | with_reducible refine bthen ?_ (by with_reducible assumption) | with_reducible refine Below.setCell ?_ (by first | (simp; done) | (simp; omega)) _))
      · have hd3q := nums2 hd3
        have c_1 : codeOf p (numsIn p [a1, a2]) = 0 := codeOf_in hp (by simp [hd3])
        have cT : codeOf p true = 0 := codeOf_in hp rfl
        go_wp2_with fail
        refine Calls.mono (isColour_any _ _) ?_
        rintro e w' ⟨rfl, rfl⟩
        go_wp2_with fail
        refine Calls.mono (implPoints1 _ _ _ _ _ (by first | rfl | (simp; done))) ?_
        rintro e w1 ⟨rfl, hB1⟩
        (obtain ⟨hB1c, hB1f⟩ := bcell hB1; have hB1s := hB1.size; (try simp at hB1s); (try have hB1q1 := Nat.lt_of_succ_le hB1s); (try have hB1q2 := Nat.lt_of_succ_lt hB1q1); (try have hB1q3 := Nat.lt_of_succ_lt hB1q2); (try have hB1zw0 : w.heap.size < w1.heap.size := (by omega)); (try have hB1zw1 : w.heap.size + 1 < w1.heap.size := (by omega)); (try have hB1zw2 : w.heap.size + 1 + 1 < w1.heap.size := (by omega)); (try have hB1zw3 : w.heap.size + 1 + 1 + 1 < w1.heap.size := (by omega)); (try have hB1zw4 : w.heap.size + 1 + 1 + 1 + 1 < w1.heap.size := (by omega)))
        go_wp2_with fail
        refine Calls.mono (codeFor_any _ _ _) ?_
        rintro e w' ⟨rfl, rfl⟩
        have HB : nuB p col a1 a2 = true := by simp [nuB, hd1, hd2, hd3]
        have HS : nuS p col a1 a2 = 0 := by rfl
        have HV := Lib.hid (nu_good (col := col) (a1 := a1) (a2 := a2) hp HB HS)
        clear HB HS
        have ka0 : w1.cell? ⟨w.heap.size, 0, none⟩ = some (.int .i64 a1) := by (first | with_reducible assumption | (repeat (first | with_reducible assumption | ((with_reducible refine kfresh ?_ ?_) <;> (first | with_reducible rfl | (simp; done))) | ((with_reducible refine ksameS ?_); focus ((repeat (first | with_reducible exact kis_of (by with_reducible assumption) | with_reducible refine kis_set ?_ | ((with_reducible refine kis_new ?_ ?_) <;> (first | with_reducible rfl | rfl | (simp; done))) | with_reducible refine kis_alloc _ ?_ | with_reducible refine kis_drew ?_ | with_reducible refine kis_call (by with_reducible assumption) ?_ | with_reducible exact kis_of (kcall (by with_reducible assumption) (by with_reducible assumption)))); done)) | with_reducible refine kother (by decide) ?_ | with_reducible refine kset (by first | omega | (simp; done) | (simp; omega)) ?_ | with_reducible refine kalloc _ ?_ | with_reducible refine kdrew ?_ | with_reducible refine kcall (by with_reducible assumption) ?_)))
        have ka1 : w1.cell? ⟨w.heap.size, 1, none⟩ = some (.int .i64 a2) := by (first | with_reducible assumption | (repeat (first | with_reducible assumption | ((with_reducible refine kfresh ?_ ?_) <;> (first | with_reducible rfl | (simp; done))) | ((with_reducible refine ksameS ?_); focus ((repeat (first | with_reducible exact kis_of (by with_reducible assumption) | with_reducible refine kis_set ?_ | ((with_reducible refine kis_new ?_ ?_) <;> (first | with_reducible rfl | rfl | (simp; done))) | with_reducible refine kis_alloc _ ?_ | with_reducible refine kis_drew ?_ | with_reducible refine kis_call (by with_reducible assumption) ?_ | with_reducible exact kis_of (kcall (by with_reducible assumption) (by with_reducible assumption)))); done)) | with_reducible refine kother (by decide) ?_ | with_reducible refine kset (by first | omega | (simp; done) | (simp; omega)) ?_ | with_reducible refine kalloc _ ?_ | with_reducible refine kdrew ?_ | with_reducible refine kcall (by with_reducible assumption) ?_)))
        have hl0 : w.heap.size < w1.heap.size := World.block_lt_of_cell? w1 ⟨w.heap.size, 0, none⟩ ka0
        have hW0 : Below w.heap.size w w1 := by (repeat (first | exact Below.refl _ _ | refine balloc ?_ _ | refine bdrewN ?_ _ | refine Below.drew ?_ | refine bthen ?_ hB1 | refine bthen ?_ hB2 | refine bthen ?_ hB3 | refine Below.setCell ?_ (by first | (simp; done) | (simp; omega)) _))
        have rg := nums2 hd3
        have ra1 : 0 ≤ a1 ∧ a1 ≤ 31 := by omega
        have ra2 : 0 ≤ a2 ∧ a2 ≤ 31 := by omega
        have hmm := @run_makeMap Try.prog
        have hl0' : w.heap.size < w1.heap.size + 1 := by omega
        go_wp2_with fail
        refine Calls.mono (pointsAtB_any _ _ _ _ _ _ hp hc ra1 ra2) ?_
        rintro e wz ⟨Bz, nz, hBl, rfl, hm, hnz, hBz⟩
        have hml := (World.ownsMap_made (H := Unit) w1 Try.prog 29 (Go.plainElem Try.prog 4)).kept (below_grown hBz) (by simp)
        have hBl' : w1.heap.size < Bz := by simp at hBl; omega
        have hsz := hBz.size
        have hN : w1.heap.size < wz.heap.size := by simp at hsz; omega
        have hb1 : Below w1.heap.size w1 wz := bthen (balloc (Below.refl _ _) _) hBz
        have hcnt : Maps.size (setD ((gridL tt2 p.toNat p.toNat).filter fun x => qdr p col a1 a2 x.1 x.2 == 0)) ≤ 961 := nu_cnt hp
        have HCNT := Lib.hid hcnt
        clear hcnt
        have hS := setD_keys (xs := ((gridL tt2 p.toNat p.toNat).filter fun x => qdr p col a1 a2 x.1 x.2 == 0)) (fun z hz => by have := grid_mem ((List.mem_filter.1 hz).1); omega)
        go_wp2_with (at_range; refine wpList_range_own _ rfl _ 94 rfl 25 4 ptLaw Try.underlying94 _ Bz nz _ rfl hm ?_; intro w0 hrg0 hg0 hs0)
        have hml0 := hml.kept hg0 (by simp)
        have hb2 : Below w1.heap.size w1 w0 := hb1.grown hg0 (by omega) (fun g e => by cases e)
        go_wp2_with fail
        go_frame
        go_loopw [10] (fun _ wr => ∃ (left : Lit → Bool) (cnt : Nat) (ss : List (Int × Int)), wr.ranges Try.prog 25 (Go.plainElem Try.prog 4) Bz wz.heap.size nz (setD ((gridL tt2 p.toNat p.toNat).filter fun x => qdr p col a1 a2 x.1 x.2 == 0)) left cnt ∧ ss.length + cnt ≤ Maps.size (setD ((gridL tt2 p.toNat p.toNat).filter fun x => qdr p col a1 a2 x.1 x.2 == 0)) ∧ CollG (fun x : Int × Int => klP x.1 x.2) ((gridL tt2 p.toNat p.toNat).filter fun x => qdr p col a1 a2 x.1 x.2 == 0) left ss ∧ wr.ownsMap Try.prog 29 (Go.plainElem Try.prog 4) w1.heap.size ss.length (setL (linesR p a1 a2 ss)) ∧ Below w1.heap.size w1 wr) (fun _ wr => wr.rangeLeft Bz wz.heap.size)
        case atStart => exact ⟨_, _, [], hrg0, by simp, CollG.start hS, hml0, hb2⟩
        case round =>
          obtain ⟨left, cnt, ss, hrg, hcs, hC, hmL, hbel⟩ := hrel
          have c0 := (cell_old hbel hl0 0).trans ka0
          have c1 := (cell_old hbel hl0 1).trans ka1
          have hsr := hbel.size
          have hrN := hrg.lt
          have hrB : Bz < wr.heap.size := hrg.owns.lt
          go_wp2_with (at_next; refine wpList_next_ranges _ rfl _ rfl 25 ptLaw (Go.plainElem Try.prog 4) id id (fun key kl hk => ⟨key, rfl⟩) (fun v _ _ => ⟨v, rfl⟩) Bz wz.heap.size nz _ _ _ rfl hrg ?_ ?_)
          · intro hc0 hll
            have hdn := hC.done hll
            obtain ⟨hK1, hK2, hK3, hK4⟩ := null_facts hp hc rg.1 rg.2 hdn.1 hdn.2
            go_wp2_with fail
            refine Calls.mono (keysOfLn_any _ _) ?_
            rintro e wk ⟨rfl, rfl⟩
            go_wp2_with fail
            refine Calls.mono (sortedLn _ _ (enters_of Try.func112 (by kernel_rfl) rfl) _ _ _ hK2 hK3 _ (keysLn_stops hK1 8 wr.heap.size w1.heap.size _ (by decide) (wr.alloc (.cells #[.map (some w1.heap.size)] 83)) (by simp) (kfresh rfl rfl) (hmL.kept (World.grownBy_alloc _ _ none) (by simp)))) ?_
            rintro e wy ⟨vy, dy, sy, rfl, hsy, hpy, hoy, hwy, hBy⟩
            have hdy := hK4 dy sy hsy hpy hoy
            rw [hdy] at hwy
            have hBw : Below w.heap.size w wy := (hW0.trans (hbel.mono hW0.size)).trans ((bthen (balloc (Below.refl _ _) _) hBy : Below wr.heap.size wr wy).mono (by have := hW0.size; omega))
            have hws := hW0.size
            clear hK1 hK2 hK3 hK4 hsy hpy hoy hdy hdn
            go_wp2
            (refine bodyPost_ret (v := .tuple #[vy, .int .i64 (nuC p col a1 a2)]) (by simp [results, Try.results50, go_sem, HV.out.2]) rfl (slicePost_mk (by rw [HV.out.1]; exact own_base hwy (by simp; omega)) hBw))
          · intro xv c kl yd yp w2 cnt2 hkey hlk hv hat hrg2 hlt hg2 hs2 hen
            obtain ⟨x, hx, ex, rfl⟩ := hS.from ptLaw hkey (Go.Maps.has_true_of_atKey hat)
            obtain rfl : xv = ptV x := ex
            have hC2 := hC.step hS hx hlk
            have hxr := grid_mem ((List.mem_filter.1 hx).1)
            have hm2 := hmL.kept hg2 (fun e => by simp at e; omega)
            have hb3 : Below w1.heap.size w1 w2 := hbel.grown hg2 hsr (fun g e => by cases e; omega)
            have d0 := (cell_old hb3 hl0 0).trans ka0
            have d1 := (cell_old hb3 hl0 1).trans ka1
            have hs2' : w2.heap.size = wr.heap.size := hs2
            clear hs2
            obtain ⟨x1, x2⟩ := x
            simp only [ptV] at hen hxr ⊢
            have hl2 : w.heap.size < w2.heap.size := by omega
            have hl2' : w.heap.size < w2.heap.size + 1 := by omega
            have g0 : (w2.alloc (.cells #[.int .i64 x1, .int .i64 x2] 25)).cell? ⟨w.heap.size, 0, none⟩ = some (.int .i64 a1) := kalloc _ d0
            have g1 : (w2.alloc (.cells #[.int .i64 x1, .int .i64 x2] 25)).cell? ⟨w.heap.size, 1, none⟩ = some (.int .i64 a2) := kalloc _ d1
            have hlm : ss.length < maxLen := by have := HCNT.out; unfold maxLen; omega
            have HLM := Lib.hid hlm
            clear hlm
            have HLT := Lib.hid (show ss.length + 1 + cnt2 ≤ Maps.size (setD ((gridL tt2 p.toNat p.toNat).filter fun x => qdr p col a1 a2 x.1 x.2 == 0)) by omega)
            have HLQ := Lib.hid hlt
            clear hcs hlt hlk hkey hv hat
            rcases bool_ways (x1 == a1 && x2 == a2) with ht | ht
            · have hth := fun w' => implThroughR_any p a1 a2 x1 x2 w' hp (by omega) (by omega) (by omega) (by omega)
              obtain ⟨t1, h1⟩ : ∃ v, v = tr1 p a1 a2 x1 x2 := ⟨_, rfl⟩
              obtain ⟨t2, h2⟩ : ∃ v, v = tr2 p a1 a2 x1 x2 := ⟨_, rfl⟩
              obtain ⟨t3, h3⟩ : ∃ v, v = tr3 p a1 a2 x1 x2 := ⟨_, rfl⟩
              have hrt : LnR (t1, t2, t3) := by
                have r1 := tr1_r a1 a2 x1 x2 hp
                have r2 := tr2_r a1 a2 x1 x2 hp
                have r3 := tr3_r a1 a2 x1 x2 hp
                rw [← h1] at r1; rw [← h2] at r2; rw [← h3] at r3
                exact ⟨by simp only; omega, by simp only; omega, by simp only; omega⟩
              have HS1 := Lib.hid (show linesR p a1 a2 (ss ++ [(x1, x2)]) = linesR p a1 a2 ss ++ [(t1, t2, t3)] by rw [linesR_yes _ ht, h1, h2, h3]; rfl)
              rw [← h1, ← h2, ← h3] at hth
              have HTH := Lib.hid hth
              have HK := Lib.hid (show keyOf Try.prog 29 (.agg #[.int .i64 t1, .int .i64 t2, .int .i64 t3]) = some (klL t1 t2 t3) from keyOf_ln hrt)
              clear hth h1 h2 h3 hrt
              go_wp2_with fail
              refine Calls.mono (HTH.out _) ?_
              rintro e wv ⟨rfl, hBv⟩
              have hWv : Below w2.heap.size w2 wv := by (repeat (first | exact Below.refl _ _ | refine balloc ?_ _ | refine bdrewN ?_ _ | refine Below.drew ?_ | refine bthen ?_ hBv | refine Below.setCell ?_ (by first | (simp; done) | (simp; omega)) _))
              have hmv := hm2.kept (below_grown hWv) (by simp)
              have hsv := hWv.size
              go_wp2_with (at_mapUpdate; refine wpList_mapUpdate_own _ rfl _ _ _ 83 rfl 29 4 lnLaw Try.underlying83 _ w1.heap.size ss.length _ rfl hmv HLM.out _ _ _ rfl rfl HK.out _ [] (Go.plainElem_bool Try.underlying4 true) ?_)
              intro w3 hm3 hg3
              have hrg3 := (hrg2.kept (below_grown hWv) (by simp) (by simp)).kept hg3 (fun e => by simp at e; omega) (fun e => by simp at e; omega)
              have hb4 : Below w1.heap.size w1 w3 := (hb3.trans (hWv.mono (by omega))).grown hg3 (by omega) (fun g e => by cases e; omega)
              go_wp2
              go_roundw
              case rel => exact ⟨_, cnt2, ss ++ [(x1, x2)], hrg3, by have := HLT.out; simp; omega, hC2, by rw [HS1.out, setL_snoc]; simpa using hm3, hb4⟩
              case measure => rw [hrg3.left_eq, hrg.left_eq]; exact HLQ.out
            · go_wp2
              go_roundw
              case rel => exact ⟨_, cnt2, ss ++ [(x1, x2)], hrg2.alloc _, by have := HLT.out; simp; omega, hC2, by rw [linesR_no _ ht]; exact (hm2.kept (World.grownBy_alloc _ _ none) (by simp)).mono (by simp), hb3.alloc (by omega) _⟩
              case measure => rw [(hrg2.alloc _).left_eq, hrg.left_eq]; exact HLQ.out

theorem nu_len (p col a1 a2 : Int) : (nuL p col a1 a2).length ≤ 4096 := by
  unfold nuL
  split
  · rename_i h
    have hp : isP p = true := by
      cases hh : isP p
      · simp [nuC, hh] at h
      · rfl
    have hr := isP_range hp
    have := nulls_len p col a1 a2 (p.toNat + 1)
    rw [flat3_length]
    omega
  · simp

end Go.Proofs.Ytjjeekmhpcllaaa
