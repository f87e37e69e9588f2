/-
  CountAt: the program's and the model's.
-/
import Derived.Test.YtklfgelmieecmabPtsAt
import Derived.Test.YtklfgelmieecmabSpecAt02
import Derived.Test.YtklfgelmieecmabSpecNums
import Derived.Test.YtklfgelmieecmabImplNums
import Derived.Test.YtklfgelmieecmabSpecCol
import Derived.Test.YtklfgelmieecmabImplCol
import Derived.Test.YtklfgelmieecmabCode
import Derived.Test.YtklfgelmieecmabPcMath
namespace Go.Proofs.Ytklfgelmieecmab
open Go.RowKit

/-- How many points there are at a quadrance. -/
def ctC (p col q : Int) : Int := if isP p = true then (if (colB col && numsIn p [q]) = true then 0 else 2) else 1
def ctV (p col q : Int) : Int := if ctC p col q = 0 then ((gridL (fun x y => qdr p col 0 0 x y == q) p.toNat p.toNat).length : Int) else 0
theorem ct_zero {p col q k : Int} (h : ctC p col q = k) (hk : k ≠ 0) : ctV p col q = 0 ∧ ctC p col q = k := ⟨if_neg fun e => hk (h.symm.trans e), h⟩
theorem ct_good {p col q : Int} (hp : isP p = true) (h : (colB col && numsIn p [q]) = true) : ctV p col q = ((gridL (fun x y => qdr p col 0 0 x y == q) p.toNat p.toNat).length : Int) ∧ ctC p col q = 0 := by
  have h0 : ctC p col q = 0 := by rw [ctC, if_pos hp, if_pos h]
  exact ⟨if_pos h0, h0⟩
theorem ct_size {p col q : Int} (hp : isP p = true) : Maps.size (setD ((gridL tt2 p.toNat p.toNat).filter fun x => qdr p col 0 0 x.1 x.2 == q)) = (gridL (fun x y => qdr p col 0 0 x y == q) p.toNat p.toNat).length := by
  have hr := isP_range hp
  rw [← grid_filter (fun x y => qdr p col 0 0 x y == q)]
  exact setD_size (fun z hz => by have := grid_mem hz; omega) (grid_nodup _ _ _)
theorem own_slice {w : World} {b k n : Nat} {e : TypeId} {v : Value} {xs : List Value} (h : w.ownsRow b e k v n xs) : ∃ a c, v = .slice a n c := by
  rcases h.2 with ⟨rfl, rfl⟩ | ⟨g, cap, cur, rfl, _⟩
  · exact ⟨_, _, rfl⟩
  · exact ⟨_, _, rfl⟩

set_option linter.unusedSimpArgs false in
set_option maxRecDepth 20000 in
set_option maxHeartbeats 4000000 in
theorem specCountAt_any (p col q : Int) (w : World) :
    Calls Try.prog 36 #[.int .i64 p, .int .i64 col, .int .i64 q] w fun e w' =>
      e = .returned (.tuple #[.int .i64 (ctV p col q), .int .i64 (ctC p col q)]) ∧ Below w.heap.size w w' := by
  go_enter Try.func36, Try.ntmps36
  rcases bool_ways (isP p) with hd1 | hd1
  · skip
    have c_1 : codeOf p (numsIn p [q]) = 1 := codeOf_no hd1
    have cN : ∀ b, codeOf p b = 1 := fun b => codeOf_no hd1
    go_wp2_with fail
    refine Calls.mono (numbers_any _ _ _ _ _ [q] _ rfl (by simp) (by exact cells_at (by simp) [q] _)) ?_
    rintro e w' ⟨rfl, rfl⟩
    have HV := Lib.hid (ct_zero (show ctC p col q = 1 by simp [ctC, hd1]) (by decide))
    go_wp2
    (refine bodyPost_ret (v := .tuple #[.int .i64 (ctV p col q), .int .i64 (ctC p col q)]) (by simp [results, Try.results36, go_sem, HV.out.1, HV.out.2, *]) rfl ⟨?_, ?_⟩)
    · rfl
    · (repeat (first | with_reducible exact Below.refl _ _ | with_reducible refine balloc ?_ _ | with_reducible refine bdrewN ?_ _ | with_reducible refine Below.drew ?_ | with_reducible refine bthen ?_ (by with_reducible assumption) | with_reducible refine Below.setCell ?_ (by first | (simp; done) | (simp; omega)) _))
  · have hp := hd1
    have hr := isP_range hp
    rcases bool_ways (numsIn p [q]) with hd2 | hd2
    · skip
      have c_1 : codeOf p (numsIn p [q]) = 2 := codeOf_out hp (by simp [hd2])
      have cT : codeOf p true = 0 := codeOf_in hp rfl
      have cF : codeOf p false = 2 := codeOf_out hp rfl
      go_wp2_with fail
      refine Calls.mono (numbers_any _ _ _ _ _ [q] _ rfl (by simp) (by exact cells_at (by simp) [q] _)) ?_
      rintro e w' ⟨rfl, rfl⟩
      have HV := Lib.hid (ct_zero (show ctC p col q = 2 by simp [ctC, hd1, hd2]) (by decide))
      go_wp2
      (refine bodyPost_ret (v := .tuple #[.int .i64 (ctV p col q), .int .i64 (ctC p col q)]) (by simp [results, Try.results36, go_sem, HV.out.1, HV.out.2, *]) rfl ⟨?_, ?_⟩)
      · rfl
      · (repeat (first | with_reducible exact Below.refl _ _ | with_reducible refine balloc ?_ _ | with_reducible refine bdrewN ?_ _ | with_reducible refine Below.drew ?_ | with_reducible refine bthen ?_ (by with_reducible assumption) | with_reducible refine Below.setCell ?_ (by first | (simp; done) | (simp; omega)) _))
    · have hd2q := numsIn_one hd2
      have c_1 : codeOf p (numsIn p [q]) = 0 := codeOf_in hp (by simp [hd2])
      have cT : codeOf p true = 0 := codeOf_in hp rfl
      go_wp2_with fail
      refine Calls.mono (numbers_any _ _ _ _ _ [q] _ rfl (by simp) (by exact cells_at (by simp) [q] _)) ?_
      rintro e w' ⟨rfl, rfl⟩
      go_wp2_with fail
      refine Calls.mono (specColour_any _ _) ?_
      rintro e w' ⟨rfl, rfl⟩
      rcases bool_ways (colB col) with hd3 | hd3
      · skip
        have HV := Lib.hid (ct_zero (show ctC p col q = 2 by simp [ctC, hd1, hd2, hd3]) (by decide))
        go_wp2
        (refine bodyPost_ret (v := .tuple #[.int .i64 (ctV p col q), .int .i64 (ctC p col q)]) (by simp [results, Try.results36, go_sem, HV.out.1, HV.out.2, *]) rfl ⟨?_, ?_⟩)
        · rfl
        · (repeat (first | with_reducible exact Below.refl _ _ | with_reducible refine balloc ?_ _ | with_reducible refine bdrewN ?_ _ | with_reducible refine Below.drew ?_ | with_reducible refine bthen ?_ (by with_reducible assumption) | with_reducible refine Below.setCell ?_ (by first | (simp; done) | (simp; omega)) _))
      · have hc := hd3
        have hcr := colB_range hc
        have HV := Lib.hid (ct_good hp (show (colB col && numsIn p [q]) = true by simp [hd1, hd2, hd3]))
        (go_wp2_with fail; refine Calls.mono (specAt02_any _ _ _ _ _ _ hp hc (by omega) (by omega)) ?_; rintro e wz ⟨vz, rfl, hoz, hBz⟩)
        obtain ⟨az, cz, rfl⟩ := own_slice hoz
        obtain ⟨nz, hnz⟩ : ∃ nz : Nat, nz = (gridL (fun x y => qdr p col 0 0 x y == q) p.toNat p.toNat).length := ⟨_, rfl⟩
        rw [← hnz]
        have HV := Lib.hid (show ctV p col q = (nz : Int) ∧ ctC p col q = 0 from by rw [hnz]; exact HV.out)
        clear hnz hoz
        go_wp2
        (refine bodyPost_ret (v := .tuple #[.int .i64 (ctV p col q), .int .i64 (ctC p col q)]) (by simp [results, Try.results36, go_sem, HV.out.1, HV.out.2, *]) rfl ⟨?_, ?_⟩)
        · rfl
        · (repeat (first | exact Below.refl _ _ | refine balloc ?_ _ | refine bdrewN ?_ _ | refine Below.drew ?_ | refine bthen ?_ hBz | refine bthen ?_ hB1 | refine bthen ?_ hB2 | refine bthen ?_ hB3 | refine bthen ?_ hB4 | refine bthen ?_ hB5 | refine Below.setCell ?_ (by first | (simp; done) | (simp; omega)) _))

set_option linter.unusedSimpArgs false in
set_option maxRecDepth 20000 in
set_option maxHeartbeats 4000000 in
theorem implCountAt_any (p col q : Int) (w : World) :
    Calls Try.prog 37 #[.int .i64 p, .int .i64 col, .int .i64 q] w fun e w' =>
      e = .returned (.tuple #[.int .i64 (ctV p col q), .int .i64 (ctC p col q)]) ∧ Below w.heap.size w w' := by
  go_enter Try.func37, Try.ntmps37
  rcases bool_ways (colB col) with hd1 | hd1
  · skip
    rcases bool_ways (isP p) with hd2 | hd2
    · skip
      have c_1 : codeOf p false = 1 := codeOf_no hd2
      have cN : ∀ b, codeOf p b = 1 := fun b => codeOf_no hd2
      go_wp2_with fail
      refine Calls.mono (isColour_any _ _) ?_
      rintro e w' ⟨rfl, rfl⟩
      go_wp2_with fail
      refine Calls.mono (codeFor_any _ _ _) ?_
      rintro e w' ⟨rfl, rfl⟩
      have HV := Lib.hid (ct_zero (show ctC p col q = 1 by simp [ctC, hd1, hd2]) (by decide))
      go_wp2
      (refine bodyPost_ret (v := .tuple #[.int .i64 (ctV p col q), .int .i64 (ctC p col q)]) (by simp [results, Try.results37, go_sem, HV.out.1, HV.out.2, *]) rfl ⟨?_, ?_⟩)
      · rfl
      · (repeat (first | with_reducible exact Below.refl _ _ | with_reducible refine balloc ?_ _ | with_reducible refine bdrewN ?_ _ | with_reducible refine Below.drew ?_ | with_reducible refine bthen ?_ (by with_reducible assumption) | with_reducible refine Below.setCell ?_ (by first | (simp; done) | (simp; omega)) _))
    · have hp := hd2
      have hr := isP_range hp
      have c_1 : codeOf p false = 2 := codeOf_out hp (by simp)
      have cT : codeOf p true = 0 := codeOf_in hp rfl
      have cF : codeOf p false = 2 := codeOf_out hp rfl
      go_wp2_with fail
      refine Calls.mono (isColour_any _ _) ?_
      rintro e w' ⟨rfl, rfl⟩
      go_wp2_with fail
      refine Calls.mono (codeFor_any _ _ _) ?_
      rintro e w' ⟨rfl, rfl⟩
      have HV := Lib.hid (ct_zero (show ctC p col q = 2 by simp [ctC, hd1, hd2]) (by decide))
      go_wp2
      (refine bodyPost_ret (v := .tuple #[.int .i64 (ctV p col q), .int .i64 (ctC p col q)]) (by simp [results, Try.results37, go_sem, HV.out.1, HV.out.2, *]) rfl ⟨?_, ?_⟩)
      · rfl
      · (repeat (first | with_reducible exact Below.refl _ _ | with_reducible refine balloc ?_ _ | with_reducible refine bdrewN ?_ _ | with_reducible refine Below.drew ?_ | with_reducible refine bthen ?_ (by with_reducible assumption) | with_reducible refine Below.setCell ?_ (by first | (simp; done) | (simp; omega)) _))
  · have hc := hd1
    have hcr := colB_range hc
    rcases bool_ways (isP p) with hd2 | hd2
    · skip
      have c_1 : codeOf p (numsIn p [q]) = 1 := codeOf_no hd2
      have cN : ∀ b, codeOf p b = 1 := fun b => codeOf_no hd2
      go_wp2_with fail
      refine Calls.mono (isColour_any _ _) ?_
      rintro e w' ⟨rfl, rfl⟩
      go_wp2_with fail
      refine Calls.mono (areNums_any _ _ _ _ _ [q] _ rfl (by simp) (by exact cells_at (by simp) [q] _)) ?_
      rintro e w' ⟨rfl, rfl⟩
      go_wp2_with fail
      refine Calls.mono (codeFor_any _ _ _) ?_
      rintro e w' ⟨rfl, rfl⟩
      have HV := Lib.hid (ct_zero (show ctC p col q = 1 by simp [ctC, hd1, hd2]) (by decide))
      go_wp2
      (refine bodyPost_ret (v := .tuple #[.int .i64 (ctV p col q), .int .i64 (ctC p col q)]) (by simp [results, Try.results37, go_sem, HV.out.1, HV.out.2, *]) rfl ⟨?_, ?_⟩)
      · rfl
      · (repeat (first | with_reducible exact Below.refl _ _ | with_reducible refine balloc ?_ _ | with_reducible refine bdrewN ?_ _ | with_reducible refine Below.drew ?_ | with_reducible refine bthen ?_ (by with_reducible assumption) | with_reducible refine Below.setCell ?_ (by first | (simp; done) | (simp; omega)) _))
    · have hp := hd2
      have hr := isP_range hp
      rcases bool_ways (numsIn p [q]) with hd3 | hd3
      · skip
        have c_1 : codeOf p (numsIn p [q]) = 2 := codeOf_out hp (by simp [hd3])
        have cT : codeOf p true = 0 := codeOf_in hp rfl
        have cF : codeOf p false = 2 := codeOf_out hp rfl
        go_wp2_with fail
        refine Calls.mono (isColour_any _ _) ?_
        rintro e w' ⟨rfl, rfl⟩
        go_wp2_with fail
        refine Calls.mono (areNums_any _ _ _ _ _ [q] _ rfl (by simp) (by exact cells_at (by simp) [q] _)) ?_
        rintro e w' ⟨rfl, rfl⟩
        go_wp2_with fail
        refine Calls.mono (codeFor_any _ _ _) ?_
        rintro e w' ⟨rfl, rfl⟩
        have HV := Lib.hid (ct_zero (show ctC p col q = 2 by simp [ctC, hd1, hd2, hd3]) (by decide))
        go_wp2
        (refine bodyPost_ret (v := .tuple #[.int .i64 (ctV p col q), .int .i64 (ctC p col q)]) (by simp [results, Try.results37, go_sem, HV.out.1, HV.out.2, *]) rfl ⟨?_, ?_⟩)
        · rfl
        · (repeat (first | with_reducible exact Below.refl _ _ | with_reducible refine balloc ?_ _ | with_reducible refine bdrewN ?_ _ | with_reducible refine Below.drew ?_ | with_reducible refine bthen ?_ (by with_reducible assumption) | with_reducible refine Below.setCell ?_ (by first | (simp; done) | (simp; omega)) _))
      · have hd3q := numsIn_one hd3
        have c_1 : codeOf p (numsIn p [q]) = 0 := codeOf_in hp (by simp [hd3])
        have cT : codeOf p true = 0 := codeOf_in hp rfl
        go_wp2_with fail
        refine Calls.mono (isColour_any _ _) ?_
        rintro e w' ⟨rfl, rfl⟩
        go_wp2_with fail
        refine Calls.mono (areNums_any _ _ _ _ _ [q] _ rfl (by simp) (by exact cells_at (by simp) [q] _)) ?_
        rintro e w' ⟨rfl, rfl⟩
        go_wp2_with fail
        refine Calls.mono (codeFor_any _ _ _) ?_
        rintro e w' ⟨rfl, rfl⟩
        have HV := Lib.hid (ct_good hp (show (colB col && numsIn p [q]) = true by simp [hd1, hd2, hd3]))
        (go_wp2_with fail; refine Calls.mono (pointsAt_any _ _ _ _ _ _ hp hc (by omega) (by omega)) ?_; rintro e wz ⟨Bz, nz, rfl, hm, hnz, hBz⟩)
        have hsz := ct_size (col := col) (q := q) hp
        obtain ⟨kz, hkz⟩ : ∃ kz : Nat, kz = (gridL (fun x y => qdr p col 0 0 x y == q) p.toNat p.toNat).length := ⟨_, rfl⟩
        rw [← hkz] at hsz
        have HV := Lib.hid (show ctV p col q = (kz : Int) ∧ ctC p col q = 0 from by rw [hkz]; exact HV.out)
        clear hkz
        obtain ⟨Dz, hDz⟩ : ∃ D, D = setD ((gridL tt2 p.toNat p.toNat).filter fun x => qdr p col 0 0 x.1 x.2 == q) := ⟨_, rfl⟩
        rw [← hDz] at hm hsz
        clear hDz
        go_wp2_with (at_len; refine wpList_len_own _ rfl _ 98 rfl 35 4 Try.underlying98 _ Bz nz Dz rfl hm ?_)
        go_wp2
        (refine bodyPost_ret (v := .tuple #[.int .i64 (ctV p col q), .int .i64 (ctC p col q)]) (by simp [results, Try.results37, go_sem, HV.out.1, HV.out.2, *]) rfl ⟨?_, ?_⟩)
        · rfl
        · (repeat (first | exact Below.refl _ _ | refine balloc ?_ _ | refine bdrewN ?_ _ | refine Below.drew ?_ | refine bthen ?_ hBz | refine bthen ?_ hB1 | refine bthen ?_ hB2 | refine bthen ?_ hB3 | refine bthen ?_ hB4 | refine bthen ?_ hB5 | refine Below.setCell ?_ (by first | (simp; done) | (simp; omega)) _))

end Go.Proofs.Ytklfgelmieecmab
