/-
  ConicOf at any numbers: the program's and the model's.
-/
import Derived.Test.YtijmmagdkbnhdaaConicOfSix
import Derived.Test.YtijmmagdkbnhdaaToInts
import Derived.Deep.RegionHeld3
import Derived.Deep.DeepCutAuto
import Derived.Test.YtijmmagdkbnhdaaBaseMath
namespace Go.Proofs.Ytijmmagdkbnhdaa
open Go.RowKit

def coG1 (p : Int) (n : Nat) (f : Nat → Int) : Int := if n = 6 then coV1 p (f 0) (f 1) (f 2) (f 3) (f 4) (f 5) else 0
def coG2 (p : Int) (n : Nat) (f : Nat → Int) : Int := if n = 6 then coV2 p (f 0) (f 1) (f 2) (f 3) (f 4) (f 5) else 0
def coG3 (p : Int) (n : Nat) (f : Nat → Int) : Int := if n = 6 then coV3 p (f 0) (f 1) (f 2) (f 3) (f 4) (f 5) else 0
def coG4 (p : Int) (n : Nat) (f : Nat → Int) : Int := if n = 6 then coV4 p (f 0) (f 1) (f 2) (f 3) (f 4) (f 5) else 0
def coG5 (p : Int) (n : Nat) (f : Nat → Int) : Int := if n = 6 then coV5 p (f 0) (f 1) (f 2) (f 3) (f 4) (f 5) else 0
def coG6 (p : Int) (n : Nat) (f : Nat → Int) : Int := if n = 6 then coV6 p (f 0) (f 1) (f 2) (f 3) (f 4) (f 5) else 0
def coGC (p : Int) (n : Nat) (f : Nat → Int) : Int := if n = 6 then coC p (f 0) (f 1) (f 2) (f 3) (f 4) (f 5) else codeOf p false
set_option linter.unusedSimpArgs false in
set_option maxRecDepth 20000 in
set_option maxHeartbeats 2000000 in
theorem specConicOf_any (p : Int) (n : Nat) (f : Nat → Int) (g base : Nat) (w : World) (hn : n ≤ 1048576) (hown : w.ownsRow base 2 1 (.slice (some ⟨g, 0, none⟩) n n) n (ints (tab n f))) :
    Calls Try.prog 22 #[.int .i64 p, .slice (some ⟨g, 0, none⟩) n n] w fun e w' => e = .returned (.tuple #[.agg #[.int .i64 (coG1 p n f), .int .i64 (coG2 p n f), .int .i64 (coG3 p n f), .int .i64 (coG4 p n f), .int .i64 (coG5 p n f), .int .i64 (coG6 p n f)], .int .i64 (coGC p n f)]) ∧ Below w.heap.size w w' := by
  have hc : ∀ j, j < n → w.cell? ⟨g, j, none⟩ = some (.int .i64 (f j)) := fun j hj => by rw [own_cell hown (j := j) (by omega), tab_getD _ hj]
  by_cases h : n = 6
  · subst h
    have hv := specConicOf6 p (f 0) (f 1) (f 2) (f 3) (f 4) (f 5) g w (hc 0 (by omega)) (hc 1 (by omega)) (hc 2 (by omega)) (hc 3 (by omega)) (hc 4 (by omega)) (hc 5 (by omega))
    simpa only [coG1, coG2, coG3, coG4, coG5, coG6, coGC, if_pos] using hv
  · have hcs := Lib.hid (show Cells w g 0 (tab n f) from fun i hi => by rw [tab_length] at hi; rw [Nat.zero_add, hc i hi, tab_getD _ hi])
    have hz : coG1 p n f = 0 ∧ coG2 p n f = 0 ∧ coG3 p n f = 0 ∧ coG4 p n f = 0 ∧ coG5 p n f = 0 ∧ coG6 p n f = 0 := ⟨if_neg h, if_neg h, if_neg h, if_neg h, if_neg h, if_neg h⟩
    have hg : coGC p n f = codeOf p false := if_neg h
    have hne : ((n : Int) == 6) = false := by rw [beq_eq_false_iff_ne]; omega
    have hnn : ((n : Int) != 6) = true := by rw [bne, hne]; rfl
    clear hc hown
    cases hp : isP p
    · have HV := Lib.hid (show _ ∧ coGC p n f = 1 from ⟨hz, by rw [hg]; exact codeOf_no hp⟩)
      have c1 : codeOf p (numsIn p (tab n f)) = 1 := codeOf_no hp
      have c2 : codeOf p false = 1 := codeOf_no hp
      clear hz hg h
      go_enter Try.func22, Try.ntmps22
      (go_wp2_with fail; refine Calls.mono (numbers_any _ _ _ _ _ (tab n f) _ (by rw [tab_length]) hn (fun i hi => kalloc _ (hcs.out i hi))) ?_; rw [c1]; rintro e w' ⟨rfl, rfl⟩)
      go_wp2
      (refine bodyPost_ret (v := .tuple #[.agg #[.int .i64 (coG1 p n f), .int .i64 (coG2 p n f), .int .i64 (coG3 p n f), .int .i64 (coG4 p n f), .int .i64 (coG5 p n f), .int .i64 (coG6 p n f)], .int .i64 (coGC p n f)]) (by simp [results, Try.results22, go_sem, HV.out.1.1, HV.out.1.2.1, HV.out.1.2.2.1, HV.out.1.2.2.2.1, HV.out.1.2.2.2.2.1, HV.out.1.2.2.2.2.2, HV.out.2]) rfl ⟨?_, ?_⟩)
      · rfl
      · (repeat (first | with_reducible exact Below.refl _ _ | with_reducible refine balloc ?_ _ | with_reducible refine bdrewN ?_ _ | with_reducible refine Below.drew ?_ | with_reducible refine bthen ?_ (by with_reducible assumption) | with_reducible refine Below.setCell ?_ (by first | (simp; done) | (simp; omega)) _))
    · have c2 : codeOf p false = 2 := codeOf_out hp rfl
      have HV := Lib.hid (show _ ∧ coGC p n f = 2 from ⟨hz, by rw [hg]; exact c2⟩)
      clear hz hg h
      cases hq : numsIn p (tab n f)
      · have c1 : codeOf p (numsIn p (tab n f)) = 2 := codeOf_out hp hq
        go_enter Try.func22, Try.ntmps22
        (go_wp2_with fail; refine Calls.mono (numbers_any _ _ _ _ _ (tab n f) _ (by rw [tab_length]) hn (fun i hi => kalloc _ (hcs.out i hi))) ?_; rw [c1]; rintro e w' ⟨rfl, rfl⟩)
        go_wp2
        (refine bodyPost_ret (v := .tuple #[.agg #[.int .i64 (coG1 p n f), .int .i64 (coG2 p n f), .int .i64 (coG3 p n f), .int .i64 (coG4 p n f), .int .i64 (coG5 p n f), .int .i64 (coG6 p n f)], .int .i64 (coGC p n f)]) (by simp [results, Try.results22, go_sem, HV.out.1.1, HV.out.1.2.1, HV.out.1.2.2.1, HV.out.1.2.2.2.1, HV.out.1.2.2.2.2.1, HV.out.1.2.2.2.2.2, HV.out.2]) rfl ⟨?_, ?_⟩)
        · rfl
        · (repeat (first | with_reducible exact Below.refl _ _ | with_reducible refine balloc ?_ _ | with_reducible refine bdrewN ?_ _ | with_reducible refine Below.drew ?_ | with_reducible refine bthen ?_ (by with_reducible assumption) | with_reducible refine Below.setCell ?_ (by first | (simp; done) | (simp; omega)) _))
      · have c1 : codeOf p (numsIn p (tab n f)) = 0 := codeOf_in hp hq
        go_enter Try.func22, Try.ntmps22
        (go_wp2_with fail; refine Calls.mono (numbers_any _ _ _ _ _ (tab n f) _ (by rw [tab_length]) hn (fun i hi => kalloc _ (hcs.out i hi))) ?_; rw [c1]; rintro e w' ⟨rfl, rfl⟩)
        go_wp2
        (refine bodyPost_ret (v := .tuple #[.agg #[.int .i64 (coG1 p n f), .int .i64 (coG2 p n f), .int .i64 (coG3 p n f), .int .i64 (coG4 p n f), .int .i64 (coG5 p n f), .int .i64 (coG6 p n f)], .int .i64 (coGC p n f)]) (by simp [results, Try.results22, go_sem, HV.out.1.1, HV.out.1.2.1, HV.out.1.2.2.1, HV.out.1.2.2.2.1, HV.out.1.2.2.2.2.1, HV.out.1.2.2.2.2.2, HV.out.2]) rfl ⟨?_, ?_⟩)
        · rfl
        · (repeat (first | with_reducible exact Below.refl _ _ | with_reducible refine balloc ?_ _ | with_reducible refine bdrewN ?_ _ | with_reducible refine Below.drew ?_ | with_reducible refine bthen ?_ (by with_reducible assumption) | with_reducible refine Below.setCell ?_ (by first | (simp; done) | (simp; omega)) _))

set_option linter.unusedSimpArgs false in
set_option maxRecDepth 20000 in
set_option maxHeartbeats 2000000 in
theorem implConicOf_any (p : Int) (n : Nat) (f : Nat → Int) (g base : Nat) (w : World) (hn : n ≤ 1048576) (hown : w.ownsRow base 2 1 (.slice (some ⟨g, 0, none⟩) n n) n (ints (tab n f))) :
    Calls Try.prog 24 #[.int .i64 p, .slice (some ⟨g, 0, none⟩) n n] w fun e w' => e = .returned (.tuple #[.agg #[.int .i64 (coG1 p n f), .int .i64 (coG2 p n f), .int .i64 (coG3 p n f), .int .i64 (coG4 p n f), .int .i64 (coG5 p n f), .int .i64 (coG6 p n f)], .int .i64 (coGC p n f)]) ∧ Below w.heap.size w w' := by
  have hc : ∀ j, j < n → w.cell? ⟨g, j, none⟩ = some (.int .i64 (f j)) := fun j hj => by rw [own_cell hown (j := j) (by omega), tab_getD _ hj]
  by_cases h : n = 6
  · subst h
    have hv := implConicOf6 p (f 0) (f 1) (f 2) (f 3) (f 4) (f 5) g w (hc 0 (by omega)) (hc 1 (by omega)) (hc 2 (by omega)) (hc 3 (by omega)) (hc 4 (by omega)) (hc 5 (by omega))
    simpa only [coG1, coG2, coG3, coG4, coG5, coG6, coGC, if_pos] using hv
  · have hcs := Lib.hid (show Cells w g 0 (tab n f) from fun i hi => by rw [tab_length] at hi; rw [Nat.zero_add, hc i hi, tab_getD _ hi])
    have hz : coG1 p n f = 0 ∧ coG2 p n f = 0 ∧ coG3 p n f = 0 ∧ coG4 p n f = 0 ∧ coG5 p n f = 0 ∧ coG6 p n f = 0 := ⟨if_neg h, if_neg h, if_neg h, if_neg h, if_neg h, if_neg h⟩
    have hg : coGC p n f = codeOf p false := if_neg h
    have hne : ((n : Int) == 6) = false := by rw [beq_eq_false_iff_ne]; omega
    have hnn : ((n : Int) != 6) = true := by rw [bne, hne]; rfl
    clear hc hown
    cases hp : isP p
    · have HV := Lib.hid (show _ ∧ coGC p n f = 1 from ⟨hz, by rw [hg]; exact codeOf_no hp⟩)
      have c1 : codeOf p (numsIn p (tab n f)) = 1 := codeOf_no hp
      have c2 : codeOf p false = 1 := codeOf_no hp
      clear hz hg h
      go_enter Try.func24, Try.ntmps24
      (go_wp2_with fail; refine Calls.mono (codeFor_any _ _ _) ?_; rw [c2]; rintro e w' ⟨rfl, rfl⟩)
      go_wp2
      (refine bodyPost_ret (v := .tuple #[.agg #[.int .i64 (coG1 p n f), .int .i64 (coG2 p n f), .int .i64 (coG3 p n f), .int .i64 (coG4 p n f), .int .i64 (coG5 p n f), .int .i64 (coG6 p n f)], .int .i64 (coGC p n f)]) (by simp [results, Try.results24, go_sem, HV.out.1.1, HV.out.1.2.1, HV.out.1.2.2.1, HV.out.1.2.2.2.1, HV.out.1.2.2.2.2.1, HV.out.1.2.2.2.2.2, HV.out.2]) rfl ⟨?_, ?_⟩)
      · rfl
      · (repeat (first | with_reducible exact Below.refl _ _ | with_reducible refine balloc ?_ _ | with_reducible refine bdrewN ?_ _ | with_reducible refine Below.drew ?_ | with_reducible refine bthen ?_ (by with_reducible assumption) | with_reducible refine Below.setCell ?_ (by first | (simp; done) | (simp; omega)) _))
    · have c2 : codeOf p false = 2 := codeOf_out hp rfl
      have HV := Lib.hid (show _ ∧ coGC p n f = 2 from ⟨hz, by rw [hg]; exact c2⟩)
      clear hz hg h
      cases hq : numsIn p (tab n f)
      · have c1 : codeOf p (numsIn p (tab n f)) = 2 := codeOf_out hp hq
        go_enter Try.func24, Try.ntmps24
        (go_wp2_with fail; refine Calls.mono (codeFor_any _ _ _) ?_; rw [c2]; rintro e w' ⟨rfl, rfl⟩)
        go_wp2
        (refine bodyPost_ret (v := .tuple #[.agg #[.int .i64 (coG1 p n f), .int .i64 (coG2 p n f), .int .i64 (coG3 p n f), .int .i64 (coG4 p n f), .int .i64 (coG5 p n f), .int .i64 (coG6 p n f)], .int .i64 (coGC p n f)]) (by simp [results, Try.results24, go_sem, HV.out.1.1, HV.out.1.2.1, HV.out.1.2.2.1, HV.out.1.2.2.2.1, HV.out.1.2.2.2.2.1, HV.out.1.2.2.2.2.2, HV.out.2]) rfl ⟨?_, ?_⟩)
        · rfl
        · (repeat (first | with_reducible exact Below.refl _ _ | with_reducible refine balloc ?_ _ | with_reducible refine bdrewN ?_ _ | with_reducible refine Below.drew ?_ | with_reducible refine bthen ?_ (by with_reducible assumption) | with_reducible refine Below.setCell ?_ (by first | (simp; done) | (simp; omega)) _))
      · have c1 : codeOf p (numsIn p (tab n f)) = 0 := codeOf_in hp hq
        go_enter Try.func24, Try.ntmps24
        (go_wp2_with fail; refine Calls.mono (codeFor_any _ _ _) ?_; rw [c2]; rintro e w' ⟨rfl, rfl⟩)
        go_wp2
        (refine bodyPost_ret (v := .tuple #[.agg #[.int .i64 (coG1 p n f), .int .i64 (coG2 p n f), .int .i64 (coG3 p n f), .int .i64 (coG4 p n f), .int .i64 (coG5 p n f), .int .i64 (coG6 p n f)], .int .i64 (coGC p n f)]) (by simp [results, Try.results24, go_sem, HV.out.1.1, HV.out.1.2.1, HV.out.1.2.2.1, HV.out.1.2.2.2.1, HV.out.1.2.2.2.2.1, HV.out.1.2.2.2.2.2, HV.out.2]) rfl ⟨?_, ?_⟩)
        · rfl
        · (repeat (first | with_reducible exact Below.refl _ _ | with_reducible refine balloc ?_ _ | with_reducible refine bdrewN ?_ _ | with_reducible refine Below.drew ?_ | with_reducible refine bthen ?_ (by with_reducible assumption) | with_reducible refine Below.setCell ?_ (by first | (simp; done) | (simp; omega)) _))

end Go.Proofs.Ytijmmagdkbnhdaa
