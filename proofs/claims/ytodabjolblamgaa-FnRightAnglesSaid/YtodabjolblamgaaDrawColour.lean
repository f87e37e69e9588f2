/-
  spec.l02DrawColour.
-/
import Derived.Test.YtodabjolblamgaaDrawS
import Derived.Test.YtodabjolblamgaaLast
import Derived.Test.YtodabjolblamgaaPtCells
import Derived.Deep.RegionHeld3
import Derived.Deep.DeepCutAuto
import Derived.Test.YtodabjolblamgaaBaseMath
namespace Go.Proofs.Ytodabjolblamgaa
open Go.RowKit

set_option linter.unusedVariables false in
set_option linter.unusedSimpArgs false in
set_option maxRecDepth 20000 in
set_option maxHeartbeats 2000000 in
theorem drawColour_ds {base r m c : Nat} {a : Option Addr} {w : World} (hs : Src w base r a m c) :
    Calls Try.prog 68 #[.pointer (some ⟨r, 0, none⟩)] w fun e w' => ∃ y1 : Int, e = .returned (.int .i64 y1) ∧ (True) ∧ DS r base m c a w w' := by
  go_enter Try.func68, Try.ntmps68
  have hE0 : DS r base m c a w w := DS.refl hs
  have hrl0 := hs.2.1
  have hrb0 := hs.1
  go_wp2_with fail
  refine Calls.mono (next_lt (base := base) (m := m) (c := c) (a := a) 40 (by (repeat (first | with_reducible assumption | with_reducible exact DS.src (by with_reducible assumption) | with_reducible exact DX.src (by with_reducible assumption) | with_reducible refine src_alloc ?_ _ | with_reducible refine src_drew ?_ | with_reducible refine src_drewN ?_ _ | with_reducible refine src_setNew ?_ (by first | omega | (simp; done) | (simp; omega)) (by first | omega | (simp; done) | (simp; omega)) _))) (by first | omega | decide) (by first | omega | decide)) ?_
  rintro e w1 ⟨d1, rfl, ⟨hd1a, hd1b⟩, hD1⟩
  have hs1 := hD1.src
  have hz1 := hD1.size
  (try simp at hz1)
  have hr1 := hD1.rlt
  have hE1 : DS r base m c a w w1 := DS.trans (by (repeat (first | with_reducible exact hE0 | with_reducible refine DS.alloc ?_ _ | with_reducible refine DS.drew ?_ | with_reducible refine DS.drewN ?_ _ | with_reducible refine DS.setNew ?_ (by first | omega | (simp; done) | (simp; omega)) (by first | omega | (simp; done) | (simp; omega)) _))) hD1
  rcases bool_ways (d1 == 0) with hd1 | hd1
  · have hd1n : (d1 != 0) = true := by rw [bne, hd1]; rfl
    have hd1q := beq_eq_false_iff_ne.1 hd1
    go_wp2_with fail
    refine Calls.mono (next_lt (base := base) (m := m) (c := c) (a := a) 3 (by (repeat (first | with_reducible assumption | with_reducible exact DS.src (by with_reducible assumption) | with_reducible exact DX.src (by with_reducible assumption) | with_reducible refine src_alloc ?_ _ | with_reducible refine src_drew ?_ | with_reducible refine src_drewN ?_ _ | with_reducible refine src_setNew ?_ (by first | omega | (simp; done) | (simp; omega)) (by first | omega | (simp; done) | (simp; omega)) _))) (by first | omega | decide) (by first | omega | decide)) ?_
    rintro e w2 ⟨d2, rfl, ⟨hd2a, hd2b⟩, hD2⟩
    have hs2 := hD2.src
    have hz2 := hD2.size
    (try simp at hz2)
    have hr2 := hD2.rlt
    have hE2 : DS r base m c a w w2 := DS.trans (by (repeat (first | with_reducible exact hE1 | with_reducible refine DS.alloc ?_ _ | with_reducible refine DS.drew ?_ | with_reducible refine DS.drewN ?_ _ | with_reducible refine DS.setNew ?_ (by first | omega | (simp; done) | (simp; omega)) (by first | omega | (simp; done) | (simp; omega)) _))) hD2
    go_wp2
    have HFACT := Lib.hid trivial
    (refine bodyPost_ret (v := .int .i64 (d2)) (by simp [results, Try.results68, go_sem, *]) rfl ⟨(d2), rfl, HFACT.out, (by (repeat (first | with_reducible exact hE2 | with_reducible refine DS.alloc ?_ _ | with_reducible refine DS.drew ?_ | with_reducible refine DS.drewN ?_ _ | with_reducible refine DS.setNew ?_ (by first | omega | (simp; done) | (simp; omega)) (by first | omega | (simp; done) | (simp; omega)) _)))⟩)
  · have hd1n : (d1 != 0) = false := by rw [bne, hd1]; rfl
    have hd1q := beq_iff_eq.1 hd1
    go_wp2_with fail
    refine Calls.mono (pick_ds (base := base) (m := m) (c := c) (a := a) [(-1), 3, 1099511627776] 3 rfl (by decide) (by (repeat (first | with_reducible assumption | with_reducible exact DS.src (by with_reducible assumption) | with_reducible exact DX.src (by with_reducible assumption) | with_reducible refine src_alloc ?_ _ | with_reducible refine src_drew ?_ | with_reducible refine src_drewN ?_ _ | with_reducible refine src_setNew ?_ (by first | omega | (simp; done) | (simp; omega)) (by first | omega | (simp; done) | (simp; omega)) _))) (by decide)) ?_
    rintro e w2 ⟨d2, rfl, hmd2, hD2⟩
    have hs2 := hD2.src
    have hz2 := hD2.size
    (try simp at hz2)
    have hr2 := hD2.rlt
    have hE2 : DS r base m c a w w2 := DS.trans (by (repeat (first | with_reducible exact hE1 | with_reducible refine DS.alloc ?_ _ | with_reducible refine DS.drew ?_ | with_reducible refine DS.drewN ?_ _ | with_reducible refine DS.setNew ?_ (by first | omega | (simp; done) | (simp; omega)) (by first | omega | (simp; done) | (simp; omega)) _))) hD2
    go_wp2
    have HFACT := Lib.hid trivial
    (refine bodyPost_ret (v := .int .i64 (d2)) (by simp [results, Try.results68, go_sem, *]) rfl ⟨(d2), rfl, HFACT.out, (by (repeat (first | with_reducible exact hE2 | with_reducible refine DS.alloc ?_ _ | with_reducible refine DS.drew ?_ | with_reducible refine DS.drewN ?_ _ | with_reducible refine DS.setNew ?_ (by first | omega | (simp; done) | (simp; omega)) (by first | omega | (simp; done) | (simp; omega)) _)))⟩)

end Go.Proofs.Ytodabjolblamgaa
