/-
  MeetOf: the program's and the model's.
-/
import Derived.Test.YtcddbcpdjgcejabCode
import Derived.Test.YtcddbcpdjgcejabSpecLins
import Derived.Test.YtcddbcpdjgcejabSpecMeet
import Derived.Test.YtcddbcpdjgcejabImplLins
import Derived.Test.YtcddbcpdjgcejabImplSlope
import Derived.Test.YtcddbcpdjgcejabImplRest
import Derived.Test.YtcddbcpdjgcejabImplInv
import Derived.Test.YtcddbcpdjgcejabArrEqPair
import Derived.Test.YtcddbcpdjgcejabArr
import Derived.Test.YtcddbcpdjgcejabArrLine
import Derived.Deep.RegionHeld3
import Derived.Deep.DeepCutAuto
namespace Go.Proofs.Ytcddbcpdjgcejab
open Go.RowKit

def moC0 (p l1 l2 l3 m1 m2 m3 : Int) : Int := codeOf p (lineB p l1 l2 l3 && lineB p m1 m2 m3)
def moC (p l1 l2 l3 m1 m2 m3 : Int) : Int := if moC0 p l1 l2 l3 m1 m2 m3 = 0 ∧ l1 = m1 ∧ l2 = m2 then 5 else moC0 p l1 l2 l3 m1 m2 m3
def moV (p l1 l2 l3 m1 m2 m3 x : Int) : Int := if moC0 p l1 l2 l3 m1 m2 m3 = 0 ∧ ¬ (l1 = m1 ∧ l2 = m2) then x else 0
def moV1 (p l1 l2 l3 m1 m2 m3 : Int) : Int := moV p l1 l2 l3 m1 m2 m3 (meX p l1 l2 l3 m1 m2 m3)
def moV2 (p l1 l2 l3 m1 m2 m3 : Int) : Int := moV p l1 l2 l3 m1 m2 m3 (meY p l1 l2 l3 m1 m2 m3)
abbrev moR (p l1 l2 l3 m1 m2 m3 : Int) : Value := .tuple #[.agg #[.int .i64 (moV1 p l1 l2 l3 m1 m2 m3), .int .i64 (moV2 p l1 l2 l3 m1 m2 m3)], .int .i64 (moC p l1 l2 l3 m1 m2 m3)]
theorem mo_err {p l1 l2 l3 m1 m2 m3 k : Int} (h : codeOf p (lineB p l1 l2 l3 && lineB p m1 m2 m3) = k) (hk : k ≠ 0) : moV1 p l1 l2 l3 m1 m2 m3 = 0 ∧ moV2 p l1 l2 l3 m1 m2 m3 = 0 ∧ moC p l1 l2 l3 m1 m2 m3 = k := by
  have h' : moC0 p l1 l2 l3 m1 m2 m3 = k := h
  simp [moV1, moV2, moV, moC, h', hk]
theorem mo_par {p l1 l2 l3 m1 m2 m3 : Int} (h : codeOf p (lineB p l1 l2 l3 && lineB p m1 m2 m3) = 0) (e : l1 = m1 ∧ l2 = m2) : moV1 p l1 l2 l3 m1 m2 m3 = 0 ∧ moV2 p l1 l2 l3 m1 m2 m3 = 0 ∧ moC p l1 l2 l3 m1 m2 m3 = 5 := by
  obtain ⟨rfl, rfl⟩ := e
  have h' : moC0 p l1 l2 l3 l1 l2 m3 = 0 := h
  simp [moV1, moV2, moV, moC, h']
theorem mo_good {p l1 l2 l3 m1 m2 m3 : Int} (h : codeOf p (lineB p l1 l2 l3 && lineB p m1 m2 m3) = 0) (e : ¬ (l1 = m1 ∧ l2 = m2)) : moV1 p l1 l2 l3 m1 m2 m3 = meX p l1 l2 l3 m1 m2 m3 ∧ moV2 p l1 l2 l3 m1 m2 m3 = meY p l1 l2 l3 m1 m2 m3 ∧ moC p l1 l2 l3 m1 m2 m3 = 0 := by
  have h' : moC0 p l1 l2 l3 m1 m2 m3 = 0 := h
  have g : moC0 p l1 l2 l3 m1 m2 m3 = 0 ∧ ¬ (l1 = m1 ∧ l2 = m2) := ⟨h', e⟩
  have f : ¬ (moC0 p l1 l2 l3 m1 m2 m3 = 0 ∧ l1 = m1 ∧ l2 = m2) := fun hh => e hh.2
  rw [moV1, moV2, moV, moV, moC, if_pos g, if_pos g, if_neg f, h']
  exact ⟨rfl, rfl, rfl⟩

set_option maxHeartbeats 2000000 in
theorem specMeetOf_any (p l1 l2 l3 m1 m2 m3 : Int) (w : World) :
    Calls Try.prog 18 #[.int .i64 p, .agg #[.int .i64 l1, .int .i64 l2, .int .i64 l3], .agg #[.int .i64 m1, .int .i64 m2, .int .i64 m3]] w fun e w' => e = .returned (moR p l1 l2 l3 m1 m2 m3) ∧ Below w.heap.size w w' := by
  have ltA : w.heap.size < w.heap.size + 1 + 1 + 1 + 1 := by omega
  have ltB : w.heap.size + 1 < w.heap.size + 1 + 1 + 1 + 1 := by omega
  have ltC : w.heap.size + 1 + 1 < w.heap.size + 1 + 1 + 1 + 1 := by omega
  rcases code_cases p (lineB p l1 l2 l3 && lineB p m1 m2 m3) with ⟨h0, hp, hn⟩ | h0 | h0
  · have hr := isP_range hp
    have hx := Bool.and_eq_true_iff.1 hn
    have hl := nums3 (lineB_in hx.1).2
    have hm := nums3 (lineB_in hx.2).2
    have hdz := det_zero hp (lineB_in hx.1).1 (lineB_in hx.2).1 ⟨hl.1, hl.2.1⟩ ⟨hm.1, hm.2.1⟩
    by_cases e : l1 = m1 ∧ l2 = m2
    · have HV := Lib.hid (mo_par (l3 := l3) (m3 := m3) h0 e)
      have hB : meetB p l1 l2 m1 m2 = false := by rw [meetB, hdz.2 e]; rfl
      clear hdz e hn hx
      go_enter Try.func18, Try.ntmps18
      (go_wp2_with fail; refine Calls.mono (specLines2 _ _ _ _ _ _ _ _ _ (by simp)) ?_; rintro e w1 ⟨rfl, hB1⟩; obtain ⟨hB1c, hB1f⟩ := bcell hB1; have hB1s := hB1.size; (try simp at hB1s); (try have hB1q1 := Nat.lt_of_succ_le hB1s); (try have hB1q2 := Nat.lt_of_succ_lt hB1q1); (try have hB1q3 := Nat.lt_of_succ_lt hB1q2); (try have hB1zw0 : w.heap.size < w1.heap.size := (by omega)); (try have hB1zw1 : w.heap.size + 1 < w1.heap.size := (by omega)); (try have hB1zw2 : w.heap.size + 1 + 1 < w1.heap.size := (by omega)))
      (go_wp2_with fail; refine Calls.mono (specMeet_any _ _ _ _ _ _ _ _ hp (by omega) (by omega) (by omega) (by omega) (by omega) (by omega)) ?_; rintro e w2 ⟨rfl, hB2⟩; obtain ⟨hB2c, hB2f⟩ := bcell hB2; have hB2s := hB2.size; (try simp at hB2s); (try have hB2q1 := Nat.lt_of_succ_le hB2s); (try have hB2q2 := Nat.lt_of_succ_lt hB2q1); (try have hB2q3 := Nat.lt_of_succ_lt hB2q2); (try have hB2zw0 : w.heap.size < w2.heap.size := (by omega)); (try have hB2zw1 : w.heap.size + 1 < w2.heap.size := (by omega)); (try have hB2zw2 : w.heap.size + 1 + 1 < w2.heap.size := (by omega)); (try have hB2zw10 : w1.heap.size < w2.heap.size := (by omega)); (try have hB2zw11 : w1.heap.size + 1 < w2.heap.size := (by omega)); (try have hB2zw12 : w1.heap.size + 1 + 1 < w2.heap.size := (by omega)))
      go_wp2
      (refine bodyPost_ret (v := moR p l1 l2 l3 m1 m2 m3) (by simp [results, Try.results18, go_sem, HV.out.1, HV.out.2.1, HV.out.2.2, *]) rfl ⟨?_, ?_⟩)
      · rfl
      · (repeat (first | exact Below.refl _ _ | refine balloc ?_ _ | refine bdrewN ?_ _ | refine Below.drew ?_ | refine bthen ?_ hB1 | refine bthen ?_ hB2 | refine Below.setCell ?_ (by first | (simp; done) | (simp; omega)) _))
    · have HV := Lib.hid (mo_good (l3 := l3) (m3 := m3) h0 e)
      have hd : ¬ (detM l1 l2 m1 m2 % p = 0) := fun h => e (hdz.1 h)
      have hB : meetB p l1 l2 m1 m2 = true := by rw [meetB, beq_eq_false_iff_ne.2 hd]; rfl
      have HX := Lib.hid (show mtX p l1 l2 l3 m1 m2 m3 = meX p l1 l2 l3 m1 m2 m3 ∧ mtY p l1 l2 l3 m1 m2 m3 = meY p l1 l2 l3 m1 m2 m3 by rw [mtX, mtY, if_neg hd, if_neg hd]; exact ⟨rfl, rfl⟩)
      clear hdz e hn hx hd
      go_enter Try.func18, Try.ntmps18
      (go_wp2_with fail; refine Calls.mono (specLines2 _ _ _ _ _ _ _ _ _ (by simp)) ?_; rintro e w1 ⟨rfl, hB1⟩; obtain ⟨hB1c, hB1f⟩ := bcell hB1; have hB1s := hB1.size; (try simp at hB1s); (try have hB1q1 := Nat.lt_of_succ_le hB1s); (try have hB1q2 := Nat.lt_of_succ_lt hB1q1); (try have hB1q3 := Nat.lt_of_succ_lt hB1q2); (try have hB1zw0 : w.heap.size < w1.heap.size := (by omega)); (try have hB1zw1 : w.heap.size + 1 < w1.heap.size := (by omega)); (try have hB1zw2 : w.heap.size + 1 + 1 < w1.heap.size := (by omega)))
      go_wp2_with fail
      refine Calls.mono (specMeet_any _ _ _ _ _ _ _ _ hp (by omega) (by omega) (by omega) (by omega) (by omega) (by omega)) ?_
      rw [HX.out.1, HX.out.2]
      rintro e w2 ⟨rfl, hB2⟩
      (obtain ⟨hB2c, hB2f⟩ := bcell hB2; have hB2s := hB2.size; (try simp at hB2s); (try have hB2q1 := Nat.lt_of_succ_le hB2s); (try have hB2q2 := Nat.lt_of_succ_lt hB2q1); (try have hB2q3 := Nat.lt_of_succ_lt hB2q2); (try have hB2zw0 : w.heap.size < w2.heap.size := (by omega)); (try have hB2zw1 : w.heap.size + 1 < w2.heap.size := (by omega)); (try have hB2zw2 : w.heap.size + 1 + 1 < w2.heap.size := (by omega)); (try have hB2zw10 : w1.heap.size < w2.heap.size := (by omega)); (try have hB2zw11 : w1.heap.size + 1 < w2.heap.size := (by omega)); (try have hB2zw12 : w1.heap.size + 1 + 1 < w2.heap.size := (by omega)))
      go_wp2
      (refine bodyPost_ret (v := moR p l1 l2 l3 m1 m2 m3) (by simp [results, Try.results18, go_sem, HV.out.1, HV.out.2.1, HV.out.2.2, *]) rfl ⟨?_, ?_⟩)
      · rfl
      · (repeat (first | exact Below.refl _ _ | refine balloc ?_ _ | refine bdrewN ?_ _ | refine Below.drew ?_ | refine bthen ?_ hB1 | refine bthen ?_ hB2 | refine Below.setCell ?_ (by first | (simp; done) | (simp; omega)) _))
  all_goals
    have HV := Lib.hid (mo_err h0 (by omega))
    go_enter Try.func18, Try.ntmps18
    (go_wp2_with fail; refine Calls.mono (specLines2 _ _ _ _ _ _ _ _ _ (by simp)) ?_; rintro e w1 ⟨rfl, hB1⟩; obtain ⟨hB1c, hB1f⟩ := bcell hB1; have hB1s := hB1.size; (try simp at hB1s); (try have hB1q1 := Nat.lt_of_succ_le hB1s); (try have hB1q2 := Nat.lt_of_succ_lt hB1q1); (try have hB1q3 := Nat.lt_of_succ_lt hB1q2); (try have hB1zw0 : w.heap.size < w1.heap.size := (by omega)); (try have hB1zw1 : w.heap.size + 1 < w1.heap.size := (by omega)); (try have hB1zw2 : w.heap.size + 1 + 1 < w1.heap.size := (by omega)))
    go_wp2
    (refine bodyPost_ret (v := moR p l1 l2 l3 m1 m2 m3) (by simp [results, Try.results18, go_sem, HV.out.1, HV.out.2.1, HV.out.2.2, *]) rfl ⟨?_, ?_⟩)
    · rfl
    · (repeat (first | exact Below.refl _ _ | refine balloc ?_ _ | refine bdrewN ?_ _ | refine Below.drew ?_ | refine bthen ?_ hB1 | refine Below.setCell ?_ (by first | (simp; done) | (simp; omega)) _))

set_option maxHeartbeats 4000000 in
theorem implMeetOf_any (p l1 l2 l3 m1 m2 m3 : Int) (w : World) :
    Calls Try.prog 19 #[.int .i64 p, .agg #[.int .i64 l1, .int .i64 l2, .int .i64 l3], .agg #[.int .i64 m1, .int .i64 m2, .int .i64 m3]] w fun e w' => e = .returned (moR p l1 l2 l3 m1 m2 m3) ∧ Below w.heap.size w w' := by
  have ltA : w.heap.size < w.heap.size + 1 + 1 + 1 + 1 := by omega
  have ltB : w.heap.size + 1 < w.heap.size + 1 + 1 + 1 + 1 := by omega
  have ltC : w.heap.size + 1 + 1 < w.heap.size + 1 + 1 + 1 + 1 := by omega
  have heq := equalPair
  rcases code_cases p (lineB p l1 l2 l3 && lineB p m1 m2 m3) with ⟨h0, hp, hn⟩ | h0 | h0
  · have hr := isP_range hp
    have hx := Bool.and_eq_true_iff.1 hn
    have hl := nums3 (lineB_in hx.1).2
    have hm := nums3 (lineB_in hx.2).2
    clear hn hx
    have k1 := mulP (a := l1) (b := m2) (by omega) (by omega)
    have k2 := mulP (a := m1) (b := l2) (by omega) (by omega)
    have k3 := mulP (a := l2) (b := m3) (by omega) (by omega)
    have k4 := mulP (a := m2) (b := l3) (by omega) (by omega)
    have k5 := mulP (a := l3) (b := m1) (by omega) (by omega)
    have k6 := mulP (a := m3) (b := l1) (by omega) (by omega)
    have md := modR31 (l1 * m2 - m1 * l2) hp
    have mx := modR31 (l2 * m3 - m2 * l3) hp
    have my := modR31 (l3 * m1 - m3 * l1) hp
    obtain ⟨d, hdd⟩ : ∃ d, d = inv p ((l1 * m2 - m1 * l2) % p) := ⟨_, rfl⟩
    have hd31 := invR31 ((l1 * m2 - m1 * l2) % p) hp
    rw [← hdd] at hd31
    have c1 := mulP (a := (l2 * m3 - m2 * l3) % p) (b := d) mx hd31
    have c2 := mulP (a := (l3 * m1 - m3 * l1) % p) (b := d) my hd31
    have e1 : IntKind.i64.wrap ((l2 * m3 - m2 * l3) % p * d) = (l2 * m3 - m2 * l3) % p * d := wrapI _ (by omega)
    have e2 : IntKind.i64.wrap ((l3 * m1 - m3 * l1) % p * d) = (l3 * m1 - m3 * l1) % p * d := wrapI _ (by omega)
    have t1 : ((l2 * m3 - m2 * l3) % p * d).tmod p = (l2 * m3 - m2 * l3) % p * d % p := Int.tmod_eq_emod_of_nonneg c1.1
    have t2 : ((l3 * m1 - m3 * l1) % p * d).tmod p = (l3 * m1 - m3 * l1) % p * d % p := Int.tmod_eq_emod_of_nonneg c2.1
    have hpos : p ≠ 0 := by omega
    have HX := Lib.hid (show (l2 * m3 - m2 * l3) % p * d % p = meX p l1 l2 l3 m1 m2 m3 ∧ (l3 * m1 - m3 * l1) % p * d % p = meY p l1 l2 l3 m1 m2 m3 by rw [hdd]; exact ⟨meX_impl _ _ _ _ _ _ _, meY_impl _ _ _ _ _ _ _⟩)
    have HH := Lib.hid hdd
    clear hdd
    by_cases e : l1 = m1 ∧ l2 = m2
    · have HV := Lib.hid (mo_par (l3 := l3) (m3 := m3) h0 e)
      have hcmp : (l1 == m1 && l2 == m2) = true := by simp [e]
      clear e
      go_enter Try.func19, Try.ntmps19
      (go_wp2_with fail; refine Calls.mono (implLines2 _ _ _ _ _ _ _ _ _ (by simp)) ?_; rintro e w1 ⟨rfl, hB1⟩; obtain ⟨hB1c, hB1f⟩ := bcell hB1; have hB1s := hB1.size; (try simp at hB1s); (try have hB1q1 := Nat.lt_of_succ_le hB1s); (try have hB1q2 := Nat.lt_of_succ_lt hB1q1); (try have hB1q3 := Nat.lt_of_succ_lt hB1q2); (try have hB1zw0 : w.heap.size < w1.heap.size := (by omega)); (try have hB1zw1 : w.heap.size + 1 < w1.heap.size := (by omega)); (try have hB1zw2 : w.heap.size + 1 + 1 < w1.heap.size := (by omega)))
      (go_wp2_with fail; refine Calls.mono (codeFor_any _ _ _) ?_; rintro e w' ⟨rfl, rfl⟩)
      go_wp2_with fail
      have b0 : w1.cell? ⟨w.heap.size, 0, none⟩ = some (.int .i64 l1) := by
        refine kcall hB1 ?_
        repeat (first | exact kfresh (by first | rfl | (simp; done)) (by rfl) | refine kalloc _ ?_)
      have b1 : w1.cell? ⟨w.heap.size, 1, none⟩ = some (.int .i64 l2) := by
        refine kcall hB1 ?_
        repeat (first | exact kfresh (by first | rfl | (simp; done)) (by rfl) | refine kalloc _ ?_)
      have b2 : w1.cell? ⟨w.heap.size, 2, none⟩ = some (.int .i64 l3) := by
        refine kcall hB1 ?_
        repeat (first | exact kfresh (by first | rfl | (simp; done)) (by rfl) | refine kalloc _ ?_)
      have b3 : w1.cell? ⟨w.heap.size + 1, 0, none⟩ = some (.int .i64 m1) := by
        refine kcall hB1 ?_
        repeat (first | exact kfresh (by first | rfl | (simp; done)) (by rfl) | refine kalloc _ ?_)
      have b4 : w1.cell? ⟨w.heap.size + 1, 1, none⟩ = some (.int .i64 m2) := by
        refine kcall hB1 ?_
        repeat (first | exact kfresh (by first | rfl | (simp; done)) (by rfl) | refine kalloc _ ?_)
      have b5 : w1.cell? ⟨w.heap.size + 1, 2, none⟩ = some (.int .i64 m3) := by
        refine kcall hB1 ?_
        repeat (first | exact kfresh (by first | rfl | (simp; done)) (by rfl) | refine kalloc _ ?_)
      have r0 : w1.cell? ⟨w.heap.size + 1 + 1, 0, none⟩ = some (.int .i64 0) := by
        refine kcall hB1 ?_
        repeat (first | exact kfresh (by first | rfl | (simp; done)) (by rfl) | refine kalloc _ ?_)
      have r1 : w1.cell? ⟨w.heap.size + 1 + 1, 1, none⟩ = some (.int .i64 0) := by
        refine kcall hB1 ?_
        repeat (first | exact kfresh (by first | rfl | (simp; done)) (by rfl) | refine kalloc _ ?_)
      have q0 : w1.frozen? ⟨w.heap.size + 1 + 1, 0, none⟩ = false := kfro hB1 (by first | (simp; done) | (simp; omega)) (fallocNew (by first | rfl | (simp; done)))
      have q1 : w1.frozen? ⟨w.heap.size + 1 + 1, 1, none⟩ = false := kfro hB1 (by first | (simp; done) | (simp; omega)) (fallocNew (by first | rfl | (simp; done)))
      have hW : Below w.heap.size w w1 := by (repeat (first | exact Below.refl _ _ | refine balloc ?_ _ | refine bdrewN ?_ _ | refine Below.drew ?_ | refine bthen ?_ hB1 | refine Below.setCell ?_ (by first | (simp; done) | (simp; omega)) _))
      go_region_held3 (fun W => W.cell? ⟨w.heap.size, 0, none⟩ = some (.int .i64 l1) ∧ W.cell? ⟨w.heap.size, 1, none⟩ = some (.int .i64 l2) ∧ W.cell? ⟨w.heap.size, 2, none⟩ = some (.int .i64 l3) ∧ W.cell? ⟨w.heap.size + 1, 0, none⟩ = some (.int .i64 m1) ∧ W.cell? ⟨w.heap.size + 1, 1, none⟩ = some (.int .i64 m2) ∧ W.cell? ⟨w.heap.size + 1, 2, none⟩ = some (.int .i64 m3) ∧ W.cell? ⟨w.heap.size + 1 + 1, 0, none⟩ = some (.int .i64 0) ∧ W.cell? ⟨w.heap.size + 1 + 1, 1, none⟩ = some (.int .i64 0))
        (first | exact ⟨b0, b1, b2, b3, b4, b5, r0, r1⟩ | (first | with_reducible assumption | with_reducible exact (And.imp (kcall hB) (And.imp (kcall hB) (And.imp (kcall hB) (And.imp (kcall hB) (And.imp (kcall hB) (And.imp (kcall hB) (And.imp (kcall hB) ((kcall hB))))))))) (by with_reducible assumption) | with_reducible exact (And.imp (kalloc _) (And.imp (kalloc _) (And.imp (kalloc _) (And.imp (kalloc _) (And.imp (kalloc _) (And.imp (kalloc _) (And.imp (kalloc _) ((kalloc _))))))))) (by with_reducible assumption) | with_reducible exact (And.imp (krealloc (by first | omega | (simp; done) | (simp; omega))) (And.imp (krealloc (by first | omega | (simp; done) | (simp; omega))) (And.imp (krealloc (by first | omega | (simp; done) | (simp; omega))) (And.imp (krealloc (by first | omega | (simp; done) | (simp; omega))) (And.imp (krealloc (by first | omega | (simp; done) | (simp; omega))) (And.imp (krealloc (by first | omega | (simp; done) | (simp; omega))) (And.imp (krealloc (by first | omega | (simp; done) | (simp; omega))) ((krealloc (by first | omega | (simp; done) | (simp; omega))))))))))) (by with_reducible assumption) | with_reducible exact (And.imp (fun h => kdrew (kalloc _ (kundrew h))) (And.imp (fun h => kdrew (kalloc _ (kundrew h))) (And.imp (fun h => kdrew (kalloc _ (kundrew h))) (And.imp (fun h => kdrew (kalloc _ (kundrew h))) (And.imp (fun h => kdrew (kalloc _ (kundrew h))) (And.imp (fun h => kdrew (kalloc _ (kundrew h))) (And.imp (fun h => kdrew (kalloc _ (kundrew h))) ((fun h => kdrew (kalloc _ (kundrew h))))))))))) (by with_reducible assumption) | with_reducible exact (And.imp (fun h => kdrew (krealloc (by first | omega | (simp; done) | (simp; omega)) (kundrew h))) (And.imp (fun h => kdrew (krealloc (by first | omega | (simp; done) | (simp; omega)) (kundrew h))) (And.imp (fun h => kdrew (krealloc (by first | omega | (simp; done) | (simp; omega)) (kundrew h))) (And.imp (fun h => kdrew (krealloc (by first | omega | (simp; done) | (simp; omega)) (kundrew h))) (And.imp (fun h => kdrew (krealloc (by first | omega | (simp; done) | (simp; omega)) (kundrew h))) (And.imp (fun h => kdrew (krealloc (by first | omega | (simp; done) | (simp; omega)) (kundrew h))) (And.imp (fun h => kdrew (krealloc (by first | omega | (simp; done) | (simp; omega)) (kundrew h))) ((fun h => kdrew (krealloc (by first | omega | (simp; done) | (simp; omega)) (kundrew h))))))))))) (by with_reducible assumption) | with_reducible exact (And.imp (fun h => kset (by first | omega | (simp; done) | (simp; omega)) (kset (by first | omega | (simp; done) | (simp; omega)) (kset (by first | omega | (simp; done) | (simp; omega)) h))) (And.imp (fun h => kset (by first | omega | (simp; done) | (simp; omega)) (kset (by first | omega | (simp; done) | (simp; omega)) (kset (by first | omega | (simp; done) | (simp; omega)) h))) (And.imp (fun h => kset (by first | omega | (simp; done) | (simp; omega)) (kset (by first | omega | (simp; done) | (simp; omega)) (kset (by first | omega | (simp; done) | (simp; omega)) h))) (And.imp (fun h => kset (by first | omega | (simp; done) | (simp; omega)) (kset (by first | omega | (simp; done) | (simp; omega)) (kset (by first | omega | (simp; done) | (simp; omega)) h))) (And.imp (fun h => kset (by first | omega | (simp; done) | (simp; omega)) (kset (by first | omega | (simp; done) | (simp; omega)) (kset (by first | omega | (simp; done) | (simp; omega)) h))) (And.imp (fun h => kset (by first | omega | (simp; done) | (simp; omega)) (kset (by first | omega | (simp; done) | (simp; omega)) (kset (by first | omega | (simp; done) | (simp; omega)) h))) (And.imp (fun h => kset (by first | omega | (simp; done) | (simp; omega)) (kset (by first | omega | (simp; done) | (simp; omega)) (kset (by first | omega | (simp; done) | (simp; omega)) h))) ((fun h => kset (by first | omega | (simp; done) | (simp; omega)) (kset (by first | omega | (simp; done) | (simp; omega)) (kset (by first | omega | (simp; done) | (simp; omega)) h))))))))))) (by with_reducible assumption) | with_reducible exact (And.imp (fun h => kset (by first | omega | (simp; done) | (simp; omega)) (kset (by first | omega | (simp; done) | (simp; omega)) h)) (And.imp (fun h => kset (by first | omega | (simp; done) | (simp; omega)) (kset (by first | omega | (simp; done) | (simp; omega)) h)) (And.imp (fun h => kset (by first | omega | (simp; done) | (simp; omega)) (kset (by first | omega | (simp; done) | (simp; omega)) h)) (And.imp (fun h => kset (by first | omega | (simp; done) | (simp; omega)) (kset (by first | omega | (simp; done) | (simp; omega)) h)) (And.imp (fun h => kset (by first | omega | (simp; done) | (simp; omega)) (kset (by first | omega | (simp; done) | (simp; omega)) h)) (And.imp (fun h => kset (by first | omega | (simp; done) | (simp; omega)) (kset (by first | omega | (simp; done) | (simp; omega)) h)) (And.imp (fun h => kset (by first | omega | (simp; done) | (simp; omega)) (kset (by first | omega | (simp; done) | (simp; omega)) h)) ((fun h => kset (by first | omega | (simp; done) | (simp; omega)) (kset (by first | omega | (simp; done) | (simp; omega)) h)))))))))) (by with_reducible assumption) | with_reducible exact (And.imp (fun h => kset (by first | omega | (simp; done) | (simp; omega)) h) (And.imp (fun h => kset (by first | omega | (simp; done) | (simp; omega)) h) (And.imp (fun h => kset (by first | omega | (simp; done) | (simp; omega)) h) (And.imp (fun h => kset (by first | omega | (simp; done) | (simp; omega)) h) (And.imp (fun h => kset (by first | omega | (simp; done) | (simp; omega)) h) (And.imp (fun h => kset (by first | omega | (simp; done) | (simp; omega)) h) (And.imp (fun h => kset (by first | omega | (simp; done) | (simp; omega)) h) ((fun h => kset (by first | omega | (simp; done) | (simp; omega)) h))))))))) (by with_reducible assumption) | (simp; done)))
        (first | (go_at_call 40; refine Calls.mono (slope_any _ _ _ _) ?_; rintro e wq ⟨rfl, hB⟩; obtain ⟨hBc, hBf⟩ := bcell hB; have hBs := hB.size; (try simp at hBs); (try have hBq1 := Nat.lt_of_succ_le hBs); (try have hBq2 := Nat.lt_of_succ_lt hBq1); (try have hBq3 := Nat.lt_of_succ_lt hBq2); (try have hBzw0 : w.heap.size < wq.heap.size := (by omega)); (try have hBzw1 : w.heap.size + 1 < wq.heap.size := (by omega)); (try have hBzw2 : w.heap.size + 1 + 1 < wq.heap.size := (by omega))))
      all_goals
        have f0 : wq.frozen? ⟨w.heap.size + 1 + 1, 0, none⟩ = false := by
          repeat (first | exact q0 | refine kfro (by with_reducible assumption) (by first | assumption | (simp; done) | (simp; omega)) ?_)
        have f1 : wq.frozen? ⟨w.heap.size + 1 + 1, 1, none⟩ = false := by
          repeat (first | exact q1 | refine kfro (by with_reducible assumption) (by first | assumption | (simp; done) | (simp; omega)) ?_)
        clear hBc hBf
        go_wp2
        (refine bodyPost_ret (v := moR p l1 l2 l3 m1 m2 m3) (by simp [results, Try.results19, go_sem, HV.out.1, HV.out.2.1, HV.out.2.2, *]) rfl ⟨?_, ?_⟩)
        · rfl
        · (repeat (first | exact Below.refl _ _ | refine balloc ?_ _ | refine bdrewN ?_ _ | refine Below.drew ?_ | exact hW | refine bthen ?_ (by with_reducible assumption) | refine Below.setCell ?_ (by first | (simp; done) | (simp; omega)) _))
    · have HV := Lib.hid (mo_good (l3 := l3) (m3 := m3) h0 e)
      have hcmp : (l1 == m1 && l2 == m2) = false := by
        rw [Bool.and_eq_false_iff, beq_eq_false_iff_ne, beq_eq_false_iff_ne]; omega
      clear e
      go_enter Try.func19, Try.ntmps19
      (go_wp2_with fail; refine Calls.mono (implLines2 _ _ _ _ _ _ _ _ _ (by simp)) ?_; rintro e w1 ⟨rfl, hB1⟩; obtain ⟨hB1c, hB1f⟩ := bcell hB1; have hB1s := hB1.size; (try simp at hB1s); (try have hB1q1 := Nat.lt_of_succ_le hB1s); (try have hB1q2 := Nat.lt_of_succ_lt hB1q1); (try have hB1q3 := Nat.lt_of_succ_lt hB1q2); (try have hB1zw0 : w.heap.size < w1.heap.size := (by omega)); (try have hB1zw1 : w.heap.size + 1 < w1.heap.size := (by omega)); (try have hB1zw2 : w.heap.size + 1 + 1 < w1.heap.size := (by omega)))
      (go_wp2_with fail; refine Calls.mono (codeFor_any _ _ _) ?_; rintro e w' ⟨rfl, rfl⟩)
      go_wp2_with fail
      have b0 : w1.cell? ⟨w.heap.size, 0, none⟩ = some (.int .i64 l1) := by
        refine kcall hB1 ?_
        repeat (first | exact kfresh (by first | rfl | (simp; done)) (by rfl) | refine kalloc _ ?_)
      have b1 : w1.cell? ⟨w.heap.size, 1, none⟩ = some (.int .i64 l2) := by
        refine kcall hB1 ?_
        repeat (first | exact kfresh (by first | rfl | (simp; done)) (by rfl) | refine kalloc _ ?_)
      have b2 : w1.cell? ⟨w.heap.size, 2, none⟩ = some (.int .i64 l3) := by
        refine kcall hB1 ?_
        repeat (first | exact kfresh (by first | rfl | (simp; done)) (by rfl) | refine kalloc _ ?_)
      have b3 : w1.cell? ⟨w.heap.size + 1, 0, none⟩ = some (.int .i64 m1) := by
        refine kcall hB1 ?_
        repeat (first | exact kfresh (by first | rfl | (simp; done)) (by rfl) | refine kalloc _ ?_)
      have b4 : w1.cell? ⟨w.heap.size + 1, 1, none⟩ = some (.int .i64 m2) := by
        refine kcall hB1 ?_
        repeat (first | exact kfresh (by first | rfl | (simp; done)) (by rfl) | refine kalloc _ ?_)
      have b5 : w1.cell? ⟨w.heap.size + 1, 2, none⟩ = some (.int .i64 m3) := by
        refine kcall hB1 ?_
        repeat (first | exact kfresh (by first | rfl | (simp; done)) (by rfl) | refine kalloc _ ?_)
      have r0 : w1.cell? ⟨w.heap.size + 1 + 1, 0, none⟩ = some (.int .i64 0) := by
        refine kcall hB1 ?_
        repeat (first | exact kfresh (by first | rfl | (simp; done)) (by rfl) | refine kalloc _ ?_)
      have r1 : w1.cell? ⟨w.heap.size + 1 + 1, 1, none⟩ = some (.int .i64 0) := by
        refine kcall hB1 ?_
        repeat (first | exact kfresh (by first | rfl | (simp; done)) (by rfl) | refine kalloc _ ?_)
      have q0 : w1.frozen? ⟨w.heap.size + 1 + 1, 0, none⟩ = false := kfro hB1 (by first | (simp; done) | (simp; omega)) (fallocNew (by first | rfl | (simp; done)))
      have q1 : w1.frozen? ⟨w.heap.size + 1 + 1, 1, none⟩ = false := kfro hB1 (by first | (simp; done) | (simp; omega)) (fallocNew (by first | rfl | (simp; done)))
      have hW : Below w.heap.size w w1 := by (repeat (first | exact Below.refl _ _ | refine balloc ?_ _ | refine bdrewN ?_ _ | refine Below.drew ?_ | refine bthen ?_ hB1 | refine Below.setCell ?_ (by first | (simp; done) | (simp; omega)) _))
      go_region_held3 (fun W => W.cell? ⟨w.heap.size, 0, none⟩ = some (.int .i64 l1) ∧ W.cell? ⟨w.heap.size, 1, none⟩ = some (.int .i64 l2) ∧ W.cell? ⟨w.heap.size, 2, none⟩ = some (.int .i64 l3) ∧ W.cell? ⟨w.heap.size + 1, 0, none⟩ = some (.int .i64 m1) ∧ W.cell? ⟨w.heap.size + 1, 1, none⟩ = some (.int .i64 m2) ∧ W.cell? ⟨w.heap.size + 1, 2, none⟩ = some (.int .i64 m3) ∧ W.cell? ⟨w.heap.size + 1 + 1, 0, none⟩ = some (.int .i64 0) ∧ W.cell? ⟨w.heap.size + 1 + 1, 1, none⟩ = some (.int .i64 0))
        (first | exact ⟨b0, b1, b2, b3, b4, b5, r0, r1⟩ | (first | with_reducible assumption | with_reducible exact (And.imp (kcall hB) (And.imp (kcall hB) (And.imp (kcall hB) (And.imp (kcall hB) (And.imp (kcall hB) (And.imp (kcall hB) (And.imp (kcall hB) ((kcall hB))))))))) (by with_reducible assumption) | with_reducible exact (And.imp (kalloc _) (And.imp (kalloc _) (And.imp (kalloc _) (And.imp (kalloc _) (And.imp (kalloc _) (And.imp (kalloc _) (And.imp (kalloc _) ((kalloc _))))))))) (by with_reducible assumption) | with_reducible exact (And.imp (krealloc (by first | omega | (simp; done) | (simp; omega))) (And.imp (krealloc (by first | omega | (simp; done) | (simp; omega))) (And.imp (krealloc (by first | omega | (simp; done) | (simp; omega))) (And.imp (krealloc (by first | omega | (simp; done) | (simp; omega))) (And.imp (krealloc (by first | omega | (simp; done) | (simp; omega))) (And.imp (krealloc (by first | omega | (simp; done) | (simp; omega))) (And.imp (krealloc (by first | omega | (simp; done) | (simp; omega))) ((krealloc (by first | omega | (simp; done) | (simp; omega))))))))))) (by with_reducible assumption) | with_reducible exact (And.imp (fun h => kdrew (kalloc _ (kundrew h))) (And.imp (fun h => kdrew (kalloc _ (kundrew h))) (And.imp (fun h => kdrew (kalloc _ (kundrew h))) (And.imp (fun h => kdrew (kalloc _ (kundrew h))) (And.imp (fun h => kdrew (kalloc _ (kundrew h))) (And.imp (fun h => kdrew (kalloc _ (kundrew h))) (And.imp (fun h => kdrew (kalloc _ (kundrew h))) ((fun h => kdrew (kalloc _ (kundrew h))))))))))) (by with_reducible assumption) | with_reducible exact (And.imp (fun h => kdrew (krealloc (by first | omega | (simp; done) | (simp; omega)) (kundrew h))) (And.imp (fun h => kdrew (krealloc (by first | omega | (simp; done) | (simp; omega)) (kundrew h))) (And.imp (fun h => kdrew (krealloc (by first | omega | (simp; done) | (simp; omega)) (kundrew h))) (And.imp (fun h => kdrew (krealloc (by first | omega | (simp; done) | (simp; omega)) (kundrew h))) (And.imp (fun h => kdrew (krealloc (by first | omega | (simp; done) | (simp; omega)) (kundrew h))) (And.imp (fun h => kdrew (krealloc (by first | omega | (simp; done) | (simp; omega)) (kundrew h))) (And.imp (fun h => kdrew (krealloc (by first | omega | (simp; done) | (simp; omega)) (kundrew h))) ((fun h => kdrew (krealloc (by first | omega | (simp; done) | (simp; omega)) (kundrew h))))))))))) (by with_reducible assumption) | with_reducible exact (And.imp (fun h => kset (by first | omega | (simp; done) | (simp; omega)) (kset (by first | omega | (simp; done) | (simp; omega)) (kset (by first | omega | (simp; done) | (simp; omega)) h))) (And.imp (fun h => kset (by first | omega | (simp; done) | (simp; omega)) (kset (by first | omega | (simp; done) | (simp; omega)) (kset (by first | omega | (simp; done) | (simp; omega)) h))) (And.imp (fun h => kset (by first | omega | (simp; done) | (simp; omega)) (kset (by first | omega | (simp; done) | (simp; omega)) (kset (by first | omega | (simp; done) | (simp; omega)) h))) (And.imp (fun h => kset (by first | omega | (simp; done) | (simp; omega)) (kset (by first | omega | (simp; done) | (simp; omega)) (kset (by first | omega | (simp; done) | (simp; omega)) h))) (And.imp (fun h => kset (by first | omega | (simp; done) | (simp; omega)) (kset (by first | omega | (simp; done) | (simp; omega)) (kset (by first | omega | (simp; done) | (simp; omega)) h))) (And.imp (fun h => kset (by first | omega | (simp; done) | (simp; omega)) (kset (by first | omega | (simp; done) | (simp; omega)) (kset (by first | omega | (simp; done) | (simp; omega)) h))) (And.imp (fun h => kset (by first | omega | (simp; done) | (simp; omega)) (kset (by first | omega | (simp; done) | (simp; omega)) (kset (by first | omega | (simp; done) | (simp; omega)) h))) ((fun h => kset (by first | omega | (simp; done) | (simp; omega)) (kset (by first | omega | (simp; done) | (simp; omega)) (kset (by first | omega | (simp; done) | (simp; omega)) h))))))))))) (by with_reducible assumption) | with_reducible exact (And.imp (fun h => kset (by first | omega | (simp; done) | (simp; omega)) (kset (by first | omega | (simp; done) | (simp; omega)) h)) (And.imp (fun h => kset (by first | omega | (simp; done) | (simp; omega)) (kset (by first | omega | (simp; done) | (simp; omega)) h)) (And.imp (fun h => kset (by first | omega | (simp; done) | (simp; omega)) (kset (by first | omega | (simp; done) | (simp; omega)) h)) (And.imp (fun h => kset (by first | omega | (simp; done) | (simp; omega)) (kset (by first | omega | (simp; done) | (simp; omega)) h)) (And.imp (fun h => kset (by first | omega | (simp; done) | (simp; omega)) (kset (by first | omega | (simp; done) | (simp; omega)) h)) (And.imp (fun h => kset (by first | omega | (simp; done) | (simp; omega)) (kset (by first | omega | (simp; done) | (simp; omega)) h)) (And.imp (fun h => kset (by first | omega | (simp; done) | (simp; omega)) (kset (by first | omega | (simp; done) | (simp; omega)) h)) ((fun h => kset (by first | omega | (simp; done) | (simp; omega)) (kset (by first | omega | (simp; done) | (simp; omega)) h)))))))))) (by with_reducible assumption) | with_reducible exact (And.imp (fun h => kset (by first | omega | (simp; done) | (simp; omega)) h) (And.imp (fun h => kset (by first | omega | (simp; done) | (simp; omega)) h) (And.imp (fun h => kset (by first | omega | (simp; done) | (simp; omega)) h) (And.imp (fun h => kset (by first | omega | (simp; done) | (simp; omega)) h) (And.imp (fun h => kset (by first | omega | (simp; done) | (simp; omega)) h) (And.imp (fun h => kset (by first | omega | (simp; done) | (simp; omega)) h) (And.imp (fun h => kset (by first | omega | (simp; done) | (simp; omega)) h) ((fun h => kset (by first | omega | (simp; done) | (simp; omega)) h))))))))) (by with_reducible assumption) | (simp; done)))
        (first | (go_at_call 40; refine Calls.mono (slope_any _ _ _ _) ?_; rintro e wq ⟨rfl, hB⟩; obtain ⟨hBc, hBf⟩ := bcell hB; have hBs := hB.size; (try simp at hBs); (try have hBq1 := Nat.lt_of_succ_le hBs); (try have hBq2 := Nat.lt_of_succ_lt hBq1); (try have hBq3 := Nat.lt_of_succ_lt hBq2); (try have hBzw0 : w.heap.size < wq.heap.size := (by omega)); (try have hBzw1 : w.heap.size + 1 < wq.heap.size := (by omega)); (try have hBzw2 : w.heap.size + 1 + 1 < wq.heap.size := (by omega))))
      all_goals
        have f0 : wq.frozen? ⟨w.heap.size + 1 + 1, 0, none⟩ = false := by
          repeat (first | exact q0 | refine kfro (by with_reducible assumption) (by first | assumption | (simp; done) | (simp; omega)) ?_)
        have f1 : wq.frozen? ⟨w.heap.size + 1 + 1, 1, none⟩ = false := by
          repeat (first | exact q1 | refine kfro (by with_reducible assumption) (by first | assumption | (simp; done) | (simp; omega)) ?_)
        clear hBc hBf
        (go_wp2_with fail; refine Calls.mono (rest_any _ _ _ (by omega) (by omega) (by omega) (by omega)) ?_; rintro e w' ⟨rfl, rfl⟩)
        go_wp2_with fail
        refine Calls.mono (implInverse_any _ _ _ hp (by omega) (by omega)) ?_
        rw [← HH.out]
        rintro e w' ⟨rfl, rfl⟩
        (go_wp2_with fail; refine Calls.mono (rest_any _ _ _ (by omega) (by omega) (by omega) (by omega)) ?_; rintro e w' ⟨rfl, rfl⟩)
        (go_wp2_with fail; refine Calls.mono (rest_any _ _ _ (by omega) (by omega) (by omega) (by omega)) ?_; rintro e w' ⟨rfl, rfl⟩)
        go_wp2_with fail
        (refine region_tail 11 (by kernel_rfl) (by kernel_rfl) ?_; simp only [List.take_succ_cons, List.take_zero, List.drop_succ_cons, List.drop_zero]; repeat still_step)
        refine wpStill_nil ?_
        go_wp2
        (refine bodyPost_ret (v := moR p l1 l2 l3 m1 m2 m3) (by simp [results, Try.results19, go_sem, HV.out.1, HV.out.2.1, HV.out.2.2, HX.out.1, HX.out.2, *]) rfl ⟨?_, ?_⟩)
        · rfl
        · (repeat (first | exact Below.refl _ _ | refine balloc ?_ _ | refine bdrewN ?_ _ | refine Below.drew ?_ | exact hW | refine bthen ?_ (by with_reducible assumption) | refine Below.setCell ?_ (by first | (simp; done) | (simp; omega)) _))
  all_goals
    have HV := Lib.hid (mo_err h0 (by omega))
    go_enter Try.func19, Try.ntmps19
    (go_wp2_with fail; refine Calls.mono (implLines2 _ _ _ _ _ _ _ _ _ (by simp)) ?_; rintro e w1 ⟨rfl, hB1⟩; obtain ⟨hB1c, hB1f⟩ := bcell hB1; have hB1s := hB1.size; (try simp at hB1s); (try have hB1q1 := Nat.lt_of_succ_le hB1s); (try have hB1q2 := Nat.lt_of_succ_lt hB1q1); (try have hB1q3 := Nat.lt_of_succ_lt hB1q2); (try have hB1zw0 : w.heap.size < w1.heap.size := (by omega)); (try have hB1zw1 : w.heap.size + 1 < w1.heap.size := (by omega)); (try have hB1zw2 : w.heap.size + 1 + 1 < w1.heap.size := (by omega)))
    (go_wp2_with fail; refine Calls.mono (codeFor_any _ _ _) ?_; rintro e w' ⟨rfl, rfl⟩)
    go_wp2
    (refine bodyPost_ret (v := moR p l1 l2 l3 m1 m2 m3) (by simp [results, Try.results19, go_sem, HV.out.1, HV.out.2.1, HV.out.2.2, *]) rfl ⟨?_, ?_⟩)
    · rfl
    · (repeat (first | exact Below.refl _ _ | refine balloc ?_ _ | refine bdrewN ?_ _ | refine Below.drew ?_ | refine bthen ?_ hB1 | refine Below.setCell ?_ (by first | (simp; done) | (simp; omega)) _))

end Go.Proofs.Ytcddbcpdjgcejab
