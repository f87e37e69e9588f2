/-
  The law's walk: NullPlaces.
-/
import Derived.Test.YtgklnlblghookaaENullPlaces
import Derived.Test.YtgklnlblghookaaArrPlaces
import Derived.Deep.RegionHeld3
import Derived.Deep.DeepCutAuto
namespace Go.Proofs.Ytgklnlblghookaa
open Go.RowKit

set_option maxRecDepth 20000 in
set_option maxHeartbeats 4000000 in
theorem exactNullPlaces_walk (a0 : Int) (w : World) :
    Calls Try.prog 6 #[.int .i64 a0] w fun e w' => e = .returned (.bool true) ∧ Below w.heap.size w w' := by
  have hlen := Lib.hid (nplo_len a0)
  go_enter Try.func6, Try.ntmps6
  (go_wp2_with fail; refine Calls.mono (specNullPlaces_any _ _) ?_; rintro e w1 ⟨v0, n0, rfl, ho0, hB1⟩; obtain ⟨hB1c, hB1f⟩ := bcell hB1; have hB1s := hB1.size; (try simp at hB1s); (try have hB1q1 := Nat.lt_of_succ_le hB1s); (try have hB1q2 := Nat.lt_of_succ_lt hB1q1); (try have hB1q3 := Nat.lt_of_succ_lt hB1q2); (try have hB1zw0 : w.heap.size < w1.heap.size := (by omega)); (try have hB1zw1 : w.heap.size + 1 < w1.heap.size := (by omega)); (try have hB1zw2 : w.heap.size + 1 + 1 < w1.heap.size := (by omega)); (try have hB1zw3 : w.heap.size + 1 + 1 + 1 < w1.heap.size := (by omega)); (try have hB1zw4 : w.heap.size + 1 + 1 + 1 + 1 < w1.heap.size := (by omega)))
  (go_wp2_with fail; refine Calls.mono (implNullPlaces_any _ _) ?_; rintro e w2 ⟨v1, n1, rfl, ho1, hB2⟩; obtain ⟨hB2c, hB2f⟩ := bcell hB2; have hB2s := hB2.size; (try simp at hB2s); (try have hB2q1 := Nat.lt_of_succ_le hB2s); (try have hB2q2 := Nat.lt_of_succ_lt hB2q1); (try have hB2q3 := Nat.lt_of_succ_lt hB2q2); (try have hB2zw0 : w.heap.size < w2.heap.size := (by omega)); (try have hB2zw1 : w.heap.size + 1 < w2.heap.size := (by omega)); (try have hB2zw2 : w.heap.size + 1 + 1 < w2.heap.size := (by omega)); (try have hB2zw3 : w.heap.size + 1 + 1 + 1 < w2.heap.size := (by omega)); (try have hB2zw4 : w.heap.size + 1 + 1 + 1 + 1 < w2.heap.size := (by omega)); (try have hB2zw10 : w1.heap.size < w2.heap.size := (by omega)); (try have hB2zw11 : w1.heap.size + 1 < w2.heap.size := (by omega)); (try have hB2zw12 : w1.heap.size + 1 + 1 < w2.heap.size := (by omega)); (try have hB2zw13 : w1.heap.size + 1 + 1 + 1 < w2.heap.size := (by omega)); (try have hB2zw14 : w1.heap.size + 1 + 1 + 1 + 1 < w2.heap.size := (by omega)))
  have hab : Below w1.heap.size w1 w2 := by (repeat (first | exact Below.refl _ _ | refine balloc ?_ _ | refine bdrewN ?_ _ | refine Below.drew ?_ | refine bthen ?_ hB2 | refine Below.setCell ?_ (by first | (simp; done) | (simp; omega)) _))
  have hx : Below w.heap.size w w2 := by (repeat (first | exact Below.refl _ _ | refine balloc ?_ _ | refine bdrewN ?_ _ | refine Below.drew ?_ | refine bthen ?_ hB1 | refine bthen ?_ hB2 | refine Below.setCell ?_ (by first | (simp; done) | (simp; omega)) _))
  have hg : w2.ownsRow w1.heap.size 23 3 v1 n1 (ints (nploL a0)) := own_base ho1 (by first | omega | exact Nat.le_refl _ | (have := hB2.size; omega))
  have hA : Below w.heap.size w w1 := by (repeat (first | exact Below.refl _ _ | refine balloc ?_ _ | refine bdrewN ?_ _ | refine Below.drew ?_ | refine bthen ?_ hB1 | refine Below.setCell ?_ (by first | (simp; done) | (simp; omega)) _))
  have hs1 := hab.size
  have ho0lt := Lib.hid (fun g (hg : v0.ownBlock = some g) => (ho0.lt g hg).2)
  have ho0b := own_call ho0 hab
  obtain rfl : n1 = n0 := own_same hg ho0b
  have hn : n1 ≤ 4096 := own_few hg hlen.out (by decide)
  have hnn : (0 : Int) ≤ 1 + (n1 : Int) * 3 := by omega
  (go_wp2_with fail; refine Calls.mono (eqPlaces_same hg ho0b) ?_; rintro e w3 ⟨rfl, hB3e⟩; obtain ⟨hB3ec, hB3ef⟩ := bcell hB3e; have hB3es := hB3e.size; (try simp at hB3es); (try have hB3eq1 := Nat.lt_of_succ_le hB3es); (try have hB3eq2 := Nat.lt_of_succ_lt hB3eq1); (try have hB3eq3 := Nat.lt_of_succ_lt hB3eq2); (try have hB3ezw0 : w.heap.size < w3.heap.size := (by omega)); (try have hB3ezw1 : w.heap.size + 1 < w3.heap.size := (by omega)); (try have hB3ezw2 : w.heap.size + 1 + 1 < w3.heap.size := (by omega)); (try have hB3ezw3 : w.heap.size + 1 + 1 + 1 < w3.heap.size := (by omega)); (try have hB3ezw4 : w.heap.size + 1 + 1 + 1 + 1 < w3.heap.size := (by omega)); (try have hB3ezw20 : w2.heap.size < w3.heap.size := (by omega)); (try have hB3ezw21 : w2.heap.size + 1 < w3.heap.size := (by omega)); (try have hB3ezw22 : w2.heap.size + 1 + 1 < w3.heap.size := (by omega)); (try have hB3ezw23 : w2.heap.size + 1 + 1 + 1 < w3.heap.size := (by omega)); (try have hB3ezw24 : w2.heap.size + 1 + 1 + 1 + 1 < w3.heap.size := (by omega)))
  have hg3 := own_call hg hB3e
  have ho3 := own_call ho0b hB3e
  clear hg ho0b ho0
  (go_wp2_with fail; refine Calls.mono (markPlaces_1 hg3 (by omega)) ?_; rintro e w4 ⟨rfl, hg4, hB4⟩)
  have hs3 := hB3e.size
  have hs4 := hB4.size
  have ho4 := own_below ho3 hB4 ho0lt.out
  clear ho3
  have hx4 : Below w.heap.size w w4 := (bthen hx hB3e).trans (hB4.mono (by have := hA.size; omega))
  (go_wp2_with fail; refine Calls.mono (heldPlaces_1 hg4 (by omega)) ?_; rintro e w' ⟨rfl, rfl⟩)
  (go_wp2_with fail; refine Calls.mono (implNullPlaces_any _ _) ?_; rintro e w6 ⟨v2, n2, rfl, ho2, hB6⟩; obtain ⟨hB6c, hB6f⟩ := bcell hB6; have hB6s := hB6.size; (try simp at hB6s); (try have hB6q1 := Nat.lt_of_succ_le hB6s); (try have hB6q2 := Nat.lt_of_succ_lt hB6q1); (try have hB6q3 := Nat.lt_of_succ_lt hB6q2); (try have hB6zw0 : w.heap.size < w6.heap.size := (by omega)); (try have hB6zw1 : w.heap.size + 1 < w6.heap.size := (by omega)); (try have hB6zw2 : w.heap.size + 1 + 1 < w6.heap.size := (by omega)); (try have hB6zw3 : w.heap.size + 1 + 1 + 1 < w6.heap.size := (by omega)); (try have hB6zw4 : w.heap.size + 1 + 1 + 1 + 1 < w6.heap.size := (by omega)); (try have hB6zw40 : w4.heap.size < w6.heap.size := (by omega)); (try have hB6zw41 : w4.heap.size + 1 < w6.heap.size := (by omega)); (try have hB6zw42 : w4.heap.size + 1 + 1 < w6.heap.size := (by omega)); (try have hB6zw43 : w4.heap.size + 1 + 1 + 1 < w6.heap.size := (by omega)); (try have hB6zw44 : w4.heap.size + 1 + 1 + 1 + 1 < w6.heap.size := (by omega)))
  have h46 : Below w4.heap.size w4 w6 := by (repeat (first | exact Below.refl _ _ | refine balloc ?_ _ | refine bdrewN ?_ _ | refine Below.drew ?_ | refine bthen ?_ hB6 | refine Below.setCell ?_ (by first | (simp; done) | (simp; omega)) _))
  have hg6 := own_call hg4 h46
  have ho6 := own_call ho4 h46
  clear hg4 ho4
  obtain rfl : n2 = n1 := own_same ho2 ho6
  (go_wp2_with fail; refine Calls.mono (eqPlaces_same ho2 ho6) ?_; rintro e w7 ⟨rfl, hB7⟩; obtain ⟨hB7c, hB7f⟩ := bcell hB7; have hB7s := hB7.size; (try simp at hB7s); (try have hB7q1 := Nat.lt_of_succ_le hB7s); (try have hB7q2 := Nat.lt_of_succ_lt hB7q1); (try have hB7q3 := Nat.lt_of_succ_lt hB7q2); (try have hB7zw0 : w.heap.size < w7.heap.size := (by omega)); (try have hB7zw1 : w.heap.size + 1 < w7.heap.size := (by omega)); (try have hB7zw2 : w.heap.size + 1 + 1 < w7.heap.size := (by omega)); (try have hB7zw3 : w.heap.size + 1 + 1 + 1 < w7.heap.size := (by omega)); (try have hB7zw4 : w.heap.size + 1 + 1 + 1 + 1 < w7.heap.size := (by omega)); (try have hB7zw60 : w6.heap.size < w7.heap.size := (by omega)); (try have hB7zw61 : w6.heap.size + 1 < w7.heap.size := (by omega)); (try have hB7zw62 : w6.heap.size + 1 + 1 < w7.heap.size := (by omega)); (try have hB7zw63 : w6.heap.size + 1 + 1 + 1 < w7.heap.size := (by omega)); (try have hB7zw64 : w6.heap.size + 1 + 1 + 1 + 1 < w7.heap.size := (by omega)))
  have hg7 := own_call hg6 hB7
  clear hg6 ho6 ho2
  (go_wp2_with fail; refine Calls.mono (heldPlaces_1 hg7 (by omega)) ?_; rintro e w' ⟨rfl, rfl⟩)
  go_wp2
  go_ret
  exact ⟨rfl, bthen (bthen hx4 h46) hB7⟩

end Go.Proofs.Ytgklnlblghookaa
