/-
  The law's walk: OrdersOf.
-/
import Derived.Test.YtinfjbaloppgkaaEOrdersOf
import Derived.Test.YtinfjbaloppgkaaMarkTwo
import Derived.Deep.RegionHeld3
import Derived.Deep.DeepCutAuto
namespace Go.Proofs.Ytinfjbaloppgkaa
open Go.RowKit

set_option maxRecDepth 20000 in
set_option maxHeartbeats 4000000 in
theorem exactOrdersOf_walk (a0 : Int) (w : World) :
    Calls Try.prog 11 #[.int .i64 a0] w fun e w' => e = .returned (.bool true) ∧ Below w.heap.size w w' := by
  have hlen := Lib.hid (yOO_len a0)
  go_enter Try.func11, Try.ntmps11
  (go_wp2_with fail; refine Calls.mono (specOrdersOf_any _ _) ?_; rintro e w1 ⟨v0, n0, u0, m0, rfl, ho0, hp0, hB1⟩)
  (go_wp2_with fail; refine Calls.mono (implOrdersOf_any _ _) ?_; rintro e w2 ⟨v1, n1, u1, m1, rfl, ho1, hp1, hB2, hap⟩)
  have HAP := Lib.hid hap
  have hx : Below w.heap.size w w2 := bthen hB1 hB2
  have hs1 := hB2.size
  have hs0 := hB1.size
  have ho0lt := Lib.hid (fun g (hg : v0.ownBlock = some g) => (ho0.lt g hg).2)
  have hp0lt := Lib.hid (fun g (hg : u0.ownBlock = some g) => (hp0.lt g hg).2)
  have ho0b := own_call ho0 hB2
  have hp0b := own_call hp0 hB2
  obtain rfl : n1 = n0 := own_same ho1 ho0b
  obtain rfl : m1 = m0 := own_same hp1 hp0b
  have hn : n1 ≤ 4096 := own_few ho1 hlen.out.1 (by decide)
  have hm : m1 ≤ 4096 := own_few hp1 hlen.out.2 (by decide)
  have hnn : (0 : Int) ≤ 1 + (n1 : Int) := by omega
  have hnm : (0 : Int) ≤ 1 + (n1 : Int) + (m1 : Int) := by omega
  clear ho0 hp0 hap
  (go_wp2_with fail; refine Calls.mono (eqInts_same ho1 ho0b) ?_; rintro e w3 ⟨rfl, hB3⟩)
  have ho1c := own_call ho1 hB3
  have hp1c := own_call hp1 hB3
  have ho0c := own_call ho0b hB3
  have hp0c := own_call hp0b hB3
  have hx3 : Below w.heap.size w w3 := bthen hx hB3
  have hs3 := hB3.size
  clear ho1 hp1 ho0b hp0b
  (go_wp2_with fail; refine Calls.mono (eqInts_same hp1c hp0c) ?_; rintro e w4 ⟨rfl, hB4⟩)
  have ho1d := own_call ho1c hB4
  have hp1d := own_call hp1c hB4
  have ho0d := own_call ho0c hB4
  have hp0d := own_call hp0c hB4
  have hx4 : Below w.heap.size w w4 := bthen hx3 hB4
  have hs4 := hB4.size
  clear ho1c hp1c ho0c hp0c
  (go_wp2_with fail; refine Calls.mono (markTwo_1 ho1d hp1d HAP.out (by omega)) ?_; rintro e w5 ⟨rfl, ho1e, hB5, hp1e⟩)
  have ho0e := own_below ho0d hB5 ho0lt.out
  have hp0e := own_below hp0d hB5 hp0lt.out
  have hx5 : Below w.heap.size w w5 := hx4.trans (hB5.mono (by omega))
  have hs5 := hB5.size
  clear ho1d hp1d ho0d hp0d
  (go_wp2_with fail; refine Calls.mono (markTwo_2 hp1e ho1e HAP.out (by omega) (by omega)) ?_; rintro e w6 ⟨rfl, hp1f, hB6, ho1f⟩)
  have ho0f := own_below ho0e hB6 ho0lt.out
  have hp0f := own_below hp0e hB6 hp0lt.out
  have hx6 : Below w.heap.size w w6 := hx5.trans (hB6.mono (by omega))
  have hs6 := hB6.size
  clear ho1e hp1e ho0e hp0e
  (go_wp2_with fail; refine Calls.mono (heldInts_1 ho1f (by omega)) ?_; rintro e w' ⟨rfl, rfl⟩)
  (go_wp2_with fail; refine Calls.mono (heldTwo_2 hp1f (by omega) (by omega)) ?_; rintro e w' ⟨rfl, rfl⟩)
  (go_wp2_with fail; refine Calls.mono (implOrdersOf_any _ _) ?_; rintro e w7 ⟨v2, n2, u2, m2, rfl, ho2, hp2, hB7, _⟩)
  have ho1g := own_call ho1f hB7
  have hp1g := own_call hp1f hB7
  have ho0g := own_call ho0f hB7
  have hp0g := own_call hp0f hB7
  have hx7 : Below w.heap.size w w7 := bthen hx6 hB7
  clear ho1f hp1f ho0f hp0f
  obtain rfl : n2 = n1 := own_same ho2 ho0g
  obtain rfl : m2 = m1 := own_same hp2 hp0g
  (go_wp2_with fail; refine Calls.mono (eqInts_same ho2 ho0g) ?_; rintro e w8 ⟨rfl, hB8⟩)
  have ho1h := own_call ho1g hB8
  have hp1h := own_call hp1g hB8
  have hp0h := own_call hp0g hB8
  have hp2h := own_call hp2 hB8
  have hx8 : Below w.heap.size w w8 := bthen hx7 hB8
  clear ho1g hp1g ho0g hp0g ho2 hp2
  (go_wp2_with fail; refine Calls.mono (eqInts_same hp2h hp0h) ?_; rintro e w9 ⟨rfl, hB9⟩)
  have ho1i := own_call ho1h hB9
  have hp1i := own_call hp1h hB9
  have hx9 : Below w.heap.size w w9 := bthen hx8 hB9
  clear ho1h hp1h hp0h hp2h
  (go_wp2_with fail; refine Calls.mono (heldInts_1 ho1i (by omega)) ?_; rintro e w' ⟨rfl, rfl⟩)
  (go_wp2_with fail; refine Calls.mono (heldTwo_2 hp1i (by omega) (by omega)) ?_; rintro e w' ⟨rfl, rfl⟩)
  go_wp2
  go_ret
  exact ⟨rfl, hx9⟩

end Go.Proofs.Ytinfjbaloppgkaa
