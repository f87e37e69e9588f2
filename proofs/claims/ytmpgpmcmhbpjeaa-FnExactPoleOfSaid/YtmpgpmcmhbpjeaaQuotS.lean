/-
  impl.quotient keeps the world; an own slice of two numbers.
-/
import Derived.Test.YtmpgpmcmhbpjeaaImplInv
import Derived.Test.YtmpgpmcmhbpjeaaImplSlope
import Derived.Test.YtmpgpmcmhbpjeaaGrow
import Derived.Deep.RegionLaw
namespace Go.Proofs.Ytmpgpmcmhbpjeaa
open Go.RowKit

set_option linter.unusedSimpArgs false in
set_option maxRecDepth 20000 in
set_option maxHeartbeats 4000000 in
theorem quotientS_any (p a b : Int) (w : World) (hp : isP p = true) (ha : 0 ≤ a ∧ a ≤ 8388608) (hb : 0 ≤ b ∧ b ≤ 8388608) :
    Calls Try.prog 77 #[.int .i64 p, .int .i64 a, .int .i64 b] w fun e w' =>
      e = .returned (.int .i64 (a * inv p b % p)) ∧ w = w' := by
  have hr := isP_range hp
  obtain ⟨v1, hv1⟩ : ∃ v : Int, v = inv p b := ⟨_, rfl⟩
  have rv1 := inv_range b hp
  rw [← hv1] at rv1
  have Hv1 := Lib.hid hv1
  clear hv1
  have mu_1 := mulNN 8388608 30 251658240 (by decide) (a := a) (b := v1) (by omega) (by omega)
  have d_1 := modR (a * v1) hp
  have hpos : p ≠ 0 := by omega
  go_enter Try.func77, Try.ntmps77
  go_wp2_with fail
  refine Calls.mono (implInverse_any _ _ _ hp (by omega) (by omega)) ?_
  rw [← Hv1.out]
  rintro e w' ⟨rfl, rfl⟩
  have HV := Lib.hid (show a * inv p b % p = (a * v1) % p from by
    rw [Hv1.out])
  go_wp2
  (refine bodyPost_ret (v := .int .i64 (a * inv p b % p)) (by simp [results, Try.results77, go_sem, HV.out, *]) rfl ⟨?_, ?_⟩)
  · rfl
  · rfl
/-- append to an own slice, as one step of a region that draws. -/
theorem step_append_own {P : Program} {ops : Array Oper} {o : Oper} {a : Act} {w : World} {K : Act → World → Prop} {Q : Exit → Act → World → Prop} {E : Prop}
    (hg : o.guard = none) (s x : Operand) (t : TypeId) (hop : o.op = Op.call { callee := Callee.builtin Builtin.append, args := #[s, x], argTypes := #[t, t] })
    (base : Nat) (e : TypeId) (i : TypeInfo) (z : Value) (size bytes : Nat) (ht : P.underlying t = some (.slice e)) (hi : P.info? e = some i) (hz : i.zero = some z) (hsize : i.size = size) (hby : i.bytes = bytes) (hzs : z.cells.size = size) (hsz : 0 < size)
    (v : Value) (n : Nat) (xs : List Value) (hs : a.eval s = v) (hown : w.ownsRow base e size v n xs)
    (ad : Addr) (m c : Nat) (news : List Value) (hx : a.eval x = .slice (some ad) m c) (hl : news.length = m * size) (hnews : ∀ j u, news[j]? = some u → w.cell? (ad.add j) = some u) (h1 : ∀ u ∈ news, u.oneCell' = true)
    (h63 : n + m ≤ maxLen) (hbytes : (n + m) * bytes ≤ 140737488355328) (hbase : base ≤ w.heap.size)
    (h : ∀ v' w', w'.ownsRow base e size v' (n + m) (xs ++ news) → w.grownBy w' v.ownBlock → K (a.put o.dst v') w') :
    if Region.wanted o (yielded ops a.tmps) = true then Oper.wp P o a w K Q else E := by
  have hw : Region.wanted o (yielded ops a.tmps) = true := by simp [Region.wanted, hg]
  rw [if_pos hw]
  exact wp_append_own w s x t hop base e i z size bytes ht hi hz hsize hby hzs hsz v n xs hs hown ad m c news hx hl hnews h1 h63 hbytes hbase fun v' w' h2 h3 _ => h v' w' h2 h3
theorem own_drew {w : World} {base n k : Nat} {e : TypeId} {v : Value} {xs : List Value} (h : w.ownsRow base e k v n xs) : w.drew.ownsRow base e k v n xs := h
/-- A number of the centroid. -/
def ctr (p x y z : Int) : Int := (x + y + z) * inv p 3 % p
theorem ctr_r (p x y z : Int) (h : isP p = true) : 0 ≤ ctr p x y z ∧ ctr p x y z < p := modR _ h
theorem ctr_spec (x y z : Int) {p : Int} (hp : isP p = true) : ctr p x y z = inv p (3 % p) * ((x + (y + z) % p) % p) % p := by
  rw [inv_mod]
  obtain ⟨n, rfl⟩ := Int.eq_ofNat_of_zero_le (by have := isP_range hp; omega : 0 ≤ p)
  haveI := neZero_of hp
  rw [ctr, ← K_ext]
  simp only [K_add, K_mul, K_mod]
  grind

end Go.Proofs.Ytmpgpmcmhbpjeaa
