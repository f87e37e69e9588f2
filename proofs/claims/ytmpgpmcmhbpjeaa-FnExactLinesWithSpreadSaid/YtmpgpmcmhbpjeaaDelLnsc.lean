/-
  slices.IndexFunc and slices.DeleteFunc at lines, with the closure of impl.LinesWithSpread.
-/
import Derived.Test.YtmpgpmcmhbpjeaaMgc0
import Derived.Test.YtmpgpmcmhbpjeaaApartc
import Derived.Test.YtmpgpmcmhbpjeaaRows
import Derived.Lib.SliceRun
import Derived.WalkKit
import Derived.Lib.Hide

namespace Go.Proofs.Ytmpgpmcmhbpjeaa
open Go.RowKit

section
variable {P : Program}
theorem zero3 (n : Nat) : (Builtin.zeroCells #[Value.int .i64 0, Value.int .i64 0, Value.int .i64 0] n).toList = List.replicate (n * 3) (Value.int .i64 0) := by
  simp only [Builtin.zeroCells]
  apply List.ext_getElem
  · simp
  · intro i h1 h2
    have h3 : i % 3 = 0 ∨ i % 3 = 1 ∨ i % 3 = 2 := by omega
    simp only [Array.toList_map, Array.toList_range, List.getElem_map, List.getElem_range, List.getElem_replicate]
    rcases h3 with h | h | h <;> simp [h]
theorem run_clear3 (w : World) (t e ty : TypeId) (z : Value) (ht : P.underlying t = some (.slice e)) (hv : ∀ w, (zeroValue e).run P w = .ok z w) (hz : z.cells = #[.int .i64 0, .int .i64 0, .int .i64 0]) (b o n c : Nat) (hn : 0 < n)
    (hc : ∀ j, j < n * 3 → (w.cell? ⟨b, o + j, none⟩).isSome = true) (hf : ∀ j, j < n * 3 → w.frozen? ⟨b, o + j, none⟩ = false) :
    (Builtin.clear_ #[t] ty #[.slice (some ⟨b, o, none⟩) n c]).run P w = .ok (.tuple #[]) (w.setCells b o (List.replicate (n * 3) (.int .i64 0))) := by
  have hzc : (Builtin.zeroCells z.cells n).toList = List.replicate (n * 3) (.int .i64 0) := by rw [hz]; exact zero3 n
  have hst := run_storeCells_cells (P := P) b o (List.replicate (n * 3) (Value.int .i64 0)) 0 w (by simpa using hc) (by simpa using hf) (by intro v hv'; rw [List.eq_of_mem_replicate hv']; rfl)
  simp only [Nat.add_zero] at hst
  obtain ⟨m, rfl⟩ : ∃ m, n = m + 1 := ⟨n - 1, by omega⟩
  simp [Builtin.clear_, run_underlying ht, hv, hzc, hst]
end
theorem own_headset {w : World} {base m g cap k : Nat} {e : TypeId} {xs : List Value} (h : w.ownsRow base e k (.slice (some ⟨g, 0, none⟩) m cap) m xs) {j : Nat} (hj : m * k ≤ j) (v : Value) : (w.setCell ⟨g, j, none⟩ v).ownsRow base e k (.slice (some ⟨g, 0, none⟩) m cap) m xs := by
  have h1 := (h.stored j v).1
  rwa [List.set_eq_of_length_le (by rw [h.1]; exact hj)] at h1
theorem own_headsets {base m g cap k : Nat} {e : TypeId} {xs : List Value} : ∀ (vs : List Value) (o : Nat) (w : World), w.ownsRow base e k (.slice (some ⟨g, 0, none⟩) m cap) m xs → m * k ≤ o → (w.setCells g o vs).ownsRow base e k (.slice (some ⟨g, 0, none⟩) m cap) m xs
  | [], _, _, h, _ => h
  | v :: r, o, _, h, ho => own_headsets r (o + 1) _ (own_headset h ho v) (by omega)
theorem apart_sets {g : Nat} {a : World} : ∀ (vs : List Value) (o : Nat) (w : World), Apart g a w → Apart g a (w.setCells g o vs)
  | [], _, _, h => h
  | v :: r, o, _, h => apart_sets r (o + 1) _ (h.set o v)
theorem own_head {w : World} {base n m g cap k : Nat} {e : TypeId} {xs : List Value} (h : w.ownsRow base e k (.slice (some ⟨g, 0, none⟩) n cap) n xs) (hm : m ≤ n) : w.ownsRow base e k (.slice (some ⟨g, 0, none⟩) m cap) m (xs.take (m * k)) := by
  rcases h.2 with ⟨h', _⟩ | ⟨g', cap', cur, h', hb, hg, hnc, hcm, hcs, htake⟩
  · simp at h'
  · simp only [Value.slice.injEq, Option.some.injEq, Addr.mk.injEq, and_true, true_and] at h'
    obtain ⟨rfl, rfl⟩ := h'
    have hl := h.1
    have hle : m * k ≤ n * k := Nat.mul_le_mul_right k hm
    refine ⟨by rw [List.length_take, hl]; omega, .inr ⟨g, cap, cur, rfl, hb, hg, by omega, hcm, hcs, ?_⟩⟩
    rw [← htake, List.take_take, Nat.min_eq_left hle]
theorem flat3_set (ys : List (Int × Int × Int)) (i : Nat) (x : Int × Int × Int) (h : i < ys.length) : flat3 (ys.set i x) = (((flat3 ys).set (i * 3) x.1).set (i * 3 + 1) x.2.1).set (i * 3 + 2) x.2.2 := by
  induction ys generalizing i with
  | nil => simp at h
  | cons y ys ih =>
    have e : ∀ z zs, flat3 (z :: zs) = z.1 :: z.2.1 :: z.2.2 :: flat3 zs := fun _ _ => rfl
    cases i with
    | zero => simp [e]
    | succ i =>
      have := ih i (by simpa using h)
      rw [List.set_cons_succ, e, e, this, Nat.succ_mul, show i * 3 + 3 = ((i * 3 + 1) + 1) + 1 from rfl, show i * 3 + 1 + 1 + 1 + 1 = (((i * 3 + 1) + 1) + 1) + 1 from rfl, show i * 3 + 1 + 1 + 1 + 2 = (((i * 3 + 2) + 1) + 1) + 1 from rfl]
      simp
theorem flat3_takes (xs : List (Int × Int × Int)) : ∀ k : Nat, flat3 (xs.take k) = (flat3 xs).take (k * 3) := by
  induction xs with
  | nil => intro k; simp [flat3]
  | cons x xs ih =>
    intro k
    cases k with
    | zero => simp [flat3]
    | succ k =>
      have e : flat3 (x :: xs) = x.1 :: x.2.1 :: x.2.2 :: flat3 xs := rfl
      have e' : flat3 (x :: xs.take k) = x.1 :: x.2.1 :: x.2.2 :: flat3 (xs.take k) := rfl
      rw [List.take_succ_cons, e', ih k, e, Nat.succ_mul]; rfl
theorem ints_take (xs : List Int) (k : Nat) : ints (xs.take k) = (ints xs).take k := by simp [ints, List.map_take]
theorem ints_set (xs : List Int) (k : Nat) (x : Int) : ints (xs.set k x) = (ints xs).set k (.int .i64 x) := by simp [ints, List.map_set]
/-- The start: all before the first that passes stay. -/
theorem del_start {f : Int × Int × Int → Bool} {xs : List (Int × Int × Int)} {a : Nat} (ha : a < xs.length) (h1 : f xs[a] = true) (h2 : ∀ b (h : b < xs.length), b < a → f xs[b] = false) : xs.take a = (xs.take (a + 1)).filter fun x => !f x := by
  rw [siftL_no (f := fun x => !f x) ha (by rw [h1]; rfl)]
  symm
  apply List.filter_eq_self.2
  intro x hx
  obtain ⟨b, hb, rfl⟩ := List.getElem_of_mem hx
  have hb' : b < a := by rw [List.length_take] at hb; omega
  rw [List.getElem_take, h2 b (by omega) hb']; rfl

set_option linter.unusedVariables false in
set_option linter.unusedSimpArgs false in
set_option maxRecDepth 20000 in
set_option maxHeartbeats 4000000 in
theorem indexLn_any (g n cap base : Nat) (xs : List (Int × Int × Int)) (f : Int × Int × Int → Bool) (q0 q1 q2 q3 : Value) (w : World) (hown : w.ownsRow base 30 3 (.slice (some ⟨g, 0, none⟩) n cap) n (ints (flat3 xs))) (hn : n ≤ 4096) (hnx : n = xs.length)
    (hc : ∀ x ∈ xs, ∀ W : World, Apart g w W → Calls Try.prog 61 #[.agg #[.int .i64 x.1, .int .i64 x.2.1, .int .i64 x.2.2], q0, q1, q2, q3] W fun e W' => e = .returned (.bool (f x)) ∧ Below W.heap.size W W') :
    Calls Try.prog 96 #[.slice (some ⟨g, 0, none⟩) n cap, .func (.func 61) #[] #[q0, q1, q2, q3]] w fun e w' =>
      ((∃ (a : Nat) (ha : a < xs.length), f xs[a] = true ∧ (∀ b (h : b < xs.length), b < a → f xs[b] = false) ∧ e = .returned (.int .i64 (a : Int))) ∨ ((∀ x ∈ xs, f x = false) ∧ e = .returned (.int .i64 (-1)))) ∧ Below w.heap.size w w' := by
  have HC := Lib.hid hc
  clear hc
  have hgl := (hown.lt g rfl).2
  have HNX := Lib.hid hnx
  clear hnx
  go_enter Try.func96, Try.ntmps96
  go_wp2
  go_loopw [5, 8] (fun _ i wr => ∃ k : Nat, k ≤ n ∧ i = .int .i64 k ∧ (∀ b (h : b < xs.length), b < k → f xs[b] = false) ∧ Below w.heap.size w wr) (fun _ i _ => n - (intOf i).toNat)
  case atStart => exact ⟨0, by omega, rfl, fun b h hb => by omega, Below.refl _ _⟩
  case round =>
    obtain ⟨k, hk, rfl, hz, hbel⟩ := hrel
    have HZ := Lib.hid hz
    clear hz
    have hsr := hbel.size
    by_cases hlt : k < n
    · have hkx : k < xs.length := by have := HNX.out; omega
      have hik : (0 : Int) ≤ (k : Int) ∧ (k : Int) < (n : Int) := by omega
      have hkq : (k : Int) < (n : Int) := by omega
      have hor := own_below hown hbel (fun g' e => by cases e; exact hgl)
      have hget := flat3_at xs k hkx
      have c0 := (own_cell hor (j := k * 3) (by omega)).trans (by rw [hget.1])
      have c1 := (own_cell hor (j := k * 3 + 1) (by omega)).trans (by rw [hget.2.1])
      have c2 := (own_cell hor (j := k * 3 + 2) (by omega)).trans (by rw [hget.2.2])
      have hap : Apart g w wr := ⟨hbel.os, hbel.tape, hbel.output, hsr, fun i h _ => hbel.block i h⟩
      have hcall := HC.out xs[k] (List.getElem_mem hkx) wr hap
      have hfx : ∃ b, b = f xs[k] := ⟨_, rfl⟩
      obtain ⟨bo, hbo⟩ := hfx
      have HBO := Lib.hid hbo
      rw [← hbo] at hcall
      obtain ⟨x, hx⟩ : ∃ x, x = xs[k] := ⟨_, rfl⟩
      rw [← hx] at c0 c1 c2 hcall
      clear hx hget hbo hor hap
      obtain ⟨x1, x2, x3⟩ := x
      simp only at c0 c1 c2 hcall
      have HCA := Lib.hid hcall
      clear hcall
      go_wp2_with fail
      refine Calls.mono HCA.out ?_
      clear HCA
      rintro e w1 ⟨rfl, hB⟩
      have hb1 : Below w.heap.size w w1 := hbel.trans (hB.mono hsr)
      cases bo
      · go_wp2
        go_roundw
        case rel => exact ⟨k + 1, by omega, by go_num, fun b h hb => by
          by_cases e : b = k
          · subst e; exact HBO.out.symm
          · exact HZ.out b h (by omega), hb1⟩
        case measure => simp [intOf]; omega
      · go_wp2
        (refine bodyPost_ret (v := .int .i64 (k : Int)) (by simp [results, Try.results96, go_sem]) rfl ⟨.inl ⟨k, hkx, HBO.out.symm, HZ.out, rfl⟩, hb1⟩)
    · obtain rfl : k = n := by omega
      go_wp2
      (refine bodyPost_ret (v := .int .i64 (-1)) (by simp [results, Try.results96, go_sem]) rfl ⟨.inr ⟨fun x hx => by
        obtain ⟨b, hb, rfl⟩ := List.getElem_of_mem hx
        exact HZ.out b hb (by have := HNX.out; omega), rfl⟩, hbel⟩)

set_option linter.unusedVariables false in
set_option linter.unusedSimpArgs false in
set_option maxRecDepth 20000 in
set_option maxHeartbeats 8000000 in
theorem delLn_any (g n cap base : Nat) (xs : List (Int × Int × Int)) (f : Int × Int × Int → Bool) (q0 q1 q2 q3 : Value) (w : World) (hown : w.ownsRow base 30 3 (.slice (some ⟨g, 0, none⟩) n cap) n (ints (flat3 xs))) (hn : n ≤ 4096) (hnx : n = xs.length)
    (hc : ∀ x ∈ xs, ∀ W : World, Apart g w W → Calls Try.prog 61 #[.agg #[.int .i64 x.1, .int .i64 x.2.1, .int .i64 x.2.2], q0, q1, q2, q3] W fun e W' => e = .returned (.bool (f x)) ∧ Below W.heap.size W W') :
    Calls Try.prog 60 #[.slice (some ⟨g, 0, none⟩) n cap, .func (.func 61) #[] #[q0, q1, q2, q3]] w fun e w' =>
      e = .returned (.slice (some ⟨g, 0, none⟩) (xs.filter fun x => !f x).length cap) ∧ w'.ownsRow base 30 3 (.slice (some ⟨g, 0, none⟩) (xs.filter fun x => !f x).length cap) (xs.filter fun x => !f x).length (ints (flat3 (xs.filter fun x => !f x))) ∧ Apart g w w' := by
  have hidx := indexLn_any g n cap base xs f q0 q1 q2 q3 w hown hn hnx hc
  have HC := Lib.hid hc
  have HI := Lib.hid hidx
  clear hc hidx
  have hgl := (hown.lt g rfl).2
  have hcapn : n ≤ cap ∧ cap ≤ 9223372036854775807 := by
    rcases hown.2 with ⟨h', _⟩ | ⟨g', cap', cur, h', hb, hg, hnc, hcm, _⟩
    · simp at h'
    · simp only [Value.slice.injEq, Option.some.injEq, Addr.mk.injEq, and_true, true_and] at h'
      unfold maxLen at hcm
      omega
  obtain ⟨i0, hi, hz0, hz1, hz2⟩ := info_parts infoLn
  have hzv : ∀ w, (zeroValue 30).run Try.prog w = .ok (.agg #[.int .i64 0, .int .i64 0, .int .i64 0]) w := fun w => by simp [zeroValue, typeInfo, hi, hz0]
  have HZV := Lib.hid hzv
  clear hzv
  have HNX := Lib.hid hnx
  clear hnx
  go_enter Try.func60, Try.ntmps60
  go_wp2_with fail
  refine Calls.mono HI.out ?_
  clear HI
  rintro e w1 ⟨hF, hB1⟩
  have hap1 : Apart g w w1 := ⟨hB1.os, hB1.tape, hB1.output, hB1.size, fun i h _ => hB1.block i h⟩
  have ho1 := own_call hown hB1
  rcases hF with ⟨a, ha, hf1, hf0, rfl⟩ | ⟨hall, rfl⟩
  · have hstart := del_start ha hf1 hf0
    have HST := Lib.hid hstart
    clear hstart hf1 hf0
    have han : a < n := by have := HNX.out; omega
    have ha1 : ((a : Int) == -1) = false := by rw [beq_eq_false_iff_ne]; omega
    have ha2 : ¬ ((a : Int) = -1) := by omega
    have hwa : IntKind.i64.wrap ((a : Int) + 1) = (a : Int) + 1 := wrapI _ (by omega)
    clear hown
    go_wp2_with fail
    go_loopw [5, 6] (fun s5 s6 wr => ∃ (i j : Nat) (ys : List (Int × Int × Int)), s5 = .int .i64 i ∧ s6 = .int .i64 j ∧ i < j ∧ j ≤ n ∧ ys.length = n ∧ ys.take i = (xs.take j).filter (fun x => !f x) ∧ ys.drop j = xs.drop j ∧ wr.ownsRow base 30 3 (.slice (some ⟨g, 0, none⟩) n cap) n (ints (flat3 ys)) ∧ Apart g w wr) (fun _ s6 _ => n - (intOf s6).toNat)
    case atStart => exact ⟨a, a + 1, xs, rfl, by go_num, by omega, by omega, HNX.out.symm, HST.out, rfl, ho1, hap1⟩
    case round =>
      obtain ⟨i, j, ys, rfl, rfl, hij, hjn, hyl, hyt, hyd, hor, hap⟩ := hrel
      have hsr := hap.size
      have HYT := Lib.hid hyt
      have HYD := Lib.hid hyd
      have HYL := Lib.hid hyl
      clear hyt hyd ho1
      by_cases hlt : j < n
      · have hjx : j < xs.length := by have := HNX.out; omega
        have hjy : j < ys.length := by omega
        have hyx : ys[j] = xs[j] := by
          have h1 : (ys.drop j)[0]? = (xs.drop j)[0]? := by rw [HYD.out]
          simpa [List.getElem?_drop, List.getElem?_eq_getElem hjy, List.getElem?_eq_getElem hjx] using h1
        have hget := flat3_at ys j hjy
        have c0 := (own_cell hor (j := j * 3) (by omega)).trans (by rw [hget.1, hyx])
        have c1 := (own_cell hor (j := j * 3 + 1) (by omega)).trans (by rw [hget.2.1, hyx])
        have c2 := (own_cell hor (j := j * 3 + 2) (by omega)).trans (by rw [hget.2.2, hyx])
        have hcall := fun W (h : Apart g w W) => HC.out xs[j] (List.getElem_mem hjx) W h
        have hYes := siftL_yes (f := fun x => !f x) (xs := xs) hjx
        have hNo := siftL_no (f := fun x => !f x) (xs := xs) hjx
        have hd1 : ys.drop (j + 1) = xs.drop (j + 1) := by
          have := congrArg (List.drop 1) HYD.out
          simpa [List.drop_drop] using this
        have HD1 := Lib.hid hd1
        obtain ⟨x, hx⟩ : ∃ x, x = xs[j] := ⟨_, rfl⟩
        rw [← hx] at c0 c1 c2 hcall hYes hNo
        clear hx hget hyx hd1
        obtain ⟨bo, hbo⟩ : ∃ b, b = f x := ⟨_, rfl⟩
        try simp only at hYes hNo
        rw [← hbo] at hYes hNo
        have hcall2 : ∀ W, Apart g w W → Calls Try.prog 61 #[.agg #[.int .i64 x.1, .int .i64 x.2.1, .int .i64 x.2.2], q0, q1, q2, q3] W fun e W' => e = .returned (.bool bo) ∧ Below W.heap.size W W' := by rw [hbo]; exact hcall
        clear hbo hcall
        obtain ⟨x1, x2, x3⟩ := x
        simp only at c0 c1 c2 hcall2
        have HCA := Lib.hid hcall2
        have HYes := Lib.hid hYes
        have HNo := Lib.hid hNo
        clear hcall2 hYes hNo
        have hjk : (0 : Int) ≤ (j : Int) ∧ (j : Int) < (n : Int) := by omega
        have hjq : (j : Int) < (n : Int) := by omega
        have hik : (0 : Int) ≤ (i : Int) ∧ (i : Int) < (n : Int) := by omega
        have hwj : IntKind.i64.wrap ((j : Int) + 1) = (j : Int) + 1 := wrapI _ (by omega)
        have hwi : IntKind.i64.wrap ((i : Int) + 1) = (i : Int) + 1 := wrapI _ (by omega)
        go_wp2_with fail
        refine Calls.mono (HCA.out _ (hap.alloc _)) ?_
        clear HCA
        rintro e w2 ⟨rfl, hB⟩
        have hb2 : Below wr.heap.size wr w2 := by (repeat (first | with_reducible exact Below.refl _ _ | with_reducible exact hB | with_reducible refine balloc ?_ _ | with_reducible refine bdrewN ?_ _ | with_reducible refine Below.drew ?_ | with_reducible refine bthen ?_ (by with_reducible assumption) | with_reducible refine Below.setCell ?_ (by first | (simp; done) | (simp; omega)) _))
        have hap2 : Apart g w w2 := hap.call hb2
        have ho2 := own_call hor hb2
        have hs2 := hB.size
        have d0 : w2.cell? ⟨wr.heap.size, 0, none⟩ = some (.int .i64 x1) := (cell_back hB (by simp) 0).trans (kfresh rfl rfl)
        have d1 : w2.cell? ⟨wr.heap.size, 1, none⟩ = some (.int .i64 x2) := (cell_back hB (by simp) 1).trans (kfresh rfl rfl)
        have d2 : w2.cell? ⟨wr.heap.size, 2, none⟩ = some (.int .i64 x3) := (cell_back hB (by simp) 2).trans (kfresh rfl rfl)
        clear c0 c1 c2 hor hB hb2 hs2
        cases bo
        · have e0 := own_cell ho2 (j := i * 3) (by omega)
          have e1 := own_cell ho2 (j := i * 3 + 1) (by omega)
          have e2 := own_cell ho2 (j := i * 3 + 2) (by omega)
          have f0 := ho2.frozenAt (i * 3)
          have f1 := ho2.frozenAt (i * 3 + 1)
          have f2 := ho2.frozenAt (i * 3 + 2)
          have hst := (((ho2.stored (i * 3) (.int .i64 x1)).1.stored (i * 3 + 1) (.int .i64 x2)).1.stored (i * 3 + 2) (.int .i64 x3)).1
          rw [← ints_set, ← ints_set, ← ints_set, ← flat3_set ys i (x1, x2, x3) (by omega)] at hst
          have HST2 := Lib.hid hst
          have HAP2 := Lib.hid (((hap2.set (i * 3) (.int .i64 x1)).set (i * 3 + 1) (.int .i64 x2)).set (i * 3 + 2) (.int .i64 x3))
          have HT := Lib.hid (show (ys.set i (x1, x2, x3)).take (i + 1) = (xs.take (j + 1)).filter (fun x => !f x) from by
            rw [HYes.out rfl, ← HYT.out, List.take_succ_eq_append_getElem (by rw [List.length_set]; omega), List.getElem_set_self, List.take_set_of_le (Nat.le_refl _)])
          have HD := Lib.hid (show (ys.set i (x1, x2, x3)).drop (j + 1) = xs.drop (j + 1) from by rw [List.drop_set_of_lt (by omega)]; exact HD1.out)
          have HL := Lib.hid (show (ys.set i (x1, x2, x3)).length = n from by rw [List.length_set]; exact HYL.out)
          clear hst hap2 ho2
          go_wp2
          go_roundw
          case rel => exact ⟨i + 1, j + 1, ys.set i (x1, x2, x3), by go_num, by go_num, by omega, by omega, HL.out, HT.out, HD.out, HST2.out, HAP2.out⟩
          case measure => simp [intOf]; omega
        · go_wp2
          go_roundw
          case rel => exact ⟨i, j + 1, ys, rfl, by go_num, by omega, by omega, HYL.out, by rw [HNo.out rfl]; exact HYT.out, HD1.out, ho2, hap2⟩
          case measure => simp [intOf]; omega
      · obtain rfl : j = n := by omega
        have hxt : xs.take j = xs := List.take_of_length_le (by have := HNX.out; omega)
        have hfi : ys.take i = xs.filter fun x => !f x := by rw [HYT.out, hxt]
        have hli : i = (xs.filter fun x => !f x).length := by rw [← hfi, List.length_take]; omega
        have hoh := own_head hor (m := i) (by omega)
        rw [← ints_take, ← flat3_takes, hfi] at hoh
        have hcells : ∀ q, q < (j - i) * 3 → (wr.cell? ⟨g, i * 3 + q, none⟩).isSome = true := fun q hq => by
          rw [hor.cellAt (i * 3 + q) (by omega)]
          rw [List.getElem?_eq_getElem (by rw [hor.1]; omega)]; rfl
        have hclr := fun ty => run_clear3 (P := Try.prog) wr 43 30 ty _ Try.underlying43 HZV.out rfl g (i * 3) (j - i) (cap - i) (by omega) hcells (fun q _ => hor.frozenAt _)
        have hos := own_headsets (List.replicate ((j - i) * 3) (Value.int .i64 0)) (i * 3) wr hoh (Nat.le_refl _)
        have has := apart_sets (List.replicate ((j - i) * 3) (Value.int .i64 0)) (i * 3) wr hap
        have HOS := Lib.hid hos
        have HAS := Lib.hid has
        have HLI := Lib.hid hli
        clear hos has hli hfi hxt hoh hcells hor hap
        obtain ⟨wf, hwf⟩ : ∃ W, W = wr.setCells g (i * 3) (List.replicate ((j - i) * 3) (Value.int .i64 0)) := ⟨_, rfl⟩
        rw [← hwf] at hclr HOS HAS
        clear hwf
        have g1 : (0 : Int) ≤ (i : Int) := by omega
        have g2 : (i : Int) ≤ (j : Int) := by omega
        have g3 : (j : Int) ≤ (cap : Int) := by omega
        have g4 : (i : Int) ≤ (cap : Int) := by omega
        have g5 : IntKind.i64.wrap (i : Int) = (i : Int) := wrapI _ (by omega)
        have g6 : i < cap := by omega
        have g7 : (i : Int) < (cap : Int) := by omega
        go_wp2
        (refine bodyPost_ret (v := .slice (some ⟨g, 0, none⟩) i cap) (by simp [results, Try.results60, go_sem]) rfl ⟨by rw [← HLI.out], by rw [← HLI.out]; exact HOS.out, HAS.out⟩)
  · have hfe : (xs.filter fun x => !f x) = xs := List.filter_eq_self.2 fun x hx => by rw [hall x hx]; rfl
    have HFE := Lib.hid (show (xs.filter fun x => !f x) = xs ∧ (xs.filter fun x => !f x).length = n from ⟨hfe, by rw [hfe]; exact HNX.out.symm⟩)
    have HO := Lib.hid ho1
    have HA := Lib.hid hap1
    clear hfe hall ho1 hap1 hown
    go_wp2
    (refine bodyPost_ret (v := .slice (some ⟨g, 0, none⟩) n cap) (by simp [results, Try.results60, go_sem]) rfl ⟨by rw [HFE.out.2], by rw [HFE.out.2, HFE.out.1]; exact HO.out, HA.out⟩)

end Go.Proofs.Ytmpgpmcmhbpjeaa
