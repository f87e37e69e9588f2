/-
  cmp.Compare, slices.Compare at numbers: which list comes first.
  A row of cells that the library's sort has turned: what the slice owns then.
-/
import Derived.Test.YtibfbdgenamlkaaMgq0
import Derived.Test.YtibfbdgenamlkaaRows
import Derived.Test.YtibfbdgenamlkaaFieldq
import Derived.Sort.OwnSorted
import Derived.Shelf.GgSortFunc.RowK

namespace Go.Proofs.Ytibfbdgenamlkaa
open Go.RowKit

def cmpI (x y : Int) : Int := if x < y then -1 else if y < x then 1 else 0
theorem cmpI_zero {x y : Int} : cmpI x y = 0 ↔ x = y := by
  unfold cmpI
  by_cases h1 : x < y
  · simp [h1]; omega
  · by_cases h2 : y < x
    · simp [h1, h2]; omega
    · simp [h1, h2]; omega
/-- The first difference decides. -/
def lexC : List Int → List Int → Int
  | x :: xs, y :: ys => if cmpI x y = 0 then lexC xs ys else cmpI x y
  | _, _ => 0
theorem lexC_drop {xs ys : List Int} {k : Nat} (hx : k < xs.length) (hy : k < ys.length) :
    lexC (xs.drop k) (ys.drop k) = if cmpI (xs.getD k 0) (ys.getD k 0) = 0 then lexC (xs.drop (k + 1)) (ys.drop (k + 1)) else cmpI (xs.getD k 0) (ys.getD k 0) := by
  rw [List.drop_eq_getElem_cons hx, List.drop_eq_getElem_cons hy]
  simp [lexC, List.getD_eq_getElem?_getD, List.getElem?_eq_getElem hx, List.getElem?_eq_getElem hy]

theorem isNaN_any (x : Int) (w : World) : Calls Try.prog 115 #[.int .i64 x] w fun e w' => e = .returned (.bool false) ∧ w = w' := by
  go_enter Try.func115, Try.ntmps115
  go_wp2
  go_ret
  exact ⟨rfl, rfl⟩

theorem cmp_any (x y : Int) (w : World) : Calls Try.prog 109 #[.int .i64 x, .int .i64 y] w fun e w' => e = .returned (.int .i64 (cmpI x y)) ∧ w = w' := by
  by_cases h1 : x < y
  · have H := Lib.hid (show cmpI x y = -1 by simp [cmpI, h1])
    go_enter Try.func109, Try.ntmps109
    go_wp2_with (go_at_call 115; refine Calls.mono (isNaN_any _ _) ?_; rintro e w' ⟨rfl, rfl⟩)
    go_ret
    exact ⟨ret_int (by rw [H.out]), rfl⟩
  · by_cases h2 : y < x
    · have H := Lib.hid (show cmpI x y = 1 by simp [cmpI, h1, h2])
      go_enter Try.func109, Try.ntmps109
      go_wp2_with (go_at_call 115; refine Calls.mono (isNaN_any _ _) ?_; rintro e w' ⟨rfl, rfl⟩)
      go_ret
      exact ⟨ret_int (by rw [H.out]), rfl⟩
    · have H := Lib.hid (show cmpI x y = 0 by simp [cmpI, h1, h2])
      go_enter Try.func109, Try.ntmps109
      go_wp2_with (go_at_call 115; refine Calls.mono (isNaN_any _ _) ?_; rintro e w' ⟨rfl, rfl⟩)
      go_ret
      exact ⟨ret_int (by rw [H.out]), rfl⟩

set_option maxRecDepth 20000 in
set_option maxHeartbeats 1000000 in
theorem compare_any (a b n ca cb : Nat) (xs ys : List Int) (w : World) (hx : n = xs.length) (hy : n = ys.length) (hl : n ≤ 100) (hc : Cells w a 0 xs) (hd : Cells w b 0 ys) :
    Calls Try.prog 88 #[.slice (some ⟨a, 0, none⟩) n ca, .slice (some ⟨b, 0, none⟩) n cb] w fun e w' => e = .returned (.int .i64 (lexC xs ys)) ∧ w = w' := by
  have HX := Lib.hid hx
  have HY := Lib.hid hy
  clear hx hy
  go_enter Try.func88, Try.ntmps88
  go_wp2
  go_loop [11] (fun d => ∃ k : Nat, k ≤ n ∧ d = .int .i64 k ∧ lexC xs ys = lexC (xs.drop k) (ys.drop k)) (fun d => n - (intOf d).toNat)
  case atStart => exact ⟨0, by omega, rfl, by simp⟩
  case round =>
    obtain ⟨k, hk, rfl, hD⟩ := hrel
    by_cases hlt : k < n
    · have hcx := hc k (by have := HX.out; omega)
      have hcy := hd k (by have := HY.out; omega)
      rw [lexC_drop (by have := HX.out; omega) (by have := HY.out; omega)] at hD
      rw [Nat.zero_add] at hcx hcy
      obtain ⟨x, ex⟩ : ∃ x, x = xs.getD k 0 := ⟨_, rfl⟩
      obtain ⟨y, ey⟩ : ∃ x, x = ys.getD k 0 := ⟨_, rfl⟩
      rw [← ex] at hcx
      rw [← ey] at hcy
      rw [← ex, ← ey] at hD
      clear ex ey
      obtain ⟨c, hcv⟩ : ∃ c, c = cmpI x y := ⟨_, rfl⟩
      have hcc := fun w' => cmp_any x y w'
      rw [← hcv] at hcc hD
      clear hcv
      by_cases hz : c = 0
      · rw [if_pos hz] at hD
        have H := Lib.hid hD
        clear hD
        subst hz
        go_wp2_with (go_at_call 109; refine Calls.mono (hcc _) ?_; rintro e w' ⟨rfl, rfl⟩)
        go_round
        case rel => exact ⟨k + 1, by omega, by go_num, H.out⟩
        case measure => simp [intOf]; omega
      · rw [if_neg hz] at hD
        have H := Lib.hid hD
        clear hD
        go_wp2_with (go_at_call 109; refine Calls.mono (hcc _) ?_; rintro e w' ⟨rfl, rfl⟩)
        go_ret
        exact ⟨ret_int (by rw [H.out]), rfl⟩
    · have h0 : lexC xs ys = 0 := by
        rw [hD, List.drop_eq_nil_of_le (by have := HX.out; omega)]; rfl
      have H := Lib.hid h0
      clear hD h0
      go_wp2
      go_ret
      exact ⟨ret_int (by rw [H.out]), rfl⟩

end Go.Proofs.Ytibfbdgenamlkaa

namespace Go.Proofs.Ytibfbdgenamlkaa
open Go.RowKit Go.Sort

theorem holds_vals {w : World} {g : Nat} {cur : Array Value} {e : TypeId} {vs : List Value} (hb : w.heap[g]? = some (.cells cur e (0, 0))) (ht : cur.toList.take vs.length = vs) : Holds id w g 0 vs.toArray := by
  intro j hj
  have hj' : j < vs.length := by simpa using hj
  refine ⟨?_, by simp [World.frozen?, hb]⟩
  have h1 : (cur.toList.take vs.length)[j]? = vs[j]? := by rw [ht]
  rw [List.getElem?_take_of_lt hj'] at h1
  simp only [World.cell?, hb, Nat.zero_add]
  simp only [Option.isSome_none, Bool.false_eq_true, if_false]
  rw [← Array.getElem?_toList, h1]
  simp [hj']
theorem heap_vals {w : World} {g n : Nat} {os : Array Obj} {cur : Array Value} {e : TypeId} {fr : Nat × Nat} (d : Array Value) (hb : w.heap[g]? = some (.cells cur e fr)) :
    (grow (putRow id (Go.Sort.ahead w n) g 0 d) os).heap[g]? = some (.cells (putCells id 0 d cur) e fr) := by
  have hg : g < w.heap.size := (Array.getElem?_eq_some_iff.1 hb).1
  rw [heap_grow_old _ _ (by simpa using hg)]
  simp [putRow, mapBlock, Go.Sort.ahead, Array.getElem?_modify, hb, onCells]
theorem grownBy_vals {w : World} {g n : Nat} {os : Array Obj} (d : Array Value) : w.grownBy (grow (putRow id (Go.Sort.ahead w n) g 0 d) os) (some g) := by
  refine ⟨rfl, rfl, rfl, by simp, fun k hk hne => ?_⟩
  rw [heap_grow_old _ _ (by simpa using hk)]
  have : g ≠ k := fun e => hne (by rw [e])
  simp [putRow, mapBlock, Go.Sort.ahead, Array.getElem?_modify, this]
theorem take_vals (cur : Array Value) (vs : List Value) (h : vs.length ≤ cur.size) : (putCells id 0 vs.toArray cur).toList.take vs.length = vs := by
  apply List.ext_getElem?
  intro j
  by_cases hj : j < vs.length
  · rw [List.getElem?_take_of_lt hj, Array.getElem?_toList]
    simp [putCells, hj, show j < cur.size by omega]
  · rw [List.getElem?_take_eq_none (by omega), List.getElem?_eq_none (by omega)]
theorem ownsRow_vals {w : World} {base g cap n k m : Nat} {e : TypeId} {os : Array Obj} {cur : Array Value} {vs : List Value} (hl : vs.length = m * k) (hbase : base ≤ g) (hb : w.heap[g]? = some (.cells cur e (0, 0)))
    (h1 : m ≤ cap) (h2 : cap ≤ maxLen) (h3 : cur.size = cap * k) :
    (grow (putRow id (Go.Sort.ahead w n) g 0 vs.toArray) os).ownsRow base e k (.slice (some ⟨g, 0, none⟩) m cap) m vs :=
  ⟨hl, .inr ⟨g, cap, _, rfl, hbase, heap_vals _ hb, h1, h2, by simp [putCells, h3], by
    rw [← hl]; exact take_vals cur vs (by rw [hl, h3]; exact Nat.mul_le_mul_right k h1)⟩⟩

section
variable {α : Type} [Inhabited α] {enc : α → List Value} {k : Nat}
omit [Inhabited α] in
theorem flatMap_len (hk : ∀ x, (enc x).length = k) (L : List α) : (L.flatMap enc).length = L.length * k := by
  induction L with
  | nil => simp
  | cons x L ih => rw [List.flatMap_cons, List.length_append, ih, hk, List.length_cons, Nat.succ_mul]; omega
theorem flatMap_get (hk : ∀ x, (enc x).length = k) (h0 : 0 < k) : ∀ (L : List α) (t : Nat), t < L.length * k → (L.flatMap enc)[t]? = some ((enc (L[t / k]!))[t % k]!)
  | [], t, h => by simp at h
  | x :: L, t, h => by
    rw [List.flatMap_cons]
    by_cases ht : t < k
    · rw [List.getElem?_append_left (by rw [hk]; exact ht), Nat.div_eq_of_lt ht, Nat.mod_eq_of_lt ht]
      have : t < (enc x).length := by rw [hk]; exact ht
      simp [this]
    · rw [List.getElem?_append_right (by rw [hk]; omega), hk, flatMap_get hk h0 L (t - k) (by rw [List.length_cons, Nat.succ_mul] at h; omega)]
      have e1 : t / k = (t - k) / k + 1 := Nat.div_eq_sub_div h0 (by omega)
      have e2 : t % k = (t - k) % k := Nat.mod_eq_sub_mod (by omega)
      rw [e1, e2]
      simp
theorem flatK_list (hk : ∀ x, (enc x).length = k) (h0 : 0 < k) (L : List α) : flatK enc k L.toArray = (L.flatMap enc).toArray := by
  apply Array.ext
  · simp [flatMap_len hk]
  · intro t h1 h2
    have ht : t < L.length * k := by simpa using h1
    have e1 := get_flatK enc k L.toArray t (by simpa using ht)
    rw [getElem!_pos _ t h1] at e1
    have e2 := flatMap_get hk h0 L t ht
    rw [e1]
    have h3 : t < (L.flatMap enc).length := by rw [flatMap_len hk]; exact ht
    rw [List.getElem?_eq_getElem h3] at e2
    simpa using (Option.some.inj e2).symm
end

end Go.Proofs.Ytibfbdgenamlkaa
