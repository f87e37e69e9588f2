/-
  impl.spreadsByOrder: a map from orders to their numbers.
-/
import Derived.Test.YtinfjbaloppgkaaSpecValues
import Derived.Test.YtinfjbaloppgkaaSpecOrd
import Derived.Test.YtinfjbaloppgkaaIntKey
import Derived.Maps.OwnRows
import Derived.Maps.AppendAt
import Derived.Maps.GroupsBeside
namespace Go.Proofs.Ytinfjbaloppgkaa
open Go.RowKit Go.ChangeShapes

/-- The numbers below k of an order. -/
def grpL (p : Int) (k : Nat) (n : Int) : List Int := upTo (fun s => (ordN p s : Int) == n) k
theorem grp_yes {p : Int} {k : Nat} {n : Int} (h : (ordN p (k : Int) : Int) = n) : grpL p (k + 1) n = grpL p k n ++ [(k : Int)] := upTo_yes (f := fun s => (ordN p s : Int) == n) (by simpa using h)
theorem grp_no {p : Int} {k : Nat} {n : Int} (h : ¬ (ordN p (k : Int) : Int) = n) : grpL p (k + 1) n = grpL p k n := upTo_no (f := fun s => (ordN p s : Int) == n) (by simpa using h)
theorem grp_le (p : Int) (k : Nat) (n : Int) : (grpL p k n).length ≤ k := upTo_le _ k
/-- The map behind k numbers. -/
def gD (p : Int) : Nat → DataW Unit
  | 0 => .map []
  | k + 1 => (gD p k).put (.int .i64 (ordN p (k : Int) : Int)) (.slice (lits .i64 (grpL p (k + 1) (ordN p (k : Int) : Int))) [])
theorem gD_map (p : Int) : ∀ k, Maps.IsMap (gD p k)
  | 0 => ⟨_, rfl⟩
  | k + 1 => (gD_map p k).put _ _
theorem gD_at (p n : Int) (hk : WideAt.IsKeyLit (.int .i64 n)) (z : DataW Unit) : ∀ k, (gD p k).atKey (.int .i64 n) z = if grpL p k n = [] then z else .slice (lits .i64 (grpL p k n)) []
  | 0 => rfl
  | k + 1 => by
    by_cases h : (ordN p (k : Int) : Int) = n
    · unfold gD
      rw [h, Maps.atKey_put_same (gD_map p k) hk, if_neg (by rw [grp_yes h]; simp)]
    · have hne : (Lit.int .i64 n) ≠ .int .i64 (ordN p (k : Int) : Int) := fun e => by
        injection e with _ e2
        exact h e2.symm
      unfold gD
      rw [Maps.atKey_put_other hne, gD_at p n hk z k, grp_no h]
theorem lits_inj {q : IntKind} {xs ys : List Int} (h : (lits q xs : List (DataW Unit)) = lits q ys) : xs = ys :=
  (List.map_inj_right (fun a b hab => by injection hab with h1; injection h1)).1 h
/-- What a look-up has found. -/
theorem group_is {p n : Int} {k : Nat} {w : World} {base : Nat} {e : TypeId} {v : Value} {zs : List Int} (hk : WideAt.IsKeyLit (.int .i64 n)) (hat : (gD p k).atKey (.int .i64 n) .nil = rowDatum .i64 v zs) (ho : w.ownsInts base e .i64 v zs) : zs = grpL p k n := by
  rw [gD_at p n hk] at hat
  rcases ho.datum (H := Unit) with ⟨h1, h2⟩ | h1
  · rw [h1] at hat
    by_cases hg : grpL p k n = []
    · rw [h2, hg]
    · rw [if_neg hg] at hat; cases hat
  · rw [h1] at hat
    by_cases hg : grpL p k n = []
    · rw [if_pos hg] at hat; cases hat
    · rw [if_neg hg] at hat
      injection hat with h3
      exact (lits_inj h3).symm
theorem groups_call {w w' : World} {base b n : Nat} {e k : TypeId} {q : IntKind} {D : DataW Unit} (h : w.ownsGroups Try.prog k base e q b n D) (hb : Below w.heap.size w w') : w'.ownsGroups Try.prog k base e q b n D :=
  h.kept (row := none) ⟨hb.os, hb.tape, hb.output, hb.size, fun k hk _ => hb.block k hk⟩ (by simp) fun _ _ _ x _ => by
    cases hx : x.val.ownBlock with
    | none => exact .inl rfl
    | some g => exact .inr (by simp)
theorem zeroS (w : World) : (zeroValue 25).run Try.prog w = .ok (.slice none 0 0) w := by
  first | kernel_rfl | (simp [zeroValue, go_sem])
/-- What the maker of the map leaves. -/
def GroupsMade (p : Int) (w : World) (e : Ending) (w' : World) : Prop :=
  e = .returned (.map (some w.heap.size)) ∧ w'.ownsGroups Try.prog 2 (w.heap.size + 1) 2 .i64 w.heap.size p.toNat (gD p p.toNat) ∧ Below w.heap.size w w' ∧ w.heap.size + 1 ≤ w'.heap.size

set_option maxRecDepth 20000 in
set_option maxHeartbeats 4000000 in
theorem implGroups_any (p : Int) (w : World) (hp : isP p = true) :
    Calls Try.prog 67 #[.int .i64 p] w fun e w' => GroupsMade p w e w' := by
  have hr := isP_range hp
  have hc0 : (p.toNat : Int) = p := Int.toNat_of_nonneg (by omega)
  have HC0 := Lib.hid hc0
  clear hc0
  obtain ⟨i0, hi, hz0, hz1, hz2⟩ := info_parts infoInt1
  have hmm := @run_makeMap Try.prog
  have hmade := World.ownsGroups_made (H := Unit) w Try.prog 2 2 .i64
  go_enter Try.func67, Try.ntmps67
  go_wp2_with fail
  go_loopw [8] (fun i wr => ∃ k : Nat, (k : Int) ≤ p ∧ i = .int .i64 k ∧ wr.ownsGroups Try.prog 2 (w.heap.size + 1) 2 .i64 w.heap.size k (gD p k) ∧ Below w.heap.size w wr ∧ w.heap.size + 1 ≤ wr.heap.size) (fun i _ => p.toNat - (intOf i).toNat)
  case atStart => exact ⟨0, by omega, rfl, hmade, (Below.refl _ _).alloc (Nat.le_refl _) _, by simp⟩
  case round =>
    obtain ⟨k, hk, rfl, hown, hnx, hws⟩ := hrel
    by_cases hlt : (k : Int) < p
    · have HO := ord_is hp (show (0 : Int) ≤ (k : Int) by omega) hlt
      have hn31 := HO.2.2
      have hD : gD p (k + 1) = (gD p k).put (.int .i64 (ordN p (k : Int) : Int)) (.slice (lits .i64 (grpL p (k + 1) (ordN p (k : Int) : Int))) []) := rfl
      have hgy := grp_yes (p := p) (k := k) rfl
      have hcall := fun w' => implOrd_any p (k : Int) w' hp (by omega) hlt
      obtain ⟨N, hN⟩ : ∃ N, N = ordN p (k : Int) := ⟨_, rfl⟩
      rw [← hN] at hD hgy hcall hn31
      clear HO hN
      have HD := Lib.hid hD
      have HG := Lib.hid hgy
      clear hD hgy
      have hkey : keyOf Try.prog 2 (.int .i64 (N : Int)) = some (.int .i64 (N : Int)) := Maps.keyOf_int_mk Try.underlying2 (wfI (by omega))
      have HK := Lib.hid (intLaw.key hkey)
      go_wp2_with fail
      refine Calls.mono (hcall _) ?_
      rintro e wq ⟨rfl, hBq⟩
      clear hcall
      have hown1 := groups_call hown hBq
      have hnx1 := bthen hnx hBq
      have hws1 : w.heap.size + 1 ≤ wq.heap.size := Nat.le_trans hws hBq.size
      clear hown hnx hws hBq
      go_wp2_with (first
        | (at_lookup; refine wpList_lookup_groups _ rfl _ _ 54 rfl 2 25 2 .i64 intLaw Try.underlying54 (zeroS _) (w.heap.size + 1) w.heap.size k _ rfl hown1 (by unfold maxLen; omega) _ _ rfl hkey ?_; intro v zs hat hoi hzl hback)
        | (at_builtin; refine wpList_append_own_at _ rfl _ _ 25 rfl (w.heap.size + 1) 2 i0 (.int .i64 0) 1 8 Try.underlying25 hi hz0 hz1 hz2 rfl (by decide) _ _ _ rfl (hoi.1.alloc _) ⟨wq.heap.size, 0, none⟩ 1 1 [.int .i64 k] rfl rfl (cell_one_new _ _ _) (ints_oneCell .i64 [(k : Int)]) (by unfold maxLen; omega) (by omega) (by simp; omega) ?_; intro v' w1 hown' hgrow hnil hloc)
        | (at_mapUpdate; refine wpList_mapUpdate_back _ rfl _ _ _ 54 rfl hback rfl rfl rfl ((World.grownBy_alloc _ _ _).trans hgrow) (hoi.appended hown' (wfI (by omega))) (by simp; omega) (hloc.imp id (fun h => ⟨_, h, by simp⟩)) ?_; intro w2 hown2 hgrow2))
      have hall := (World.grownBy_alloc wq _ _).trans hgrow
      have hz2 := group_is HK.out hat hoi
      subst hz2
      have hnx2 := hnx1.groups hoi hall hgrow2 hnx1.size (Nat.le_succ _) (Nat.le_refl _)
      have hws2 := Nat.le_trans hws1 (Nat.le_trans hall.size hgrow2.size)
      go_roundw
      case rel =>
        refine ⟨k + 1, by omega, by go_num, ?_, hnx2, hws2⟩
        rw [HD.out, HG.out, ← (hoi.appended hown' (wfI (by omega))).datum_pos (by simp)]
        exact hown2
      case measure => have := HC0.out; simp [intOf]; omega
    · obtain ⟨m, hm⟩ : ∃ m, m = p.toNat := ⟨_, rfl⟩
      obtain rfl : k = m := by have := HC0.out; omega
      have HM := Lib.hid hm
      clear hm
      go_wp2
      (refine bodyPost_ret (v := .map (some w.heap.size)) (by simp [results, Try.results67, go_sem]) rfl ⟨rfl, by rw [← HM.out]; exact hown, hnx, hws⟩)

end Go.Proofs.Ytinfjbaloppgkaa
