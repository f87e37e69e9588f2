/-
  slices.Sorted(maps.Keys(spreads)): the orders that come, ascending.
-/
import Derived.Test.YtinfjbaloppgkaaOrdMath
import Derived.Test.YtinfjbaloppgkaaSortInts
import Derived.Test.YtinfjbaloppgkaaShelfK
import Derived.Shelf.SortM.SortNone
import Derived.Sort.KeysCollected
namespace Go.Proofs.Ytinfjbaloppgkaa
open Go.RowKit Go.ChangeShapes

theorem mem_upTo {f : Int → Bool} {N : Nat} {x : Int} : x ∈ upTo f N ↔ ∃ t : Nat, t < N ∧ f (t : Int) = true ∧ (t : Int) = x := by
  simp only [upTo, List.mem_map, List.mem_filter, List.mem_range]
  constructor
  · rintro ⟨t, ⟨h1, h2⟩, h3⟩; exact ⟨t, h1, h2, h3⟩
  · rintro ⟨t, h1, h2, h3⟩; exact ⟨t, ⟨h1, h2⟩, h3⟩
theorem upTo_rising (f : Int → Bool) (N : Nat) : (upTo f N).Pairwise fun a b => a < b := by
  unfold upTo
  refine List.pairwise_map.2 (List.Pairwise.imp (fun h => by omega) (List.Pairwise.filter _ (List.pairwise_lt_range (n := N))))
theorem orL_nodup (p : Int) (N : Nat) : (orL p N).Nodup := (upTo_rising (hasO p) N).imp fun h => Int.ne_of_lt h
theorem orL_sorted (p : Int) (N : Nat) : (orL p N).mergeSort (fun x y => decide (x ≤ y)) = orL p N :=
  List.mergeSort_of_pairwise ((upTo_rising (hasO p) N).imp fun h => by simpa using Int.le_of_lt h)
theorem grp_mem {p : Int} {k : Nat} {x : Int} (h : grpL p k x ≠ []) : ∃ t : Nat, t < k ∧ (ordN p (t : Int) : Int) = x := by
  obtain ⟨y, hy⟩ := List.exists_mem_of_ne_nil _ h
  obtain ⟨t, h1, h2, _⟩ := mem_upTo.1 hy
  exact ⟨t, h1, by simpa using h2⟩
theorem key_lit {n : Int} (h : 0 ≤ n ∧ n ≤ 1000) : WideAt.IsKeyLit (.int .i64 n) :=
  intLaw.key (Maps.keyOf_int_mk Try.underlying2 (wfI (by omega)) : keyOf Try.prog 2 (.int .i64 n) = some (.int .i64 n))
theorem gD_has {p : Int} (hp : isP p = true) (x : Int) : ∀ k, k ≤ p.toNat → Maps.has (gD p k) (.int .i64 x) = decide (grpL p k x ≠ [])
  | 0, _ => by simp [gD, Maps.has, grpL, upTo]
  | k + 1, hk => by
    have hr := isP_range hp
    have ho := (ord_is hp (show (0 : Int) ≤ (k : Int) by omega) (show (k : Int) < p by omega)).2.2
    unfold gD
    by_cases h : (ordN p (k : Int) : Int) = x
    · subst h
      rw [Maps.has_put_same (gD_map p k) (key_lit (by omega)), grp_yes rfl]
      simp
    · have hne : (Lit.int .i64 x) ≠ .int .i64 (ordN p (k : Int) : Int) := fun e => by
        injection e with _ e2
        exact h e2.symm
      rw [Maps.has_put_other hne, gD_has hp x k (by omega), grp_no h]
theorem has_or {p : Int} (hp : isP p = true) (x : Int) : x ∈ orL p (4 * p.toNat + 4) ↔ Maps.has (gD p p.toNat) (.int .i64 x) = true := by
  have hr := isP_range hp
  rw [gD_has hp x _ (Nat.le_refl _), decide_eq_true_eq]
  constructor
  · intro h
    obtain ⟨t, h1, h2, rfl⟩ := mem_upTo.1 h
    unfold hasO at h2
    rw [Bool.and_eq_true, decide_eq_true_eq, decide_eq_true_eq] at h2
    intro e
    rw [e] at h2
    exact absurd h2.2 (by simp)
  · intro h
    obtain ⟨t, h1, rfl⟩ := grp_mem h
    have h0 : (0 : Int) ≤ (t : Int) := by omega
    have h2 : (t : Int) < p := by omega
    have hpos := (isOrd_pos (ord_is hp h0 h2).1).1
    refine mem_upTo.2 ⟨_, ord_lt hp h0 h2, ?_, rfl⟩
    unfold hasO
    rw [decide_eq_true (show (1 : Int) ≤ ((ordN p (t : Int) : Nat) : Int) by omega), decide_eq_true]
    · rfl
    · have := List.length_pos_iff.2 h
      omega
theorem keys_or {p : Int} (hp : isP p = true) {R : Value → Option (DataW Unit × List MemPlace)} {w : World} {b n : Nat} (hown : w.ownsMap Try.prog 2 R b n (gD p p.toNat)) : (orL p (4 * p.toNat + 4)).Perm (intKeys (gD p p.toNat)) := by
  have hm := fun x => has_or hp x
  obtain ⟨es, hD, hpw, _⟩ := hown.entries intLaw
  obtain ⟨es', hD', hko⟩ := hown.keysOf
  obtain rfl : es = es' := by rw [hD] at hD'; simpa using hD'
  rw [hD] at hm ⊢
  exact perm_intKeys hpw (fun q hq => by obtain ⟨v, hv⟩ := hko q hq; obtain ⟨x, _, hx, _⟩ := Maps.keyOf_i64 Try.underlying2 hv; exact ⟨x, hx⟩) (orL_nodup _ _) hm

theorem keys_any (mb : Option Nat) (w : World) :
    Calls Try.prog 93 #[.map mb] w fun e w' => e = .returned (.func (.func 101) #[] #[.pointer (some ⟨w.heap.size, 0, none⟩)]) ∧ w' = w.alloc (.cells #[.map mb] 54) :=
  callsIn_wide.1 (AnyZI.keys_in Try.keysI Fence.wide 5 trivial rfl mb w)
theorem sorts_any (m : Nat) : AnyZI.SortsIn Try.prog Try.sortedI_ren Fence.wide m :=
  ⟨fun blk off cap ss W hH hblk hsz => callsIn_wide.2 (AnyM.slices_Sort_int Try.sortI blk off cap ss W hH hblk hsz),
   fun p cap W => callsIn_wide.2 (AnyM.slices_Sort_int_none Try.sortI p cap W)⟩

set_option maxRecDepth 20000 in
set_option maxHeartbeats 1000000 in
theorem sorted_any (p : Int) (hp : isP p = true) (b nn base : Nat) (w : World) (hown : w.ownsGroups Try.prog 2 base 2 .i64 b nn (gD p p.toNat)) :
    Calls Try.prog 92 #[.func (.func 101) #[] #[.pointer (some ⟨w.heap.size, 0, none⟩)]] (w.alloc (.cells #[.map (some b)] 54)) fun e w' =>
      ∃ v, e = .returned v ∧ w'.ownsRow (w.heap.size + 1) 2 1 v (orL p (4 * p.toNat + 4)).length (ints (orL p (4 * p.toNat + 4))) ∧ Below (w.heap.size + 1) (w.alloc (.cells #[.map (some b)] 54)) w' := by
  have hr := isP_range hp
  have hmap : w.ownsMap Try.prog 2 (rowElem (H := Unit) w base 2 .i64) b nn (gD p p.toNat) := by
    obtain ⟨es, clock, hb, F, hs, hD, _⟩ := hown
    exact ⟨es, clock, hb, F, hs, hD⟩
  have hk := keys_or hp hmap
  have hsz : Maps.size (gD p p.toNat) ≤ 200 := by
    obtain ⟨es, hD⟩ := gD_map p p.toNat
    have h1 := hk.length_eq
    have h2 : (orL p (4 * p.toNat + 4)).length ≤ 4 * p.toNat + 4 := upTo_le _ _
    rw [hD] at h1 ⊢
    simp [intKeys] at h1
    simp [Maps.size]
    omega
  have hbl := hmap.lt
  have hseq : SeqGives Fence.wide 2 Try.prog 101 #[.pointer (some ⟨w.heap.size, 0, none⟩)] encZ (fun ss => ss.Perm (intKeys (gD p p.toNat))) (Maps.size (gD p p.toNat)) (w.alloc (.cells #[.map (some b)] 54)) :=
    AnyZI.keys_gives (ρ := Try.keysI_ren) { Try.keysI with } Fence.wide _ trivial rfl (by omega) w.heap.size b nn (gD p p.toNat) _ (by simp) (by simp) (by
      obtain ⟨es, clock, hb, Ft, hs, hD⟩ := hmap
      exact ⟨es, clock, (Below.heap_alloc _ _ b hbl).trans hb, Ft, hs, hD⟩)
  have h := AnyZI.sorted_in Try.sortedI Fence.wide 5 trivial trivial trivial trivial rfl (by omega) (sorts_any _) (enters_of Try.func79 (by kernel_rfl) rfl) 101 #[.pointer (some ⟨w.heap.size, 0, none⟩)] trivial (enters_of Try.func101 (by kernel_rfl) rfl) _ _ (by unfold maxLen; omega) (by omega) _ hseq
  refine Calls.mono (callsIn_wide.1 h) ?_
  rintro e w' ⟨v, ss, rfl, hS, hrow, _, hb⟩
  have hpm : ss.Perm (orL p (4 * p.toNat + 4)) := hS.trans hk.symm
  rw [show (fun x y => decide (x ≤ y)) = leI from rfl, mergeSort_of_perm_i hpm, show leI = (fun x y => decide (x ≤ y)) from rfl, orL_sorted, hpm.length_eq] at hrow
  rw [show (w.alloc (.cells #[.map (some b)] 54)).heap.size = w.heap.size + 1 from by simp] at hrow hb
  exact ⟨v, rfl, hrow, hb⟩

end Go.Proofs.Ytinfjbaloppgkaa
