/-
  The lines through a point: in order, and as the lines to all other points; no program.
-/
import Derived.Test.YtmpgpmcmhbpjeabMgq0

namespace Go.Proofs.Ytmpgpmcmhbpjeab
open Go.RowKit

/-- The line with the given two numbers through a point. -/
def parL (p a1 a2 l1 l2 : Int) : Int × Int × Int := (l1, l2, (-l1 * a1 - l2 * a2) % p)
/-- The line 0, 1 and the lines 1, b, b below k. -/
def pencil (p a1 a2 : Int) (k : Nat) : List (Int × Int × Int) := parL p a1 a2 0 1 :: (List.range k).map fun b : Nat => parL p a1 a2 1 (b : Int)
theorem pencil_succ (p a1 a2 : Int) (k : Nat) : pencil p a1 a2 (k + 1) = pencil p a1 a2 k ++ [parL p a1 a2 1 (k : Int)] := by simp [pencil, List.range_succ]
theorem pencil_length (p a1 a2 : Int) (k : Nat) : (pencil p a1 a2 k).length = k + 1 := by simp [pencil]
/-- The order of lines. -/
def LtT (x y : Int × Int × Int) : Prop := x.1 < y.1 ∨ x.1 = y.1 ∧ (x.2.1 < y.2.1 ∨ x.2.1 = y.2.1 ∧ x.2.2 < y.2.2)
theorem pencil_sorted (p a1 a2 : Int) (k : Nat) : (pencil p a1 a2 k).Pairwise LtT := by
  rw [pencil, List.pairwise_cons]
  refine ⟨?_, ?_⟩
  · intro z hz
    obtain ⟨b, _, rfl⟩ := List.mem_map.1 hz
    exact .inl (by simp [parL])
  · rw [List.pairwise_map]
    refine List.Pairwise.imp ?_ (List.pairwise_lt_range (n := k))
    intro a b h
    exact .inr ⟨rfl, .inl (by simp only [parL]; omega)⟩
def onT (p a1 a2 : Int) (z : Int × Int × Int) : Prop := (z.1 * a1 + z.2.1 * a2 + z.2.2) % p = 0
theorem nums3_of {p a b c : Int} (ha : 0 ≤ a ∧ a < p) (hb : 0 ≤ b ∧ b < p) (hc : 0 ≤ c ∧ c < p) : numsIn p [a, b, c] = true := by
  rw [numsIn3, inB_true (by omega), inB_true (by omega), inB_true (by omega)]; rfl
theorem pencil_mem {p a1 a2 : Int} (hp : isP p = true) (z : Int × Int × Int) : z ∈ pencil p a1 a2 p.toNat ↔ (lineB p z.1 z.2.1 z.2.2 = true ∧ onT p a1 a2 z) := by
  have hr := isP_range hp
  have hpn : (p.toNat : Int) = p := Int.toNat_of_nonneg (by omega)
  constructor
  · intro h
    have hm := modR (-z.1 * a1 - z.2.1 * a2) hp
    have key : z = parL p a1 a2 z.1 z.2.1 ∧ ((z.1 = 0 ∧ z.2.1 = 1) ∨ (z.1 = 1 ∧ 0 ≤ z.2.1 ∧ z.2.1 < p)) := by
      rcases List.mem_cons.1 h with rfl | h
      · exact ⟨rfl, .inl ⟨rfl, rfl⟩⟩
      · obtain ⟨b, hb, rfl⟩ := List.mem_map.1 h
        have := List.mem_range.1 hb
        exact ⟨rfl, .inr ⟨rfl, by simp only [parL]; omega⟩⟩
    obtain ⟨e, hw⟩ := key
    have e3 : z.2.2 = (-z.1 * a1 - z.2.1 * a2) % p := by have := congrArg (fun t => t.2.2) e; exact this
    refine ⟨lineB_of ?_ (nums3_of (by omega) (by omega) (by omega)), ?_⟩
    · rcases hw with ⟨h1, h2⟩ | ⟨h1, _⟩
      · rw [leadB, h1, h2]; rfl
      · rw [leadB, h1]; rfl
    · rw [onT, e3, Int.add_emod_emod]
      rw [show z.1 * a1 + z.2.1 * a2 + (-z.1 * a1 - z.2.1 * a2) = 0 by rw [Int.neg_mul]; omega]
      exact Int.zero_emod p
  · rintro ⟨hl, ho⟩
    obtain ⟨l1, l2, l3⟩ := z
    obtain ⟨hd, hn⟩ := lineB_in hl
    have hq := nums3 hn
    simp only at hq hd
    have e3 : l3 = (-l1 * a1 - l2 * a2) % p := by
      have h : (l1 * a1 + l2 * a2 + l3) % p = 0 := ho
      have h2 : (l3 - (-l1 * a1 - l2 * a2)) % p = 0 := by rw [← h]; congr 1; rw [Int.neg_mul]; omega
      have := Int.emod_emod_of_dvd l3 (Int.dvd_refl p)
      have h3 := Int.emod_eq_emod_iff_emod_sub_eq_zero.2 h2
      rw [Int.emod_eq_of_lt hq.2.2.1 hq.2.2.2] at h3
      exact h3
    rcases lead_ways hd with rfl | ⟨rfl, rfl⟩
    · refine List.mem_cons.2 (.inr (List.mem_map.2 ⟨l2.toNat, List.mem_range.2 (by omega), ?_⟩))
      rw [Int.toNat_of_nonneg hq.2.1.1, parL, ← e3]
    · refine List.mem_cons.2 (.inl ?_)
      rw [parL, ← e3]
section
variable {n : Nat} [NeZero n]
theorem mk_lead (hp : isP (n : Int) = true) {l1 l2 l3 : Int} (hl : lineB n l1 l2 l3 = true) : mk1 n l1 l2 l3 = l1 ∧ mk2 n l1 l2 l3 = l2 ∧ mk3 n l1 l2 l3 = l3 := by
  obtain ⟨hd, hn⟩ := lineB_in hl
  have hq := nums3 hn
  have h1 := K_one_ne hp
  have hk : K n (nrm n l1 l2) = 1 := by
    rcases lead_ways hd with rfl | ⟨rfl, rfl⟩
    · rcases K_nrm hp (a := 1) (b := l2) (fun e => h1 e.1) with ⟨_, h⟩ | ⟨h, _⟩
      · rw [K_one] at h; grind
      · exact absurd h h1
    · rcases K_nrm hp (a := 0) (b := 1) (fun e => h1 e.2) with ⟨h, _⟩ | ⟨_, _, h⟩
      · exact absurd K_zero h
      · rw [K_one] at h; grind
  unfold mk1 mk2 mk3
  refine ⟨K_inj (modR _ hp) hq.1 ?_, K_inj (modR _ hp) hq.2.1 ?_, K_inj (modR _ hp) hq.2.2 ?_⟩ <;> (rw [K_mod, K_mul, hk]; grind)
end
/-- The line to another point is a line, and goes through the point. -/
theorem th_on {p a1 a2 b1 b2 : Int} (hp : isP p = true) (ha1 : 0 ≤ a1 ∧ a1 < p) (ha2 : 0 ≤ a2 ∧ a2 < p) (hb1 : 0 ≤ b1 ∧ b1 < p) (hb2 : 0 ≤ b2 ∧ b2 < p) (hne : ¬ (a1 = b1 ∧ a2 = b2)) :
    lineB p (th1 p a1 a2 b1 b2) (th2 p a1 a2 b1 b2) (th3 p a1 a2 b1 b2) = true ∧ onT p a1 a2 (th1 p a1 a2 b1 b2, th2 p a1 a2 b1 b2, th3 p a1 a2 b1 b2) := by
  obtain ⟨n, rfl⟩ := Int.eq_ofNat_of_zero_le (by have := isP_range hp; omega : 0 ≤ p)
  haveI := neZero_of hp
  refine ⟨mk_line hp _ ?_, ?_⟩
  · rintro ⟨h1, h2⟩
    rw [K_sub] at h1 h2
    exact hne ⟨K_inj ha1 hb1 (by grind), K_inj ha2 hb2 (by grind)⟩
  · rw [onT, ← K_eq_zero]
    unfold th1 th2 th3 mk1 mk2 mk3
    simp only [K_add, K_mul, K_mod, K_sub]
    grind
/-- Every line through the point leads to another one. -/
theorem on_th {p a1 a2 l1 l2 l3 : Int} (hp : isP p = true) (ha1 : 0 ≤ a1 ∧ a1 < p) (ha2 : 0 ≤ a2 ∧ a2 < p) (hl : lineB p l1 l2 l3 = true) (ho : onT p a1 a2 (l1, l2, l3)) :
    ¬ (a1 = (a1 - l2) % p ∧ a2 = (a2 + l1) % p) ∧ th1 p a1 a2 ((a1 - l2) % p) ((a2 + l1) % p) = l1 ∧ th2 p a1 a2 ((a1 - l2) % p) ((a2 + l1) % p) = l2 ∧ th3 p a1 a2 ((a1 - l2) % p) ((a2 + l1) % p) = l3 := by
  obtain ⟨n, rfl⟩ := Int.eq_ofNat_of_zero_le (by have := isP_range hp; omega : 0 ≤ p)
  haveI := neZero_of hp
  have h1 := K_one_ne hp
  obtain ⟨hd, hn⟩ := lineB_in hl
  have hnz : ¬ (K n l1 = 0 ∧ K n l2 = 0) := by
    rintro ⟨e1, e2⟩
    rcases lead_ways hd with rfl | ⟨_, rfl⟩
    · exact h1 e1
    · exact h1 e2
  have ho' : K n l1 * K n a1 + K n l2 * K n a2 + K n l3 = 0 := by
    have := K_eq_zero.2 ho; simpa only [K_add, K_mul] using this
  refine ⟨?_, ?_⟩
  · rintro ⟨e1, e2⟩
    have f1 := congrArg (K n) e1
    have f2 := congrArg (K n) e2
    rw [K_mod, K_sub] at f1
    rw [K_mod, K_add] at f2
    exact hnz ⟨by grind, by grind⟩
  · have hm := mk_lead hp hl
    have hr := mk_ratio hp (u := -1) (a := l1) (b := l2) (c := l3) (a' := a2 - (a2 + l1) % n) (b' := (a1 - l2) % n - a1) (c' := a1 * ((a2 + l1) % n) - (a1 - l2) % n * a2)
      (fun e => h1 (by rw [K_neg, K_one] at e; rw [K_one]; grind)) hnz ?_ ?_ ?_
    · unfold th1 th2 th3
      exact ⟨hr.1.trans hm.1, hr.2.1.trans hm.2.1, hr.2.2.trans hm.2.2⟩
    all_goals
      simp only [K_sub, K_mod, K_neg, K_add, K_mul, K_one]
      grind
/-- The lines to all points but one. -/
def thT (p a1 a2 : Int) (b : Int × Int) : Int × Int × Int := (th1 p a1 a2 b.1 b.2, th2 p a1 a2 b.1 b.2, th3 p a1 a2 b.1 b.2)
def linesTo (p a1 a2 : Int) (bs : List (Int × Int)) : List (Int × Int × Int) := (bs.filter fun b => !(b.1 == a1 && b.2 == a2)).map (thT p a1 a2)
theorem linesTo_snoc (p a1 a2 : Int) (bs : List (Int × Int)) (b : Int × Int) : linesTo p a1 a2 (bs ++ [b]) = linesTo p a1 a2 bs ++ (if (!(b.1 == a1 && b.2 == a2)) = true then [thT p a1 a2 b] else []) := by
  rw [linesTo, linesTo, List.filter_append, List.map_append]
  congr 1
  rw [List.filter_cons]
  split <;> simp
theorem linesTo_le (p a1 a2 : Int) (bs : List (Int × Int)) : (linesTo p a1 a2 bs).length ≤ bs.length := by
  rw [linesTo, List.length_map]; exact List.length_filter_le _ _
theorem linesTo_all {p a1 a2 : Int} (hp : isP p = true) (ha1 : 0 ≤ a1 ∧ a1 < p) (ha2 : 0 ≤ a2 ∧ a2 < p) {bs : List (Int × Int)} (hb : ∀ b, b ∈ bs ↔ (0 ≤ b.1 ∧ b.1 < p) ∧ 0 ≤ b.2 ∧ b.2 < p) (z : Int × Int × Int) :
    z ∈ linesTo p a1 a2 bs ↔ z ∈ pencil p a1 a2 p.toNat := by
  rw [pencil_mem hp, linesTo, List.mem_map]
  constructor
  · rintro ⟨b, h, rfl⟩
    obtain ⟨h1, h2⟩ := List.mem_filter.1 h
    have hr := (hb b).1 h1
    exact th_on hp ha1 ha2 hr.1 hr.2 (by rintro ⟨e1, e2⟩; simp [← e1, ← e2] at h2)
  · rintro ⟨hl, ho⟩
    obtain ⟨l1, l2, l3⟩ := z
    have h := on_th hp ha1 ha2 hl ho
    refine ⟨((a1 - l2) % p, (a2 + l1) % p), List.mem_filter.2 ⟨(hb _).2 ⟨modR _ hp, modR _ hp⟩, ?_⟩, by rw [thT]; simp only [h.2.1, h.2.2.1, h.2.2.2]⟩
    rw [Bool.not_eq_true', Bool.and_eq_false_iff]
    by_cases e : a1 = (a1 - l2) % p
    · right; rw [beq_eq_false_iff_ne]; exact fun e2 => h.1 ⟨e, e2.symm⟩
    · left; rw [beq_eq_false_iff_ne]; exact fun e2 => e e2.symm

end Go.Proofs.Ytmpgpmcmhbpjeab
