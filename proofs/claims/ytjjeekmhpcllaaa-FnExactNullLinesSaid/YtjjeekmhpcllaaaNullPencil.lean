/-
  The null lines through a point: in order, and as the lines to the points at the quadrance 0; no program.
-/
import Derived.Test.YtjjeekmhpcllaaaImplLineR
namespace Go.Proofs.Ytjjeekmhpcllaaa
open Go.RowKit

/-- The first lines of the pencil, and the null ones among them. -/
def ppL (p a1 a2 : Int) : Nat → List (Int × Int × Int)
  | 0 => []
  | k + 1 => pencil p a1 a2 k
def lineAt (p a1 a2 : Int) : Nat → Int × Int × Int
  | 0 => parL p a1 a2 0 1
  | k + 1 => parL p a1 a2 1 (k : Int)
theorem ppL_succ (p a1 a2 : Int) (k : Nat) : ppL p a1 a2 (k + 1) = ppL p a1 a2 k ++ [lineAt p a1 a2 k] := by
  cases k with
  | zero => simp [ppL, lineAt, pencil]
  | succ k => rw [ppL, ppL, lineAt, pencil_succ]
def nullT (p c : Int) (z : Int × Int × Int) : Bool := perpB p c z.1 z.2.1 z.1 z.2.1
def nulls (p c a1 a2 : Int) (k : Nat) : List (Int × Int × Int) := (ppL p a1 a2 k).filter (nullT p c)
theorem nulls_yes {p c a1 a2 : Int} {k : Nat} (h : nullT p c (lineAt p a1 a2 k) = true) : nulls p c a1 a2 (k + 1) = nulls p c a1 a2 k ++ [lineAt p a1 a2 k] := by
  rw [nulls, nulls, ppL_succ, List.filter_append, List.filter_cons, if_pos h]; rfl
theorem nulls_no {p c a1 a2 : Int} {k : Nat} (h : nullT p c (lineAt p a1 a2 k) = false) : nulls p c a1 a2 (k + 1) = nulls p c a1 a2 k := by
  rw [nulls, nulls, ppL_succ, List.filter_append, List.filter_cons, if_neg (by rw [h]; decide)]; simp
theorem nulls_len (p c a1 a2 : Int) (k : Nat) : (nulls p c a1 a2 k).length ≤ k := by
  refine Nat.le_trans (List.length_filter_le _ _) ?_
  cases k with
  | zero => simp [ppL]
  | succ k => rw [ppL, pencil_length]; exact Nat.le_refl _
theorem nulls_sorted (p c a1 a2 : Int) (k : Nat) : (nulls p c a1 a2 k).Pairwise LtT := by
  refine List.Pairwise.filter _ ?_
  cases k with
  | zero => exact .nil
  | succ k => exact pencil_sorted p a1 a2 k
/-- A line with its leading number 1 is made by itself. -/
theorem mk_norm {p l1 l2 : Int} (c : Int) (hp : isP p = true) (hd : leadB l1 l2 = true) (h1 : 0 ≤ l1 ∧ l1 < p) (h2 : 0 ≤ l2 ∧ l2 < p) : mk1 p l1 l2 c = l1 ∧ mk2 p l1 l2 c = l2 ∧ mk3 p l1 l2 c = c % p := by
  have hm := modR c hp
  have hl : lineB p l1 l2 (c % p) = true := lineB_of hd (nums3_of h1 h2 hm)
  obtain ⟨n, rfl⟩ := Int.eq_ofNat_of_zero_le (by have := isP_range hp; omega : 0 ≤ p)
  haveI := neZero_of hp
  have h := mk_lead hp hl
  refine ⟨h.1, h.2.1, ?_⟩
  rw [← h.2.2]
  unfold mk3
  exact K_ext.1 (by simp only [K_mul, K_mod])
theorem lineAt_0 {p : Int} (a1 a2 : Int) (hp : isP p = true) : lineAt p a1 a2 0 = (mk1 p 0 1 (-a2), mk2 p 0 1 (-a2), mk3 p 0 1 (-a2)) := by
  have hr := isP_range hp
  have h := mk_norm (l1 := 0) (l2 := 1) (-a2) hp rfl (by omega) (by omega)
  rw [h.1, h.2.1, h.2.2, lineAt, parL]
  simp
theorem lineAt_1 {p : Int} (a1 a2 : Int) (k : Nat) (hp : isP p = true) (hk : (k : Int) < p) : lineAt p a1 a2 (k + 1) = (mk1 p 1 (k : Int) (-(a1 + k * a2)), mk2 p 1 (k : Int) (-(a1 + k * a2)), mk3 p 1 (k : Int) (-(a1 + k * a2))) := by
  have hr := isP_range hp
  have h := mk_norm (l1 := 1) (l2 := (k : Int)) (-(a1 + k * a2)) hp rfl (by omega) (by omega)
  rw [h.1, h.2.1, h.2.2, lineAt, parL]
  congr 3
  omega
/-- The null lines are the lines to the points at the quadrance 0. -/
theorem nulls_mem {p c a1 a2 : Int} (hp : isP p = true) (hc : colB c = true) (ha1 : 0 ≤ a1 ∧ a1 < p) (ha2 : 0 ≤ a2 ∧ a2 < p) {bs : List (Int × Int)} (hb : ∀ b, b ∈ bs ↔ ((0 ≤ b.1 ∧ b.1 < p) ∧ 0 ≤ b.2 ∧ b.2 < p) ∧ qdr p c a1 a2 b.1 b.2 = 0) (z : Int × Int × Int) :
    z ∈ linesR p a1 a2 bs ↔ z ∈ nulls p c a1 a2 (p.toNat + 1) := by
  rw [nulls, ppL, List.mem_filter, pencil_mem hp, linesR, List.mem_map]
  constructor
  · rintro ⟨b, h, rfl⟩
    obtain ⟨h1, h2⟩ := List.mem_filter.1 h
    obtain ⟨hr, hq⟩ := (hb b).1 h1
    have hne : ¬ (a1 = b.1 ∧ a2 = b.2) := by rintro ⟨e1, e2⟩; simp [← e1, ← e2] at h2
    have he := thEq hp ha1 ha2 hr.1 hr.2 hne
    have ht : trT p a1 a2 b = (th1 p a1 a2 b.1 b.2, th2 p a1 a2 b.1 b.2, th3 p a1 a2 b.1 b.2) := by
      unfold trT tr1 tr2 tr3
      rw [← he.1, ← he.2.1, ← he.2.2]
    rw [ht]
    refine ⟨th_on hp ha1 ha2 hr.1 hr.2 hne, ?_⟩
    have hn := null_th hp hc ha1 ha2 hr.1 hr.2 hne
    rw [hq] at hn
    exact hn
  · rintro ⟨⟨hl, ho⟩, hn⟩
    obtain ⟨l1, l2, l3⟩ := z
    have h := on_th hp ha1 ha2 hl ho
    have r1 := modR (a1 - l2) hp
    have r2 := modR (a2 + l1) hp
    have he := thEq hp ha1 ha2 r1 r2 h.1
    have hq := null_th hp hc ha1 ha2 r1 r2 h.1
    rw [h.2.1, h.2.2.1] at hq
    have hq0 : qdr p c a1 a2 ((a1 - l2) % p) ((a2 + l1) % p) = 0 := by
      have : (qdr p c a1 a2 ((a1 - l2) % p) ((a2 + l1) % p) == 0) = true := hq.symm.trans hn
      simpa using this
    refine ⟨((a1 - l2) % p, (a2 + l1) % p), List.mem_filter.2 ⟨(hb _).2 ⟨⟨r1, r2⟩, hq0⟩, ?_⟩, ?_⟩
    · rw [Bool.not_eq_true', Bool.and_eq_false_iff]
      by_cases e : a1 = (a1 - l2) % p
      · right; rw [beq_eq_false_iff_ne]; exact fun e2 => h.1 ⟨e, e2.symm⟩
      · left; rw [beq_eq_false_iff_ne]; exact fun e2 => e e2.symm
    · unfold trT tr1 tr2 tr3
      simp only
      rw [← he.1, ← he.2.1, ← he.2.2, h.2.1, h.2.2.1, h.2.2.2]

end Go.Proofs.Ytjjeekmhpcllaaa
