/-
  A range over an iterator that itself ranges over another one: the caller's round leaves alone what is no memory cell and was laid since the iterator began.
-/
import Derived.RangeFuncNested
import Derived.RangeFuncBound
import Derived.RangeFuncCalls
import Derived.RangeFuncLeaves
import Derived.Below

namespace Go.Proofs.Ytmpgpmcmhbpjeab
open Go Go.RowKit

variable {F : Fence} {n : Nat} {P : Program}

/-- An iterator's contract where the caller's rounds leave all records laid since its call as they were. -/
def SeqOn {α : Type} (F : Fence) (n : Nat) (P : Program) (g : Nat) (lb : Array Value) (enc : α → Array Value) (Kp : World → World → Prop) (S Sp : List α → Prop) (N : Nat) (w : World) : Prop :=
  ∀ (l : Nat) (J Jx : List α → World → Prop) (W : World), Below w.heap.size w W → OwnFrom W.heap.size J → OwnFrom W.heap.size Jx →
    (∀ pre x W1, J pre W1 → pre.length < N → YieldAt F (n - 1) P l (enc x) W1 fun e W' =>
      (e = .returned (.bool true) ∧ J (pre ++ [x]) W' ∧ Kp W1 W' ∧ KeepsFrom W.heap.size W1 W') ∨ (e = .returned (.bool false) ∧ Jx (pre ++ [x]) W' ∧ KeepsFrom W.heap.size W1 W')) →
    J [] W →
    CallsIn F n P g (#[.func (.yield l) #[] #[]] ++ lb) W fun e W' => (∃ v, e = .returned v) ∧ ((∃ xs, S xs ∧ J xs W') ∨ (∃ pre, Sp pre ∧ Jx pre W'))
/-- The elder contract serves here, also where it asks the body for less. -/
theorem seqOn_of {α : Type} {g : Nat} {lb : Array Value} {enc : α → Array Value} {Kp Kq : World → World → Prop} {S Sp : List α → Prop} {N : Nat} {w : World} (h : SeqStopsK F n P g lb enc Kp S Sp N w) (hK : ∀ A B, Kq A B → Kp A B) :
    SeqOn F n P g lb enc Kq S Sp N w := fun l J Jx W hW hJ hX hY h0 =>
  h l J Jx W hW (fun s A B row hs hg hr => hJ s A B row hs hg fun r e => ⟨(hr r e).1, (hr r e).2.choose, (hr r e).2.choose_spec.1, Obj.not_cells_of_walk (hr r e).2.choose_spec.2⟩)
    (fun s A B row hs hg hr => hX s A B row hs hg fun r e => ⟨(hr r e).1, (hr r e).2.choose, (hr r e).2.choose_spec.1, Obj.not_cells_of_walk (hr r e).2.choose_spec.2⟩)
    (fun pre x W1 hj hl => (hY pre x W1 hj hl).mono fun _ _ q => q.imp (fun q => ⟨q.1, q.2.1, hK _ _ q.2.2.1⟩) fun q => ⟨q.1, q.2.1⟩) h0

/-- A loop's two records. -/
def Recs (b : Nat) (r : Loop) (W : World) : Prop := W.heap[b]? = some (.deferred (some [])) ∧ W.heap[b + 1]? = some (.loop r)
theorem Recs.lt {b : Nat} {r : Loop} {W : World} (h : Recs b r W) : b + 1 < W.heap.size := (Array.getElem?_eq_some_iff.1 h.2).1
theorem Recs.kept {b B : Nat} {r : Loop} {W W' : World} (h : Recs b r W) (hk : KeepsFrom B W W') (hB : B ≤ b) : Recs b r W' := ⟨hk.same _ _ hB h.1 rfl, hk.same _ _ (by omega) h.2 rfl⟩
theorem Recs.put {b : Nat} {r : Loop} {W : World} (h : Recs b r W) (r' : Loop) : Recs b r' (W.putObj (b + 1) (.loop r')) := ⟨(World.putObj_heap_other (by omega)).trans h.1, World.putObj_heap_same h.lt⟩
theorem recs_own {β : Type} {b B : Nat} (hB : b + 2 ≤ B) (r : Loop) : OwnFrom B (fun (_ : β) W => Recs b r W) := fun _ X Y row hs hg hr =>
  ⟨(hg.block _ (Array.getElem?_eq_some_iff.1 hs.1).1 fun e => by have := (hr _ e.symm).1; omega).trans hs.1, (hg.block _ hs.lt fun e => by have := (hr _ e.symm).1; omega).trans hs.2⟩
theorem own_later {β : Type} {B B' : Nat} {I : β → World → Prop} (h : OwnFrom B I) (hB : B ≤ B') : OwnFrom B' I := fun s X Y row hs hg hr => h s X Y row hs hg fun r e => ⟨Nat.le_trans hB (hr r e).1, (hr r e).2⟩
theorem keeps_put {B k : Nat} {W : World} {o : Obj} (h : k < B) : KeepsFrom B W (W.putObj k o) := ⟨by simp, fun i o' hB hi _ => (World.putObj_heap_other (by omega)).trans hi⟩
/-- A round at the wide fence is one at whatever depth, within whatever round. -/
theorem yield_wide {m m' l l' : Nat} {args : Array Value} {W : World} {R : Ending → World → Prop} (h : YieldAt Fence.wide m P l args W R) : YieldAt (Fence.wide.inRound l') m' P l args W R := by
  obtain ⟨fn, tmps, assign, body, h1, h2⟩ := h
  exact ⟨fn, tmps, assign, body, h1, h2.1, fun c cs _ => h2.2 c cs (by simp [Fence.room, Fence.wide])⟩

theorem range_on {α : Type} {g : Operand} {ps : Array Tmp} {assign body : Code} {Q : Exit → Act → World → Prop} {a : Act} {w : World}
    (hro : F.round = none) (h1 : 1 ≤ n) {gf : Nat} {lb : Array Value} (hg : a.eval g = .func (.func gf) #[] lb) (hFg : F.fn gf) (eg : ∀ args w, (callFunc gf args).run P w = .ok (.enter gf args) w)
    {enc : α → Array Value} {Kp : World → World → Prop} {S Sp : List α → Prop} {N : Nat} {w0 : World} (hseq : SeqOn F (n - 1) P gf lb enc Kp S Sp N w0)
    (hKt : ∀ {A B C : World}, Kp A B → Kp B C → Kp A C) (hKb : ∀ (W : World) (o o' : Obj), W.heap[w.heap.size + 1]? = some o → o.isCells = false → Kp W (W.putObj (w.heap.size + 1) o'))
    (hb0 : Below w0.heap.size w0 w) (hps : ∀ x, (enc x).size = ps.size)
    (I : List α → World → Prop) (Ix : Code → List α → World → Prop) (hI : OwnFrom w.heap.size I) (hIx : ∀ c, OwnFrom w.heap.size (Ix c)) (h0 : I [] w) (Ax : α → Act → World → Prop) (hAx : ∀ x a', OwnFrom w.heap.size (fun (_ : Unit) W => Ax x a' W))
    (hassign : ∀ (l : Nat) (pre : List α) (x : α) (W : World) (K : Act → World → Prop), I pre W → (∀ a' W', KeepsFrom w.heap.size W W' → Kp W W' → I pre W' → Ax x a' W' → K a' W') →
      assign.wpIn (F.inRound l) (n - 1 - 1) P (Exit.then K (fun _ _ _ => False)) { tmps := (ps.zip (enc x)).foldl (fun t (p, v) => t.setIfInBounds p v) a.tmps, defers := [] } W)
    (hbody : ∀ (l : Nat) (pre : List α) (x : α) (a' : Act) (W : World), I pre W → Ax x a' W → pre.length < N → body.wpIn (F.inRound l) (n - 1 - 1) P (ownPostG w.heap.size Kp I Ix (pre ++ [x]) W) a' W)
    (hdone : ∀ (D : Nat) (xs : List α) (W : World), w.heap.size ≤ D → S xs → I xs W → W.heap[D]? = some (.deferred (some [])) → Q .normal { a with defers := { target := .collected D, args := #[] } :: a.defers } W)
    (hstop : ∀ (D : Nat) (c : Code) (pre : List α) (W : World), w.heap.size ≤ D → Sp pre → Ix c pre W → W.heap[D]? = some (.deferred (some [])) → c.wpIn F n P Q { a with defers := { target := .collected D, args := #[] } :: a.defers } W) :
    (Code.rangeFunc g ps assign body).wpIn F n P Q a w := by
  refine wpIn_rangeFunc fun fn hfn => ?_
  rw [hro]
  have he := run_enterLoop_outer (P := P) (w := w) fn a.tmps ps assign body
  obtain ⟨r0, hr0⟩ : ∃ r : Loop, r = { state := .ready, pending := none, fn := fn, tmps := a.tmps, params := ps, assign := assign, body := body, defers := w.heap.size } := ⟨_, rfl⟩
  rw [← hr0] at he
  have hrs : Recs w.heap.size r0 ((w.alloc (.deferred (some []))).alloc (.loop r0)) :=
    ⟨(Below.heap_alloc _ _ _ (by simp)).trans (World.alloc_heap_new w _), by have := World.alloc_heap_new (w.alloc (.deferred (some []))) (.loop r0); rwa [World.size_alloc] at this⟩
  have hi0 : I [] ((w.alloc (.deferred (some []))).alloc (.loop r0)) := hI.alloc _ (hI.alloc _ h0)
  have hbe : Below w0.heap.size w0 ((w.alloc (.deferred (some []))).alloc (.loop r0)) := hb0.trans ((((Below.refl _ w).alloc (Nat.le_refl _) _).alloc (by simp) _).mono hb0.size)
  have hsz : ((w.alloc (.deferred (some []))).alloc (.loop r0)).heap.size = w.heap.size + 2 := by simp
  obtain ⟨Ws, hWs⟩ : ∃ X, X = (w.alloc (.deferred (some []))).alloc (.loop r0) := ⟨_, rfl⟩
  rw [← hWs] at he hrs hi0 hbe hsz
  clear hWs
  refine ⟨w.heap.size + 1, _, Ws, { target := .fn (.func gf) lb, args := #[.func (.yield (w.heap.size + 1)) #[] #[]] }, Ws, gf, #[.func (.yield (w.heap.size + 1)) #[] #[]] ++ lb, Ws, he, ?_, ?_, ?_, fun _ => h1, ?_⟩
  · simp only [resolve, hg]; simp [go_sem]
  · intro f' hf'; simp [Target.leads] at hf'; subst hf'; exact hFg
  · simp [invoke, go_sem, eg]
  have hsm : w.heap.size ≤ Ws.heap.size := by omega
  refine (hseq (w.heap.size + 1) (fun pre W => I pre W ∧ Recs w.heap.size r0 W) (fun pre W => ∃ c, Ix c pre W ∧ Recs w.heap.size { r0 with state := .done, pending := some c } W) Ws hbe
    (OwnFrom.and (own_later hI hsm) (recs_own (by omega) r0)) (fun s X Y row hs hg' hr => by obtain ⟨c, h, k⟩ := hs; exact ⟨c, own_later (hIx c) hsm s X Y row h hg' hr, recs_own (β := Unit) (by omega) _ () X Y row k hg' hr⟩) ?_ ⟨hi0, hrs⟩).mono ?_
  · rintro pre x W ⟨hi, hr⟩ hlen
    have hy := run_yield (P := P) (args := enc x) hr.2 (by rw [hr0]; exact hps x)
    rw [hr0] at hy
    refine ⟨fn, _, assign, body, hy, roundIn_of_wpIn hfn (hassign _ pre x W _ hi fun a' W1 hk1 hp1 hi1 hx1 => ?_)⟩
    have hr1 := hr.kept hk1 (Nat.le_refl _)
    have hr2 := hr1.put { r0 with state := .busy }
    have hp2 := hKb W1 (.loop r0) (.loop { r0 with state := .busy }) hr1.2 rfl
    refine ⟨_, run_beginRound hr1.2 (by rw [hr0]), wpIn_mono (hbody _ pre x a' _ (hI.putObj _ hi1 (by omega) hr1.2 rfl) ((hAx x a').putObj (s := ()) _ hx1 (by omega) hr1.2 rfl) hlen) ?_⟩
    have k12 : KeepsFrom Ws.heap.size W (W1.putObj (w.heap.size + 1) (.loop { r0 with state := .busy })) :=
      KeepsFrom.trans ⟨hk1.size, fun i o hB => hk1.same i o (by omega)⟩ (keeps_put (by omega))
    have over : ∀ (j : Option Code) (W3 : World), KeepsFrom w.heap.size (W1.putObj (w.heap.size + 1) (.loop { r0 with state := .busy })) W3 →
        ∃ r3 : Loop, r3 = { r0 with state := if j.isNone then .ready else .done, pending := j } ∧ (Instr.endRound (w.heap.size + 1) j).run P W3 = .ok (.bool j.isNone) (W3.putObj (w.heap.size + 1) (.loop r3)) ∧ Recs w.heap.size { r0 with state := .busy } W3 ∧
          KeepsFrom Ws.heap.size W (W3.putObj (w.heap.size + 1) (.loop r3)) := fun j W3 hk3 => by
      have hr3 := hr2.kept hk3 (Nat.le_refl _)
      exact ⟨_, rfl, run_endRound (P := P) (r := { r0 with state := .busy }) j hr3.2, hr3, (k12.trans ⟨hk3.size, fun i o hB => hk3.same i o (by omega)⟩).trans (keeps_put (by omega))⟩
    rintro e a3 W3 hp
    cases e with
    | normal =>
      obtain ⟨hk3, hp3, hi3⟩ := hp
      obtain ⟨r3, e3, hrun, hr3, hk4⟩ := over none W3 hk3
      have hrr : r3 = r0 := by rw [e3, hr0]; rfl
      refine ⟨_, _, hrun, .inl ⟨rfl, ⟨hI.putObj _ hi3 (by omega) hr3.2 rfl, by rw [hrr]; exact hr3.put _⟩, hKt hp1 (hKt hp2 (hKt hp3 (hKb _ _ _ hr3.2 rfl))), hk4⟩⟩
    | ret =>
      obtain ⟨hk3, hi3⟩ := hp
      obtain ⟨r3, e3, hrun, hr3, hk4⟩ := over (some .ret) W3 hk3
      exact ⟨_, _, hrun, .inr ⟨rfl, ⟨.ret, (hIx _).putObj _ hi3 (by omega) hr3.2 rfl, by have := hr3.put r3; rw [e3] at this ⊢; exact this⟩, hk4⟩⟩
    | exit id =>
      obtain ⟨hk3, hi3⟩ := hp
      obtain ⟨r3, e3, hrun, hr3, hk4⟩ := over (some (.exit id)) W3 hk3
      exact ⟨_, _, hrun, .inr ⟨rfl, ⟨.exit id, (hIx _).putObj _ hi3 (by omega) hr3.2 rfl, by have := hr3.put r3; rw [e3] at this ⊢; exact this⟩, hk4⟩⟩
    | goto t =>
      obtain ⟨hk3, hi3⟩ := hp
      obtain ⟨r3, e3, hrun, hr3, hk4⟩ := over (some (.goto t)) W3 hk3
      exact ⟨_, _, hrun, .inr ⟨rfl, ⟨.goto t, (hIx _).putObj _ hi3 (by omega) hr3.2 rfl, by have := hr3.put r3; rw [e3] at this ⊢; exact this⟩, hk4⟩⟩
    | panic ch => exact hp.elim
    | outgrown => exact hp.elim
  · rintro e W2 ⟨⟨v, rfl⟩, (⟨xs, hS, hi, hr⟩ | ⟨pre, hSp, c, hi, hr⟩)⟩
    · exact ⟨none, _, by have := run_endLoop (P := P) hr.2 (by rw [hr0]; simp); rwa [show r0.pending = none from by rw [hr0]] at this, hdone _ xs _ (Nat.le_refl _) hS (hI.putObj _ hi (by omega) hr.2 rfl) ((World.putObj_heap_other (by omega)).trans hr.1)⟩
    · exact ⟨some c, _, run_endLoop (P := P) hr.2 (by simp), hstop _ c pre _ (Nat.le_refl _) hSp ((hIx c).putObj _ hi (by omega) hr.2 rfl) ((World.putObj_heap_other (by omega)).trans hr.1)⟩

end Go.Proofs.Ytmpgpmcmhbpjeab
