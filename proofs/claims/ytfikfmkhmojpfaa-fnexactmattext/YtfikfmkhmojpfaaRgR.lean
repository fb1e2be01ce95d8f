/-
  A range over a function whose iterator reads, between two rounds, what the loop's own invariant tells of memory.
-/
import Derived.Test.YtfikfmkhmojpfaaBT
namespace Go.Proofs.Ytfikfmkhmojpfaa
open Go.RowKit Go.Shelf
set_option linter.unusedVariables false

/-- An iterator hands the things xs one by one; it makes blocks of its own first (from W's size up to hi), and writes into those alone. -/
def SeqOwnR {α : Type} (F : Fence) (n : Nat) (P : Program) (g : Nat) (lb : Array Value) (encs : α → Array Value) (xs : List α) (Rd : World → Prop) (w : World) : Prop :=
  ∀ (l : Nat) (J : Nat → List α → World → Prop) (W : World), Kept 0 0 w W →
    (∀ hi W', Kept 0 0 W W' → W'.heap.size = hi → J hi [] W') →
    (∀ hi pre A B, J hi pre A → Kept W.heap.size hi A B → J hi pre B) →
    (∀ hi pre A, J hi pre A → Rd A) →
    (∀ hi pre x post A, xs = pre ++ x :: post → J hi pre A → YieldAt F (n - 1) P l (encs x) A fun e B => e = .returned (.bool true) ∧ J hi (pre ++ [x]) B ∧ Mod (Out W.heap.size hi) A B) →
    CallsIn F n P g (#[.func (.yield l) #[] #[]] ++ lb) W fun e W' => (∃ v, e = .returned v) ∧ ∃ hi, J hi xs W'

theorem wpIn_rangeFunc_ownWR {F : Fence} {n : Nat} {P : Program} {α : Type} {g : Operand} {ps : Array Tmp} {assign body : Code} {Q : Exit → Act → World → Prop} {a : Act} {w : World}
    (hro : F.round = none) (h1 : 1 ≤ n) {gf : Nat} {lb : Array Value} (hg : a.eval g = .func (.func gf) #[] lb) (hFg : F.fn gf) (eg : ∀ args w, (callFunc gf args).run P w = .ok (.enter gf args) w)
    {encs : α → Array Value} {xs : List α} {Rd : World → Prop} (hseq : SeqOwnR F (n - 1) P gf lb encs xs Rd w) (hps : ∀ x, (encs x).size = ps.size)
    (I : Nat → List α → World → Prop)
    (hI0 : ∀ hi W', Kept 0 0 w W' → w.heap.size + 2 ≤ hi → W'.heap.size = hi → I hi [] W')
    (hIR : ∀ hi pre A, I hi pre A → Rd A)
    (hIk : ∀ hi pre A B, I hi pre A → Kept w.heap.size hi A B → I hi pre B) (a₁ : α → Act)
    (hassign : ∀ (l : Nat) (x : α) (W : World) (K : Act → World → Prop), K (a₁ x) W →
      assign.wpIn (F.inRound l) (n - 1 - 1) P (Exit.then K (fun _ _ _ => False)) { tmps := (ps.zip (encs x)).foldl (fun t (p, v) => t.setIfInBounds p v) a.tmps, defers := [] } W)
    (hbody : ∀ (l hi : Nat) (pre : List α) (x : α) (post : List α) (W : World), xs = pre ++ x :: post → w.heap.size + 2 ≤ hi → I hi pre W → body.wpIn (F.inRound l) (n - 1 - 1) P (roundOff fun W' => I hi (pre ++ [x]) W' ∧ Mod (Out w.heap.size hi) W W') (a₁ x) W)
    (hdone : ∀ (D hi : Nat) (W : World), w.heap.size ≤ D → D < hi → I hi xs W → W.heap[D]? = some (.deferred (some [])) → Q .normal { a with defers := { target := .collected D, args := #[] } :: a.defers } W) :
    (Code.rangeFunc g ps assign body).wpIn F n P Q a w := by
  refine wpIn_rangeFunc ?_
  intro fn hfn
  rw [hro]
  obtain ⟨rec, hrec⟩ : ∃ rec : LoopState → Option Code → Loop, rec = fun st pe => { state := st, pending := pe, fn, tmps := a.tmps, params := ps, assign, body, defers := w.heap.size } := ⟨_, rfl⟩
  obtain ⟨W1, hW1⟩ : ∃ W1, (w.alloc (.deferred (some []))).alloc (.loop (rec .ready none)) = W1 := ⟨_, rfl⟩
  have hL1 : W1.heap[w.heap.size + 1]? = some (.loop (rec .ready none)) := by
    rw [← hW1]; have := World.alloc_heap_new (w.alloc (.deferred (some []))) (.loop (rec .ready none)); rwa [World.size_alloc] at this
  have hK1 : W1.heap[w.heap.size]? = some (.deferred (some [])) := by
    rw [← hW1]; exact (Below.heap_alloc _ _ _ (by simp)).trans (World.alloc_heap_new w _)
  have hs1 : W1.heap.size = w.heap.size + 2 := by rw [← hW1]; simp
  have kw1 : Kept 0 0 w W1 := by rw [← hW1]; exact ((Kept.refl 0 0 w).alloc _).alloc _
  refine ⟨w.heap.size + 1, [{ target := .collected w.heap.size, args := #[] }], W1, { target := .fn (.func gf) lb, args := #[.func (.yield (w.heap.size + 1)) #[] #[]] }, W1, gf,
    #[.func (.yield (w.heap.size + 1)) #[] #[]] ++ lb, W1, ?_, ?_, ?_, ?_, fun _ => h1, ?_⟩
  · rw [← hW1, hrec]; exact run_enterLoop_outer _ _ _ _ _
  · simp only [resolve, hg]
    simp [go_sem]
  · intro f' hf'; simp [Target.leads] at hf'; subst hf'; exact hFg
  · simp [invoke, go_sem, eg]
  · refine (hseq (w.heap.size + 1)
      (fun hi pre W => w.heap.size + 2 ≤ hi ∧ I hi pre W ∧ W.heap[w.heap.size + 1]? = some (.loop (rec .ready none)) ∧ W.heap[w.heap.size]? = some (.deferred (some [])))
      W1 kw1 ?_ ?_ (fun hi pre A h => hIR hi pre A h.2.1) ?_).mono ?_
    · intro hi W' k e
      have hsz := k.size
      exact ⟨by omega, hI0 hi W' (kw1.trans k) (by omega) e, (k.block _ (by omega) (by omega)).trans hL1, (k.block _ (by omega) (by omega)).trans hK1⟩
    · rintro hi pre A B ⟨h2, hi1, hl, hk⟩ k
      have hlt : w.heap.size + 1 < A.heap.size := (Array.getElem?_eq_some_iff.1 hl).1
      exact ⟨h2, hIk _ _ _ _ hi1 (k.wider (by omega) (Nat.le_refl _)), (k.block _ hlt (.inl (by omega))).trans hl, (k.block _ (by omega) (.inl (by omega))).trans hk⟩
    · rintro hi pre x post W hx ⟨h2, hi1, hl, hk⟩
      have hlt : w.heap.size + 1 < W.heap.size := (Array.getElem?_eq_some_iff.1 hl).1
      have hy := run_yield (P := P) (args := encs x) hl (by rw [hrec]; exact hps x)
      rw [hrec] at hy
      refine ⟨fn, _, assign, body, hy, roundIn_of_wpIn hfn (hassign _ x W _ ⟨_, run_beginRound hl (by rw [hrec]), ?_⟩)⟩
      have hl2 : (W.putObj (w.heap.size + 1) (.loop { rec .ready none with state := .busy })).heap[w.heap.size + 1]? = some (.loop { rec .ready none with state := .busy }) := World.putObj_heap_same hlt
      have hk2 : (W.putObj (w.heap.size + 1) (.loop { rec .ready none with state := .busy })).heap[w.heap.size]? = some (.deferred (some [])) := (World.putObj_heap_other (by omega)).trans hk
      refine wpIn_mono (hbody _ hi pre x post _ hx h2 (hIk _ _ _ _ hi1 (Kept.put _ _ (by omega) (by omega)))) ?_
      rintro e a3 W3 hp
      cases e with
      | normal =>
        obtain ⟨hi3, m3⟩ := hp
        have hl3 := (m3.block (w.heap.size + 1) (by rw [size_put]; omega) (by unfold Out; omega)).trans hl2
        have hk3 := (m3.block w.heap.size (by rw [size_put]; omega) (by unfold Out; omega)).trans hk2
        have hlt3 : w.heap.size + 1 < W3.heap.size := (Array.getElem?_eq_some_iff.1 hl3).1
        have hr := run_endRound (P := P) none hl3
        refine ⟨_, _, hr, rfl, ⟨h2, hIk _ _ _ _ hi3 (Kept.put _ _ (by omega) (by omega)), ?_, (World.putObj_heap_other (by omega)).trans hk3⟩, ?_⟩
        · rw [World.putObj_heap_same hlt3, hrec]; rfl
        · have m0 : Mod (Out W1.heap.size hi) W (W.putObj (w.heap.size + 1) (.loop { rec .ready none with state := .busy })) := (Mod.refl _ W).put _ (by unfold Out; omega)
          exact (m0.then m3 (fun i hi' => .inl (by unfold Out at *; omega))).put _ (by unfold Out; omega)
      | ret => exact hp.elim
      | exit id => exact hp.elim
      | goto t => exact hp.elim
      | panic ch => exact hp.elim
      | outgrown => exact hp.elim
    · rintro e W2 ⟨⟨v, rfl⟩, hi, h2, hi1, hl, hk⟩
      have hlt : w.heap.size + 1 < W2.heap.size := (Array.getElem?_eq_some_iff.1 hl).1
      refine ⟨none, _, by have := run_endLoop (P := P) hl (by rw [hrec]; simp); rw [hrec] at this; exact this, hdone _ hi _ (Nat.le_refl _) (by omega) (hIk _ _ _ _ hi1 (Kept.put _ _ (by omega) (by omega))) ((World.putObj_heap_other (by omega)).trans hk)⟩

end Go.Proofs.Ytfikfmkhmojpfaa
