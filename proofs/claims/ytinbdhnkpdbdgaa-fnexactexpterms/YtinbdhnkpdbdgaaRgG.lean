/-
  A range over a function whose iterator writes into memory of its own between two rounds and hands over things that lie in memory; the body may leave the loop.
-/
import Derived.Test.YtinbdhnkpdbdgaaRgF
namespace Go.Proofs.Ytinbdhnkpdbdgaa
open Go.RowKit Go.Shelf
set_option linter.unusedVariables false

/-- The blocks that lay ahead of the loop. -/
def Old (lo i : Nat) : Prop := i < lo

/-- What a round leaves behind: it goes on, or it has left; the body writes into what lay ahead of the loop alone. -/
def RoundB {α : Type} (J Jx : Nat → List α → World → Prop) (lo hi : Nat) (xs : List α) (A : World) (e : Ending) (B : World) : Prop :=
  (e = .returned (.bool true) ∧ J hi xs B ∧ Mod (Old lo) A B) ∨ (e = .returned (.bool false) ∧ Jx hi xs B ∧ Mod (Old lo) A B)

/-- An iterator hands the things xs one by one, as G tells of them; it makes blocks of its own first (from W's size up to hi), and writes into those alone. -/
def SeqRel {α : Type} (F : Fence) (n : Nat) (P : Program) (g : Nat) (lb : Array Value) (G : Nat → α → Array Value → World → Prop) (xs : List α) (w : World) : Prop :=
  ∀ (l : Nat) (J Jx : Nat → List α → World → Prop) (W : World), Kept 0 0 w W →
    (∀ hi W', Kept 0 0 W W' → W'.heap.size = hi → J hi [] W') →
    (∀ hi pre A B, J hi pre A → Kept W.heap.size hi A B → J hi pre B) →
    (∀ hi pre A B, Jx hi pre A → Kept W.heap.size hi A B → Jx hi pre B) →
    (∀ hi pre x post args A, xs = pre ++ x :: post → J hi pre A → G hi x args A → YieldAt F (n - 1) P l args A (RoundB J Jx W.heap.size hi (pre ++ [x]) A)) →
    CallsIn F n P g (#[.func (.yield l) #[] #[]] ++ lb) W fun e W' => (∃ v, e = .returned v) ∧ ∃ hi, J hi xs W' ∨ ∃ pre post, xs = pre ++ post ∧ Jx hi pre W'

/-- How a round is left: off its end, or by the departure c. -/
def roundEnd (c : Nat) (R Rx : World → Prop) : Exit → Act → World → Prop
  | .normal, _, w => R w
  | .exit id, _, w => id = c ∧ Rx w
  | _, _, _ => False

theorem wpIn_rangeFunc_ownR {F : Fence} {n : Nat} {P : Program} {α : Type} {g : Operand} {ps : Array Tmp} {assign body : Code} {Q : Exit → Act → World → Prop} {a : Act} {w : World} (c : Nat)
    (hro : F.round = none) (h1 : 1 ≤ n) {gf : Nat} {lb : Array Value} (hg : a.eval g = .func (.func gf) #[] lb) (hFg : F.fn gf) (eg : ∀ args w, (callFunc gf args).run P w = .ok (.enter gf args) w)
    {G : Nat → α → Array Value → World → Prop} {xs : List α} (hseq : SeqRel F (n - 1) P gf lb G xs w) (hps : ∀ hi x args W, G hi x args W → args.size = ps.size)
    (hGp : ∀ hi x args A B, G hi x args A → Kept w.heap.size hi A B → G hi x args B)
    (I Ix : Nat → List α → World → Prop)
    (hI0 : ∀ hi W', Kept 0 0 w W' → w.heap.size + 2 ≤ hi → W'.heap.size = hi → I hi [] W')
    (hIk : ∀ hi pre A B, I hi pre A → Kept w.heap.size hi A B → I hi pre B)
    (hIxk : ∀ hi pre A B, Ix hi pre A → Kept w.heap.size hi A B → Ix hi pre B)
    (As : Nat → α → Array Value → World → Act → World → Prop) (hAs : ∀ hi x args W a1 W', As hi x args W a1 W' → Kept 0 0 W W')
    (hassign : ∀ (l hi : Nat) (x : α) (args : Array Value) (W : World) (K : Act → World → Prop), G hi x args W → (∀ a1 W', As hi x args W a1 W' → K a1 W') →
      assign.wpIn (F.inRound l) (n - 1 - 1) P (Exit.then K (fun _ _ _ => False)) { tmps := (ps.zip args).foldl (fun t (p, v) => t.setIfInBounds p v) a.tmps, defers := [] } W)
    (hbody : ∀ (l hi : Nat) (pre : List α) (x : α) (post : List α) (args : Array Value) (W : World) (a1 : Act) (W1 W2 : World), xs = pre ++ x :: post → w.heap.size + 2 ≤ hi → I hi pre W → I hi pre W2 → G hi x args W2 → As hi x args W a1 W1 → Kept w.heap.size hi W1 W2 →
      body.wpIn (F.inRound l) (n - 1 - 1) P (roundEnd c (fun W' => I hi (pre ++ [x]) W' ∧ Mod (Old w.heap.size) W2 W') (fun W' => Ix hi (pre ++ [x]) W' ∧ Mod (Old w.heap.size) W2 W')) a1 W2)
    (hdone : ∀ (D hi : Nat) (W : World), w.heap.size ≤ D → D < hi → I hi xs W → W.heap[D]? = some (.deferred (some [])) → Q .normal { a with defers := { target := .collected D, args := #[] } :: a.defers } W)
    (hleft : ∀ (D hi : Nat) (pre post : List α) (W : World), w.heap.size ≤ D → D < hi → xs = pre ++ post → Ix hi pre W → W.heap[D]? = some (.deferred (some [])) → Q (.exit c) { a with defers := { target := .collected D, args := #[] } :: a.defers } W) :
    (Code.rangeFunc g ps assign body).wpIn F n P Q a w := by
  refine wpIn_rangeFunc ?_
  intro fn hfn
  rw [hro]
  obtain ⟨rec, hrec⟩ : ∃ rec : LoopState → Option Code → Loop, rec = fun st pe => { state := st, pending := pe, fn, tmps := a.tmps, params := ps, assign, body, defers := w.heap.size } := ⟨_, rfl⟩
  obtain ⟨W1, hW1⟩ : ∃ W1, (w.alloc (.deferred (some []))).alloc (.loop (rec .ready none)) = W1 := ⟨_, rfl⟩
  have hL1 : W1.heap[w.heap.size + 1]? = some (.loop (rec .ready none)) := by
    rw [← hW1]; have := World.alloc_heap_new (w.alloc (.deferred (some []))) (.loop (rec .ready none)); rwa [World.size_alloc] at this
  have hK1 : W1.heap[w.heap.size]? = some (.deferred (some [])) := by
    rw [← hW1]; exact (Below.heap_alloc _ _ _ (by simp)).trans (World.alloc_heap_new w _)
  have hs1 : W1.heap.size = w.heap.size + 2 := by rw [← hW1]; simp
  have kw1 : Kept 0 0 w W1 := by rw [← hW1]; exact ((Kept.refl 0 0 w).alloc _).alloc _
  refine ⟨w.heap.size + 1, [{ target := .collected w.heap.size, args := #[] }], W1, { target := .fn (.func gf) lb, args := #[.func (.yield (w.heap.size + 1)) #[] #[]] }, W1, gf,
    #[.func (.yield (w.heap.size + 1)) #[] #[]] ++ lb, W1, ?_, ?_, ?_, ?_, fun _ => h1, ?_⟩
  · rw [← hW1, hrec]; exact run_enterLoop_outer _ _ _ _ _
  · simp only [resolve, hg]
    simp [go_sem]
  · intro f' hf'; simp [Target.leads] at hf'; subst hf'; exact hFg
  · simp [invoke, go_sem, eg]
  · refine (hseq (w.heap.size + 1)
      (fun hi pre W => w.heap.size + 2 ≤ hi ∧ I hi pre W ∧ W.heap[w.heap.size + 1]? = some (.loop (rec .ready none)) ∧ W.heap[w.heap.size]? = some (.deferred (some [])))
      (fun hi pre W => w.heap.size + 2 ≤ hi ∧ Ix hi pre W ∧ W.heap[w.heap.size + 1]? = some (.loop (rec .done (some (.exit c)))) ∧ W.heap[w.heap.size]? = some (.deferred (some [])))
      W1 kw1 ?_ ?_ ?_ ?_).mono ?_
    · intro hi W' k e
      have hsz := k.size
      exact ⟨by omega, hI0 hi W' (kw1.trans k) (by omega) e, (k.block _ (by omega) (by omega)).trans hL1, (k.block _ (by omega) (by omega)).trans hK1⟩
    · rintro hi pre A B ⟨h2, hi1, hl, hk⟩ k
      have hlt : w.heap.size + 1 < A.heap.size := (Array.getElem?_eq_some_iff.1 hl).1
      exact ⟨h2, hIk _ _ _ _ hi1 (k.wider (by omega) (Nat.le_refl _)), (k.block _ hlt (.inl (by omega))).trans hl, (k.block _ (by omega) (.inl (by omega))).trans hk⟩
    · rintro hi pre A B ⟨h2, hi1, hl, hk⟩ k
      have hlt : w.heap.size + 1 < A.heap.size := (Array.getElem?_eq_some_iff.1 hl).1
      exact ⟨h2, hIxk _ _ _ _ hi1 (k.wider (by omega) (Nat.le_refl _)), (k.block _ hlt (.inl (by omega))).trans hl, (k.block _ (by omega) (.inl (by omega))).trans hk⟩
    · rintro hi pre x post args Wa hx ⟨h2, hi1, hl, hk⟩ hG
      have hlt : w.heap.size + 1 < Wa.heap.size := (Array.getElem?_eq_some_iff.1 hl).1
      have hy := run_yield (P := P) (args := args) hl (by rw [hrec]; exact hps _ _ _ _ hG)
      rw [hrec] at hy
      refine ⟨fn, _, assign, body, hy, roundIn_of_wpIn hfn (hassign _ _ x args Wa _ hG fun a1 W hA => ?_)⟩
      have kA := hAs _ _ _ _ _ _ hA
      have kA' : Kept w.heap.size hi Wa W := ⟨kA.os, kA.tape, kA.output, kA.size, fun i hi' _ => kA.block i hi' (by omega)⟩
      replace hl := (kA.block _ (by omega) (by omega)).trans hl
      replace hk := (kA.block w.heap.size (by omega) (by omega)).trans hk
      have hi0 := hi1
      replace hi1 := hIk _ _ _ _ hi1 kA'
      replace hG := hGp _ _ _ _ _ hG kA'
      have hsA := kA.size
      refine ⟨_, run_beginRound hl (by rw [hrec]), ?_⟩
      have hl2 : (W.putObj (w.heap.size + 1) (.loop { rec .ready none with state := .busy })).heap[w.heap.size + 1]? = some (.loop { rec .ready none with state := .busy }) := World.putObj_heap_same (by omega)
      have hk2 : (W.putObj (w.heap.size + 1) (.loop { rec .ready none with state := .busy })).heap[w.heap.size]? = some (.deferred (some [])) := (World.putObj_heap_other (by omega)).trans hk
      have kput : Kept w.heap.size hi W (W.putObj (w.heap.size + 1) (.loop { rec .ready none with state := .busy })) := Kept.put _ _ (by omega) (by omega)
      have m0 : Mod (Old W1.heap.size) Wa (W.putObj (w.heap.size + 1) (.loop { rec .ready none with state := .busy })) := (kA.toMod).put _ (by unfold Old; omega)
      refine wpIn_mono (hbody _ hi pre x post args Wa a1 W _ hx h2 hi0 (hIk _ _ _ _ hi1 kput) (hGp _ _ _ _ _ hG kput) hA kput) ?_
      rintro e a3 W3 hp
      cases e with
      | normal =>
        obtain ⟨hi3, m3⟩ := hp
        have hl3 := (m3.block (w.heap.size + 1) (by rw [size_put]; omega) (by unfold Old; omega)).trans hl2
        have hk3 := (m3.block w.heap.size (by rw [size_put]; omega) (by unfold Old; omega)).trans hk2
        have hlt3 : w.heap.size + 1 < W3.heap.size := (Array.getElem?_eq_some_iff.1 hl3).1
        have hr := run_endRound (P := P) none hl3
        refine ⟨_, _, hr, .inl ⟨rfl, ⟨h2, hIk _ _ _ _ hi3 (Kept.put _ _ (by omega) (by omega)), ?_, (World.putObj_heap_other (by omega)).trans hk3⟩, ?_⟩⟩
        · rw [World.putObj_heap_same hlt3, hrec]; rfl
        · exact (m0.then m3 (fun i hi' => .inl (by unfold Old at *; omega))).put _ (by unfold Old; omega)
      | exit id =>
        obtain ⟨rfl, hi3, m3⟩ := hp
        have hl3 := (m3.block (w.heap.size + 1) (by rw [size_put]; omega) (by unfold Old; omega)).trans hl2
        have hk3 := (m3.block w.heap.size (by rw [size_put]; omega) (by unfold Old; omega)).trans hk2
        have hlt3 : w.heap.size + 1 < W3.heap.size := (Array.getElem?_eq_some_iff.1 hl3).1
        have hr := run_endRound (P := P) (some (.exit id)) hl3
        refine ⟨_, _, hr, .inr ⟨rfl, ⟨h2, hIxk _ _ _ _ hi3 (Kept.put _ _ (by omega) (by omega)), ?_, (World.putObj_heap_other (by omega)).trans hk3⟩, ?_⟩⟩
        · rw [World.putObj_heap_same hlt3, hrec]; rfl
        · exact (m0.then m3 (fun i hi' => .inl (by unfold Old at *; omega))).put _ (by unfold Old; omega)
      | ret => exact hp.elim
      | goto t => exact hp.elim
      | panic ch => exact hp.elim
      | outgrown => exact hp.elim
    · rintro e W2 ⟨⟨v, rfl⟩, hi, (⟨h2, hi1, hl, hk⟩ | ⟨pre, post, hxs, h2, hi1, hl, hk⟩)⟩
      · have hlt : w.heap.size + 1 < W2.heap.size := (Array.getElem?_eq_some_iff.1 hl).1
        refine ⟨none, _, by have := run_endLoop (P := P) hl (by rw [hrec]; simp); rw [hrec] at this; exact this, hdone _ hi _ (Nat.le_refl _) (by omega) (hIk _ _ _ _ hi1 (Kept.put _ _ (by omega) (by omega))) ((World.putObj_heap_other (by omega)).trans hk)⟩
      · have hlt : w.heap.size + 1 < W2.heap.size := (Array.getElem?_eq_some_iff.1 hl).1
        refine ⟨some (.exit c), _, by have := run_endLoop (P := P) hl (by rw [hrec]; simp); rw [hrec] at this; exact this, ?_⟩
        exact wpIn_exit (hleft _ hi pre post _ (Nat.le_refl _) (by omega) hxs (hIxk _ _ _ _ hi1 (Kept.put _ _ (by omega) (by omega))) ((World.putObj_heap_other (by omega)).trans hk))

end Go.Proofs.Ytinbdhnkpdbdgaa
