/-
  Contracts that the proofs of this seat share: RgF, Rev, Txt1, INat24, Txt2, Dig1, Dig2, TxO.
-/
import Derived.RangeFuncNested
import Derived.RangeFuncBound
import Derived.RangeFuncCalls
import Derived.RangeFuncLeaves
import Derived.Shelf.Abstract
import Derived.Shelf.RegionOpen
import Derived.OwnWalkIn
import Derived.TacticsInMore
import Derived.LoopNIn
import Derived.LoopIn
import Derived.Test.YtfikfmkhmojpfaaBC
import Derived.Test.YtfikfmkhmojpfaaBA
import Derived.Deep.LoopGhost
import Derived.Shelf.RegionOpenPlain
import Derived.Lib.Walk
import Derived.Test.YtfikfmkhmojpfaaBB
import Derived.Lib.SlBytesConst
import Derived.Test.YtfikfmkhmojpfaaBF
import Derived.Test.YtfikfmkhmojpfaaBH
import Derived.Test.YtfikfmkhmojpfaaBI
import Derived.Sort.LoopGhostIn
namespace Go.Proofs.Ytfikfmkhmojpfaa
open Go.RowKit Go.Shelf
set_option linter.unusedVariables false

theorem Kept.put {lo hi l : Nat} (w : World) (o : Obj) (h1 : lo ≤ l) (h2 : l < hi) : Kept lo hi w (w.putObj l o) :=
  ⟨rfl, rfl, rfl, by simp [World.putObj], fun i _ ho => World.putObj_heap_other (by omega)⟩
theorem Mod.put {S : Nat → Prop} {a w : World} {l : Nat} (h : Mod S a w) (o : Obj) (hl : S l) : Mod S a (w.putObj l o) :=
  ⟨h.os, h.tape, h.output, by have := h.size; simpa [World.putObj] using this, fun i hi ho => (World.putObj_heap_other (fun e => by subst e; exact ho hl)).trans (h.block i hi ho)⟩

theorem size_put (w : World) (l : Nat) (o : Obj) : (w.putObj l o).heap.size = w.heap.size := by simp [World.putObj]

/-- The blocks outside the window from lo up to hi. -/
def Out (lo hi i : Nat) : Prop := i < lo ∨ hi ≤ i

/-- An iterator hands the things xs one by one; it makes blocks of its own first (from W's size up to hi), and writes into those alone. -/
def SeqOwn {α : Type} (F : Fence) (n : Nat) (P : Program) (g : Nat) (lb : Array Value) (encs : α → Array Value) (xs : List α) (w : World) : Prop :=
  ∀ (l : Nat) (J : Nat → List α → World → Prop) (W : World), Kept 0 0 w W →
    (∀ hi W', Kept 0 0 W W' → W'.heap.size = hi → J hi [] W') →
    (∀ hi pre A B, J hi pre A → Kept W.heap.size hi A B → J hi pre B) →
    (∀ hi pre x post A, xs = pre ++ x :: post → J hi pre A → YieldAt F (n - 1) P l (encs x) A fun e B => e = .returned (.bool true) ∧ J hi (pre ++ [x]) B ∧ Mod (Out W.heap.size hi) A B) →
    CallsIn F n P g (#[.func (.yield l) #[] #[]] ++ lb) W fun e W' => (∃ v, e = .returned v) ∧ ∃ hi, J hi xs W'

/-- How a round is left: off its end. -/
def roundOff (R : World → Prop) : Exit → Act → World → Prop
  | .normal, _, w => R w
  | _, _, _ => False

theorem wpIn_rangeFunc_ownW {F : Fence} {n : Nat} {P : Program} {α : Type} {g : Operand} {ps : Array Tmp} {assign body : Code} {Q : Exit → Act → World → Prop} {a : Act} {w : World}
    (hro : F.round = none) (h1 : 1 ≤ n) {gf : Nat} {lb : Array Value} (hg : a.eval g = .func (.func gf) #[] lb) (hFg : F.fn gf) (eg : ∀ args w, (callFunc gf args).run P w = .ok (.enter gf args) w)
    {encs : α → Array Value} {xs : List α} (hseq : SeqOwn F (n - 1) P gf lb encs xs w) (hps : ∀ x, (encs x).size = ps.size)
    (I : Nat → List α → World → Prop)
    (hI0 : ∀ hi W', Kept 0 0 w W' → w.heap.size + 2 ≤ hi → W'.heap.size = hi → I hi [] W')
    (hIk : ∀ hi pre A B, I hi pre A → Kept w.heap.size hi A B → I hi pre B) (a₁ : α → Act)
    (hassign : ∀ (l : Nat) (x : α) (W : World) (K : Act → World → Prop), K (a₁ x) W →
      assign.wpIn (F.inRound l) (n - 1 - 1) P (Exit.then K (fun _ _ _ => False)) { tmps := (ps.zip (encs x)).foldl (fun t (p, v) => t.setIfInBounds p v) a.tmps, defers := [] } W)
    (hbody : ∀ (l hi : Nat) (pre : List α) (x : α) (post : List α) (W : World), xs = pre ++ x :: post → w.heap.size + 2 ≤ hi → I hi pre W → body.wpIn (F.inRound l) (n - 1 - 1) P (roundOff fun W' => I hi (pre ++ [x]) W' ∧ Mod (Out w.heap.size hi) W W') (a₁ x) W)
    (hdone : ∀ (D hi : Nat) (W : World), w.heap.size ≤ D → D < hi → I hi xs W → W.heap[D]? = some (.deferred (some [])) → Q .normal { a with defers := { target := .collected D, args := #[] } :: a.defers } W) :
    (Code.rangeFunc g ps assign body).wpIn F n P Q a w := by
  refine wpIn_rangeFunc ?_
  intro fn hfn
  rw [hro]
  obtain ⟨rec, hrec⟩ : ∃ rec : LoopState → Option Code → Loop, rec = fun st pe => { state := st, pending := pe, fn, tmps := a.tmps, params := ps, assign, body, defers := w.heap.size } := ⟨_, rfl⟩
  obtain ⟨W1, hW1⟩ : ∃ W1, (w.alloc (.deferred (some []))).alloc (.loop (rec .ready none)) = W1 := ⟨_, rfl⟩
  have hL1 : W1.heap[w.heap.size + 1]? = some (.loop (rec .ready none)) := by
    rw [← hW1]; have := World.alloc_heap_new (w.alloc (.deferred (some []))) (.loop (rec .ready none)); rwa [World.size_alloc] at this
  have hK1 : W1.heap[w.heap.size]? = some (.deferred (some [])) := by
    rw [← hW1]; exact (Below.heap_alloc _ _ _ (by simp)).trans (World.alloc_heap_new w _)
  have hs1 : W1.heap.size = w.heap.size + 2 := by rw [← hW1]; simp
  have kw1 : Kept 0 0 w W1 := by rw [← hW1]; exact ((Kept.refl 0 0 w).alloc _).alloc _
  refine ⟨w.heap.size + 1, [{ target := .collected w.heap.size, args := #[] }], W1, { target := .fn (.func gf) lb, args := #[.func (.yield (w.heap.size + 1)) #[] #[]] }, W1, gf,
    #[.func (.yield (w.heap.size + 1)) #[] #[]] ++ lb, W1, ?_, ?_, ?_, ?_, fun _ => h1, ?_⟩
  · rw [← hW1, hrec]; exact run_enterLoop_outer _ _ _ _ _
  · simp only [resolve, hg]
    simp [go_sem]
  · intro f' hf'; simp [Target.leads] at hf'; subst hf'; exact hFg
  · simp [invoke, go_sem, eg]
  · refine (hseq (w.heap.size + 1)
      (fun hi pre W => w.heap.size + 2 ≤ hi ∧ I hi pre W ∧ W.heap[w.heap.size + 1]? = some (.loop (rec .ready none)) ∧ W.heap[w.heap.size]? = some (.deferred (some [])))
      W1 kw1 ?_ ?_ ?_).mono ?_
    · intro hi W' k e
      have hsz := k.size
      exact ⟨by omega, hI0 hi W' (kw1.trans k) (by omega) e, (k.block _ (by omega) (by omega)).trans hL1, (k.block _ (by omega) (by omega)).trans hK1⟩
    · rintro hi pre A B ⟨h2, hi1, hl, hk⟩ k
      have hlt : w.heap.size + 1 < A.heap.size := (Array.getElem?_eq_some_iff.1 hl).1
      exact ⟨h2, hIk _ _ _ _ hi1 (k.wider (by omega) (Nat.le_refl _)), (k.block _ hlt (.inl (by omega))).trans hl, (k.block _ (by omega) (.inl (by omega))).trans hk⟩
    · rintro hi pre x post W hx ⟨h2, hi1, hl, hk⟩
      have hlt : w.heap.size + 1 < W.heap.size := (Array.getElem?_eq_some_iff.1 hl).1
      have hy := run_yield (P := P) (args := encs x) hl (by rw [hrec]; exact hps x)
      rw [hrec] at hy
      refine ⟨fn, _, assign, body, hy, roundIn_of_wpIn hfn (hassign _ x W _ ⟨_, run_beginRound hl (by rw [hrec]), ?_⟩)⟩
      have hl2 : (W.putObj (w.heap.size + 1) (.loop { rec .ready none with state := .busy })).heap[w.heap.size + 1]? = some (.loop { rec .ready none with state := .busy }) := World.putObj_heap_same hlt
      have hk2 : (W.putObj (w.heap.size + 1) (.loop { rec .ready none with state := .busy })).heap[w.heap.size]? = some (.deferred (some [])) := (World.putObj_heap_other (by omega)).trans hk
      refine wpIn_mono (hbody _ hi pre x post _ hx h2 (hIk _ _ _ _ hi1 (Kept.put _ _ (by omega) (by omega)))) ?_
      rintro e a3 W3 hp
      cases e with
      | normal =>
        obtain ⟨hi3, m3⟩ := hp
        have hl3 := (m3.block (w.heap.size + 1) (by rw [size_put]; omega) (by unfold Out; omega)).trans hl2
        have hk3 := (m3.block w.heap.size (by rw [size_put]; omega) (by unfold Out; omega)).trans hk2
        have hlt3 : w.heap.size + 1 < W3.heap.size := (Array.getElem?_eq_some_iff.1 hl3).1
        have hr := run_endRound (P := P) none hl3
        refine ⟨_, _, hr, rfl, ⟨h2, hIk _ _ _ _ hi3 (Kept.put _ _ (by omega) (by omega)), ?_, (World.putObj_heap_other (by omega)).trans hk3⟩, ?_⟩
        · rw [World.putObj_heap_same hlt3, hrec]; rfl
        · have m0 : Mod (Out W1.heap.size hi) W (W.putObj (w.heap.size + 1) (.loop { rec .ready none with state := .busy })) := (Mod.refl _ W).put _ (by unfold Out; omega)
          exact (m0.then m3 (fun i hi' => .inl (by unfold Out at *; omega))).put _ (by unfold Out; omega)
      | ret => exact hp.elim
      | exit id => exact hp.elim
      | goto t => exact hp.elim
      | panic ch => exact hp.elim
      | outgrown => exact hp.elim
    · rintro e W2 ⟨⟨v, rfl⟩, hi, h2, hi1, hl, hk⟩
      have hlt : w.heap.size + 1 < W2.heap.size := (Array.getElem?_eq_some_iff.1 hl).1
      refine ⟨none, _, by have := run_endLoop (P := P) hl (by rw [hrec]; simp); rw [hrec] at this; exact this, hdone _ hi _ (Nat.le_refl _) (by omega) (hIk _ _ _ _ hi1 (Kept.put _ _ (by omega) (by omega))) ((World.putObj_heap_other (by omega)).trans hk)⟩

end Go.Proofs.Ytfikfmkhmojpfaa

namespace Go.Proofs.Ytfikfmkhmojpfaa
open Go.RowKit
set_option linter.unusedVariables false
set_option maxRecDepth 8000

theorem rev_of {zs ys : List Int} {i : Nat} (hl : ys.length = zs.length) (hi : zs.length ≤ 2 * i + 1)
    (h : ∀ p, p < zs.length → ys.getD p 0 = if p < i ∨ zs.length - 1 - p < i then zs.getD (zs.length - 1 - p) 0 else zs.getD p 0) : ys = zs.reverse := by
  apply List.ext_getElem (by simp [hl])
  intro p h1 h2
  have hp : p < zs.length := by omega
  have e := h p hp
  have e1 : ys.getD p 0 = ys[p] := by simp [List.getD, h1]
  have e2 : zs.getD (zs.length - 1 - p) 0 = zs.reverse[p] := by
    rw [List.getElem_reverse]
    simp [List.getD, show zs.length - 1 - p < zs.length by omega]
  rw [← e1, ← e2, e]
  split
  · rfl
  · rw [show zs.length - 1 - p = p by omega]

set_option maxHeartbeats 4000000 in
theorem reverse_impl {lo hi g off c : Nat} {zs : List Int} (w : World) (r : Row .u8 true lo hi w (.slice (some ⟨g, off, none⟩) zs.length c) zs) (hz : 0 < zs.length) :
    Calls Try.prog 95 #[.slice (some ⟨g, off, none⟩) zs.length c] w fun e w' => e = .returned (.tuple #[]) ∧ Row .u8 true lo hi w' (.slice (some ⟨g, off, none⟩) zs.length c) zs.reverse ∧ Kept g (g + 1) w w' := by
  obtain ⟨M, hM⟩ : ∃ M, zs.length = M := ⟨_, rfl⟩
  have hm := r.len
  unfold maxLen at hm
  rw [hM] at r hz hm ⊢
  have hg : lo ≤ g ∧ g < hi := by have := (r.at (j := 0) hz).2.2; omega
  have HM := hide hM
  have R := hide r
  clear hM r
  go_enter Try.func95, Try.ntmps95
  go_wp2
  go_loopg [2, 3] M (fun k s2 s3 wr => ∃ (i : Nat) (ys : List Int), s2 = .int .i64 i ∧ s3 = .int .i64 ((M : Int) - 1 - i) ∧ M - i ≤ k ∧ 2 * i ≤ M ∧ Hid (ys.length = M) ∧ Row .u8 true lo hi wr (.slice (some ⟨g, off, none⟩) M c) ys ∧ Kept g (g + 1) w wr ∧
    Hid (∀ p, p < M → ys.getD p 0 = if p < i ∨ M - 1 - p < i then zs.getD (M - 1 - p) 0 else zs.getD p 0))
  case atStart => exact ⟨0, zs, rfl, by simp, by omega, by omega, HM, unhide R, Kept.refl _ _ _, fun p hp => by simp⟩
  case round =>
    obtain ⟨i, ys, rfl, rfl, hk, hi2, hyl, ry, kw, hv⟩ := hrel
    by_cases hlt : (i : Int) < (M : Int) - 1 - i
    · obtain ⟨j, hj⟩ : ∃ j : Nat, (M : Int) - 1 - i = (j : Int) := ⟨M - 1 - i, by omega⟩
      rw [hj]
      obtain ⟨ci, fi, -⟩ := ry.at (j := i) (by omega)
      obtain ⟨cj, fj, -⟩ := ry.at (j := j) (by omega)
      have R2 := hide ry
      clear ry
      have hij : i < j := by omega
      have hiM : i < M := by omega
      have mixed : Try.prog.follows Departure.mixedOrders = true := by kernel_rfl
      have hjM : j < M := by omega
      go_wp2_with fail
      go_region_o
      have ej : ys[j]?.getD 0 = ys.getD j 0 := rfl
      have ei : ys[i]?.getD 0 = ys.getD i 0 := rfl
      have R3 := hide ((((unhide R2).set i hz (ys.getD j 0)).set j hz (ys.getD i 0)).kept ((Kept.refl 0 0 _).drew) (by omega))
      have K3 := hide (((kw.setCell (p := ⟨g, off + i, none⟩) (Nat.le_refl _) (Nat.lt_succ_self _) (.int .u8 (ys.getD j 0))).setCell (p := ⟨g, off + j, none⟩) (Nat.le_refl _) (Nat.lt_succ_self _) (.int .u8 (ys.getD i 0))).drew)
      rw [ej, ei]
      generalize (((wr.setCell ⟨g, off + i, none⟩ (.int .u8 (ys.getD j 0))).setCell ⟨g, off + j, none⟩ (.int .u8 (ys.getD i 0))).drew) = W3 at *
      have V3 : Hid (∀ p, p < M → ((ys.set i (ys.getD j 0)).set j (ys.getD i 0)).getD p 0 = if p < i + 1 ∨ M - 1 - p < i + 1 then zs.getD (M - 1 - p) 0 else zs.getD p 0) := by
        intro p hp
        have hyl' := unhide hyl
        have hv' := unhide hv
        rw [getD_set _ p j _ (by rw [List.length_set]; omega), getD_set _ p i _ (by omega)]
        by_cases e1 : p = j
        · rw [if_pos e1, hv' i hiM, if_neg (by omega), if_pos (by omega)]
          congr 1; omega
        · rw [if_neg e1]
          by_cases e2 : p = i
          · rw [if_pos e2, hv' j hjM, if_neg (by omega), if_pos (by omega)]
            congr 1; omega
          · rw [if_neg e2, hv' p hp]
            by_cases e3 : p < i ∨ M - 1 - p < i
            · rw [if_pos e3, if_pos (by omega)]
            · rw [if_neg e3, if_neg (by omega)]
      have hw1 : IntKind.i64.wrap ((j : Int) - 1) = (M : Int) - 1 - ((i + 1 : Nat) : Int) := by rw [IntKind.wrap_i64]; omega
      have hw2 : IntKind.i64.wrap ((i : Int) + 1) = ((i + 1 : Nat) : Int) := by rw [IntKind.wrap_i64]; omega
      go_wp2
      go_roundg (M - (i + 1))
      case measure => omega
      case rel => exact ⟨i + 1, (ys.set i (ys.getD j 0)).set j (ys.getD i 0), by simp, rfl, Nat.le_refl _, by omega, by show _ = _; rw [List.length_set, List.length_set]; exact unhide hyl, unhide R3, unhide K3, V3⟩
    · go_wp2
      go_end0
      have HM' := unhide HM
      have e := rev_of (zs := zs) (ys := ys) (i := i) (by rw [unhide hyl, HM']) (by omega) (fun p hp => by rw [HM'] at *; exact unhide hv p hp)
      exact ⟨rfl, e ▸ ry, kw⟩

end Go.Proofs.Ytfikfmkhmojpfaa

namespace Go.Proofs.Ytfikfmkhmojpfaa
open Go.RowKit
set_option linter.unusedVariables false
set_option maxRecDepth 8000
set_option linter.unusedSimpArgs false

def tdigF : Nat → Nat → List Int
  | 0, _ => []
  | f + 1, n => if n = 0 then [] else (48 + (n % 10 : Nat) : Int) :: tdigF f (n / 10)
/-- The decimal digits, as bytes, the lowest first; none of nought. -/
def tdig (n : Nat) : List Int := tdigF n n
theorem tdigF_more : ∀ (f g n : Nat), n ≤ f → n ≤ g → tdigF f n = tdigF g n
  | 0, 0, n, h1, h2 => rfl
  | 0, g + 1, n, h1, h2 => by have : n = 0 := by omega
                              subst this; simp [tdigF]
  | f + 1, 0, n, h1, h2 => by have : n = 0 := by omega
                              subst this; simp [tdigF]
  | f + 1, g + 1, n, h1, h2 => by
    unfold tdigF
    by_cases h : n = 0
    · rw [if_pos h, if_pos h]
    · rw [if_neg h, if_neg h, tdigF_more f g (n / 10) (by omega) (by omega)]
theorem tdig_zero : tdig 0 = [] := rfl
theorem tdig_step {n : Nat} (h : n ≠ 0) : tdig n = (48 + (n % 10 : Nat) : Int) :: tdig (n / 10) := by
  unfold tdig
  obtain ⟨m, rfl⟩ : ∃ m, n = m + 1 := ⟨n - 1, by omega⟩
  show (if m + 1 = 0 then [] else _ :: tdigF m ((m + 1) / 10)) = _
  rw [if_neg h, tdigF_more m ((m + 1) / 10) _ (by omega) (Nat.le_refl _)]
theorem tdig_len : ∀ (k n : Nat), n < 2 ^ k → (tdig n).length ≤ k
  | 0, n, h => by have : n = 0 := by simpa using h
                  subst this; simp [tdig_zero]
  | k + 1, n, h => by
    by_cases h0 : n = 0
    · subst h0; simp [tdig_zero]
    · rw [tdig_step h0]
      have := tdig_len k (n / 10) (by rw [Nat.pow_succ] at h; omega)
      simp
      exact this
def lenV : Value → Nat
  | .slice _ n _ => n
  | _ => 0
/-- A number's text. -/
def decText (n : Nat) : List Int := if n = 0 then [48] else (tdig n).reverse
theorem tdig_at : ∀ (f n : Nat), n ≤ f → ∀ z ∈ tdig n, 48 ≤ z ∧ z ≤ 57
  | 0, n, h, z, hz => by have : n = 0 := by omega
                         subst this; simp [tdig_zero] at hz
  | f + 1, n, h, z, hz => by
    by_cases h0 : n = 0
    · subst h0; simp [tdig_zero] at hz
    · rw [tdig_step h0] at hz
      rcases List.mem_cons.1 hz with e | e
      · omega
      · exact tdig_at f (n / 10) (by omega) z e
/-- One byte more at the end of a row of the call's own. -/
theorem wpList_byte {ops : Array Oper} {rest : List Oper} {o : Oper} {a : Act} {Q : Exit → Act → World → Prop} {b : Nat} {wr : World} {v : Value} {zs : List Int} (hgd : o.guard = none) (s x : Operand)
    (ho : o.op = .call { callee := .builtin .append, args := #[s, x], argTypes := #[30, 30] }) (hs : a.eval s = v) (ad : Addr) (hx : a.eval x = .slice (some ad) 1 1) (z : Int)
    (hc : wr.cell? ad = some (.int .u8 z)) (hown : wr.ownsRow b 5 1 v zs.length (zs.map (Value.int .u8))) (hb : b ≤ wr.heap.size) (hn : zs.length ≤ 2000000)
    (h : ∀ v' w', w'.ownsRow b 5 1 v' (zs ++ [z]).length ((zs ++ [z]).map (Value.int .u8)) → wr.grownBy w' v.ownBlock → wpList Try.prog ops Q rest (a.put o.dst v') w') : wpList Try.prog ops Q (o :: rest) a wr := by
  obtain ⟨i0, hi0, hz0, hz1, hz2⟩ := info_parts Try.info5
  refine wpList_append_own _ hgd _ _ 30 ho b 5 i0 (.int .u8 0) 1 1 Try.underlying30 hi0 hz0 hz1 hz2 rfl (by decide) _ _ _ hs hown ad 1 1 [.int .u8 z] hx rfl (lit_cell hc) ?_ ?_ ?_ ?_ ?_
  · intro u hu; simp at hu; subst hu; rfl
  · unfold maxLen; omega
  · omega
  · omega
  · intro v' w' hown' hgrow _
    exact h v' w' (by simpa using hown') hgrow

theorem limbs_pos' (n : Nat) (h : n ≠ 0) : 0 < (limbs n).length := List.length_pos_iff.2 (fun e => h (limbs_eq_nil.1 e))

theorem Row.marked (w : World) (t : TypeId) (z : Int) : Row .u8 true w.heap.size (w.alloc (.cells #[.int .u8 z] t (1, 2))).heap.size (w.alloc (.cells #[.int .u8 z] t (1, 2))) (.slice (some ⟨w.heap.size, 0, none⟩) 1 1) [z] := by
  have hg : (w.alloc (.cells #[.int .u8 z] t (1, 2))).heap[w.heap.size]? = some (.cells #[.int .u8 z] t (1, 2)) := heap_alloc_new w _
  refine ⟨_, _, rfl, Nat.le_refl _, by simp [maxLen], fun _ => ⟨w.heap.size, 0, rfl, Nat.le_refl _, by simp, by simp, fun i hi => ?_, fun _ i hi => ?_⟩⟩
  · have : i = 0 := by simpa using hi
    subst this
    simp only [World.cell?, hg]
    rfl
  · have : i = 0 := by simpa using hi
    subst this
    simp only [World.frozen?, hg]
    rfl
theorem byte_small {z : Int} (h0 : 0 ≤ z) (h1 : z ≤ 255) : IntKind.u8.wrap z = z := by simp [IntKind.wrap, IntKind.signed, IntKind.bits]; omega
theorem tdig_more {n m : Nat} {bs : List Int} (h : tdig n = bs ++ tdig m) (hm : m ≠ 0) : tdig n = (bs ++ [(48 + (m % 10 : Nat) : Int)]) ++ tdig (m / 10) ∧ bs.length < (tdig n).length := by
  rw [tdig_step hm] at h
  refine ⟨by rw [h]; simp, by rw [h]; simp⟩
theorem rev_step (bs : List Int) (j : Nat) (h : j < bs.length) : bs.reverse.take j ++ [bs.getD (bs.length - 1 - j) 0] = bs.reverse.take (j + 1) := by
  rw [List.take_succ_eq_append_getElem (by simpa using h)]
  congr 2
  rw [List.getElem_reverse]
  simp [List.getD, show bs.length - 1 - j < bs.length by omega]

set_option maxHeartbeats 8000000 in
theorem text_spec {bw : Bool} {lo hi : Nat} {v : Value} {xs : List Int} (w : World) (r : Row .i64 bw lo hi w v xs) (hn : Nrm xs) (nx : xs.length ≤ 100000) :
    Calls Try.prog 62 #[.agg #[v]] w fun e w' => ∃ v', e = .returned v' ∧ Row .u8 true w.heap.size w'.heap.size w' v' (decText (val xs).toNat) ∧ Kept 0 0 w w' := by
  have k0 := (Kept.refl 0 0 w).alloc (.cells #[v] 33)
  have r0 := r.kept k0 (by omega)
  have hce : (w.alloc (.cells #[v] 33)).cell? ⟨w.heap.size, 0, none⟩ = some v := new_cell_at _ _ _ _ rfl
  have hfr : (w.alloc (.cells #[v] 33)).frozen? ⟨w.heap.size, 0, none⟩ = false := new_loose _ _ _ _ rfl
  have hs0 : (w.alloc (.cells #[v] 33)).heap.size = w.heap.size + 1 := by simp
  obtain ⟨N, hN⟩ : ∃ N, (val xs).toNat = N := ⟨_, rfl⟩
  have hxs : xs = limbs N := by rw [← hN]; exact nrm_limbs hn
  have hlt : N < 2 ^ (16 * xs.length) := by
    have h1 := val_lt hn.1
    have h2 := val_nonneg hn.1
    rw [pow_limb] at h1
    omega
  have hdl := tdig_len _ _ hlt
  rw [hN]
  obtain ⟨a, c, rfl⟩ := Row.form' r
  clear r
  by_cases h0 : xs.length = 0
  · have hb0 : ((xs.length : Int) == 0) = true := beq_iff_eq.2 (by omega)
    have hN0 : N = 0 := by
      rw [← hN, List.length_eq_zero_iff.1 h0]; rfl
    have HD : Hid (decText N = [48]) := by show _ = _; rw [hN0]; rfl
    have KK := hide k0
    clear k0 r0 hce hfr hxs h0 hN0
    go_enter Try.func62, Try.ntmps62
    have hcv := Lib.run_convert_bytes_const (P := Try.prog) (w.alloc (.cells #[.slice a xs.length c] 33)) 30 5 #[.int .u8 48] 1 1 Try.underlying30 Try.underlying5
    rw [hs0] at hcv
    have this := Row.marked (w.alloc (.cells #[.slice a xs.length c] 33)) 5 48
    rw [hs0] at this
    have TH := hide this
    clear this
    go_wp2
    go_ret
    exact ⟨_, rfl, by rw [unhide HD]; exact (unhide TH).wider (lo' := w.heap.size) (by omega) (Nat.le_refl _), (unhide KK).alloc _⟩
  · have hb0 : ((xs.length : Int) == 0) = false := beq_eq_false_iff_ne.2 (by omega)
    have hNe : N ≠ 0 := by
      intro e
      rw [e, limbs_zero] at hxs
      rw [hxs] at h0
      simp at h0
    have HD : Hid (decText N = (tdig N).reverse) := if_neg hNe
    have HX := hide hxs
    have KK := hide k0
    have R0 := hide (r0.read.tight.wider (lo' := 0) (Nat.zero_le _) (Nat.le_refl _))
    clear k0 r0 hxs h0 hNe hN
    go_enter Try.func62, Try.ntmps62
    go_wp2
    generalize w.alloc (.cells #[.slice a xs.length c] 33) = W at *
    go_loopw [3] (fun bk wr => ∃ (m : Nat) (av : Value) (bs : List Int), wr.cell? ⟨w.heap.size, 0, none⟩ = some av ∧ wr.frozen? ⟨w.heap.size, 0, none⟩ = false ∧ Row .i64 false 0 wr.heap.size wr av (limbs m) ∧ (limbs m).length ≤ 100000 ∧ wr.ownsRow (w.heap.size + 1) 5 1 bk bs.length (bs.map (Value.int .u8)) ∧ Hid (tdig N = bs ++ tdig m) ∧ bs.length ≤ 1600000 ∧ w.heap.size + 1 ≤ wr.heap.size ∧ Kept 0 0 w wr) (fun bk _ => (tdig N).length - lenV bk)
    case atStart => exact ⟨N, _, [], hce, hfr, by rw [← unhide HX]; exact unhide R0, by rw [← unhide HX]; exact nx, World.ownsRow_nil _ _ _ _, hide rfl, by simp, by omega, unhide KK⟩
    case round =>
      clear hce hfr R0 KK
      obtain ⟨m, av, bs, hce, hfr, ra, la, hown, ht, lb, hsz, kw⟩ := hrel
      obtain ⟨a1, c1, hv⟩ := Row.form' ra
      subst hv
      obtain ⟨a2, c2, hv⟩ := own_slice hown
      subst hv
      by_cases hm : m = 0
      · have hl0 : (limbs m).length = 0 := by rw [hm, limbs_zero]; rfl
        have hd0 : ¬ (0 : Int) < ((limbs m).length : Int) := by omega
        have hT : tdig N = bs := by rw [unhide ht, hm, tdig_zero, List.append_nil]
        have HT := hide hT
        have hbl : bs.length ≤ 1600000 := lb
        have OB := hide hown
        have KW := hide kw
        have hwb : IntKind.i64.wrap ((bs.length : Int) - 1) = (bs.length : Int) - 1 := by rw [IntKind.wrap_i64]; omega
        have HBR := hide (row_cell (Row.own hown)).2.2.2
        clear hown ht ra hm hl0 hT kw
        obtain ⟨W2, rfl⟩ : ∃ W2, W2 = wr := ⟨_, rfl⟩
        go_wp2
        go_loopw [6, 7] (fun oo ii wx => ∃ (j : Nat) (v : Value), oo = v ∧ j ≤ bs.length ∧ ii = .int .i64 ((bs.length : Int) - 1 - (j : Int)) ∧ wx.ownsRow W2.heap.size 5 1 v (bs.reverse.take j).length ((bs.reverse.take j).map (Value.int .u8)) ∧ Kept 0 0 W2 wx) (fun _ ii _ => (intOf ii + 1).toNat)
        case atStart => exact ⟨0, _, rfl, Nat.zero_le _, by simp, by simpa using World.ownsRow_nil _ _ _ _, Kept.refl _ _ _⟩
        case round =>
          obtain ⟨j, v, rfl, hj, rfl, hown, kx⟩ := hrel
          by_cases hA : j < bs.length
          · obtain ⟨gb, ob, hvb, hxb⟩ := unhide HBR (bs.length - 1 - j) (by omega)
            subst hvb
            replace hxb := kx.cell0 hxb
            have hst := rev_step bs j hA
            have hi0 : (0 : Int) ≤ (bs.length : Int) - 1 - (j : Int) := by omega
            have hi1 : (bs.length : Int) - 1 - (j : Int) < (bs.length : Int) := by omega
            have hit : ((bs.length : Int) - 1 - (j : Int)).toNat = bs.length - 1 - j := by omega
            have hwi : IntKind.i64.wrap ((bs.length : Int) - 1 - (j : Int) - 1) = (bs.length : Int) - 1 - ((j + 1 : Nat) : Int) := by rw [IntKind.wrap_i64]; omega
            generalize bs.getD (bs.length - 1 - j) 0 = zb at *
            have hlt3 : (bs.reverse.take j).length = j := by simp; omega
            have cz : (wr.alloc (.cells #[.int .u8 zb] 5)).cell? ⟨wr.heap.size, 0, none⟩ = some (.int .u8 zb) := new_cell_at _ _ _ _ rfl
            have OO := hide (own_kept hown ((Kept.refl 0 0 wr).alloc (.cells #[.int .u8 zb] 5)))
            have hlo := hown.lt
            have hsz2 := kx.size
            have KX := hide (kx.alloc (.cells #[.int .u8 zb] 5))
            have CZ := hide cz
            have HST := hide hst
            clear hown cz hst kx
            go_wp2_with (at_builtin; refine wpList_byte rfl _ _ rfl rfl _ rfl zb (unhide CZ) (unhide OO) (by simp; omega) (by omega) ?_)
            intro v7 w7 hown7 hg7
            have K7 := hide ((unhide KX).growNew hg7 (fun k e => (hlo k e).1))
            have O7 := hide hown7
            clear hown7 hg7
            go_wp2
            go_roundw
            case rel => exact ⟨j + 1, _, rfl, by omega, rfl, by rw [← unhide HST]; simpa [hlt3] using unhide O7, unhide K7⟩
            case measure => simp [intOf]; omega
          · have hjl : j = bs.length := by omega
            have hi0 : ¬ (0 : Int) ≤ (bs.length : Int) - 1 - (j : Int) := by omega
            have RR := hide (Row.own hown)
            rw [hjl, List.take_of_length_le (by simp)] at RR
            have KX := hide ((unhide KW).trans kx)
            have hsx := kx.size
            clear hown kx
            go_wp2
            go_ret
            exact ⟨_, rfl, by rw [unhide HD, unhide HT]; exact (unhide RR).wider (by omega) (Nat.le_refl _), unhide KX⟩
      · have hlp : 0 < (limbs m).length := limbs_pos' m hm
        have hlpi : (0 : Int) < ((limbs m).length : Int) := by omega
        obtain ⟨ht2, hlt2⟩ := tdig_more (unhide ht) hm
        have HT2 := hide ht2
        have sm := small_spec wr ra (limbs_lim m) la 10 (by decide) (by decide)
        rw [limbs_val] at sm
        have hz0 : ((m : Int) % 10) = ((m % 10 : Nat) : Int) := by omega
        have hq0 : ((m : Int) / 10).toNat = m / 10 := by omega
        rw [hz0, hq0] at sm
        have SM := hide sm
        have hmod : m % 10 < 10 := Nat.mod_lt _ (by decide)
        generalize hzz : m % 10 = z at *
        have hlq : (limbs (m / 10)).length ≤ 100000 := by
          have h1 := (limbs_length_le m 100000).1 la
          exact (limbs_length_le (m / 10) 100000).2 (by omega)
        have hlo := hown.lt
        have OB := hide hown
        have KW := hide kw
        clear sm hz0 hq0 ht ht2 hzz ra hown kw
        go_wp2_with fail
        refine (unhide SM).mono ?_
        rintro e w5 ⟨v5, rfl, r5, k5⟩
        obtain ⟨a5, c5, hv⟩ := Row.form' r5
        subst hv
        generalize hLQ : limbs (m / 10) = LQ at *
        have k6 : Kept 0 0 wr ((w5.alloc (.cells #[.slice a5 LQ.length c5] 33)).alloc (.cells #[.int .u8 (48 + (z : Int))] 5)) := (k5.alloc _).alloc _
        have r6 := r5.kept (((Kept.refl 0 0 w5).alloc (.cells #[.slice a5 LQ.length c5] 33)).alloc (.cells #[.int .u8 (48 + (z : Int))] 5)) (by omega)
        have cq : ((w5.alloc (.cells #[.slice a5 LQ.length c5] 33)).alloc (.cells #[.int .u8 (48 + (z : Int))] 5)).cell? ⟨w5.heap.size, 0, none⟩ = some (.slice a5 LQ.length c5) := old_cell _ (new_cell_at _ _ _ _ rfl)
        have cz : ((w5.alloc (.cells #[.slice a5 LQ.length c5] 33)).alloc (.cells #[.int .u8 (48 + (z : Int))] 5)).cell? ⟨w5.heap.size + 1, 0, none⟩ = some (.int .u8 (48 + (z : Int))) := new_cell_at _ _ _ _ (by simp)
        have hs6 : ((w5.alloc (.cells #[.slice a5 LQ.length c5] 33)).alloc (.cells #[.int .u8 (48 + (z : Int))] 5)).heap.size = w5.heap.size + 2 := by simp
        have hown6 := own_kept (unhide OB) k6
        have hce6 := k6.cell0 hce
        have hfr6 := k6.loose0 (World.block_lt_of_cell? _ _ hce) hfr
        have hw1 : IntKind.i64.wrap (48 + (z : Int)) = 48 + (z : Int) := by rw [IntKind.wrap_i64]; omega
        have hw2 : IntKind.u8.wrap (48 + (z : Int)) = 48 + (z : Int) := byte_small (by omega) (by omega)
        have hsz5 := k5.size
        have K6 := hide ((unhide KW).trans k6)
        have CZ := hide cz
        have OW := hide hown6
        clear r5 k5 k6 cz hown6 OB KW hce hfr
        go_wp2_with (at_builtin; refine wpList_byte rfl _ _ rfl rfl _ rfl (48 + (z : Int)) (unhide CZ) (unhide OW) (by omega) (by omega) ?_)
        intro v7 w7 hown7 hg7
        have kg := Kept.grown hg7 (fun k e => hlo k e)
        have hce7 := kg.cellOut (a := ⟨w.heap.size, 0, none⟩) (.inl (by dsimp only; omega)) hce6
        have hfr7 : w7.frozen? ⟨w.heap.size, 0, none⟩ = false := by
          rw [← hfr6]; exact World.frozen?_of_block (kg.block w.heap.size (World.block_lt_of_cell? _ _ hce6) (.inl (by omega)))
        have cq7 := kg.cellOut (a := ⟨w5.heap.size, 0, none⟩) (.inr (by dsimp only; omega)) cq
        have r7 := r6.kept kg (by omega)
        have hs7 := kg.size
        have hlv : lenV v7 = bs.length + 1 := by
          obtain ⟨a7, c7, hv⟩ := own_slice hown7
          rw [hv]; simp [lenV]
        have K7 := hide (((unhide K6).growNew hg7 (fun k e => by have := (hlo k e).1; omega)).setNew (p := ⟨w.heap.size, 0, none⟩) (Nat.le_refl _) (.slice a5 LQ.length c5))
        have hap : v7.ownBlock ≠ some w.heap.size := fun e => by have := (hown7.lt _ e).1; omega
        have O7 := hide (own_apart hown7 (p := ⟨w.heap.size, 0, none⟩) hap (.slice a5 LQ.length c5))
        have C7 : Hid ((w7.setCell ⟨w.heap.size, 0, none⟩ (.slice a5 LQ.length c5)).cell? ⟨w.heap.size, 0, none⟩ = some (.slice a5 LQ.length c5)) := cell_on _ _ _ _ _ hce7
        have F7 : Hid ((w7.setCell ⟨w.heap.size, 0, none⟩ (.slice a5 LQ.length c5)).frozen? ⟨w.heap.size, 0, none⟩ = false) := by show _ = _; rw [frozen_set]; exact hfr7
        have R7 := hide ((r7.set_other (p := ⟨w.heap.size, 0, none⟩) (.inl (by dsimp only; omega)) (.slice a5 LQ.length c5)).read.tight.wider (lo' := 0) (Nat.zero_le _) (Nat.le_refl _))
        have S7 : Hid (w.heap.size + 1 ≤ (w7.setCell ⟨w.heap.size, 0, none⟩ (.slice a5 LQ.length c5)).heap.size) := by show _ ≤ _; rw [size_set]; omega
        clear hown7 hg7 kg r6 r7 cq hce6 hfr6 K6 OW
        go_wp2
        go_roundw
        case rel => exact ⟨m / 10, _, bs ++ [(48 + (z : Int))], unhide C7, unhide F7, by rw [hLQ]; exact unhide R7, by rw [hLQ]; exact hlq, by simpa using unhide O7, HT2, by simp; omega, unhide S7, unhide K7⟩
        case measure => rw [hlv]; simp [lenV]; omega

end Go.Proofs.Ytfikfmkhmojpfaa

namespace Go.Proofs.Ytfikfmkhmojpfaa
open Go.RowKit
set_option linter.unusedVariables false
set_option maxRecDepth 8000

theorem Num.put {b g gb cap j n : Nat} {w : World} {zs : List Int} (h : Num b w g (.slice (some ⟨gb, 0, none⟩) n cap) zs) (hn : n = zs.length) (z : Int) :
    Num b (w.setCell ⟨gb, j, none⟩ (.int .i64 z)) g (.slice (some ⟨gb, 0, none⟩) n cap) (zs.set j z) := by
  subst hn
  have n1 : gb ≠ g := fun e => h.apart (by simp [Value.ownBlock, e])
  exact ⟨cell_aside _ (p := ⟨g, 0, none⟩) (r := ⟨gb, j, none⟩) n1 h.cell, by rw [frozen_set]; exact h.loose, own_set h.own j z, h.apart⟩
theorem dig_step (p xs : List Int) (i : Nat) (x c S : Int) (hp : p.length = i) (hi : i < xs.length) (hx : xs.getD i 0 = x) (h : val p + 65536 ^ i * (c + 10 * val (xs.drop i)) = S) :
    val (p ++ [(10 * x + c) % 65536]) + 65536 ^ (i + 1) * ((10 * x + c) / 65536 + 10 * val (xs.drop (i + 1))) = S := by
  rw [val_snoc, hp, ← h, val_drop xs i, hx, Int.pow_succ]
  have e : (10 * x + c) % 65536 + 65536 * ((10 * x + c) / 65536 + 10 * val (xs.drop (i + 1))) = c + 10 * (x + 65536 * val (xs.drop (i + 1))) := by omega
  have key : ∀ P A B : Int, P * A + P * 65536 * B = P * (A + 65536 * B) := fun P A B => by rw [Int.mul_add, Int.mul_assoc]
  rw [← e, ← key, Int.add_assoc]
theorem mix_set (p xs : List Int) (i : Nat) (z : Int) (hp : p.length = i) (hi : i < xs.length) : (p ++ xs.drop i).set i z = (p ++ [z]) ++ xs.drop (i + 1) := by
  rw [List.set_append_right _ _ (by omega), hp, Nat.sub_self, List.drop_eq_getElem_cons hi, List.set_cons_zero, List.append_assoc]
  rfl
theorem mix_at (p xs : List Int) (i : Nat) (hp : p.length = i) : (p ++ xs.drop i).getD i 0 = xs.getD i 0 := by
  simp only [List.getD]
  rw [List.getElem?_append_right (by omega), hp, Nat.sub_self, List.getElem?_drop, Nat.add_zero]

end Go.Proofs.Ytfikfmkhmojpfaa

namespace Go.Proofs.Ytfikfmkhmojpfaa
open Go.RowKit
set_option linter.unusedVariables false
set_option maxRecDepth 8000
set_option linter.unusedSimpArgs false

theorem digit_step (zs ys : List Int) (p : Nat) (r : Int) (hp : p < ys.length) (hr : 0 ≤ r) (hx : 0 ≤ zs.getD p 0) (h : val (zs.drop (p + 1)) = 10 * val (ys.drop (p + 1)) + r) :
    val (zs.drop p) = 10 * val ((ys.set p ((r * 65536 + zs.getD p 0) / 10)).drop p) + (r * 65536 + zs.getD p 0) % 10 := by
  rw [val_drop zs p, h, set_drop ys p _ hp]
  generalize zs.getD p 0 = x at *
  generalize val (ys.drop (p + 1)) = Y at *
  omega
theorem set_take (zs ys : List Int) (p : Nat) (z : Int) (h : ys.take (p + 1) = zs.take (p + 1)) : (ys.set p z).take p = zs.take p := by
  have h2 := congrArg (List.take p) h
  rw [List.take_take, List.take_take, Nat.min_eq_left (by omega)] at h2
  rw [← h2]
  exact List.take_set_of_le (Nat.le_refl p)
theorem getD_take {zs ys : List Int} {p : Nat} (h : ys.take (p + 1) = zs.take (p + 1)) : ys.getD p 0 = zs.getD p 0 := by
  have h2 := congrArg (fun l : List Int => l.getD p 0) h
  simpa [List.getD, List.getElem?_take] using h2

set_option maxHeartbeats 8000000 in
theorem takeDigit_impl {b g : Nat} {v : Value} {zs : List Int} (w : World) (h : Num b w g v zs) (hx : Lim zs) (nx : zs.length ≤ 100000) :
    Calls Try.prog 111 #[.pointer (some ⟨g, 0, none⟩)] w fun e w' => e = .returned (.int .i64 (val zs % 10)) ∧ ∃ u, Num b w' g u (limbs (val zs / 10).toNat) ∧ u.ownBlock = v.ownBlock ∧ Mod (Own1 g v) w w' := by
  obtain ⟨M, hM⟩ : ∃ M, M = zs.length := ⟨_, rfl⟩
  obtain ⟨a1, c1, hv1⟩ := h.form
  rw [← hM] at hv1
  subst hv1
  obtain ⟨S, hS⟩ : ∃ S, val zs = S := ⟨_, rfl⟩
  rw [hS]
  have hce := h.cell
  have HM := hide hM
  have HS := hide hS
  have N0 := hide h
  have hnx : M ≤ 100000 := by omega
  have hwm : IntKind.i64.wrap ((M : Int) - 1) = (M : Int) - 1 := by rw [IntKind.wrap_i64]; omega
  have HL := hide hx
  have HZ0 : Hid (val (zs.drop M) = 10 * val (zs.drop M) + 0) := by show _ = _; rw [List.drop_of_length_le (by rw [hM]; exact Nat.le_refl _)]; simp [val]
  clear hM hS h nx hx
  go_enter Try.func111, Try.ntmps111
  go_wp2
  clear hce
  go_loopw [3, 4] (fun rr ii wr => ∃ (ys : List Int) (r : Int) (p : Nat), rr = .int .i64 r ∧ ii = .int .i64 ((p : Int) - 1) ∧ p ≤ M ∧ 0 ≤ r ∧ r ≤ 9 ∧ ys.length = M ∧ Lim ys ∧ Hid (ys.take p = zs.take p) ∧ Hid (val (zs.drop p) = 10 * val (ys.drop p) + r) ∧ Num b wr g (.slice a1 M c1) ys ∧ Mod (Own1 g (.slice a1 M c1)) w wr) (fun _ ii _ => (intOf ii + 1).toNat)
  case atStart => exact ⟨zs, 0, M, rfl, rfl, Nat.le_refl _, Int.le_refl _, by decide, (unhide HM).symm, unhide HL, hide rfl, HZ0, unhide N0, Mod.refl _ _⟩
  case round =>
    clear N0 HZ0
    obtain ⟨ys, r, p, rfl, rfl, hp, hr0, hr1, hyl, hyL, hT, hV, n, md⟩ := hrel
    by_cases hA : 0 < p
    · obtain ⟨q, rfl⟩ : ∃ q, p = q + 1 := ⟨p - 1, by omega⟩
      have hq1 : ((q + 1 : Nat) : Int) - 1 = (q : Int) := by omega
      rw [hq1]
      obtain ⟨gb, cap, e5, x1, f1, hg1⟩ := n.at q (by omega)
      rw [hyl] at e5
      cases e5
      have hce := n.cell
      rw [getD_take (unhide hT)] at x1
      have hx0 := (unhide HL).at q
      have hV2 := digit_step zs ys q r (by omega) hr0 hx0.1 (unhide hV)
      have hT2 := fun z => set_take zs ys q z (unhide hT)
      have hput := fun z => n.put (j := q) hyl.symm z
      have hmd := fun u => md.set (p := ⟨gb, q, none⟩) (.inl (.inr rfl)) u
      generalize hva : zs.getD q 0 = x at *
      have hX : 0 ≤ r * 65536 + x ∧ r * 65536 + x ≤ 655359 := by omega
      have hw0 : IntKind.i64.wrap (r * 65536) = r * 65536 := by rw [IntKind.wrap_i64]; omega
      have hw1 : IntKind.i64.wrap (r * 65536 + x) = r * 65536 + x := by rw [IntKind.wrap_i64]; omega
      have et : (r * 65536 + x).tmod 10 = (r * 65536 + x) % 10 := by rw [Int.tmod_eq_emod_of_nonneg (by omega)]
      have ed : (r * 65536 + x).tdiv 10 = (r * 65536 + x) / 10 := by rw [Int.tdiv_eq_ediv_of_nonneg (by omega)]
      have hwq : IntKind.i64.wrap ((q : Int) - 1) = (q : Int) - 1 := by rw [IntKind.wrap_i64]; omega
      have hqi0 : (0 : Int) ≤ (q : Int) := by omega
      have hqi1 : (q : Int) < (M : Int) := by omega
      have hl2 := hyL.set q (x := (r * 65536 + x) / 10) (by omega) (by omega)
      have hyl2 : (ys.set q ((r * 65536 + x) / 10)).length = M := by rw [List.length_set]; exact hyl
      have HPUT := hide (hput ((r * 65536 + x) / 10))
      have HMD := hide (hmd (.int .i64 ((r * 65536 + x) / 10)))
      have HV2 := hide hV2
      have HT2 := hide (hT2 ((r * 65536 + x) / 10))
      have hR : 0 ≤ (r * 65536 + x) % 10 ∧ (r * 65536 + x) % 10 ≤ 9 := by omega
      have hQb : 0 ≤ (r * 65536 + x) / 10 ∧ (r * 65536 + x) / 10 ≤ 65535 := by omega
      generalize hQ : (r * 65536 + x) / 10 = Q at *
      generalize hRR : (r * 65536 + x) % 10 = R at *
      clear hV hV2 hput hmd n md hva hT hT2 hq1 hQ hRR
      go_wp2
      go_roundw
      case rel => exact ⟨_, R, q, rfl, rfl, by omega, hR.1, hR.2, hyl2, hl2, HT2, HV2, unhide HPUT, unhide HMD⟩
      case measure => simp [intOf]
    · have hp0 : p = 0 := by omega
      have hi1 : ¬ (0 : Int) ≤ (p : Int) - 1 := by omega
      have hv := unhide hV
      rw [hp0, List.drop_zero, List.drop_zero, unhide HS] at hv
      have hy0 := val_nonneg hyL
      have hdiv : S / 10 = val ys := by omega
      have hmod : S % 10 = r := by omega
      have HQ := hide hdiv
      have HR := hide hmod
      clear hV hT hv hp0 hdiv hmod
      go_wp2_with fail
      refine (trim_impl _ n hyL).mono ?_
      rintro e w6 ⟨⟨r6, rfl⟩, u6, n6, ho6, m6⟩
      have N6 := hide n6
      have M6 := hide (md.then m6 (fun i e => .inl (.inl e)))
      have O6 := hide ho6
      clear n6 ho6 m6 md n
      go_wp2
      go_ret
      exact ⟨by rw [unhide HR]; rfl, _, by rw [unhide HQ]; exact unhide N6, unhide O6, unhide M6⟩

end Go.Proofs.Ytfikfmkhmojpfaa

namespace Go.Proofs.Ytfikfmkhmojpfaa
open Go.RowKit Go.Shelf
set_option linter.unusedVariables false
set_option maxRecDepth 8000
attribute [local go_sem] Oper.semAt_some

/-- The decimal digits, the lowest first; none of nought. -/
def ddig (n : Nat) : List Int := (tdig n).map (fun z => z - 48)
theorem ddig_zero : ddig 0 = [] := rfl
theorem ddig_step {n : Nat} (h : n ≠ 0) : ddig n = ((n % 10 : Nat) : Int) :: ddig (n / 10) := by
  unfold ddig
  rw [tdig_step h, List.map_cons]
  congr 1
  omega

theorem limbs_mono {a b : Nat} (h : a ≤ b) : (limbs a).length ≤ (limbs b).length := (limbs_length_le a _).2 (by
  have := (limbs_length_le b (limbs b).length).1 (Nat.le_refl _)
  omega)
theorem Mod.win {g lo hi : Nat} {u : Value} {w w' : World} (m : Mod (Own1 g u) w w') (h1 : lo ≤ g) (h2 : g < hi) (hu : ∀ i, u.ownBlock = some i → lo ≤ i ∧ i < hi) : Kept lo hi w w' :=
  ⟨m.os, m.tape, m.output, m.size, fun i hi' ho => m.block i hi' (fun e => by rcases e with e | e; omega; have := hu i e; omega)⟩

set_option maxHeartbeats 4000000 in
theorem digits1_own {b g Bn : Nat} {v : Value} {N : Nat} (n : Nat) (hn : 1 ≤ n) (w : World) (h : Num b w g v (limbs N)) (hB : w.cell? ⟨Bn, 0, none⟩ = some (.pointer (some ⟨g, 0, none⟩))) (nx : (limbs N).length ≤ 100000) :
    SeqOwn Fence.wide n Try.prog 109 #[.pointer (some ⟨Bn, 0, none⟩)] (fun x : Int => #[.int .i64 x]) (ddig N) w := by
  intro l J W k h0 hk hY
  have nW := h.kept k
  have cB := k.cell0 hB
  clear h hB k
  have hcp := copied_impl W nW (by omega)
  obtain ⟨LN, hLN⟩ : ∃ LN, LN = limbs N := ⟨_, rfl⟩
  rw [← hLN] at hcp
  have HLN := hide hLN
  clear hLN
  refine callsIn_of_wp Try.func109 rfl trivial ?_ rfl
  simp only [Try.ntmps109, List.size_toArray, List.length_cons, List.length_nil, Nat.reduceAdd, Nat.reduceSub, Array.replicate_succ, Array.replicate_zero, List.push_toArray, List.append_toArray, List.nil_append, List.cons_append]
  gi_wp2_with (refine ⟨trivial, ?_⟩; gi_at_call 110; refine (callsIn_wide.2 hcp).mono ?_; rintro e w1 ⟨v1, rfl, o1, k1⟩; obtain ⟨a1, c1, hv1⟩ := own_slice o1; subst hv1)
  have hLN := unhide HLN
  subst hLN
  have n1 := Num.new 77 o1
  have ks := k1.size
  have hown : ∀ i, (Value.slice a1 (limbs N).length c1).ownBlock = some i → W.heap.size ≤ i ∧ i < w1.heap.size + 1 := fun i hi => by have := o1.lt i hi; omega
  have J1 := h0 (w1.heap.size + 1) _ (k1.alloc (.cells #[.slice a1 (limbs N).length c1] 77)) (by simp)
  obtain ⟨w2, hw2⟩ : ∃ w2, w1.alloc (.cells #[.slice a1 (limbs N).length c1] 77) = w2 := ⟨_, rfl⟩
  have HW := hide hw2
  rw [hw2] at n1 J1
  clear hw2
  clear hcp HLN nW cB k1 o1
  gi_loopg [] N (fun k wr => ∃ (m : Nat) (pre : List Int) (u : Value), Hid (ddig N = pre ++ ddig m) ∧ m ≤ k ∧ m ≤ N ∧ Num W.heap.size wr w1.heap.size u (limbs m) ∧ Hid (∀ i, u.ownBlock = some i → W.heap.size ≤ i ∧ i < w1.heap.size + 1) ∧ Hid (J (w1.heap.size + 1) pre wr))
  case atStart => exact ⟨N, [], _, hide rfl, Nat.le_refl _, Nat.le_refl _, unhide HW ▸ n1, hown, unhide HW ▸ J1⟩
  case round =>
    obtain ⟨m, pre, u, hd, hm, hmN, nm, hu, hJ⟩ := hrel
    have hz := isZero_impl wr nm
    by_cases h0 : m = 0
    · subst h0
      rw [limbs_zero, decide_eq_true (by rfl)] at hz
      gi_wp2_with (refine ⟨trivial, ?_⟩; gi_at_call 69; refine (callsIn_wide.2 hz).mono ?_; rintro e w3 ⟨rfl, rfl⟩)
      go_end0
      refine ⟨⟨_, rfl⟩, w1.heap.size + 1, ?_⟩
      have := unhide hd
      rw [ddig_zero, List.append_nil] at this
      rw [this]
      exact unhide hJ
    · rw [decide_eq_false (fun e => h0 (limbs_eq_nil.1 (List.length_eq_zero_iff.1 e)))] at hz
      have hD2 : ddig N = pre ++ ((m : Int) % 10) :: ddig (m / 10) := by rw [unhide hd, ddig_step h0]; simp
      have ht := takeDigit_impl wr nm (limbs_lim m) (by have := limbs_mono hmN; omega)
      rw [limbs_val] at ht
      gi_wp2_with (first | (refine ⟨trivial, ?_⟩; gi_at_call 69; refine (callsIn_wide.2 hz).mono ?_; rintro e w3 ⟨rfl, rfl⟩) | (refine ⟨trivial, ?_⟩; gi_at_call 111; refine (callsIn_wide.2 ht).mono ?_; rintro e w5 ⟨rfl, u3, n3, e3, m3⟩; have kk : Kept W.heap.size (w1.heap.size + 1) w3 w5 := m3.win ks (Nat.lt_succ_self _) (unhide hu); have hJ3 := hk _ _ _ _ (unhide hJ) kk; obtain ⟨fn, tmps, assign, body, hy, hR⟩ := hY (w1.heap.size + 1) pre ((m : Int) % 10) (ddig (m / 10)) w5 hD2 hJ3; clear hJ3 kk))
      refine hR.mono ?_
      rintro e w4 ⟨rfl, J4, m4⟩
      have hu3 : ∀ i, u3.ownBlock = some i → W.heap.size ≤ i ∧ i < w1.heap.size + 1 := fun i hi => unhide hu i (e3 ▸ hi)
      have n4 := n3.mod m4 (by unfold Out; omega) (fun i hi => by have := hu3 i hi; unfold Out; omega)
      have em : ((m : Int) / 10).toNat = m / 10 := by omega
      rw [em] at n4
      have H4 := hide J4
      have HD := hide hD2
      clear hD2 J4 em hR hy hY hk
      gi_wp2
      gi_roundg (m / 10)
      case measure => omega
      case rel => exact ⟨m / 10, pre ++ [(m : Int) % 10], u3, by show _ = _; rw [unhide HD]; simp, Nat.le_refl _, by omega, n4, hu3, H4⟩

end Go.Proofs.Ytfikfmkhmojpfaa

namespace Go.Proofs.Ytfikfmkhmojpfaa
open Go.RowKit Go.Shelf
set_option linter.unusedVariables false
set_option maxRecDepth 8000
attribute [local go_sem] Oper.semAt_some

theorem Kept.winThen {lo hi : Nat} {w A B : World} (h : Kept 0 0 w A) (k : Kept lo hi A B) (hl : w.heap.size ≤ lo) : Kept 0 0 w B :=
  ⟨k.os.trans h.os, k.tape.trans h.tape, k.output.trans h.output, Nat.le_trans h.size k.size, fun i hi' ho => (k.block i (Nat.lt_of_lt_of_le hi' h.size) (.inl (by omega))).trans (h.block i hi' ho)⟩
theorem Kept.modw {lo hi : Nat} {A B : World} (k : Kept lo hi A B) : Mod (fun i => lo ≤ i ∧ i < hi) A B :=
  ⟨k.os, k.tape, k.output, k.size, fun i hi' ho => k.block i hi' (by omega)⟩

theorem digits_impl (w : World) (p : Option Addr) :
    Calls Try.prog 94 #[.pointer p] w fun e w' => e = .returned (.func (.func 109) #[] #[.pointer (some ⟨w.heap.size, 0, none⟩)]) ∧ w' = w.alloc (.cells #[.pointer p] 129) := by
  go_enter Try.func94, Try.ntmps94
  go_wp2
  go_ret
  exact ⟨rfl, rfl⟩

theorem ddig_at (N : Nat) (x : Int) (h : x ∈ ddig N) : 0 ≤ x ∧ x ≤ 9 := by
  unfold ddig at h
  obtain ⟨z, hz, rfl⟩ := List.mem_map.1 h
  have := tdig_at N N (Nat.le_refl _) z hz
  omega

/-- What the loop holds between two rounds: the bytes of the digits that have come. -/
def TxtI (w : World) (B0 hi : Nat) (pre : List Int) (W : World) : Prop :=
  ∃ v, W.cell? ⟨B0, 0, none⟩ = some v ∧ W.frozen? ⟨B0, 0, none⟩ = false ∧ W.ownsRow hi 5 1 v (pre.map (fun z => 48 + z)).length ((pre.map (fun z => 48 + z)).map (Value.int .u8)) ∧ hi ≤ W.heap.size ∧ Kept 0 0 w W

set_option maxHeartbeats 4000000 in
theorem text_impl {b g : Nat} {v : Value} {N : Nat} (w : World) (h : Num b w g v (limbs N)) (nx : (limbs N).length ≤ 100000) :
    Calls Try.prog 71 #[.pointer (some ⟨g, 0, none⟩)] w fun e w' => ∃ v', e = .returned v' ∧ Row .u8 true w.heap.size w'.heap.size w' v' (decText N) ∧ Kept 0 0 w w' := by
  have hz := isZero_impl w h
  by_cases h0 : N = 0
  · subst h0
    rw [limbs_zero, decide_eq_true (by rfl)] at hz
    have r1 := Row.lit .u8 w 5 [48] (by simp [maxLen])
    have k1 := (Kept.refl 0 0 w).alloc (.cells #[.int .u8 48] 5)
    go_enter Try.func71, Try.ntmps71
    go_wp2_with (go_at_call 69; refine hz.mono ?_; rintro e w3 ⟨rfl, rfl⟩)
    go_ret
    exact ⟨_, rfl, r1, k1⟩
  · rw [decide_eq_false (fun e => h0 (limbs_eq_nil.1 (List.length_eq_zero_iff.1 e)))] at hz
    have hd := digits_impl (w.alloc (.cells #[.slice none 0 0] 30)) (some ⟨g, 0, none⟩)
    have hdl : (ddig N).length ≤ 1600000 := by
      have h1 := val_lt (limbs_lim N)
      rw [limbs_val, pow_limb] at h1
      have h2 := tdig_len (16 * (limbs N).length) N (by omega)
      unfold ddig
      rw [List.length_map]
      omega
    refine (callsIn_wide (n := 3)).1 ?_
    refine callsIn_of_wp_marks Try.func71 rfl trivial ?_ rfl
    simp only [Try.ntmps71, List.size_toArray, List.length_cons, List.length_nil, Nat.reduceAdd, Nat.reduceSub, Array.replicate_succ, Array.replicate_zero, List.push_toArray, List.append_toArray, List.nil_append, List.cons_append]
    gi_wp2_with (first | (refine ⟨trivial, ?_⟩; gi_at_call 69; refine (callsIn_wide.2 hz).mono ?_; rintro e w3 ⟨rfl, rfl⟩) | (refine ⟨trivial, ?_⟩; gi_at_call 94; refine (callsIn_wide.2 hd).mono ?_; rintro e w4 ⟨rfl, rfl⟩))
    clear hz hd
    have k0 : Kept 0 0 w3 ((w3.alloc (.cells #[.slice none 0 0] 30)).alloc (.cells #[.pointer (some ⟨g, 0, none⟩)] 129)) := ((Kept.refl 0 0 w3).alloc _).alloc _
    have cT : ((w3.alloc (.cells #[.slice none 0 0] 30)).alloc (.cells #[.pointer (some ⟨g, 0, none⟩)] 129)).cell? ⟨w3.heap.size, 0, none⟩ = some (.slice none 0 0) := old_cell _ (new_cell_at _ _ _ _ rfl)
    have fT : ((w3.alloc (.cells #[.slice none 0 0] 30)).alloc (.cells #[.pointer (some ⟨g, 0, none⟩)] 129)).frozen? ⟨w3.heap.size, 0, none⟩ = false := ((Kept.refl 0 0 _).alloc _).loose0 (by simp) (new_loose _ _ _ _ rfl)
    have cB : ((w3.alloc (.cells #[.slice none 0 0] 30)).alloc (.cells #[.pointer (some ⟨g, 0, none⟩)] 129)).cell? ⟨w3.heap.size + 1, 0, none⟩ = some (.pointer (some ⟨g, 0, none⟩)) := new_cell_at _ _ _ _ (by simp)
    have sB : ((w3.alloc (.cells #[.slice none 0 0] 30)).alloc (.cells #[.pointer (some ⟨g, 0, none⟩)] 129)).heap.size = w3.heap.size + 2 := by simp
    have n2 := h.kept k0
    generalize ((w3.alloc (.cells #[.slice none 0 0] 30)).alloc (.cells #[.pointer (some ⟨g, 0, none⟩)] 129)) = W2 at *
    refine wpIn_rangeFunc_ownW rfl (by decide) (gf := 109) (lb := #[.pointer (some ⟨w3.heap.size + 1, 0, none⟩)]) rfl trivial (enters_of Try.func109 (by kernel_rfl) rfl) (digits1_own 2 (by decide) W2 n2 cB nx) (fun _ => rfl) (TxtI w3 w3.heap.size) ?i0 ?ik
      (fun x => { tmps := #[.pointer (some ⟨g, 0, none⟩), undef, .slice none 0 0, .pointer (some ⟨w3.heap.size, 0, none⟩), .int .i64 x, .pointer (some ⟨g, 0, none⟩), .bool false, undef, .pointer (some ⟨g, 0, none⟩), .func (.func 109) #[] #[.pointer (some ⟨w3.heap.size + 1, 0, none⟩)], .int .i64 x, undef, undef, undef, undef, undef, undef, undef, undef, undef], defers := [] }) ?assign ?body ?done
    case i0 =>
      intro hi W' k h1 e
      exact ⟨_, k.cell0 cT, k.loose0 (show w3.heap.size < _ by omega) fT, World.ownsRow_nil _ _ _ _, by omega, k0.trans k⟩
    case ik =>
      rintro hi pre A B ⟨u, c1, f1, o1, s1, k1⟩ k
      exact ⟨u, k.modw.cell (show ¬ (_ ≤ w3.heap.size ∧ _) by omega) c1, k.modw.loose (show ¬ (_ ≤ w3.heap.size ∧ _) by omega) (World.block_lt_of_cell? _ _ c1) f1, k.modw.own o1 (fun i hi' => by have := o1.lt i hi'; omega), Nat.le_trans s1 k.size, k1.winThen k (by omega)⟩
    case assign =>
      intro l x W K hK
      gi_wp2
      exact hK
    case body =>
      rintro l hi pre x post W hx h2 ⟨u, c1, f1, o1, s1, k1⟩
      obtain ⟨hx0, hx9⟩ := ddig_at N x (by rw [hx]; simp)
      have hpl : pre.length ≤ 1600000 := by have := congrArg List.length hx; simp at this; omega
      obtain ⟨bs, hbs⟩ : ∃ bs, pre.map (fun z => 48 + z) = bs := ⟨_, rfl⟩
      have hbl : bs.length ≤ 1600000 := by rw [← hbs]; simpa using hpl
      have hbx : (pre ++ [x]).map (fun z => 48 + z) = bs ++ [48 + x] := by rw [List.map_append, hbs]; rfl
      rw [hbs] at o1
      have HB := hide hbx
      have hw1 : IntKind.i64.wrap (48 + x) = 48 + x := by rw [IntKind.wrap_i64]; omega
      have hw2 : IntKind.u8.wrap (48 + x) = 48 + x := byte_small (by omega) (by omega)
      obtain ⟨a1, d1, hv1⟩ := own_slice o1
      subst hv1
      obtain ⟨i0, hi0, hz0, hz1, hz2⟩ := info_parts Try.info5
      have O2 := hide (own_kept o1 ((Kept.refl 0 0 W).alloc (.cells #[.int .u8 (48 + x)] 5)))
      have C1 : (W.alloc (.cells #[.int .u8 (48 + x)] 5)).cell? ⟨W.heap.size, 0, none⟩ = some (.int .u8 (48 + x)) := new_cell_at _ _ _ _ rfl
      have C2 := hide (lit_cell C1)
      clear C1
      have B1 : Hid (bs.length + 1 ≤ maxLen) := by show _ ≤ _; unfold maxLen; omega
      have B2 : Hid ((bs.length + 1) * 1 ≤ 140737488355328) := by show _ ≤ _; omega
      have B3 : Hid (hi ≤ (W.alloc (.cells #[.int .u8 (48 + x)] 5)).heap.size) := by show _ ≤ _; simp; omega
      have ko := ((Kept.refl 0 0 W).alloc (.cells #[.int .u8 (48 + x)] 5))
      have c2 := ko.cell0 c1
      have f2 := ko.loose0 (World.block_lt_of_cell? _ _ c1) f1
      have hbase := fun i hi' => o1.lt i hi'
      have hno : ¬ (hi ≤ w3.heap.size ∧ w3.heap.size < W.heap.size) := by omega
      clear hpl hbs hbx hx o1
      gi_wp2_with (gi_at_builtin; refine wpListIn_append_own _ rfl _ _ 30 rfl hi 5 i0 (.int .u8 0) 1 1 Try.underlying30 hi0 hz0 hz1 hz2 rfl (by decide) _ _ _ rfl (unhide O2) ⟨W.heap.size, 0, none⟩ 1 1 [.int .u8 (48 + x)] rfl rfl (unhide C2) (by intro u hu; simp at hu; subst hu; rfl) (unhide B1) (unhide B2) (unhide B3) ?_; intro v3 w5 o5 g5 _; obtain ⟨g', cap', hv3⟩ := ownsRow_succ o5; subst hv3; have k5 := Kept.grown g5 hbase; have c5 := k5.modw.cell hno c2; have f5 := k5.modw.loose hno (World.block_lt_of_cell? _ _ c2) f2; clear c2 f2)
      have hb := unhide HB
      have hg' := o5.lt g' rfl
      have m5 : Mod (Out W2.heap.size hi) W w5 := (ko.toMod (S := Out W2.heap.size hi)).then k5.modw (fun i hi' => .inl (by unfold Out; omega))
      have m6 := m5.set (p := ⟨w3.heap.size, 0, none⟩) (.inl (show Out _ _ w3.heap.size by unfold Out; omega)) (.slice (some ⟨g', 0, none⟩) (bs.length + 1) cap')
      have kw := (k1.trans ko).winThen (k5.wider (Nat.le_refl _) (Nat.le_refl _)) (by omega)
      refine ⟨⟨_, cell_on _ _ _ _ _ c5, by rw [frozen_set]; exact f5, ?_, ?_, ?_⟩, m6⟩
      · rw [hb]
        have o6 := (Mod.set (Mod.refl (fun i => i = w3.heap.size) w5) (p := ⟨w3.heap.size, 0, none⟩) (.inl rfl) (.slice (some ⟨g', 0, none⟩) (bs.length + 1) cap')).own o5 (fun i hi' e => by have := o5.lt i hi'; omega)
        simpa using o6
      · rw [size_set]; have := k5.size; have := unhide B3; omega
      · exact (kw.winThen (lo := w3.heap.size) (hi := w3.heap.size + 1) ((Kept.refl _ _ _).setCell (p := ⟨w3.heap.size, 0, none⟩) (Nat.le_refl _) (Nat.lt_succ_self _) _) (Nat.le_refl _))
    case done =>
      rintro D hi W hD1 hD2 ⟨u, c1, f1, o1, s1, k1⟩ hK
      have ht : (ddig N).map (fun z => 48 + z) = tdig N := by
        unfold ddig
        rw [List.map_map]
        conv => rhs; rw [← List.map_id (tdig N)]
        apply List.map_congr_left
        intro z _
        simp only [Function.comp, id]
        omega
      rw [ht] at o1
      have hdt : decText N = (tdig N).reverse := by unfold decText; rw [if_neg h0]
      have hpos : 0 < (tdig N).length := by rw [tdig_step h0]; simp
      obtain ⟨g', cap', hv3⟩ : ∃ g' cap', u = .slice (some ⟨g', 0, none⟩) (tdig N).length cap' := by
        obtain ⟨L, hL⟩ : ∃ L, (tdig N).length = L + 1 := ⟨(tdig N).length - 1, by omega⟩
        rw [hL] at o1 ⊢
        exact ownsRow_succ o1
      subst hv3
      have hg' := o1.lt g' rfl
      have hr := reverse_impl W (Row.own o1) hpos
      obtain ⟨TN, hTN⟩ : ∃ TN, TN = tdig N := ⟨_, rfl⟩
      rw [← hTN] at hr hdt c1
      have HDT := hide hdt
      clear hTN hdt ht o1 hpos hdl h n2 cB cT fT k0
      gi_wp2_with (refine ⟨trivial, ?_⟩; gi_at_call 95; refine (callsIn_wide.2 hr).mono ?_; rintro e w5 ⟨rfl, r5, k5⟩; have c5 := k5.modw.cell (show ¬ (g' ≤ w3.heap.size ∧ w3.heap.size < g' + 1) by omega) c1; have hK5 := (k5.block D (by omega) (by omega)).trans hK)
      refine ⟨by simp, .inl ⟨_, _, rfl, run_takeDeferred hK5, ?_⟩⟩
      have kp := Kept.put (lo := D) (hi := D + 1) w5 (.deferred none) (Nat.le_refl _) (Nat.lt_succ_self _)
      have kw := (k1.winThen k5 (by omega)).winThen kp (by omega)
      refine ⟨_, results_tmp rfl _ _ _, _, rfl, ?_, kw⟩
      rw [unhide HDT]
      have s5 := k5.size
      exact ((r5.kept kp (by omega)).wider (by omega) (Nat.le_refl _)).tight

end Go.Proofs.Ytfikfmkhmojpfaa

namespace Go.Proofs.Ytfikfmkhmojpfaa
open Go.RowKit
set_option linter.unusedVariables false
set_option maxRecDepth 8000
set_option linter.unusedSimpArgs false

/-- A text that may be appended to: a row of the call's own, or one byte with no room behind it. -/
def OwnT (b : Nat) (w : World) (v : Value) (bs : List Int) : Prop :=
  w.ownsRow b 5 1 v bs.length (bs.map (Value.int .u8)) ∨ ∃ g z, b ≤ g ∧ v = .slice (some ⟨g, 0, none⟩) 1 1 ∧ bs = [z] ∧ w.cell? ⟨g, 0, none⟩ = some (.int .u8 z) ∧ w.frozen? ⟨g, 0, none⟩ = false
theorem OwnT.form {b : Nat} {w : World} {v : Value} {bs : List Int} (h : OwnT b w v bs) : ∃ a c, v = .slice a bs.length c := by
  rcases h with h | ⟨g, z, -, rfl, rfl, -⟩
  · exact own_slice h
  · exact ⟨_, _, rfl⟩
theorem OwnT.row {b : Nat} {w : World} {v : Value} {bs : List Int} (h : OwnT b w v bs) : Row .u8 true b w.heap.size w v bs := by
  rcases h with h | ⟨g, z, hb, rfl, rfl, hc, hf⟩
  · exact Row.own h
  · have hlt := World.block_lt_of_cell? _ _ hc
    dsimp only at hlt
    refine ⟨_, _, rfl, Nat.le_refl _, by simp [maxLen], fun _ => ⟨g, 0, rfl, hb, hlt, hlt, fun i hi => ?_, fun _ i hi => ?_⟩⟩
    · have : i = 0 := by simpa using hi
      subst this
      exact hc
    · have : i = 0 := by simpa using hi
      subst this
      exact hf
theorem OwnT.kept {b : Nat} {w w' : World} {v : Value} {bs : List Int} (h : OwnT b w v bs) (k : Kept 0 0 w w') : OwnT b w' v bs := by
  rcases h with h | ⟨g, z, hb, rfl, rfl, hc, hf⟩
  · exact .inl (own_kept h k)
  · exact .inr ⟨g, z, hb, rfl, rfl, k.cell0 hc, k.loose0 (World.block_lt_of_cell? _ _ hc) hf⟩
theorem OwnT.drew {b g : Nat} {w w' : World} {v : Value} {bs : List Int} (h : OwnT b w v bs) (k : Kept g (g + 1) w w') (hg : g < b) : OwnT b w' v bs := by
  rcases h with h | ⟨g1, z, hb, rfl, rfl, hc, hf⟩
  · exact .inl (own_other h k hg)
  · have hlt := World.block_lt_of_cell? _ _ hc
    dsimp only at hlt
    have e := k.block g1 hlt (by omega)
    refine .inr ⟨g1, z, hb, rfl, rfl, ?_, ?_⟩
    · rw [show w'.cell? ⟨g1, 0, none⟩ = w.cell? ⟨g1, 0, none⟩ by simp only [World.cell?, e]]; exact hc
    · rw [show w'.frozen? ⟨g1, 0, none⟩ = w.frozen? ⟨g1, 0, none⟩ by simp only [World.frozen?, e]]; exact hf
theorem OwnT.less {b b' : Nat} {w : World} {v : Value} {bs : List Int} (h : OwnT b w v bs) (hb : b' ≤ b) : OwnT b' w v bs := by
  rcases h with h | ⟨g, z, h1, h2⟩
  · exact .inl (own_less h hb)
  · exact .inr ⟨g, z, by omega, h2⟩
theorem OwnT.full {b g : Nat} {w : World} {z : Int} (hb : b ≤ g) (hc : w.cell? ⟨g, 0, none⟩ = some (.int .u8 z) ∧ w.frozen? ⟨g, 0, none⟩ = false) : OwnT b w (.slice (some ⟨g, 0, none⟩) 1 1) [z] := .inr ⟨g, z, hb, rfl, rfl, hc.1, hc.2⟩

/-- One byte more. -/
theorem wpList_byteT {ops : Array Oper} {rest : List Oper} {o : Oper} {a : Act} {Q : Exit → Act → World → Prop} {b : Nat} {wr : World} {v : Value} {zs : List Int} (hgd : o.guard = none) (s x : Operand)
    (ho : o.op = .call { callee := .builtin .append, args := #[s, x], argTypes := #[30, 30] }) (hs : a.eval s = v) (ad : Addr) (hx : a.eval x = .slice (some ad) 1 1) (z : Int)
    (hc : wr.cell? ad = some (.int .u8 z)) (hown : OwnT b wr v zs) (hb : b ≤ wr.heap.size) (hn : zs.length ≤ 2000000)
    (h : ∀ v' w', w'.ownsRow b 5 1 v' (zs ++ [z]).length ((zs ++ [z]).map (Value.int .u8)) → (∀ (a0 : World) (lo hi : Nat), Kept lo hi a0 wr → a0.heap.size ≤ b → Kept lo hi a0 w') → Kept b wr.heap.size wr w' → wpList Try.prog ops Q rest (a.put o.dst v') w') : wpList Try.prog ops Q (o :: rest) a wr := by
  rcases hown with hown | ⟨g, y, hg, rfl, rfl, hcy, -⟩
  · refine wpList_byte hgd s x ho hs ad hx z hc hown hb hn (fun v' w' h1 h2 => h v' w' h1 (fun a0 lo hi k hl => k.growNew h2 (fun q hq => by have := (hown.lt q hq).1; omega)) (Kept.grown h2 (fun q hq => hown.lt q hq)))
  · obtain ⟨i0, hi0, hz0, hz1, hz2⟩ := info_parts Try.info5
    refine wpList_append_grows _ hgd _ _ 30 ho 5 i0 (.int .u8 0) 1 1 Try.underlying30 hi0 hz0 hz1 hz2 rfl (by decide) (some ⟨g, 0, none⟩) 1 1 [.int .u8 y] hs (fun e => by cases e) rfl (fun b1 e => by cases e; exact lit_cell hcy) ad 1 1 [.int .u8 z] hx rfl (lit_cell hc) (fun u hu => by simp at hu; subst hu; rfl) (by decide) (by simp [maxLen]) (by decide) ?_
    intro v' w' hown' hgrow
    exact h v' w' (own_less (by simpa using hown') hb) (fun a0 lo hi k hl => k.growNew hgrow (fun q hq => by cases hq)) (Kept.grown hgrow (fun q hq => by cases hq))

set_option maxHeartbeats 8000000 in
theorem text_own {bw : Bool} {lo hi : Nat} {v : Value} {xs : List Int} (w : World) (r : Row .i64 bw lo hi w v xs) (hn : Nrm xs) (nx : xs.length ≤ 100000) :
    Calls Try.prog 62 #[.agg #[v]] w fun e w' => ∃ v', e = .returned v' ∧ OwnT w.heap.size w' v' (decText (val xs).toNat) ∧ Kept 0 0 w w' := by
  have k0 := (Kept.refl 0 0 w).alloc (.cells #[v] 33)
  have r0 := r.kept k0 (by omega)
  have hce : (w.alloc (.cells #[v] 33)).cell? ⟨w.heap.size, 0, none⟩ = some v := new_cell_at _ _ _ _ rfl
  have hfr : (w.alloc (.cells #[v] 33)).frozen? ⟨w.heap.size, 0, none⟩ = false := new_loose _ _ _ _ rfl
  have hs0 : (w.alloc (.cells #[v] 33)).heap.size = w.heap.size + 1 := by simp
  obtain ⟨N, hN⟩ : ∃ N, (val xs).toNat = N := ⟨_, rfl⟩
  have hxs : xs = limbs N := by rw [← hN]; exact nrm_limbs hn
  have hlt : N < 2 ^ (16 * xs.length) := by
    have h1 := val_lt hn.1
    have h2 := val_nonneg hn.1
    rw [pow_limb] at h1
    omega
  have hdl := tdig_len _ _ hlt
  rw [hN]
  obtain ⟨a, c, rfl⟩ := Row.form' r
  clear r
  by_cases h0 : xs.length = 0
  · have hb0 : ((xs.length : Int) == 0) = true := beq_iff_eq.2 (by omega)
    have hN0 : N = 0 := by
      rw [← hN, List.length_eq_zero_iff.1 h0]; rfl
    have HD : Hid (decText N = [48]) := by show _ = _; rw [hN0]; rfl
    have KK := hide k0
    clear k0 r0 hce hfr hxs h0 hN0
    go_enter Try.func62, Try.ntmps62
    have hcv := Lib.run_convert_bytes_const (P := Try.prog) (w.alloc (.cells #[.slice a xs.length c] 33)) 30 5 #[.int .u8 48] 1 1 Try.underlying30 Try.underlying5
    rw [hs0] at hcv
    have this := Row.marked (w.alloc (.cells #[.slice a xs.length c] 33)) 5 48
    rw [hs0] at this
    have TH := hide this
    clear this
    go_wp2
    go_ret
    exact ⟨_, rfl, by rw [unhide HD]; exact OwnT.full (by omega) ⟨by have := row_at (unhide TH) 0 (by simp); simpa using this, (Row.at (unhide TH) (j := 0) (by simp)).2.1⟩, (unhide KK).alloc _⟩
  · have hb0 : ((xs.length : Int) == 0) = false := beq_eq_false_iff_ne.2 (by omega)
    have hNe : N ≠ 0 := by
      intro e
      rw [e, limbs_zero] at hxs
      rw [hxs] at h0
      simp at h0
    have HD : Hid (decText N = (tdig N).reverse) := if_neg hNe
    have HX := hide hxs
    have KK := hide k0
    have R0 := hide (r0.read.tight.wider (lo' := 0) (Nat.zero_le _) (Nat.le_refl _))
    clear k0 r0 hxs h0 hNe hN
    go_enter Try.func62, Try.ntmps62
    go_wp2
    generalize w.alloc (.cells #[.slice a xs.length c] 33) = W at *
    go_loopw [3] (fun bk wr => ∃ (m : Nat) (av : Value) (bs : List Int), wr.cell? ⟨w.heap.size, 0, none⟩ = some av ∧ wr.frozen? ⟨w.heap.size, 0, none⟩ = false ∧ Row .i64 false 0 wr.heap.size wr av (limbs m) ∧ (limbs m).length ≤ 100000 ∧ wr.ownsRow (w.heap.size + 1) 5 1 bk bs.length (bs.map (Value.int .u8)) ∧ Hid (tdig N = bs ++ tdig m) ∧ bs.length ≤ 1600000 ∧ w.heap.size + 1 ≤ wr.heap.size ∧ Kept 0 0 w wr) (fun bk _ => (tdig N).length - lenV bk)
    case atStart => exact ⟨N, _, [], hce, hfr, by rw [← unhide HX]; exact unhide R0, by rw [← unhide HX]; exact nx, World.ownsRow_nil _ _ _ _, hide rfl, by simp, by omega, unhide KK⟩
    case round =>
      clear hce hfr R0 KK
      obtain ⟨m, av, bs, hce, hfr, ra, la, hown, ht, lb, hsz, kw⟩ := hrel
      obtain ⟨a1, c1, hv⟩ := Row.form' ra
      subst hv
      obtain ⟨a2, c2, hv⟩ := own_slice hown
      subst hv
      by_cases hm : m = 0
      · have hl0 : (limbs m).length = 0 := by rw [hm, limbs_zero]; rfl
        have hd0 : ¬ (0 : Int) < ((limbs m).length : Int) := by omega
        have hT : tdig N = bs := by rw [unhide ht, hm, tdig_zero, List.append_nil]
        have HT := hide hT
        have hbl : bs.length ≤ 1600000 := lb
        have OB := hide hown
        have KW := hide kw
        have hwb : IntKind.i64.wrap ((bs.length : Int) - 1) = (bs.length : Int) - 1 := by rw [IntKind.wrap_i64]; omega
        have HBR := hide (row_cell (Row.own hown)).2.2.2
        clear hown ht ra hm hl0 hT kw
        obtain ⟨W2, rfl⟩ : ∃ W2, W2 = wr := ⟨_, rfl⟩
        go_wp2
        go_loopw [6, 7] (fun oo ii wx => ∃ (j : Nat) (v : Value), oo = v ∧ j ≤ bs.length ∧ ii = .int .i64 ((bs.length : Int) - 1 - (j : Int)) ∧ wx.ownsRow W2.heap.size 5 1 v (bs.reverse.take j).length ((bs.reverse.take j).map (Value.int .u8)) ∧ Kept 0 0 W2 wx) (fun _ ii _ => (intOf ii + 1).toNat)
        case atStart => exact ⟨0, _, rfl, Nat.zero_le _, by simp, by simpa using World.ownsRow_nil _ _ _ _, Kept.refl _ _ _⟩
        case round =>
          obtain ⟨j, v, rfl, hj, rfl, hown, kx⟩ := hrel
          by_cases hA : j < bs.length
          · obtain ⟨gb, ob, hvb, hxb⟩ := unhide HBR (bs.length - 1 - j) (by omega)
            subst hvb
            replace hxb := kx.cell0 hxb
            have hst := rev_step bs j hA
            have hi0 : (0 : Int) ≤ (bs.length : Int) - 1 - (j : Int) := by omega
            have hi1 : (bs.length : Int) - 1 - (j : Int) < (bs.length : Int) := by omega
            have hit : ((bs.length : Int) - 1 - (j : Int)).toNat = bs.length - 1 - j := by omega
            have hwi : IntKind.i64.wrap ((bs.length : Int) - 1 - (j : Int) - 1) = (bs.length : Int) - 1 - ((j + 1 : Nat) : Int) := by rw [IntKind.wrap_i64]; omega
            generalize bs.getD (bs.length - 1 - j) 0 = zb at *
            have hlt3 : (bs.reverse.take j).length = j := by simp; omega
            have cz : (wr.alloc (.cells #[.int .u8 zb] 5)).cell? ⟨wr.heap.size, 0, none⟩ = some (.int .u8 zb) := new_cell_at _ _ _ _ rfl
            have OO := hide (own_kept hown ((Kept.refl 0 0 wr).alloc (.cells #[.int .u8 zb] 5)))
            have hlo := hown.lt
            have hsz2 := kx.size
            have KX := hide (kx.alloc (.cells #[.int .u8 zb] 5))
            have CZ := hide cz
            have HST := hide hst
            clear hown cz hst kx
            go_wp2_with (at_builtin; refine wpList_byte rfl _ _ rfl rfl _ rfl zb (unhide CZ) (unhide OO) (by simp; omega) (by omega) ?_)
            intro v7 w7 hown7 hg7
            have K7 := hide ((unhide KX).growNew hg7 (fun k e => (hlo k e).1))
            have O7 := hide hown7
            clear hown7 hg7
            go_wp2
            go_roundw
            case rel => exact ⟨j + 1, _, rfl, by omega, rfl, by rw [← unhide HST]; simpa [hlt3] using unhide O7, unhide K7⟩
            case measure => simp [intOf]; omega
          · have hjl : j = bs.length := by omega
            have hi0 : ¬ (0 : Int) ≤ (bs.length : Int) - 1 - (j : Int) := by omega
            have RR := hide hown
            rw [hjl, List.take_of_length_le (by simp)] at RR
            have KX := hide ((unhide KW).trans kx)
            have hsx := kx.size
            clear hown kx
            go_wp2
            go_ret
            exact ⟨_, rfl, by rw [unhide HD, unhide HT]; exact .inl (own_less (unhide RR) (by omega)), unhide KX⟩
      · have hlp : 0 < (limbs m).length := limbs_pos' m hm
        have hlpi : (0 : Int) < ((limbs m).length : Int) := by omega
        obtain ⟨ht2, hlt2⟩ := tdig_more (unhide ht) hm
        have HT2 := hide ht2
        have sm := small_spec wr ra (limbs_lim m) la 10 (by decide) (by decide)
        rw [limbs_val] at sm
        have hz0 : ((m : Int) % 10) = ((m % 10 : Nat) : Int) := by omega
        have hq0 : ((m : Int) / 10).toNat = m / 10 := by omega
        rw [hz0, hq0] at sm
        have SM := hide sm
        have hmod : m % 10 < 10 := Nat.mod_lt _ (by decide)
        generalize hzz : m % 10 = z at *
        have hlq : (limbs (m / 10)).length ≤ 100000 := by
          have h1 := (limbs_length_le m 100000).1 la
          exact (limbs_length_le (m / 10) 100000).2 (by omega)
        have hlo := hown.lt
        have OB := hide hown
        have KW := hide kw
        clear sm hz0 hq0 ht ht2 hzz ra hown kw
        go_wp2_with fail
        refine (unhide SM).mono ?_
        rintro e w5 ⟨v5, rfl, r5, k5⟩
        obtain ⟨a5, c5, hv⟩ := Row.form' r5
        subst hv
        generalize hLQ : limbs (m / 10) = LQ at *
        have k6 : Kept 0 0 wr ((w5.alloc (.cells #[.slice a5 LQ.length c5] 33)).alloc (.cells #[.int .u8 (48 + (z : Int))] 5)) := (k5.alloc _).alloc _
        have r6 := r5.kept (((Kept.refl 0 0 w5).alloc (.cells #[.slice a5 LQ.length c5] 33)).alloc (.cells #[.int .u8 (48 + (z : Int))] 5)) (by omega)
        have cq : ((w5.alloc (.cells #[.slice a5 LQ.length c5] 33)).alloc (.cells #[.int .u8 (48 + (z : Int))] 5)).cell? ⟨w5.heap.size, 0, none⟩ = some (.slice a5 LQ.length c5) := old_cell _ (new_cell_at _ _ _ _ rfl)
        have cz : ((w5.alloc (.cells #[.slice a5 LQ.length c5] 33)).alloc (.cells #[.int .u8 (48 + (z : Int))] 5)).cell? ⟨w5.heap.size + 1, 0, none⟩ = some (.int .u8 (48 + (z : Int))) := new_cell_at _ _ _ _ (by simp)
        have hs6 : ((w5.alloc (.cells #[.slice a5 LQ.length c5] 33)).alloc (.cells #[.int .u8 (48 + (z : Int))] 5)).heap.size = w5.heap.size + 2 := by simp
        have hown6 := own_kept (unhide OB) k6
        have hce6 := k6.cell0 hce
        have hfr6 := k6.loose0 (World.block_lt_of_cell? _ _ hce) hfr
        have hw1 : IntKind.i64.wrap (48 + (z : Int)) = 48 + (z : Int) := by rw [IntKind.wrap_i64]; omega
        have hw2 : IntKind.u8.wrap (48 + (z : Int)) = 48 + (z : Int) := byte_small (by omega) (by omega)
        have hsz5 := k5.size
        have K6 := hide ((unhide KW).trans k6)
        have CZ := hide cz
        have OW := hide hown6
        clear r5 k5 k6 cz hown6 OB KW hce hfr
        go_wp2_with (at_builtin; refine wpList_byte rfl _ _ rfl rfl _ rfl (48 + (z : Int)) (unhide CZ) (unhide OW) (by omega) (by omega) ?_)
        intro v7 w7 hown7 hg7
        have kg := Kept.grown hg7 (fun k e => hlo k e)
        have hce7 := kg.cellOut (a := ⟨w.heap.size, 0, none⟩) (.inl (by dsimp only; omega)) hce6
        have hfr7 : w7.frozen? ⟨w.heap.size, 0, none⟩ = false := by
          rw [← hfr6]; exact World.frozen?_of_block (kg.block w.heap.size (World.block_lt_of_cell? _ _ hce6) (.inl (by omega)))
        have cq7 := kg.cellOut (a := ⟨w5.heap.size, 0, none⟩) (.inr (by dsimp only; omega)) cq
        have r7 := r6.kept kg (by omega)
        have hs7 := kg.size
        have hlv : lenV v7 = bs.length + 1 := by
          obtain ⟨a7, c7, hv⟩ := own_slice hown7
          rw [hv]; simp [lenV]
        have K7 := hide (((unhide K6).growNew hg7 (fun k e => by have := (hlo k e).1; omega)).setNew (p := ⟨w.heap.size, 0, none⟩) (Nat.le_refl _) (.slice a5 LQ.length c5))
        have hap : v7.ownBlock ≠ some w.heap.size := fun e => by have := (hown7.lt _ e).1; omega
        have O7 := hide (own_apart hown7 (p := ⟨w.heap.size, 0, none⟩) hap (.slice a5 LQ.length c5))
        have C7 : Hid ((w7.setCell ⟨w.heap.size, 0, none⟩ (.slice a5 LQ.length c5)).cell? ⟨w.heap.size, 0, none⟩ = some (.slice a5 LQ.length c5)) := cell_on _ _ _ _ _ hce7
        have F7 : Hid ((w7.setCell ⟨w.heap.size, 0, none⟩ (.slice a5 LQ.length c5)).frozen? ⟨w.heap.size, 0, none⟩ = false) := by show _ = _; rw [frozen_set]; exact hfr7
        have R7 := hide ((r7.set_other (p := ⟨w.heap.size, 0, none⟩) (.inl (by dsimp only; omega)) (.slice a5 LQ.length c5)).read.tight.wider (lo' := 0) (Nat.zero_le _) (Nat.le_refl _))
        have S7 : Hid (w.heap.size + 1 ≤ (w7.setCell ⟨w.heap.size, 0, none⟩ (.slice a5 LQ.length c5)).heap.size) := by show _ ≤ _; rw [size_set]; omega
        clear hown7 hg7 kg r6 r7 cq hce6 hfr6 K6 OW
        go_wp2
        go_roundw
        case rel => exact ⟨m / 10, _, bs ++ [(48 + (z : Int))], unhide C7, unhide F7, by rw [hLQ]; exact unhide R7, by rw [hLQ]; exact hlq, by simpa using unhide O7, HT2, by simp; omega, unhide S7, unhide K7⟩
        case measure => rw [hlv]; simp [lenV]; omega

end Go.Proofs.Ytfikfmkhmojpfaa
