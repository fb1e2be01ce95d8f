/-
  The program's trim and shiftDown of a number whose list may begin behind its block's first cell.
-/
import Derived.Test.YthahoabkehcgbaaGreatDoorqoHq4
import Derived.Test.YthahoabkehcgbaaGreatDoorqoDys4
import Derived.Deep.DeepCutAuto
import Derived.Deep.RegionHeld3
import Derived.Test.YthahoabkehcgbaaGreatDoorqoHq3
import Derived.Test.YthahoabkehcgbaaGreatDoorqoIvs2
import Derived.Test.YthahoabkehcgbaaGreatDoorqoBI
import Derived.ArgAppend
namespace Go.Proofs.YthahoabkehcgbaaGreatDoor
open Go.RowKit
set_option linter.unusedVariables false
set_option maxRecDepth 8000
set_option linter.unusedSimpArgs false

theorem wpt3 {P : Program} {o : Oper} {a : Act} {w : World} {K : Act → World → Prop} {Q : Exit → Act → World → Prop} {R : Ending → World → Prop}
    (n : FuncId) (x y z : Operand) (ts : Array TypeId) (hop : o.op = Op.call { callee := Callee.value (Operand.func n), args := #[x, y, z], argTypes := ts })
    (hcf : ∀ (w : World) (args : Array Value), (callFunc n args).run P w = .ok (.enter n args) w) (vx vy vz : Value) (hx : a.eval x = vx) (hy : a.eval y = vy) (hz : a.eval z = vz) (hc : Calls P n #[vx, vy, vz] w R) (hK : ∀ e w', R e w' → ∃ v, e = .returned v ∧ K (a.put o.dst v) w') :
    Oper.wp P o a w K Q := by
  unfold Oper.wp
  have hrun : (execOp a.eval o).run P w = .ok (.enter n #[vx, vy, vz]) w := by
    have hfn : a.eval (.func n) = .func (.func n) #[] #[] := rfl
    simp [execOp, hop, resolve, invoke, hx, hy, hz, hfn, Deferred.ofValue, Result.andThen, hcf]
  rw [hrun, Oper.upon_enter]
  refine hc.mono ?_
  intro e w' h
  obtain ⟨v, rfl, h2⟩ := hK e w' h
  exact h2

end Go.Proofs.YthahoabkehcgbaaGreatDoor


namespace Go.Proofs.YthahoabkehcgbaaGreatDoor
open Go.RowKit
set_option linter.unusedVariables false
set_option maxRecDepth 8000
set_option linter.unusedSimpArgs false

theorem Fill.twoW {g n j mid l h0 : Nat} {ds : List DE} {w w' : World} {s s' : Bool} {u u' : Value} {y y' : Int} {z z' : List Int} (f : Fill 0 g (2 * n) ds (2 * j) w) (hj : j < n) (k : Kept l h0 w w') (hl : h0 ≤ g) (r : Row .i64 true w.heap.size mid w' u z) (r' : Row .i64 true mid w'.heap.size w' u' z') (hm : w.heap.size ≤ mid) (hm' : mid ≤ w'.heap.size) (he : ds.getD (2 * j) de0 = (s, z, y)) (he' : ds.getD (2 * j + 1) de0 = (s', z', y')) :
    Fill 0 g (2 * n) ds (2 * (j + 1)) ((((((w'.setCell ⟨g, j * 6, none⟩ (.bool s)).setCell ⟨g, j * 6 + 1, none⟩ u).setCell ⟨g, j * 6 + 2, none⟩ (.int .i64 y)).setCell ⟨g, j * 6 + 3, none⟩ (.bool s')).setCell ⟨g, j * 6 + 4, none⟩ u').setCell ⟨g, j * 6 + 5, none⟩ (.int .i64 y')) := by
  obtain ⟨hlt, ⟨b, hb, hmono⟩, hcell, hloose⟩ := f
  obtain ⟨q, hq1, hq⟩ := r.block1
  obtain ⟨q', hq1', hq'⟩ := r'.block1
  have hz : (ds.getD (2 * j) de0).2.1 = z := by rw [he]
  have hz' : (ds.getD (2 * j + 1) de0).2.1 = z' := by rw [he']
  have hsz := k.size
  have hcell' : ∀ k, k < 2 * n * 3 → ∃ u, w'.cell? ⟨g, k, none⟩ = some u := fun k' hk' => by obtain ⟨x, hx⟩ := hcell k' hk'; exact ⟨x, k.cellOut (a := ⟨g, k', none⟩) (.inr hl) hx⟩
  obtain ⟨W1, hW1⟩ : ∃ W1, W1 = ((w'.setCell ⟨g, j * 6, none⟩ (.bool s)).setCell ⟨g, j * 6 + 1, none⟩ u).setCell ⟨g, j * 6 + 2, none⟩ (.int .i64 y) := ⟨_, rfl⟩
  have k1 : Kept g (g + 1) w' W1 := by rw [hW1]; exact (((Kept.refl g (g + 1) w').setCell (p := ⟨g, j * 6, none⟩) (Nat.le_refl _) (Nat.lt_succ_self _) _).setCell (p := ⟨g, j * 6 + 1, none⟩) (Nat.le_refl _) (Nat.lt_succ_self _) _).setCell (p := ⟨g, j * 6 + 2, none⟩) (Nat.le_refl _) (Nat.lt_succ_self _) _
  have s1 : W1.heap.size = w'.heap.size := by rw [hW1, size_set, size_set, size_set]
  have hcell1 : ∀ k, k < 2 * n * 3 → ∃ u, W1.cell? ⟨g, k, none⟩ = some u := fun k' hk' => by
    obtain ⟨x, hx⟩ := hcell' k' hk'
    obtain ⟨x1, hx1⟩ := cells_of_setCell (p := j * 6) (u := .bool s) hx
    obtain ⟨x2, hx2⟩ := cells_of_setCell (p := j * 6 + 1) (u := u) hx1
    rw [hW1]
    exact cells_of_setCell (p := j * 6 + 2) (u := .int .i64 y) hx2
  have dA : DyAt true q (q + 1) W1 g (j * 6) (s, z, y) := by rw [hW1]; exact DyAt.store (hcell' _ (by omega)) (hcell' _ (by omega)) (hcell' _ (by omega)) hq (fun e => by have := hq1 e; omega)
  have rB : Row .i64 true q' (q' + 1) W1 u' z' := by
    by_cases e : z' = []
    · exact hq'.none e
    · exact hq'.kept k1 (by have := hq1' e; omega)
  rw [← hW1]
  have dB : DyAt true q' (q' + 1) (((W1.setCell ⟨g, j * 6 + 3, none⟩ (.bool s')).setCell ⟨g, j * 6 + 4, none⟩ u').setCell ⟨g, j * 6 + 5, none⟩ (.int .i64 y')) g (j * 6 + 3) (s', z', y') := DyAt.store (hcell1 _ (by omega)) (hcell1 _ (by omega)) (hcell1 _ (by omega)) rB (fun e => by have := hq1' e; omega)
  refine ⟨by rw [size_set, size_set, size_set, s1]; omega, ⟨fun i => if i = 2 * j then q else if i = 2 * j + 1 then q' else b i, fun i hi => ?_, fun i i' h1 h2 e1 e2 => ?_⟩, fun k' hk' => ?_, fun k' hk' => ?_⟩
  · dsimp only
    rw [size_set, size_set, size_set, s1]
    by_cases e : i = 2 * j
    · subst e
      rw [if_pos rfl, he, show 2 * j * 3 = j * 6 by omega]
      exact ⟨fun e => by have := hq1 e; omega, dA.stored _ _ _ (fun e => by have := hq1 e; omega) (by omega)⟩
    · by_cases e2 : i = 2 * j + 1
      · subst e2
        rw [if_neg e, if_pos rfl, he', show (2 * j + 1) * 3 = j * 6 + 3 by omega]
        exact ⟨fun e => by have := hq1' e; omega, dB⟩
      · rw [if_neg e, if_neg e2]
        obtain ⟨q1, q3⟩ := hb i (by omega)
        have q4 : DyAt true (b i) (b i + 1) W1 g (i * 3) (ds.getD i de0) := by rw [hW1]; exact (q3.keptE k (fun e => by have := q1 e; omega) (.inr hl)).stored _ _ _ (fun e => by have := q1 e; omega) (by omega)
        exact ⟨fun e => by have := q1 e; omega, q4.stored _ _ _ (fun e => by have := q1 e; omega) (by omega)⟩
  · dsimp only
    by_cases e : i = 2 * j
    · subst e
      have e3 : i' = 2 * j + 1 := by omega
      subst e3
      rw [if_pos rfl, if_neg (by omega), if_pos rfl]
      rw [hz] at e1
      rw [hz'] at e2
      have := hq1 e1; have := hq1' e2; omega
    · have hi2 : ¬ i = 2 * j + 1 := by omega
      rw [if_neg e, if_neg hi2]
      have := (hb i (by omega)).1 e1
      by_cases e3 : i' = 2 * j
      · rw [if_pos e3]; subst e3; rw [hz] at e2; have := hq1 e2; omega
      · by_cases e4 : i' = 2 * j + 1
        · rw [if_neg e3, if_pos e4]; subst e4; rw [hz'] at e2; have := hq1' e2; omega
        · rw [if_neg e3, if_neg e4]; exact hmono i i' h1 (by omega) e1 e2
  · obtain ⟨x, hx⟩ := hcell1 k' hk'
    obtain ⟨x1, hx1⟩ := cells_of_setCell (p := j * 6 + 3) (u := .bool s') hx
    obtain ⟨x2, hx2⟩ := cells_of_setCell (p := j * 6 + 4) (u := u') hx1
    exact cells_of_setCell (p := j * 6 + 5) (u := .int .i64 y') hx2
  · rw [frozen_set, frozen_set, frozen_set, hW1, frozen_set, frozen_set, frozen_set]
    exact k.looseOut (a := ⟨g, k', none⟩) (.inr hl) hlt (hloose k' hk')

theorem listCellH {w w' : World} {b lo hi n j g c ln : Nat} {G : Nat → Nat} (h : w.ownsRow b 79 2 (.slice (some ⟨g, 0, none⟩) ln c) n (ptrs G (2 * n))) (k : Kept lo hi w w') (hb : hi ≤ b) (hj : j < 2 * n) : w'.cell? ⟨g, j, none⟩ = some (.pointer (some ⟨G j, 0, none⟩)) := by
  have h1 := h.cells (g := g) rfl j _ (ptrs_at G hj)
  have h2 := (h.lt g rfl).1
  exact k.cellOut (a := ⟨g, j, none⟩) (.inr (Nat.le_trans hb h2)) (by rw [Addr.add_lit, Nat.zero_add] at h1; exact h1)
theorem own_kept2 {B base : Nat} {e : TypeId} {w w' : World} {v : Value} {n : Nat} {xs : List Value} (h : w.ownsRow base e 2 v n xs) (q : Kept B B w w') : w'.ownsRow base e 2 v n xs :=
  h.kept q.toGrown (by cases v.ownBlock <;> simp)
theorem own_someH {w : World} {base n : Nat} {e : TypeId} {v : Value} {xs : List Value} (h0 : 0 < n) (h : w.ownsRow base e 2 v n xs) : ∃ g c, v = .slice (some ⟨g, 0, none⟩) n c := by
  rcases h.2 with ⟨_, hn⟩ | ⟨g, cap, cur, hv, _⟩
  · omega
  · exact ⟨g, cap, hv⟩

/-- Whether interval p can be told; the ends that are told of the first n. -/
def hBp (F : Nat → DE) (p : Nat) : Bool := hB (F (2 * p)) (F (2 * p + 1))
def hEs (F : Nat → DE) (q : Nat) : DE := tdE (F q)
def hL (F : Nat → DE) (n : Nat) : List DE := if allB (hBp F) n = true then (List.range (2 * n)).map (hEs F) else []
def hC (F : Nat → DE) (n : Nat) : Nat := if allB (hBp F) n = true then n else 0
theorem hL_no {F : Nat → DE} {n : Nat} (h : allB (hBp F) n = false) : hL F n = [] ∧ hC F n = 0 := by unfold hL hC; rw [if_neg (by rw [h]; simp), if_neg (by rw [h]; simp)]; exact ⟨rfl, rfl⟩
theorem hL_yes {F : Nat → DE} {n : Nat} (h : allB (hBp F) n = true) : hL F n = (List.range (2 * n)).map (hEs F) ∧ hC F n = n := by unfold hL hC; rw [if_pos h, if_pos h]; exact ⟨rfl, rfl⟩

theorem in_concatH : ∀ (w : World) (args : Array Value), (callFunc 109 args).run Tryz.prog w = .ok (.enter 109 args) w := enters Tryz.func109 (by decide) (fun h => by cases h)

theorem in_toldIvMatH : ∀ (w : World) (args : Array Value), (callFunc 108 args).run Tryz.prog w = .ok (.enter 108 args) w := enters Tryz.func108 (by decide) (fun h => by cases h)

end Go.Proofs.YthahoabkehcgbaaGreatDoor


namespace Go.Proofs.YthahoabkehcgbaaGreatDoor
open Go.RowKit
set_option linter.unusedVariables false
set_option maxRecDepth 8000
set_option linter.unusedSimpArgs false

/-- The slice value v, of the call's own, has the limbs zs; it may begin behind its block's first cell; what it has room for is there. -/
def OwnA (b : Nat) (w : World) (v : Value) (zs : List Int) : Prop :=
  (v = .slice none 0 0 ∧ zs = []) ∨
   ∃ g off cap cur, v = .slice (some ⟨g, off, none⟩) zs.length cap ∧ b ≤ g ∧ w.heap[g]? = some (.cells cur 3 (0, 0)) ∧ zs.length ≤ cap ∧ cap ≤ maxLen ∧ off + cap ≤ cur.size ∧
     ∀ i, i < zs.length → cur[off + i]? = some (.int .i64 (zs.getD i 0))

theorem OwnA.of {b : Nat} {w : World} {v : Value} {zs : List Int} (h : w.ownsRow b 3 1 v zs.length (zs.map (Value.int .i64))) : OwnA b w v zs := by
  rcases h.2 with ⟨rfl, h0⟩ | ⟨g, cap, cur, rfl, hb, hg, hle, hm, hs, htake⟩
  · exact .inl ⟨rfl, List.length_eq_zero_iff.1 h0⟩
  · refine .inr ⟨g, 0, cap, cur, rfl, hb, hg, hle, hm, by omega, fun i hi => ?_⟩
    have hx : (zs.map (Value.int .i64))[i]? = some (.int .i64 (zs.getD i 0)) := by simp [List.getD, hi]
    rw [← htake, List.getElem?_take, Nat.mul_one, if_pos hi] at hx
    simpa using hx

theorem OwnA.lt {b : Nat} {w : World} {v : Value} {zs : List Int} (h : OwnA b w v zs) {k : Nat} (hk : v.ownBlock = some k) : b ≤ k ∧ k < w.heap.size := by
  rcases h with ⟨rfl, _⟩ | ⟨g, off, cap, cur, rfl, hb, hg, _⟩
  · cases hk
  · simp only [Value.ownBlock, Option.some.injEq] at hk
    subst hk
    exact ⟨hb, (Array.getElem?_eq_some_iff.1 hg).1⟩

theorem OwnA.mod {S : Nat → Prop} {b : Nat} {w w' : World} {v : Value} {zs : List Int} (h : OwnA b w v zs) (k : Mod S w w') (hS : ∀ i, v.ownBlock = some i → ¬ S i) : OwnA b w' v zs := by
  rcases h with h | ⟨g, off, cap, cur, rfl, hb, hg, rest⟩
  · exact .inl h
  · exact .inr ⟨g, off, cap, cur, rfl, hb, (k.block g (Array.getElem?_eq_some_iff.1 hg).1 (hS g rfl)).trans hg, rest⟩
theorem OwnA.kept {b : Nat} {w w' : World} {v : Value} {zs : List Int} (h : OwnA b w v zs) (k : Kept 0 0 w w') : OwnA b w' v zs := h.mod (S := fun _ => False) k.toMod (fun _ _ e => e)
theorem OwnA.aside {b : Nat} {w : World} {v : Value} {zs : List Int} (h : OwnA b w v zs) {P o : Nat} (hne : v.ownBlock ≠ some P) (u : Value) : OwnA b (w.setCell ⟨P, o, none⟩ u) v zs :=
  h.mod (S := fun i => i = P) (Mod.set (S := fun i => i = P) (Mod.refl _ w) (p := ⟨P, o, none⟩) (.inl rfl) u) (fun i hi e => hne (by rw [hi, e]))
theorem OwnA.less {b b' : Nat} {w : World} {v : Value} {zs : List Int} (h : OwnA b w v zs) (hb : ∀ i, v.ownBlock = some i → b' ≤ i) : OwnA b' w v zs := by
  rcases h with h | ⟨g, off, cap, cur, rfl, _, rest⟩
  · exact .inl h
  · exact .inr ⟨g, off, cap, cur, rfl, hb g rfl, rest⟩

theorem OwnA.row {b : Nat} {w : World} {v : Value} {zs : List Int} (h : OwnA b w v zs) : Row .i64 true b w.heap.size w v zs := by
  rcases h with ⟨rfl, rfl⟩ | ⟨g, off, cap, cur, rfl, hb, hg, hle, hm, hs, hc⟩
  · exact Row.nil _ _ _ _ _
  · have hlt := (Array.getElem?_eq_some_iff.1 hg).1
    refine ⟨_, _, rfl, hle, hm, fun _ => ⟨g, off, rfl, hb, hlt, hlt, fun i hi => ?_, fun _ i hi => ?_⟩⟩
    · simpa [World.cell?, hg] using hc i hi
    · simp [World.frozen?, hg]

theorem OwnA.set {b g off n cap : Nat} {w : World} {zs : List Int} (h : OwnA b w (.slice (some ⟨g, off, none⟩) n cap) zs) (j : Nat) (hj : j < zs.length) (z : Int) :
    OwnA b (w.setCell ⟨g, off + j, none⟩ (.int .i64 z)) (.slice (some ⟨g, off, none⟩) n cap) (zs.set j z) := by
  rcases h with ⟨h0, _⟩ | ⟨g', off', cap', cur, hv, hb, hg, hle, hm, hs, hc⟩
  · cases h0
  · simp only [Value.slice.injEq, Option.some.injEq, Addr.mk.injEq, and_true] at hv
    obtain ⟨⟨rfl, rfl⟩, rfl, rfl⟩ := hv
    refine .inr ⟨g, off, cap, cur.setIfInBounds (off + j) (.int .i64 z), by simp, hb, ?_, by simpa using hle, hm, by simpa using hs, fun i hi => ?_⟩
    · unfold World.setCell
      simp [Array.getElem?_modify, hg]
    · rw [List.length_set] at hi
      rw [Array.getElem?_setIfInBounds, getD_set zs i j z hi]
      by_cases e : i = j
      · subst e
        have : off + i < cur.size := by omega
        simp [this]
      · rw [if_neg (by omega), if_neg e]
        exact hc i hi

theorem OwnA.take {b n c : Nat} {a : Option Addr} {w : World} {zs : List Int} (h : OwnA b w (.slice a n c) zs) (j : Nat) (hj : j ≤ n) : OwnA b w (.slice a j c) (zs.take j) := by
  rcases h with ⟨h0, rfl⟩ | ⟨g', off', cap', cur, hv, hb, hg, hle, hm, hs, hc⟩
  · simp only [Value.slice.injEq] at h0
    obtain ⟨rfl, rfl, rfl⟩ := h0
    obtain rfl : j = 0 := by omega
    exact .inl ⟨rfl, rfl⟩
  · simp only [Value.slice.injEq] at hv
    obtain ⟨rfl, rfl, rfl⟩ := hv
    have hl : (zs.take j).length = j := by simp; omega
    refine .inr ⟨g', off', c, cur, by rw [hl], hb, hg, by omega, hm, hs, fun i hi => ?_⟩
    rw [hc i (by omega)]
    simp only [List.getD, List.getElem?_take]
    rw [if_pos (by omega)]

theorem OwnA.drop {b g off n c : Nat} {w : World} {zs : List Int} (h : OwnA b w (.slice (some ⟨g, off, none⟩) n c) zs) (q : Nat) (hn : n = zs.length) (hq : q < n) : OwnA b w (.slice (some ⟨g, off + q, none⟩) (n - q) (c - q)) (zs.drop q) := by
  rcases h with ⟨h0, _⟩ | ⟨g', off', cap', cur, hv, hb, hg, hle, hm, hs, hc⟩
  · cases h0
  · simp only [Value.slice.injEq, Option.some.injEq, Addr.mk.injEq, and_true] at hv
    obtain ⟨⟨rfl, rfl⟩, rfl, rfl⟩ := hv
    refine .inr ⟨g, off + q, c - q, cur, by simp, hb, hg, by simp; omega, by omega, by omega, fun i hi => ?_⟩
    simp only [List.length_drop] at hi
    rw [Nat.add_assoc, hc (q + i) (by omega)]
    simp [List.getD]

theorem OwnA.lost {b n c : Nat} {a : Option Addr} {w : World} {zs : List Int} (h : OwnA b w (.slice a n c) zs) : OwnA b w (.slice (if c = n then a else Option.map (fun x => x.add n) a) 0 (c - n)) [] := by
  rcases h with ⟨h0, rfl⟩ | ⟨g', off', cap', cur, hv, hb, hg, hle, hm, hs, hc⟩
  · simp only [Value.slice.injEq] at h0
    obtain ⟨rfl, rfl, rfl⟩ := h0
    exact .inl ⟨rfl, rfl⟩
  · simp only [Value.slice.injEq] at hv
    obtain ⟨rfl, rfl, rfl⟩ := hv
    by_cases e : c = zs.length
    · rw [if_pos e]
      exact .inr ⟨g', off', c - zs.length, cur, rfl, hb, hg, Nat.zero_le _, by omega, by omega, fun i hi => absurd hi (Nat.not_lt_zero _)⟩
    · rw [if_neg e]
      exact .inr ⟨g', off' + zs.length, c - zs.length, cur, by rw [Option.map_some, Addr.add_lit]; rfl, hb, hg, Nat.zero_le _, by omega, by omega, fun i hi => absurd hi (Nat.not_lt_zero _)⟩

/-- The cell g holds the list v of the call's own, wherever it begins, with the limbs zs. -/
structure Wrk (b : Nat) (w : World) (g : Nat) (v : Value) (zs : List Int) : Prop where
  cell : w.cell? ⟨g, 0, none⟩ = some v
  loose : w.frozen? ⟨g, 0, none⟩ = false
  own : OwnA b w v zs
  apart : v.ownBlock ≠ some g

theorem Num.wrk {b g : Nat} {w : World} {v : Value} {zs : List Int} (h : Num b w g v zs) : Wrk b w g v zs := ⟨h.cell, h.loose, OwnA.of h.own, h.apart⟩
theorem Wrk.work {b g : Nat} {w : World} {v : Value} {zs : List Int} (h : Wrk b w g v zs) : Work b w g v zs := ⟨h.cell, h.loose, h.own.row, fun _ => h.apart⟩
theorem Wrk.row {b g : Nat} {w : World} {v : Value} {zs : List Int} (h : Wrk b w g v zs) : Row .i64 true b w.heap.size w v zs := h.own.row
theorem Wrk.lt {b g : Nat} {w : World} {v : Value} {zs : List Int} (h : Wrk b w g v zs) : g < w.heap.size := World.block_lt_of_cell? _ ⟨g, 0, none⟩ h.cell
theorem Wrk.form {b g : Nat} {w : World} {v : Value} {zs : List Int} (h : Wrk b w g v zs) : ∃ a c, v = .slice a zs.length c := Row.form' h.row
theorem Wrk.kept {b g : Nat} {w w' : World} {v : Value} {zs : List Int} (h : Wrk b w g v zs) (k : Kept 0 0 w w') : Wrk b w' g v zs :=
  ⟨k.cell0 h.cell, k.loose0 h.lt h.loose, h.own.kept k, h.apart⟩
theorem Wrk.mod {S : Nat → Prop} {b g : Nat} {w w' : World} {v : Value} {zs : List Int} (h : Wrk b w g v zs) (k : Mod S w w') (h1 : ¬ S g) (h2 : ∀ i, v.ownBlock = some i → ¬ S i) : Wrk b w' g v zs :=
  ⟨k.cell h1 h.cell, k.loose h1 h.lt h.loose, h.own.mod k h2, h.apart⟩
theorem Wrk.less {b b' g : Nat} {w : World} {v : Value} {zs : List Int} (h : Wrk b w g v zs) (hb : ∀ i, v.ownBlock = some i → b' ≤ i) : Wrk b' w g v zs := ⟨h.cell, h.loose, h.own.less hb, h.apart⟩
theorem Wrk.at {b g : Nat} {w : World} {v : Value} {zs : List Int} (h : Wrk b w g v zs) (j : Nat) (hj : j < zs.length) : ∃ g1 off c, v = .slice (some ⟨g1, off, none⟩) zs.length c ∧ zs.length ≤ c ∧ w.cell? ⟨g1, off + j, none⟩ = some (.int .i64 (zs.getD j 0)) ∧ w.frozen? ⟨g1, off + j, none⟩ = false ∧ g1 ≠ g ∧ b ≤ g1 := h.work.at j hj
theorem Wrk.put {b g g1 off n c : Nat} {w : World} {zs : List Int} (h : Wrk b w g (.slice (some ⟨g1, off, none⟩) n c) zs) (j : Nat) (hn : n = zs.length) (hj : j < n) (z : Int) : Wrk b (w.setCell ⟨g1, off + j, none⟩ (.int .i64 z)) g (.slice (some ⟨g1, off, none⟩) n c) (zs.set j z) := by
  have hne : g1 ≠ g := fun e => h.apart (by simp [Value.ownBlock, e])
  exact ⟨by rw [cell_far _ _ _ _ _ (by exact fun e => hne e.symm)]; exact h.cell, by rw [frozen_set]; exact h.loose, h.own.set j (by omega) z, h.apart⟩
/-- Another list of the number's own stored in its cell. -/
theorem Wrk.store {b g : Nat} {w : World} {v v' : Value} {zs zs' : List Int} (h : Wrk b w g v zs) (o : OwnA b w v' zs') (ha : v'.ownBlock ≠ some g) : Wrk b (w.setCell ⟨g, 0, none⟩ v') g v' zs' :=
  ⟨cell_on _ _ _ _ _ h.cell, by rw [frozen_set]; exact h.loose, o.aside ha _, ha⟩
theorem Wrk.cut {b g n c : Nat} {a : Option Addr} {w : World} {zs : List Int} (h : Wrk b w g (.slice a n c) zs) (j : Nat) (hj : j ≤ n) : Wrk b (w.setCell ⟨g, 0, none⟩ (.slice a j c)) g (.slice a j c) (zs.take j) :=
  h.store (h.own.take j hj) (by have := h.apart; cases a <;> exact this)
theorem Wrk.tail {b g gb off cap n : Nat} {w : World} {xs : List Int} (h : Wrk b w g (.slice (some ⟨gb, off, none⟩) n cap) xs) (q : Nat) (hn : n = xs.length) (hq : q < n) :
    Wrk b (w.setCell ⟨g, 0, none⟩ (.slice (some ⟨gb, off + q, none⟩) (n - q) (cap - q))) g (.slice (some ⟨gb, off + q, none⟩) (n - q) (cap - q)) (xs.drop q) :=
  h.store (h.own.drop q hn hq) h.apart
theorem own_lost (a : Option Addr) (c n m k : Nat) : (Value.slice (if c = n then a else Option.map (fun x => x.add n) a) m k).ownBlock = (Value.slice a n c).ownBlock := by
  by_cases e : c = n
  · rw [if_pos e]; cases a <;> rfl
  · rw [if_neg e]
    cases a with
    | none => rfl
    | some x =>
      show some (Addr.add x n).block = some x.block
      unfold Addr.add
      split <;> rfl
theorem Wrk.lost {b g n c : Nat} {a : Option Addr} {w : World} {xs : List Int} (h : Wrk b w g (.slice a n c) xs) :
    Wrk b (w.setCell ⟨g, 0, none⟩ (.slice (if c = n then a else Option.map (fun x => x.add n) a) 0 (c - n))) g (.slice (if c = n then a else Option.map (fun x => x.add n) a) 0 (c - n)) [] :=
  h.store h.own.lost (by rw [own_lost]; exact h.apart)

/-- One more limb appended to a list of the call's own, wherever it begins. -/
theorem run_snocA {b : Nat} {w : World} {v : Value} {zs : List Int} (ty : TypeId) (h : OwnA b w v zs) (hn : zs.length ≤ 1000000) (hb : b ≤ w.heap.size) (ad : Addr) (z : Int) (hc : w.cell? ad = some (.int .i64 z)) :
    ∃ v' w', (Builtin.append_ #[39, 39] ty #[v, .slice (some ad) 1 1]).run Tryz.prog w = .ok v' w' ∧ OwnA b w' v' (zs ++ [z]) ∧ w.grownBy w' v.ownBlock ∧ (∀ k, v'.ownBlock = some k → v.ownBlock = some k ∨ w.heap.size ≤ k) := by
  obtain ⟨i0, hi0, hz0, hz1, hz2⟩ := info_parts Tryz.info3'
  have hb8 : (zs.length + 1) * 8 ≤ 140737488355328 := by omega
  have h63 : zs.length + 1 ≤ maxLen := by unfold maxLen; omega
  have h1 : ∀ u ∈ [Value.int .i64 z], u.oneCell' = true := by intro u hu; simp at hu; subst hu; rfl
  rcases h with ⟨rfl, rfl⟩ | ⟨g, off, cap, cur, rfl, hbg, hg, hle, hm, hs, hcc⟩
  · obtain ⟨v', w', hr, ho, hgr, -, hat⟩ := run_append_own_at (P := Tryz.prog) w b 39 ty 3 i0 (.int .i64 0) 1 8 Tryz.underlying39 hi0 hz0 hz1 hz2 rfl (by decide) (.slice none 0 0) 0 [] (World.ownsRow_nil _ _ _ _) ad 1 1 [.int .i64 z] rfl (lit_cell hc) h1 (by simpa using h63) (by omega) hb
    exact ⟨v', w', hr, OwnA.of (zs := [z]) (by simpa using ho), hgr, fun k hk => hat.elim (fun e => .inl (by rw [← e]; exact hk)) (fun e => .inr (by rw [hk] at e; simp at e; omega))⟩
  · by_cases hroom : zs.length + 1 ≤ cap
    · have hr := run_append_room_cells (P := Tryz.prog) w 39 ty 3 i0 Tryz.underlying39 hi0 g off zs.length cap ad 1 1 [.int .i64 z] (by simp [hz1]) (lit_cell hc) h1 hroom
        (fun j hj => by
          simp only [List.length_singleton] at hj
          obtain rfl : j = 0 := by omega
          simp only [hz1, Nat.mul_one, Nat.add_zero, World.cell?, hg]
          have : off + zs.length < cur.size := by omega
          simp [this])
        (fun j hj => by simp [World.frozen?, hg])
      rw [hz1, Nat.mul_one] at hr
      refine ⟨_, _, hr, ?_, ⟨rfl, rfl, rfl, by simp [World.setCells, World.setCell], fun k hk ho => ?_⟩, fun k hk => .inl hk⟩
      · refine .inr ⟨g, off, cap, cur.setIfInBounds (off + zs.length) (.int .i64 z), by simp, hbg, ?_, by simpa using hroom, hm, by simpa using hs, fun i hi => ?_⟩
        · unfold World.setCells World.setCells World.setCell
          simp [Array.getElem?_modify, hg]
        · simp only [List.length_append, List.length_singleton] at hi
          rw [Array.getElem?_setIfInBounds]
          by_cases e : i = zs.length
          · subst e
            have : off + zs.length < cur.size := by omega
            simp [this, List.getD]
          · rw [if_neg (by omega), hcc i (by omega)]
            have : i < zs.length := by omega
            simp [List.getD, List.getElem?_append, this]
      · simp only [World.setCells]
        exact Below.heap_setCell _ _ _ _ (fun e => ho (by simp [Value.ownBlock, e]))
    · have hrow : Row .i64 true b w.heap.size w (.slice (some ⟨g, off, none⟩) zs.length cap) zs := OwnA.row (.inr ⟨g, off, cap, cur, rfl, hbg, hg, hle, hm, hs, hcc⟩)
      have holds : ∀ j u, (zs.map (Value.int .i64))[j]? = some u → w.cell? ((⟨g, off, none⟩ : Addr).add j) = some u := by
        intro j u hj
        by_cases hz : zs = []
        · subst hz; simp at hj
        · obtain ⟨g', o', c', e', -, -, hn'⟩ := hrow.news hz
          cases e'
          exact hn' j u hj
      obtain ⟨v', w', hr, ho, hgr⟩ := run_append_arg_grows (P := Tryz.prog) w 39 ty 3 i0 (.int .i64 0) 1 8 Tryz.underlying39 hi0 hz0 hz1 hz2 rfl (by decide) ⟨g, off, none⟩ zs.length cap (zs.map (Value.int .i64)) (by simp) holds ad 1 1 [.int .i64 z] rfl (lit_cell hc) (by omega) h63 hb8
      have hgr' : w.grownBy w' (Value.slice (some ⟨g, off, none⟩) zs.length cap).ownBlock := ⟨hgr.os, hgr.tape, hgr.output, hgr.size, fun k hk _ => hgr.block k hk (by simp)⟩
      have hO : OwnA w.heap.size w' v' (zs ++ [z]) := OwnA.of (by simpa using ho)
      refine ⟨v', w', hr, hO.less (fun i hi => by have := (hO.lt hi).1; omega), hgr', fun k hk => .inr (hO.lt hk).1⟩

end Go.Proofs.YthahoabkehcgbaaGreatDoor


namespace Go.Proofs.YthahoabkehcgbaaGreatDoor
open Go.RowKit
set_option linter.unusedVariables false
set_option maxRecDepth 8000
set_option linter.unusedSimpArgs false

set_option maxHeartbeats 4000000 in
theorem trim_wrk {b g : Nat} {v : Value} {zs : List Int} (w : World) (h : Wrk b w g v zs) (hl : Lim zs) :
    Calls Tryz.prog 215 #[.pointer (some ⟨g, 0, none⟩)] w fun e w' => (∃ r, e = .returned r) ∧ ∃ u, Wrk b w' g u (limbs (val zs).toNat) ∧ u.ownBlock = v.ownBlock ∧ Mod (fun i => i = g) w w' ∧ SameSide g w w' := by
  have hm := h.row.len
  unfold maxLen at hm
  have HL := hide hl
  clear hl
  go_enter Tryz.func215, Tryz.ntmps215
  go_wp2
  go_loopw [] (fun wr => ∃ (m : Nat) (u : Value), m ≤ zs.length ∧ Hid (∀ i, m ≤ i → i < zs.length → zs.getD i 0 = 0) ∧ Wrk b wr g u (zs.take m) ∧ Hid (u.ownBlock = v.ownBlock) ∧ Mod (fun i => i = g) w wr ∧ SameSide g w wr) (fun wr => lenAt wr g)
  case atStart => exact ⟨zs.length, v, Nat.le_refl _, hide (fun i h1 h2 => by omega), by rw [List.take_length]; exact h, hide rfl, Mod.refl _ _, SameSide.refl _ _⟩
  case round =>
    clear h
    obtain ⟨m, u, hmz, hz, n, ho, hmod, hsd⟩ := hrel
    have SS := hide hsd
    clear hsd
    have hlen : (zs.take m).length = m := by simp; omega
    have hlo := n.loose
    by_cases h0 : m = 0
    · subst h0
      obtain ⟨a1, c1, hv⟩ := n.form
      rw [hlen] at hv
      subst hv
      have hce := n.cell
      have e1 := take_limbs zs (unhide HL) 0 (by omega) (unhide hz) (.inl rfl)
      rw [e1] at n
      have NN := hide n
      have MM := hide hmod
      have hd : decide ((0 : Int) < ((0 : Nat) : Int)) = false := rfl
      clear e1 n hmod hlen hz
      go_wp2
      go_quiet (fail)
      go_wp2
      exact bodyPost_end (v := .tuple #[]) (by simp [results, Tryz.results215, go_sem]) rfl ⟨⟨_, rfl⟩, _, (unhide NN).kept ((Kept.refl 0 0 _).drewN _), unhide ho, (unhide MM).drewN _, (unhide SS).drewN _⟩
    · obtain ⟨gb, off, cap, hv, hle, hxz, hfz, hgb, -⟩ := n.at (m - 1) (by omega)
      rw [hlen] at hv hle
      subst hv
      have hce := n.cell
      have hz1 : (zs.take m).getD (m - 1) 0 = zs.getD (m - 1) 0 := by
        simp only [List.getD, List.getElem?_take]
        rw [if_pos (by omega)]
      rw [hz1] at hxz
      have hpos : (0 : Int) < (m : Int) := by omega
      have hposN : 0 < m := by omega
      have h1m : (1 : Int) ≤ (m : Int) := by omega
      have hcap : (m : Int) - 1 ≤ (cap : Int) := by omega
      have ew : IntKind.i64.wrap ((m : Int) - 1) = (m : Int) - 1 := wrap_small _ (by omega) (by omega)
      have et : ((m : Int) - 1).toNat = m - 1 := by omega
      have hi0 : (0 : Int) ≤ (m : Int) - 1 := by omega
      have hi1 : (m : Int) - 1 < (m : Int) := by omega
      have hz1' : ∀ z, zs.getD (m - 1) 0 = z → (z = 0 → ∀ i, m - 1 ≤ i → i < zs.length → zs.getD i 0 = 0) ∧ (z ≠ 0 → zs.take m = limbs (val zs).toNat) := by
        intro z e
        refine ⟨fun e0 i h1 h2 => ?_, fun e0 => take_limbs zs (unhide HL) m (by omega) (unhide hz) (.inr (by rw [e]; exact e0))⟩
        by_cases h3 : i = m - 1
        · rw [h3, e, e0]
        · exact unhide hz i (by omega) h2
      generalize zs.getD (m - 1) 0 = zl at *
      obtain ⟨hza, hzb⟩ := hz1' zl rfl
      clear hz1' hz
      by_cases hzz : zl = 0
      · subst hzz
        have HZ := hide (hza rfl)
        have NC := hide (fun k => (n.kept ((Kept.refl 0 0 _).drewN k)).cut (m - 1) (by omega))
        have MC := hide (fun k => (hmod.drewN k).set (p := ⟨g, 0, none⟩) (.inl rfl) (.slice (some ⟨gb, off, none⟩) (m - 1) cap))
        have e1 : (zs.take m).take (m - 1) = zs.take (m - 1) := by rw [List.take_take, Nat.min_eq_left (by omega)]
        have E1 := hide e1
        clear hza hzb n hmod hlen e1
        go_wp2
        go_quiet (fail)
        go_wp2
        go_region
        go_wp2
        go_roundw
        case rel => exact ⟨m - 1, .slice (some ⟨gb, off, none⟩) (m - 1) cap, by omega, HZ, by rw [← unhide E1]; exact unhide NC _, hide (unhide ho), unhide MC _, ((unhide SS).drewN _).set0 _⟩
        case measure => rw [lenAt_of hce, lenAt_of (unhide NC _).cell]; omega
      · have e1 := hzb hzz
        rw [e1] at n
        have NN := hide n
        have MM := hide hmod
        have hb : (zl == 0) = false := beq_eq_false_iff_ne.2 hzz
        clear e1 n hmod hlen hza hzb
        go_wp2
        go_quiet (fail)
        go_wp2
        exact bodyPost_end (v := .tuple #[]) (by simp [results, Tryz.results215, go_sem]) rfl ⟨⟨_, rfl⟩, _, (unhide NN).kept ((Kept.refl 0 0 _).drewN _), unhide ho, (unhide MM).drewN _, (unhide SS).drewN _⟩

set_option maxHeartbeats 8000000 in
theorem shiftDown_wrk {b g : Nat} {v : Value} {xs : List Int} (w : World) (h : Wrk b w g v xs) (hx : Lim xs) (nx : xs.length ≤ 100000) (k : Nat) (hk : (k : Int) ≤ 9223372036854775807) :
    Calls Tryz.prog 187 #[.pointer (some ⟨g, 0, none⟩), .int .i64 (k : Int)] w fun e w' => (∃ r, e = .returned r) ∧ ∃ u, Wrk b w' g u (limbs ((val xs).toNat / 2 ^ k)) ∧ u.ownBlock = v.ownBlock ∧ Mod (Own1 g v) w w' ∧ SameSide g w w' := by
  obtain ⟨q, s, hs, rfl⟩ : ∃ q s : Nat, s < 16 ∧ k = 16 * q + s := ⟨k / 16, k % 16, by omega, by omega⟩
  obtain ⟨K, hK⟩ : ∃ K : Int, K = ((16 * q + s : Nat) : Int) := ⟨_, rfl⟩
  have e3 : K.tdiv 16 = (q : Int) := by rw [Int.tdiv_eq_ediv_of_nonneg (by omega)]; omega
  have e4 : K.tmod 16 = (s : Int) := by rw [Int.tmod_eq_emod_of_nonneg (by omega)]; omega
  have hq63 : (q : Int) ≤ 9223372036854775807 := by omega
  have hKK : 0 ≤ K ∧ K ≤ 9223372036854775807 := by omega
  rw [← hK]
  generalize hA : (val xs).toNat / 2 ^ (16 * q + s) = A
  have HA := hide hA
  clear hK hA hk
  have hlt := h.lt
  have hce := h.cell
  have hlo := h.loose
  have hs0 : ¬ ((s : Int) < 0) := by omega
  have hs64 : (s : Int) < 64 := by omega
  by_cases hqn : q < xs.length
  · have hmin : min (q : Int) (xs.length : Int) = (q : Int) := by omega
    obtain ⟨gb, off, cap, hv, -⟩ := h.at q hqn
    subst hv
    have hm := h.row
    obtain ⟨a', c', e', hm1, hm2, -⟩ := hm
    cases e'
    have hq1 : (q : Int) ≤ (xs.length : Int) := by omega
    have hq2 : (xs.length : Int) ≤ (cap : Int) := by omega
    have hcq : ¬ cap = q := by omega
    obtain ⟨m, hm⟩ : ∃ m, m = xs.length - q := ⟨_, rfl⟩
    obtain ⟨Y, hY⟩ : ∃ Y, Y = xs.drop q := ⟨_, rfl⟩
    have hYl : Y.length = m := by rw [hY, hm]; simp
    have hYx : Lim Y := by rw [hY]; exact hx.drop q
    have hgb : b ≤ gb := (h.own.lt (k := gb) rfl).1
    have wl := (h.tail q rfl hqn).kept (Kept.refl 0 0 _).drew
    have ml := ((Mod.refl (Own1 g (.slice (some ⟨gb, off, none⟩) xs.length cap)) w).set (p := ⟨g, 0, none⟩) (.inl (.inl rfl)) (.slice (some ⟨gb, off + q, none⟩) m (cap - q))).kept (Kept.refl 0 0 _).drew
    rw [← hm, ← hY] at wl
    have HM := hide hm
    have hAv : Hid (limbs (val (sdn ((2 ^ s : Nat) : Int) Y)).toNat = limbs A) := by
      show _ = _
      rw [sdn_val s (by omega) hYx, hY, shr_val hx q s (by omega), unhide HA]
    have WL := hide wl
    have ML := hide ml
    have hap := h.apart
    have hgne : gb ≠ g := fun e => hap (by rw [e]; rfl)
    clear hap
    have hm63 : (m : Int) ≤ 100000 := by omega
    clear h hm1 hm2 HA hY wl ml hm
    go_enter Tryz.func187, Tryz.ntmps187
    go_wp2
    go_region
    rw [← unhide HM]
    have wl := unhide WL
    have ml := unhide ML
    have sl : SameSide g w (w.setCell ⟨g, 0, none⟩ (.slice (some ⟨gb, off + q, none⟩) m (cap - q))).drew := (SameSide.refl g w).set0 _
    have SL := hide sl
    clear sl
    generalize (w.setCell ⟨g, 0, none⟩ (.slice (some ⟨gb, off + q, none⟩) m (cap - q))).drew = W at *
    have hce5 := wl.cell
    clear hce hlo WL ML
    go_wp2
    clear hce5
    go_loopw [32] (fun ii wr => ∃ i : Nat, ii = .int .i64 (i : Int) ∧ i ≤ m ∧ Wrk b wr g (.slice (some ⟨gb, off + q, none⟩) m (cap - q)) ((sdn ((2 ^ s : Nat) : Int) Y).take i ++ Y.drop i) ∧ Mod (Own1 g (.slice (some ⟨gb, off, none⟩) xs.length cap)) w wr ∧ SameSide g w wr) (fun ii _ => m - (intOf ii).toNat)
    case atStart => exact ⟨0, rfl, Nat.zero_le _, by simpa using wl, ml, unhide SL⟩
    case round =>
      clear wl ml SL
      obtain ⟨i, rfl, hi, wk, md, sd⟩ := hrel
      have SD := hide sd
      clear sd
      have hsl := sdn_length ((2 ^ s : Nat) : Int) Y
      have hlen : ((sdn ((2 ^ s : Nat) : Int) Y).take i ++ Y.drop i).length = m := by rw [sdn_len _ _ _ (by omega)]; exact hYl
      by_cases hB : i < m
      · have hcc := wk.cell
        obtain ⟨g1, off5, c5, e5, -, hx1, hf1, hg1, -⟩ := wk.at i (by omega)
        rw [hlen] at e5
        cases e5
        rw [sdn_mix _ _ _ _ (Nat.le_refl _) (by omega)] at hx1
        have hat := fun n => at_work _ (wk.kept ((Kept.refl 0 0 wr).drewN n)).work (i + 1) (by omega)
        rw [sdn_mix _ _ _ _ (by omega) (by omega)] at hat
        have hput := fun n => (wk.kept ((Kept.refl 0 0 wr).drewN n)).put i hlen.symm hB ((sdn ((2 ^ s : Nat) : Int) Y).getD i 0)
        rw [sdn_put _ _ _ (by omega)] at hput
        have hmd := fun n u => ((md.drewN n).set (p := ⟨gb, off + q + i, none⟩) (.inl (.inr rfl)) u)
        have hv := sdn_at ((2 ^ s : Nat) : Int) Y i (by omega)
        have h0 := hYx.at i
        have h1 := hYx.at (i + 1)
        generalize Y.getD i 0 = y0 at *
        generalize Y.getD (i + 1) 0 = y1 at *
        have ep : ((2 ^ s : Nat) : Int) = (2 : Int) ^ s := by simp
        rw [ep] at hv
        have hv2 : ((y1 * 65536 + y0) / 2 ^ s).tmod 65536 = (sdn ((2 ^ s : Nat) : Int) Y).getD i 0 := by
          rw [ep, Int.tmod_eq_emod_of_nonneg (Int.ediv_nonneg (by omega) (Int.le_of_lt (Int.pow_pos (by decide))))]
          rw [ep] at *
          exact hv.symm
        generalize (sdn ((2 ^ s : Nat) : Int) Y).getD i 0 = zi at *
        have HAT := hide hat
        have HPUT := hide hput
        have HV2 := hide hv2
        have HMD := hide hmd
        have hi2 : (i : Int) < (m : Int) := by omega
        have hwi : IntKind.i64.wrap ((i : Int) + 1) = (i : Int) + 1 := wrap_small _ (by omega) (by omega)
        have hb0 : 0 ≤ y1 * 65536 + y0 ∧ y1 * 65536 + y0 ≤ 4294967295 := by omega
        have hb1 : 0 ≤ y1 * 65536 ∧ y1 * 65536 ≤ 4294967295 := by omega
        have hw1 : IntKind.i64.wrap (y1 * 65536) = y1 * 65536 := wrap_small _ (by omega) (by omega)
        have hw2 : IntKind.i64.wrap (y1 * 65536 + y0) = y1 * 65536 + y0 := wrap_small _ (by omega) (by omega)
        clear hat hput hmd hv hv2 wk md hlen hsl ep
        go_wp2
        go_region_law (refine step_call_pure rfl 204 (.tmp 42) (.tmp 44) _ rfl (at_enter _) _ _ _ (by simp [Act.eval, Act.put]) (by simp [Act.eval, Act.put, hwi]) (unhide HAT 1) ?_)
        all_goals
          rw [unhide HV2]
          go_wp2
          go_roundw
          case rel => exact ⟨i + 1, by go_num, by omega, unhide HPUT 1, unhide HMD 1 _, ((unhide SD).drewN 1).far hgne _⟩
          case measure => simp [intOf]; omega
      · have hi2 : ¬ (i : Int) < (m : Int) := by omega
        have him : i = m := by omega
        rw [him, List.take_of_length_le (by omega), List.drop_of_length_le (by omega), List.append_nil] at wk
        clear hlen hsl him
        go_wp2_with fail
        refine (trim_wrk _ wk (sdn_lim _ _)).mono ?_
        rintro e w6 ⟨⟨r6, rfl⟩, u6, n6, o6, m6, sd6⟩
        rw [unhide hAv] at n6
        have N6 := hide n6
        have O6 := hide o6
        clear o6
        have M6 := hide (md.then m6 (fun i e => .inl (.inl e)))
        have S6 := hide ((unhide SD).trans sd6)
        clear n6 m6 wk md sd6
        go_wp2
        exact bodyPost_end (v := .tuple #[]) (by simp [results, Tryz.results187, go_sem]) rfl ⟨⟨_, rfl⟩, _, unhide N6, unhide O6, unhide M6, unhide S6⟩
  · have hle : (xs.length : Int) ≤ (q : Int) := by omega
    have hA0 : A = 0 := by
      rw [← unhide HA]
      have e1 := val_lt hx
      have e2 := val_nonneg hx
      rw [pow_limb] at e1
      refine Nat.div_eq_of_lt (Nat.lt_of_lt_of_le (m := 2 ^ (16 * xs.length)) (by omega) (Nat.pow_le_pow_right (by decide) (by omega)))
    rw [hA0, limbs_zero]
    obtain ⟨a1, c1, hv⟩ := h.form
    subst hv
    have hm := h.row
    obtain ⟨a', c', e', hm1, hm2, -⟩ := hm
    cases e'
    have hcap : (xs.length : Int) ≤ (c1 : Int) := by omega
    have hmin : min (q : Int) (xs.length : Int) = (xs.length : Int) := by omega
    have ol := own_lost a1 c1 xs.length 0 (c1 - xs.length)
    have OL := hide ol
    clear ol
    have WL := hide (h.lost.kept (Kept.refl 0 0 _).drew)
    have MM := hide (fun (u : Value) => ((Mod.refl (Own1 g (.slice a1 xs.length c1)) w).set (p := ⟨g, 0, none⟩) (.inl (.inl rfl)) u).kept (Kept.refl 0 0 _).drew)
    clear h hm1 hm2 HA hA0
    go_enter Tryz.func187, Tryz.ntmps187
    go_wp2
    go_region
    generalize (if c1 = xs.length then a1 else Option.map (fun x => x.add xs.length) a1) = a5 at *
    have wl := unhide WL
    have ml := unhide MM (.slice a5 0 (c1 - xs.length))
    have sl : SameSide g w (w.setCell ⟨g, 0, none⟩ (.slice a5 0 (c1 - xs.length))).drew := (SameSide.refl g w).set0 _
    have SL := hide sl
    clear sl
    generalize (w.setCell ⟨g, 0, none⟩ (.slice a5 0 (c1 - xs.length))).drew = W at *
    have hce5 := wl.cell
    clear hce hlo
    go_wp2
    go_loopw [32] (fun ii wr => ii = .int .i64 0 ∧ wr = W) (fun _ _ => 0)
    case atStart => exact ⟨rfl, rfl⟩
    case round =>
      obtain ⟨rfl, rfl⟩ := hrel
      clear hce5
      go_wp2_with fail
      refine (trim_wrk _ wl Lim.nil).mono ?_
      rintro e w6 ⟨⟨r6, rfl⟩, u6, n6, o6, m6, sd6⟩
      have N6 := hide n6
      have O6 := hide (o6.trans (unhide OL))
      clear o6
      have M6 := hide (ml.then m6 (fun i e => .inl (.inl e)))
      have S6 := hide ((unhide SL).trans sd6)
      clear sd6
      clear n6 m6 wl ml
      go_wp2
      exact bodyPost_end (v := .tuple #[]) (by simp [results, Tryz.results187, go_sem]) rfl ⟨⟨_, rfl⟩, _, unhide N6, unhide O6, unhide M6, unhide S6⟩

end Go.Proofs.YthahoabkehcgbaaGreatDoor

