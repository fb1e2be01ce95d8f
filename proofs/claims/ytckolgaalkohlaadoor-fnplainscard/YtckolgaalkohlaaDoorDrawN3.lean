/-
  The model's l2bent: a natural number that is drawn, or one that is none.
-/
import Derived.Test.YtckolgaalkohlaaDoorDrawN2
namespace Go.Proofs.YtckolgaalkohlaaDoor
open Go.RowKit
set_option linter.unusedVariables false
set_option maxRecDepth 8000

theorem Kept.modNew {S : Nat → Prop} {lo hi : Nat} {a w w' : World} (k : Kept lo hi a w) (h : Mod S w w') (hS : ∀ i, S i → a.heap.size ≤ i) : Kept lo hi a w' :=
  ⟨h.os.trans k.os, h.tape.trans k.tape, h.output.trans k.output, Nat.le_trans k.size h.size, fun i hi ho => (h.block i (Nat.lt_of_lt_of_le hi k.size) (fun hs => by have := hS i hs; omega)).trans (k.block i hi ho)⟩
theorem Mod.above {S : Nat → Prop} {l : Nat} {a b : World} (m : Mod S a b) (h : ∀ i, S i → l ≤ i) : Kept l a.heap.size a b :=
  ⟨m.os, m.tape, m.output, m.size, fun i hi ho => m.block i hi (fun hs => by have := h i hs; omega)⟩
theorem Kept.modOne {g : Nat} {a b : World} (k : Kept g (g + 1) a b) : Mod (fun i => i = g) a b :=
  ⟨k.os, k.tape, k.output, k.size, fun i hi ho => k.block i hi (by have : i ≠ g := ho; omega)⟩

/-- A drawn number in the cell A, beside the cursor in g and the result's cell, which is still nought. -/
structure Bent (g lo : Nat) (w W : World) (A : Nat) (v : Value) (zs : List Int) : Prop where
  num : Num (w.heap.size + 1) W A v zs
  d : Drawn g lo w W
  cR : W.cell? ⟨w.heap.size, 0, none⟩ = some (.slice none 0 0)
  fR : W.frozen? ⟨w.heap.size, 0, none⟩ = false
  hA : w.heap.size < A
  hg : g < w.heap.size

theorem Bent.drew {g lo A : Nat} {w W W' : World} {v : Value} {zs : List Int} (h : Bent g lo w W A v zs) (d : Drew g lo W W') : Bent g lo w W' A v zs := by
  have h1 := h.hA
  have h2 := h.hg
  have h3 := World.block_lt_of_cell? _ _ h.cR
  refine ⟨h.num.mod d.2.1.modOne (by omega) (fun i hi e => by have := (h.num.own.lt i hi).1; omega), h.d.trans d.drawn, d.2.1.cellOut (.inr (show g + 1 ≤ w.heap.size by omega)) h.cR, ?_, h.hA, h.hg⟩
  rw [← h.fR]
  exact World.frozen?_of_block (d.2.1.block _ h3 (.inr (show g + 1 ≤ w.heap.size by omega)))
theorem Bent.snoc {g lo A : Nat} {w W w' : World} {v v' : Value} {zs qs : List Int} (h : Bent g lo w W A v zs) (o : Obj) (hgr : (W.alloc o).grownBy w' v.ownBlock) (hat : v'.ownBlock = v.ownBlock ∨ v'.ownBlock = some (W.heap.size + 1))
    (hown : w'.ownsRow (w.heap.size + 1) 3 1 v' qs.length (qs.map (Value.int .i64))) :
    w'.cell? ⟨A, 0, none⟩ = some v ∧ w'.frozen? ⟨A, 0, none⟩ = false ∧ Bent g lo w (w'.setCell ⟨A, 0, none⟩ v') A v' qs := by
  obtain ⟨d1, d2, d3, d4⟩ := h.num.snoc o hgr hat hown
  have h1 := h.hA
  have h2 := h.hg
  have h3 := World.block_lt_of_cell? _ _ h.cR
  have hS : ∀ i, Own1 A v i → w.heap.size + 1 ≤ i := fun i e => e.elim (fun e => by omega) (fun e => (h.num.own.lt i e).1)
  exact ⟨d1, d2, d3, ⟨h.d.1.kept (d4.above (l := w.heap.size + 1) hS) (.inl (by omega)), h.d.2.modNew d4 (fun i e => by have := hS i e; omega)⟩, d4.cellAt (fun e => Nat.not_succ_le_self _ (hS _ e)) h.cR, d4.looseAt (fun e => Nat.not_succ_le_self _ (hS _ e)) h3 h.fR, h.hA, h.hg⟩

/-- What is drawn: a number, or a list that is none. -/
def DrawnB (g lo : Nat) (w w' : World) (v : Value) : Prop :=
  ∃ zs : List Int, w'.ownsRow w.heap.size 3 1 v zs.length (zs.map (Value.int .i64)) ∧ (∀ z ∈ zs, -1 ≤ z ∧ z ≤ 65536) ∧ zs.length ≤ 101 ∧ Drawn g lo w w'

theorem Bent.ret {g lo A : Nat} {w W : World} {v : Value} {zs : List Int} (h : Bent g lo w W A v zs) (hz : ∀ z ∈ zs, -1 ≤ z ∧ z ≤ 65536) (hl : zs.length ≤ 101) : DrawnB g lo w (W.setCell ⟨w.heap.size, 0, none⟩ v) v :=
  ⟨zs, own_less (own_apart h.num.own (p := ⟨w.heap.size, 0, none⟩) (fun e => by have := (h.num.own.lt _ e).1; simp at this; omega) v) (Nat.le_succ _), hz, hl, h.d.1.setFar (p := ⟨w.heap.size, 0, none⟩) h.hg v, h.d.2.setNew (p := ⟨w.heap.size, 0, none⟩) (Nat.le_refl _) v⟩
theorem lim_bent {zs : List Int} (h : Lim zs) : ∀ z ∈ zs, -1 ≤ z ∧ z ≤ 65536 := fun z hz => by have := h z hz; omega
theorem bent_snoc {zs : List Int} {z : Int} (h : ∀ z ∈ zs, -1 ≤ z ∧ z ≤ 65536) (h0 : -1 ≤ z) (h1 : z ≤ 65536) : ∀ y ∈ zs ++ [z], -1 ≤ y ∧ y ≤ 65536 := fun y hy => by
  rcases List.mem_append.1 hy with h2 | h2
  · exact h y h2
  · simp at h2; omega

/-- How long the list is that the cell A holds. -/
def lenAt' (w : World) (g : Nat) : Nat := match w.cell? ⟨g, 0, none⟩ with
  | some (.slice _ n _) => n
  | _ => 0
theorem lenAt'_of {w : World} {g : Nat} {a : Option Addr} {n c : Nat} (h : w.cell? ⟨g, 0, none⟩ = some (.slice a n c)) : lenAt' w g = n := by unfold lenAt'; rw [h]

end Go.Proofs.YtckolgaalkohlaaDoor
