/-
  The program's multiply: a product of two numbers, which may be one and the same, written into the first.
-/
import Derived.Test.YtbihbloknmjfjaaDoorINat15
import Derived.Test.YtbihbloknmjfjaaDoorBB
import Derived.Deep.RegionLaw
namespace Go.Proofs.YtbihbloknmjfjaaDoor
open Go.RowKit
set_option linter.unusedVariables false
set_option maxRecDepth 8000

/-- A list of the call's own, newer than w; nothing that was there has changed. -/
structure Fresh (w wr : World) (v : Value) (zs : List Int) : Prop where
  own : wr.ownsRow w.heap.size 3 1 v zs.length (zs.map (Value.int .i64))
  k : Kept 0 0 w wr

theorem Fresh.drewN {w wr : World} {v : Value} {zs : List Int} (h : Fresh w wr v zs) (n : Nat) : Fresh w (wr.drewN n) v zs := ⟨own_kept h.own ((Kept.refl 0 0 wr).drewN n), h.k.drewN n⟩
theorem Fresh.put {w wr : World} {g n c : Nat} {zs : List Int} (h : Fresh w wr (.slice (some ⟨g, 0, none⟩) n c) zs) (hn : n = zs.length) (j : Nat) (z : Int) : Fresh w (wr.setCell ⟨g, j, none⟩ (.int .i64 z)) (.slice (some ⟨g, 0, none⟩) n c) (zs.set j z) := by
  subst hn
  exact ⟨own_set h.own j z, h.k.setNew (p := ⟨g, j, none⟩) (h.own.lt g rfl).1 _⟩
theorem Fresh.at {w wr : World} {g n c : Nat} {zs : List Int} (h : Fresh w wr (.slice (some ⟨g, 0, none⟩) n c) zs) (hn : n = zs.length) (j : Nat) (hj : j < n) :
    wr.cell? ⟨g, j, none⟩ = some (.int .i64 (zs.getD j 0)) ∧ wr.frozen? ⟨g, j, none⟩ = false := by
  subst hn
  exact own_cell h.own j hj
theorem made_fresh {w wr w' : World} {n : Nat} (k : Kept 0 0 w wr) (hown : w'.ownsRow w.heap.size 3 1 (.slice (some ⟨wr.heap.size, 0, none⟩) n n) n (madeCells (Value.int .i64 0).cells (n * 1)).toList) (hgrow : wr.grownBy w' none) : Fresh w w' (.slice (some ⟨wr.heap.size, 0, none⟩) n n) (List.replicate n 0) := by
  rw [made_zero] at hown
  exact ⟨by simpa using hown, k.trans ⟨hgrow.os, hgrow.tape, hgrow.output, hgrow.size, fun i hi _ => hgrow.block i hi (by simp)⟩⟩

end Go.Proofs.YtbihbloknmjfjaaDoor
