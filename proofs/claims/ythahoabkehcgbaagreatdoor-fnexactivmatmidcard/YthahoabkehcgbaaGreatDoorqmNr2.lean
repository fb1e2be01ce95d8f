/-
  The greatest of a list of numbers that lie apart.
-/
import Derived.Test.YthahoabkehcgbaaGreatDoorqmNr1
import Derived.Test.YthahoabkehcgbaaGreatDoorqmBX
namespace Go.Proofs.YthahoabkehcgbaaGreatDoor
open Go.RowKit
set_option linter.unusedVariables false
set_option maxRecDepth 8000
set_option linter.unusedSimpArgs false

theorem IsV.low {L V m : Int} {d : DE} (h : IsV L V d) (hL : L ≤ m) (hm : m ≤ d.2.2) : IsV L V (d.1, limbs ((val d.2.1).toNat * 2 ^ (d.2.2 - m).toNat), m) := by
  obtain ⟨x, n, e⟩ := h
  refine ⟨hL, limbs_nrm _, ?_⟩
  dsimp only
  rw [shl_val d.1 n, pow_step _ hm hL, e]
theorem NV.low {L V m : Int} {d : DE} (h : NV L V d) (hL : L ≤ m) (hm : m ≤ d.2.2) (hV : V.natAbs < 2 ^ AA) : NV L V (d.1, limbs ((val d.2.1).toNat * 2 ^ (d.2.2 - m).toNat), m) := by
  have hh := h.1.low hL hm
  have hl := hh.len hV (show AA ≤ 16 * 2500 by decide)
  exact ⟨hh, Nat.le_trans hl (by decide), by have := h.2.2; show m ≤ 40000; omega⟩
/-- The first k pointers of G are to the numbers F; no two share a block; U are their lists. -/
structure NumL (w0 w : World) (k : Nat) (G : Nat → Nat) (U : Nat → Value) (F : Nat → DE) : Prop where
  n : ∀ p, p < k → Num w0.heap.size w (G p) (U p) (F p).2.1 ∧ Sd w (G p) (F p).1 ∧ Ex w (G p) (F p).2.2 ∧ w0.heap.size ≤ G p
  ap : ∀ p q, p < k → q < k → p ≠ q → G p ≠ G q ∧ (U p).ownBlock ≠ some (G q) ∧ (∀ i, (U p).ownBlock = some i → (U q).ownBlock ≠ some i)
  k0 : Kept 0 0 w0 w
theorem NumL.two {w0 w : World} {k p q : Nat} {G : Nat → Nat} {U : Nat → Value} {F : Nat → DE} (h : NumL w0 w k G U F) (hp : p < k) (hq : q < k) (hne : p ≠ q) : Two w0 w (G p) (G q) (U p) (U q) (F p).2.1 (F q).2.1 :=
  ⟨(h.n p hp).1, (h.n q hq).1, (h.ap p q hp hq hne).1, (h.ap p q hp hq hne).2.1, (h.ap q p hq hp (fun e => hne e.symm)).2.1, (h.ap p q hp hq hne).2.2, h.k0, (h.n p hp).2.2.2, (h.n q hq).2.2.2⟩
theorem Sd.mod {S : Nat → Prop} {w w' : World} {g : Nat} {s : Bool} (h : Sd w g s) (m : Mod S w w') (hS : ¬ S g) : Sd w' g s := ⟨m.cell (a := ⟨g, 1, none⟩) hS h.1, m.loose (a := ⟨g, 1, none⟩) hS h.lt h.2⟩
theorem Ex.mod {S : Nat → Prop} {w w' : World} {g : Nat} {x : Int} (h : Ex w g x) (m : Mod S w w') (hS : ¬ S g) : Ex w' g x := ⟨m.cell (a := ⟨g, 2, none⟩) hS h.1, m.loose (a := ⟨g, 2, none⟩) hS h.lt h.2⟩
theorem NumL.kept {w0 w w' : World} {k : Nat} {G : Nat → Nat} {U : Nat → Value} {F : Nat → DE} (h : NumL w0 w k G U F) (m : Kept 0 0 w w') : NumL w0 w' k G U F :=
  ⟨fun p hp => ⟨(h.n p hp).1.kept m, (h.n p hp).2.1.kept m, (h.n p hp).2.2.1.kept m, (h.n p hp).2.2.2⟩, h.ap, h.k0.trans m⟩
end Go.Proofs.YthahoabkehcgbaaGreatDoor

