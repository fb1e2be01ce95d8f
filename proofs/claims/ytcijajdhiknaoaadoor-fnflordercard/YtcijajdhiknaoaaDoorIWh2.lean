/-
  The program's methods turnSign, multiplySigned, subtractFrom, addSigned, compareSigned of numbers with a sign; signedOfInt.
-/
import Derived.Test.YtcijajdhiknaoaaDoorIWh1
import Derived.Test.YtcijajdhiknaoaaDoorINat26
import Derived.Deep.QuietTactic
import Derived.BigQuiet
import Derived.BigRegion
namespace Go.Proofs.YtcijajdhiknaoaaDoor
open Go.RowKit
set_option linter.unusedVariables false
set_option maxRecDepth 8000
set_option linter.unusedSimpArgs false

theorem front_set (w : World) (g : Nat) (u : Value) : (w.setCell ⟨g, 1, none⟩ u).cell? ⟨g, 0, none⟩ = w.cell? ⟨g, 0, none⟩ := by
  unfold World.cell? World.setCell
  simp only [Array.getElem?_modify]
  cases hb : w.heap[g]? with
  | none => simp
  | some b => cases b <;> simp
theorem Num.side {b g : Nat} {w : World} {v : Value} {zs : List Int} (h : Num b w g v zs) (u : Value) : Num b (w.setCell ⟨g, 1, none⟩ u) g v zs :=
  ⟨(front_set w g u).trans h.cell, by rw [frozen_set]; exact h.loose, own_apart h.own (p := ⟨g, 1, none⟩) h.apart u, h.apart⟩
theorem Sd.set {w : World} {g : Nat} {s : Bool} (h : Sd w g s) (t : Bool) : Sd (w.setCell ⟨g, 1, none⟩ (.bool t)) g t :=
  ⟨by have := cell_set w g 1 1 (.bool t) (.bool s) h.1; simpa using this, by rw [frozen_set]; exact h.2⟩

theorem own_base {w : World} {b b' n : Nat} {e : TypeId} {v : Value} {xs : List Value} (h : w.ownsRow b e 1 v n xs) (hb : ∀ i, v.ownBlock = some i → b' ≤ i) : w.ownsRow b' e 1 v n xs := by
  refine ⟨h.1, ?_⟩
  rcases h.2 with hn | ⟨g, cap, cur, rfl, h1, rest⟩
  · exact .inl hn
  · exact .inr ⟨g, cap, cur, rfl, hb g rfl, rest⟩
/-- Two numbers with signs, apart, newer than w0. -/
structure Sig2 (w0 w : World) (g1 g2 : Nat) (s1 : Bool) (xs : List Int) (s2 : Bool) (ys : List Int) : Prop where
  two : ∃ u1 u2, Two w0 w g1 g2 u1 u2 xs ys
  d1 : Sd w g1 s1
  d2 : Sd w g2 s2

end Go.Proofs.YtcijajdhiknaoaaDoor
