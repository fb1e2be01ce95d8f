/-
  Contracts of the program's methods isZero, bits, at and bit, and of NatBits and NatBit, the model's and the program's.
-/
import Derived.Test.YtondlefojekjeaaINat5
namespace Go.Proofs.Ytondlefojekjeaa
open Go.RowKit
set_option linter.unusedVariables false
set_option maxRecDepth 8000

/-- What a number's limbs stand for, if it is well made; else nought. -/
def numOf (zs : List Int) : Nat := if okB zs = true then (val zs).toNat else 0
theorem numOf_ok {zs : List Int} (h : okB zs = true) : numOf zs = (val zs).toNat := by unfold numOf; rw [if_pos h]
theorem numOf_bad {zs : List Int} (h : okB zs = false) : numOf zs = 0 := by unfold numOf; rw [if_neg (by simp [h])]

theorem Num.at {b g : Nat} {w : World} {v : Value} {zs : List Int} (h : Num b w g v zs) : ∀ j, j < zs.length → ∃ g1 c, v = .slice (some ⟨g1, 0, none⟩) zs.length c ∧ w.cell? ⟨g1, j, none⟩ = some (.int .i64 (zs.getD j 0)) ∧ w.frozen? ⟨g1, j, none⟩ = false ∧ g1 ≠ g := by
  intro j hj
  obtain ⟨g1, cap, hv, -⟩ := own_form h.own (by omega)
  subst hv
  have := own_cell h.own j hj
  exact ⟨g1, cap, rfl, this.1, this.2, fun e => h.apart (by simp [Value.ownBlock, e])⟩

/-- The bit i of a number. -/
def bitAt (n : Nat) (i : Int) : Int := if i < 0 then 0 else ((n / 2 ^ i.toNat % 2 : Nat) : Int)

end Go.Proofs.Ytondlefojekjeaa
