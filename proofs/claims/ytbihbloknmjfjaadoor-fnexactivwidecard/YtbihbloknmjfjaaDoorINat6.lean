/-
  Contracts of the program's methods isZero, bits, at and bit, and of NatBits and NatBit, the model's and the program's.
-/
import Derived.Test.YtbihbloknmjfjaaDoorINat5
namespace Go.Proofs.YtbihbloknmjfjaaDoor
open Go.RowKit
set_option linter.unusedVariables false
set_option maxRecDepth 8000

/-- What a number's limbs stand for, if it is well made; else nought. -/
def numOf (zs : List Int) : Nat := if okB zs = true then (val zs).toNat else 0
theorem numOf_ok {zs : List Int} (h : okB zs = true) : numOf zs = (val zs).toNat := by unfold numOf; rw [if_pos h]
theorem numOf_bad {zs : List Int} (h : okB zs = false) : numOf zs = 0 := by unfold numOf; rw [if_neg (by simp [h])]

theorem Num.at {b g : Nat} {w : World} {v : Value} {zs : List Int} (h : Num b w g v zs) : ∀ j, j < zs.length → ∃ g1 c, v = .slice (some ⟨g1, 0, none⟩) zs.length c ∧ w.cell? ⟨g1, j, none⟩ = some (.int .i64 (zs.getD j 0)) ∧ w.frozen? ⟨g1, j, none⟩ = false ∧ g1 ≠ g := by
  intro j hj
  obtain ⟨g1, cap, hv, -⟩ := own_form h.own (by omega)
  subst hv
  have := own_cell h.own j hj
  exact ⟨g1, cap, rfl, this.1, this.2, fun e => h.apart (by simp [Value.ownBlock, e])⟩

set_option maxHeartbeats 1000000 in
theorem at_impl {b g : Nat} {v : Value} {zs : List Int} (w : World) (h : Num b w g v zs) (i : Nat) (hi : (i : Int) ≤ 9223372036854775807) :
    Calls Tryd.prog 97 #[.pointer (some ⟨g, 0, none⟩), .int .i64 i] w fun e w' => e = .returned (.int .i64 (zs.getD i 0)) ∧ w' = w := by
  have hc := h.cell
  have hm := h.row.len
  unfold maxLen at hm
  by_cases hlt : i < zs.length
  · obtain ⟨g1, c', rfl, hx, -, -⟩ := h.at i hlt
    have hlt' : (i : Int) < (zs.length : Int) := by omega
    generalize zs.getD i 0 = z at *
    clear h
    go_enter Tryd.func97, Tryd.ntmps97
    go_wp2
    go_ret
    exact ⟨rfl, rfl⟩
  · have e0 : zs.getD i 0 = 0 := by simp [List.getD, List.getElem?_eq_none (Nat.le_of_not_lt hlt)]
    rw [e0]
    have hlt' : ¬ (i : Int) < (zs.length : Int) := by omega
    obtain ⟨a1, c1, rfl⟩ := h.form
    clear h
    go_enter Tryd.func97, Tryd.ntmps97
    go_wp2
    go_ret
    exact ⟨rfl, rfl⟩

/-- The bit i of a number. -/
def bitAt (n : Nat) (i : Int) : Int := if i < 0 then 0 else ((n / 2 ^ i.toNat % 2 : Nat) : Int)

end Go.Proofs.YtbihbloknmjfjaaDoor
