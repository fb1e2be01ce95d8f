/-
  Contracts of the model's greatest common divisor.
-/
import Derived.Test.YtflpkblmcnkghaaDoorIDiv6
import Derived.Deep.DeepCutAuto
namespace Go.Proofs.YtflpkblmcnkghaaDoor
open Go.RowKit
set_option linter.unusedVariables false
set_option maxRecDepth 8000
set_option linter.unusedSimpArgs false

/-- The integers of a slice, read from memory. -/
def readL (w : World) (v : Value) : List Int := match v with
  | .slice (some a) n _ => (List.range n).map fun j => match w.cell? ⟨a.block, a.off + j, none⟩ with
    | some (.int _ z) => z
    | _ => 0
  | _ => []
theorem readL_of {bw : Bool} {lo hi : Nat} {w : World} {v : Value} {zs : List Int} (r : Row .i64 bw lo hi w v zs) : readL w v = zs := by
  obtain ⟨a, c, rfl⟩ := Row.form' r
  have hc := (row_cell r).2.2.2
  cases a with
  | none =>
    cases zs with
    | nil => rfl
    | cons z t => obtain ⟨g, off, e, -⟩ := hc 0 (by simp); cases e
  | some ad =>
    have : ∀ j, j < zs.length → w.cell? ⟨ad.block, ad.off + j, none⟩ = some (.int .i64 (zs.getD j 0)) := by
      intro j hj
      obtain ⟨g, off, e, h⟩ := hc j hj
      cases e
      exact h
    unfold readL
    apply List.ext_getElem
    · simp
    · intro j h1 h2
      rw [List.getElem_map, List.getElem_range, this j h2]
      simp [List.getD, h2]
/-- The number whose limbs the cell g's list holds. -/
def valAt (w : World) (g : Nat) : Nat := match w.cell? ⟨g, 0, none⟩ with
  | some v => (val (readL w v)).toNat
  | none => 0
theorem valAt_of {bw : Bool} {lo hi g : Nat} {w : World} {v : Value} {zs : List Int} (hc : w.cell? ⟨g, 0, none⟩ = some v) (r : Row .i64 bw lo hi w v zs) : valAt w g = (val zs).toNat := by
  unfold valAt
  rw [hc]
  show (val (readL w v)).toNat = _
  rw [readL_of r]
end Go.Proofs.YtflpkblmcnkghaaDoor

