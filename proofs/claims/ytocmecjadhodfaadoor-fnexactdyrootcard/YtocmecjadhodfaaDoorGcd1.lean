/-
  Contracts of the model's greatest common divisor.
-/
import Derived.Test.YtocmecjadhodfaaDoorIDiv6
import Derived.Deep.DeepCutAuto
namespace Go.Proofs.YtocmecjadhodfaaDoor
open Go.RowKit
set_option linter.unusedVariables false
set_option maxRecDepth 8000
set_option linter.unusedSimpArgs false

/-- The integers of a slice, read from memory. -/
def readL (w : World) (v : Value) : List Int := match v with
  | .slice (some a) n _ => (List.range n).map fun j => match w.cell? ⟨a.block, a.off + j, none⟩ with
    | some (.int _ z) => z
    | _ => 0
  | _ => []
theorem readL_of {bw : Bool} {lo hi : Nat} {w : World} {v : Value} {zs : List Int} (r : Row .i64 bw lo hi w v zs) : readL w v = zs := by
  obtain ⟨a, c, rfl⟩ := Row.form' r
  have hc := (row_cell r).2.2.2
  cases a with
  | none =>
    cases zs with
    | nil => rfl
    | cons z t => obtain ⟨g, off, e, -⟩ := hc 0 (by simp); cases e
  | some ad =>
    have : ∀ j, j < zs.length → w.cell? ⟨ad.block, ad.off + j, none⟩ = some (.int .i64 (zs.getD j 0)) := by
      intro j hj
      obtain ⟨g, off, e, h⟩ := hc j hj
      cases e
      exact h
    unfold readL
    apply List.ext_getElem
    · simp
    · intro j h1 h2
      rw [List.getElem_map, List.getElem_range, this j h2]
      simp [List.getD, h2]
/-- The number whose limbs the cell g's list holds. -/
def valAt (w : World) (g : Nat) : Nat := match w.cell? ⟨g, 0, none⟩ with
  | some v => (val (readL w v)).toNat
  | none => 0
theorem valAt_of {bw : Bool} {lo hi g : Nat} {w : World} {v : Value} {zs : List Int} (hc : w.cell? ⟨g, 0, none⟩ = some v) (r : Row .i64 bw lo hi w v zs) : valAt w g = (val zs).toNat := by
  unfold valAt
  rw [hc]
  show (val (readL w v)).toNat = _
  rw [readL_of r]
theorem gcd_step {X Y : Int} (hX : 0 ≤ X) (hY : 0 < Y) : Nat.gcd Y.toNat (X % Y).toNat = Nat.gcd X.toNat Y.toNat := by
  obtain ⟨x, rfl⟩ : ∃ x : Nat, X = (x : Int) := ⟨X.toNat, by omega⟩
  obtain ⟨y, rfl⟩ : ∃ y : Nat, Y = (y : Int) := ⟨Y.toNat, by omega⟩
  rw [← Int.natCast_emod, Int.toNat_natCast, Int.toNat_natCast, Int.toNat_natCast, Nat.gcd_comm y, ← Nat.gcd_rec, Nat.gcd_comm]
/-- A list that lies outside three blocks. -/
def RowOut (R : Nat) (w : World) (v : Value) (zs : List Int) : Prop := ∃ l h, (h ≤ R ∨ R + 3 ≤ l) ∧ Row .i64 false l h w v zs
/-- What the common divisor's rounds keep. -/
structure Gcd (R : Nat) (w wr : World) (G : Nat) (u1 u2 : Value) (zs ts : List Int) : Prop where
  c1 : wr.cell? ⟨R, 0, none⟩ = some u1
  f1 : wr.frozen? ⟨R, 0, none⟩ = false
  c2 : wr.cell? ⟨R + 1, 0, none⟩ = some u2
  f2 : wr.frozen? ⟨R + 1, 0, none⟩ = false
  c3 : wr.cell? ⟨R + 2, 0, none⟩ = some (.slice none 0 0)
  f3 : wr.frozen? ⟨R + 2, 0, none⟩ = false
  r1 : RowOut R wr u1 zs
  r2 : RowOut R wr u2 ts
  n1 : Nrm zs
  n2 : Nrm ts
  l1 : zs.length ≤ 50000
  l2 : ts.length ≤ 50000
  g : Nat.gcd (val zs).toNat (val ts).toNat = G
  k : Kept 0 0 w wr

end Go.Proofs.YtocmecjadhodfaaDoor
