/-
  What the laws over dyadic numbers share: an answer that is put into cells, calls as steps.
-/
import Derived.Test.YtbihbloknmjfjaaDoorLawW
import Derived.Test.YtbihbloknmjfjaaDoorHelpD
namespace Go.Proofs.YtbihbloknmjfjaaDoor
open Go.RowKit
set_option linter.unusedVariables false
set_option maxRecDepth 8000

theorem law_setD {cur w9 : World} {X : Nat} {v z z' z2 : Value} {zs : List Int} {b hi : Nat} (s : Bool) (x : Int) (k : Kept 0 0 cur w9) (c : w9.cell? ⟨X, 0, none⟩ = some z) (c' : w9.cell? ⟨X, 1, none⟩ = some z') (c2 : w9.cell? ⟨X, 2, none⟩ = some z2) (r : Row .i64 true b hi w9 v zs) (hX : cur.heap.size ≤ X) (hb : X < b ∨ hi ≤ X) (hc : cur.heap.size ≤ b) :
    (((w9.setCell ⟨X, 0, none⟩ (.bool s)).setCell ⟨X, 1, none⟩ v).setCell ⟨X, 2, none⟩ (.int .i64 x)).cell? ⟨X, 0, none⟩ = some (.bool s) ∧ (((w9.setCell ⟨X, 0, none⟩ (.bool s)).setCell ⟨X, 1, none⟩ v).setCell ⟨X, 2, none⟩ (.int .i64 x)).cell? ⟨X, 1, none⟩ = some v ∧ (((w9.setCell ⟨X, 0, none⟩ (.bool s)).setCell ⟨X, 1, none⟩ v).setCell ⟨X, 2, none⟩ (.int .i64 x)).cell? ⟨X, 2, none⟩ = some (.int .i64 x) ∧ Row .i64 true cur.heap.size (((w9.setCell ⟨X, 0, none⟩ (.bool s)).setCell ⟨X, 1, none⟩ v).setCell ⟨X, 2, none⟩ (.int .i64 x)).heap.size (((w9.setCell ⟨X, 0, none⟩ (.bool s)).setCell ⟨X, 1, none⟩ v).setCell ⟨X, 2, none⟩ (.int .i64 x)) v zs ∧ cur.heap.size ≤ X ∧ X < (((w9.setCell ⟨X, 0, none⟩ (.bool s)).setCell ⟨X, 1, none⟩ v).setCell ⟨X, 2, none⟩ (.int .i64 x)).heap.size ∧ Kept 0 0 cur (((w9.setCell ⟨X, 0, none⟩ (.bool s)).setCell ⟨X, 1, none⟩ v).setCell ⟨X, 2, none⟩ (.int .i64 x)) := by
  obtain ⟨e3, e4, r', hX', hl, k'⟩ := law_setW s k c c' r hX hb hc
  have e2 := cell_set w9 X 2 0 (.bool s) z2 c2
  rw [if_neg (by decide)] at e2
  have e5 := cell_set _ X 2 1 v _ e2
  rw [if_neg (by decide)] at e5
  have f3 := cell_set _ X 0 2 (.int .i64 x) _ e3
  rw [if_neg (by decide)] at f3
  have f4 := cell_set _ X 1 2 (.int .i64 x) _ e4
  rw [if_neg (by decide)] at f4
  have f5 := cell_set _ X 2 2 (.int .i64 x) _ e5
  rw [if_pos rfl] at f5
  exact ⟨f3, f4, f5, ((((r.set_other (p := ⟨X, 0, none⟩) hb (.bool s)).set_other (p := ⟨X, 1, none⟩) hb v).set_other (p := ⟨X, 2, none⟩) hb (.int .i64 x)).tight.wider hc (Nat.le_refl _)), hX, by simpa [World.setCell] using hl, k'.setNew (p := ⟨X, 2, none⟩) hX _⟩

theorem in_toD : ∀ (w : World) (args : Array Value), (callFunc 9 args).run Tryd.prog w = .ok (.enter 9 args) w := enters Tryd.func9 (by decide) (fun h => by cases h)

theorem in_eqD : ∀ (w : World) (args : Array Value), (callFunc 12 args).run Tryd.prog w = .ok (.enter 12 args) w := enters Tryd.func12 (by decide) (fun h => by cases h)

theorem in_spec_DyOk : ∀ (w : World) (args : Array Value), (callFunc 48 args).run Tryd.prog w = .ok (.enter 48 args) w := enters Tryd.func48 (by decide) (fun h => by cases h)

theorem in_impl_DyOk : ∀ (w : World) (args : Array Value), (callFunc 52 args).run Tryd.prog w = .ok (.enter 52 args) w := enters Tryd.func52 (by decide) (fun h => by cases h)

theorem in_impl_DyCmp : ∀ (w : World) (args : Array Value), (callFunc 53 args).run Tryd.prog w = .ok (.enter 53 args) w := enters Tryd.func53 (by decide) (fun h => by cases h)

theorem in_impl_DyAdd : ∀ (w : World) (args : Array Value), (callFunc 39 args).run Tryd.prog w = .ok (.enter 39 args) w := enters Tryd.func39 (by decide) (fun h => by cases h)

theorem in_impl_DySub : ∀ (w : World) (args : Array Value), (callFunc 42 args).run Tryd.prog w = .ok (.enter 42 args) w := enters Tryd.func42 (by decide) (fun h => by cases h)

end Go.Proofs.YtbihbloknmjfjaaDoor
