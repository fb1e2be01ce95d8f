/-
  What the laws over dyadic numbers share: an answer that is put into cells, calls as steps.
-/
import Derived.Test.YtoijdclblcmpaaaDoorLawW
import Derived.Test.YtoijdclblcmpaaaDoorHelpD
namespace Go.Proofs.YtoijdclblcmpaaaDoor
open Go.RowKit
set_option linter.unusedVariables false
set_option maxRecDepth 8000

theorem law_setD {cur w9 : World} {X : Nat} {v z z' z2 : Value} {zs : List Int} {b hi : Nat} (s : Bool) (x : Int) (k : Kept 0 0 cur w9) (c : w9.cell? ⟨X, 0, none⟩ = some z) (c' : w9.cell? ⟨X, 1, none⟩ = some z') (c2 : w9.cell? ⟨X, 2, none⟩ = some z2) (r : Row .i64 true b hi w9 v zs) (hX : cur.heap.size ≤ X) (hb : X < b ∨ hi ≤ X) (hc : cur.heap.size ≤ b) :
    (((w9.setCell ⟨X, 0, none⟩ (.bool s)).setCell ⟨X, 1, none⟩ v).setCell ⟨X, 2, none⟩ (.int .i64 x)).cell? ⟨X, 0, none⟩ = some (.bool s) ∧ (((w9.setCell ⟨X, 0, none⟩ (.bool s)).setCell ⟨X, 1, none⟩ v).setCell ⟨X, 2, none⟩ (.int .i64 x)).cell? ⟨X, 1, none⟩ = some v ∧ (((w9.setCell ⟨X, 0, none⟩ (.bool s)).setCell ⟨X, 1, none⟩ v).setCell ⟨X, 2, none⟩ (.int .i64 x)).cell? ⟨X, 2, none⟩ = some (.int .i64 x) ∧ Row .i64 true cur.heap.size (((w9.setCell ⟨X, 0, none⟩ (.bool s)).setCell ⟨X, 1, none⟩ v).setCell ⟨X, 2, none⟩ (.int .i64 x)).heap.size (((w9.setCell ⟨X, 0, none⟩ (.bool s)).setCell ⟨X, 1, none⟩ v).setCell ⟨X, 2, none⟩ (.int .i64 x)) v zs ∧ cur.heap.size ≤ X ∧ X < (((w9.setCell ⟨X, 0, none⟩ (.bool s)).setCell ⟨X, 1, none⟩ v).setCell ⟨X, 2, none⟩ (.int .i64 x)).heap.size ∧ Kept 0 0 cur (((w9.setCell ⟨X, 0, none⟩ (.bool s)).setCell ⟨X, 1, none⟩ v).setCell ⟨X, 2, none⟩ (.int .i64 x)) := by
  obtain ⟨e3, e4, r', hX', hl, k'⟩ := law_setW s k c c' r hX hb hc
  have e2 := cell_set w9 X 2 0 (.bool s) z2 c2
  rw [if_neg (by decide)] at e2
  have e5 := cell_set _ X 2 1 v _ e2
  rw [if_neg (by decide)] at e5
  have f3 := cell_set _ X 0 2 (.int .i64 x) _ e3
  rw [if_neg (by decide)] at f3
  have f4 := cell_set _ X 1 2 (.int .i64 x) _ e4
  rw [if_neg (by decide)] at f4
  have f5 := cell_set _ X 2 2 (.int .i64 x) _ e5
  rw [if_pos rfl] at f5
  exact ⟨f3, f4, f5, ((((r.set_other (p := ⟨X, 0, none⟩) hb (.bool s)).set_other (p := ⟨X, 1, none⟩) hb v).set_other (p := ⟨X, 2, none⟩) hb (.int .i64 x)).tight.wider hc (Nat.le_refl _)), hX, by simpa [World.setCell] using hl, k'.setNew (p := ⟨X, 2, none⟩) hX _⟩

theorem in_toD : ∀ (w : World) (args : Array Value), (callFunc 81 args).run Tryd.prog w = .ok (.enter 81 args) w := enters Tryd.func81 (by decide) (fun h => by cases h)

theorem in_eqD : ∀ (w : World) (args : Array Value), (callFunc 76 args).run Tryd.prog w = .ok (.enter 76 args) w := enters Tryd.func76 (by decide) (fun h => by cases h)

theorem in_spec_DyOk : ∀ (w : World) (args : Array Value), (callFunc 51 args).run Tryd.prog w = .ok (.enter 51 args) w := enters Tryd.func51 (by decide) (fun h => by cases h)

theorem in_impl_DyOk : ∀ (w : World) (args : Array Value), (callFunc 56 args).run Tryd.prog w = .ok (.enter 56 args) w := enters Tryd.func56 (by decide) (fun h => by cases h)

theorem in_spec_DyOf : ∀ (w : World) (args : Array Value), (callFunc 74 args).run Tryd.prog w = .ok (.enter 74 args) w := enters Tryd.func74 (by decide) (fun h => by cases h)

theorem in_impl_DyOf : ∀ (w : World) (args : Array Value), (callFunc 52 args).run Tryd.prog w = .ok (.enter 52 args) w := enters Tryd.func52 (by decide) (fun h => by cases h)

theorem in_impl_DyCmp : ∀ (w : World) (args : Array Value), (callFunc 58 args).run Tryd.prog w = .ok (.enter 58 args) w := enters Tryd.func58 (by decide) (fun h => by cases h)

theorem in_spec_DyNeg : ∀ (w : World) (args : Array Value), (callFunc 80 args).run Tryd.prog w = .ok (.enter 80 args) w := enters Tryd.func80 (by decide) (fun h => by cases h)

theorem in_impl_DyNeg : ∀ (w : World) (args : Array Value), (callFunc 59 args).run Tryd.prog w = .ok (.enter 59 args) w := enters Tryd.func59 (by decide) (fun h => by cases h)

theorem in_spec_DyAdd : ∀ (w : World) (args : Array Value), (callFunc 82 args).run Tryd.prog w = .ok (.enter 82 args) w := enters Tryd.func82 (by decide) (fun h => by cases h)

theorem in_impl_DyAdd : ∀ (w : World) (args : Array Value), (callFunc 48 args).run Tryd.prog w = .ok (.enter 48 args) w := enters Tryd.func48 (by decide) (fun h => by cases h)

theorem in_spec_DySub : ∀ (w : World) (args : Array Value), (callFunc 83 args).run Tryd.prog w = .ok (.enter 83 args) w := enters Tryd.func83 (by decide) (fun h => by cases h)

theorem in_impl_DySub : ∀ (w : World) (args : Array Value), (callFunc 55 args).run Tryd.prog w = .ok (.enter 55 args) w := enters Tryd.func55 (by decide) (fun h => by cases h)

theorem in_spec_DyMul : ∀ (w : World) (args : Array Value), (callFunc 84 args).run Tryd.prog w = .ok (.enter 84 args) w := enters Tryd.func84 (by decide) (fun h => by cases h)

theorem in_impl_DyMul : ∀ (w : World) (args : Array Value), (callFunc 49 args).run Tryd.prog w = .ok (.enter 49 args) w := enters Tryd.func49 (by decide) (fun h => by cases h)

theorem in_spec_DyShift : ∀ (w : World) (args : Array Value), (callFunc 85 args).run Tryd.prog w = .ok (.enter 85 args) w := enters Tryd.func85 (by decide) (fun h => by cases h)

theorem in_impl_DyShift : ∀ (w : World) (args : Array Value), (callFunc 60 args).run Tryd.prog w = .ok (.enter 60 args) w := enters Tryd.func60 (by decide) (fun h => by cases h)

theorem in_impl_DyTop : ∀ (w : World) (args : Array Value), (callFunc 61 args).run Tryd.prog w = .ok (.enter 61 args) w := enters Tryd.func61 (by decide) (fun h => by cases h)

theorem in_spec_DyRound : ∀ (w : World) (args : Array Value), (callFunc 86 args).run Tryd.prog w = .ok (.enter 86 args) w := enters Tryd.func86 (by decide) (fun h => by cases h)

theorem in_impl_DyRound : ∀ (w : World) (args : Array Value), (callFunc 87 args).run Tryd.prog w = .ok (.enter 87 args) w := enters Tryd.func87 (by decide) (fun h => by cases h)

theorem in_spec_DyDiv : ∀ (w : World) (args : Array Value), (callFunc 88 args).run Tryd.prog w = .ok (.enter 88 args) w := enters Tryd.func88 (by decide) (fun h => by cases h)

theorem in_impl_DyDiv : ∀ (w : World) (args : Array Value), (callFunc 89 args).run Tryd.prog w = .ok (.enter 89 args) w := enters Tryd.func89 (by decide) (fun h => by cases h)

theorem in_spec_DyRoot : ∀ (w : World) (args : Array Value), (callFunc 90 args).run Tryd.prog w = .ok (.enter 90 args) w := enters Tryd.func90 (by decide) (fun h => by cases h)

theorem in_impl_DyRoot : ∀ (w : World) (args : Array Value), (callFunc 91 args).run Tryd.prog w = .ok (.enter 91 args) w := enters Tryd.func91 (by decide) (fun h => by cases h)

end Go.Proofs.YtoijdclblcmpaaaDoor
