/-
  A call of a function value as a single step of a statement whose order is left open.
-/
import Derived.Test.YtgoncjcnakkaoaaGreatDoorBC
namespace Go.Proofs.YtgoncjcnakkaoaaGreatDoor
open Go.RowKit
set_option linter.unusedVariables false
set_option maxRecDepth 8000
set_option linter.unusedSimpArgs false

/-- A call, of one argument, of the function that an operand holds. -/
theorem wpv1 {P : Program} {o : Oper} {a : Act} {w : World} {K : Act → World → Prop} {Q : Exit → Act → World → Prop} {R : Ending → World → Prop}
    (n : FuncId) (f x : Operand) (ts : Array TypeId) (hop : o.op = Op.call { callee := Callee.value f, args := #[x], argTypes := ts }) (hf : a.eval f = .func (.func n) #[] #[])
    (hcf : ∀ (w : World) (args : Array Value), (callFunc n args).run P w = .ok (.enter n args) w) (vx : Value) (hx : a.eval x = vx) (hc : Calls P n #[vx] w R) (hK : ∀ e w', R e w' → ∃ v, e = .returned v ∧ K (a.put o.dst v) w') :
    Oper.wp P o a w K Q := by
  unfold Oper.wp
  have hrun : (execOp a.eval o).run P w = .ok (.enter n #[vx]) w := by
    simp [execOp, hop, resolve, invoke, hx, hf, Deferred.ofValue, Result.andThen, hcf]
  rw [hrun, Oper.upon_enter]
  refine hc.mono ?_
  intro e w' h
  obtain ⟨v, rfl, h2⟩ := hK e w' h
  exact h2

/-- A call of no argument. -/
theorem wps0 {P : Program} {o : Oper} {a : Act} {w : World} {K : Act → World → Prop} {Q : Exit → Act → World → Prop} {R : Ending → World → Prop}
    (n : FuncId) (ts : Array TypeId) (hop : o.op = Op.call { callee := Callee.value (Operand.func n), args := #[], argTypes := ts })
    (hcf : ∀ (w : World) (args : Array Value), (callFunc n args).run P w = .ok (.enter n args) w) (hc : Calls P n #[] w R) (hK : ∀ e w', R e w' → ∃ v, e = .returned v ∧ K (a.put o.dst v) w') :
    Oper.wp P o a w K Q := by
  unfold Oper.wp
  have hrun : (execOp a.eval o).run P w = .ok (.enter n #[]) w := by
    have hfn : a.eval (.func n) = .func (.func n) #[] #[] := rfl
    simp [execOp, hop, resolve, invoke, hfn, Deferred.ofValue, Result.andThen, hcf]
  rw [hrun, Oper.upon_enter]
  refine hc.mono ?_
  intro e w' h
  obtain ⟨v, rfl, h2⟩ := hK e w' h
  exact h2

end Go.Proofs.YtgoncjcnakkaoaaGreatDoor
