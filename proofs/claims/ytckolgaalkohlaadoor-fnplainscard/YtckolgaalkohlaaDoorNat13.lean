/-
  The contract of the model's l2shl.
-/
import Derived.Test.YtckolgaalkohlaaDoorBE
import Derived.Test.YtckolgaalkohlaaDoorBC
import Derived.Test.YtckolgaalkohlaaDoorBF
import Derived.Test.YtckolgaalkohlaaDoorBB
import Derived.Deep.RegionLaw
namespace Go.Proofs.YtckolgaalkohlaaDoor
open Go.RowKit
set_option linter.unusedVariables false
set_option maxRecDepth 8000
set_option linter.unusedSimpArgs false

theorem callFunc_enters {P : Program} {n : FuncId} {F : Func} (hf : P.funcs[n]? = some F) (h1 : ¬ F.name = "runtime.NumGoroutine") (h2 : ¬ F.body = none) (w : World) (args : Array Value) : (callFunc n args).run P w = .ok (.enter n args) w := by
  simp [callFunc, hf, go_sem, h1, h2]
/-- A call of one argument, as one step of a statement whose order is left open. -/
theorem step_call1 {P : Program} {ops : Array Oper} {o : Oper} {a : Act} {w : World} {K : Act → World → Prop} {Q : Exit → Act → World → Prop} {E : Prop} {R : Ending → World → Prop}
    (hg : o.guard = none) (n : FuncId) (x : Operand) (ts : Array TypeId) (hop : o.op = Op.call { callee := Callee.value (Operand.func n), args := #[x], argTypes := ts })
    (hcf : ∀ args : Array Value, (callFunc n args).run P w = .ok (.enter n args) w) (vx : Value) (hx : a.eval x = vx) (hc : Calls P n #[vx] w R) (hK : ∀ e w', R e w' → ∃ v, e = .returned v ∧ K (a.put o.dst v) w') :
    if Region.wanted o (yielded ops a.tmps) = true then Oper.wp P o a w K Q else E := by
  have hw : Region.wanted o (yielded ops a.tmps) = true := by simp [Region.wanted, hg]
  rw [if_pos hw]
  unfold Oper.wp
  have hrun : (execOp a.eval o).run P w = .ok (.enter n #[vx]) w := by
    have hfn : a.eval (.func n) = .func (.func n) #[] #[] := rfl
    simp [execOp, hop, resolve, invoke, hx, hfn, Deferred.ofValue, Result.andThen, hcf]
  rw [hrun, Oper.upon_enter]
  refine hc.mono ?_
  intro e w' h
  obtain ⟨v, rfl, h2⟩ := hK e w' h
  exact h2
/-- A call of two arguments, likewise. -/
theorem step_call2 {P : Program} {ops : Array Oper} {o : Oper} {a : Act} {w : World} {K : Act → World → Prop} {Q : Exit → Act → World → Prop} {E : Prop} {R : Ending → World → Prop}
    (hg : o.guard = none) (n : FuncId) (x y : Operand) (ts : Array TypeId) (hop : o.op = Op.call { callee := Callee.value (Operand.func n), args := #[x, y], argTypes := ts })
    (hcf : ∀ args : Array Value, (callFunc n args).run P w = .ok (.enter n args) w) (vx vy : Value) (hx : a.eval x = vx) (hy : a.eval y = vy) (hc : Calls P n #[vx, vy] w R) (hK : ∀ e w', R e w' → ∃ v, e = .returned v ∧ K (a.put o.dst v) w') :
    if Region.wanted o (yielded ops a.tmps) = true then Oper.wp P o a w K Q else E := by
  have hw : Region.wanted o (yielded ops a.tmps) = true := by simp [Region.wanted, hg]
  rw [if_pos hw]
  unfold Oper.wp
  have hrun : (execOp a.eval o).run P w = .ok (.enter n #[vx, vy]) w := by
    have hfn : a.eval (.func n) = .func (.func n) #[] #[] := rfl
    simp [execOp, hop, resolve, invoke, hx, hy, hfn, Deferred.ofValue, Result.andThen, hcf]
  rw [hrun, Oper.upon_enter]
  refine hc.mono ?_
  intro e w' h
  obtain ⟨v, rfl, h2⟩ := hK e w' h
  exact h2

theorem l2of_enter (w : World) (args : Array Value) : (callFunc 40 args).run Tryd.prog w = .ok (.enter 40 args) w := callFunc_enters Tryd.func40 (by decide) (fun h => by cases h) w args

theorem shl_row {w4 : World} {b q n : Nat} {v4 : Value} {xs : List Int} (h : w4.ownsRow b 3 1 v4 n ((List.replicate q (0 : Int)).map (Value.int .i64) ++ xs.map (Value.int .i64))) : Row .i64 true b w4.heap.size w4 v4 (List.replicate q 0 ++ xs) := by
  refine Row.own (e := 3) (n := n) ?_
  rw [List.map_append]
  exact h

end Go.Proofs.YtckolgaalkohlaaDoor
