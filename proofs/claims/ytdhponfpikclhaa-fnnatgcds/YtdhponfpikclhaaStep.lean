/-
  Calls as single steps of a statement whose order is left open.
-/
import Derived.Test.YtdhponfpikclhaaRows
import Derived.WalkKit
import Derived.Deep.RegionLaw
namespace Go.Proofs.Ytdhponfpikclhaa
open Go.RowKit
set_option linter.unusedVariables false
set_option maxRecDepth 8000
set_option linter.unusedSimpArgs false

theorem enters {P : Program} {n : FuncId} {F : Func} (hf : P.funcs[n]? = some F) (h1 : ¬ F.name = "runtime.NumGoroutine") (h2 : ¬ F.body = none) (w : World) (args : Array Value) : (callFunc n args).run P w = .ok (.enter n args) w := by
  simp [callFunc, hf, go_sem, h1, h2]
/-- A call of one argument. -/
theorem stp1 {P : Program} {ops : Array Oper} {o : Oper} {a : Act} {w : World} {K : Act → World → Prop} {Q : Exit → Act → World → Prop} {E : Prop} {R : Ending → World → Prop}
    (hg : o.guard = none) (n : FuncId) (x : Operand) (ts : Array TypeId) (hop : o.op = Op.call { callee := Callee.value (Operand.func n), args := #[x], argTypes := ts })
    (hcf : ∀ (w : World) (args : Array Value), (callFunc n args).run P w = .ok (.enter n args) w) (vx : Value) (hx : a.eval x = vx) (hc : Calls P n #[vx] w R) (hK : ∀ e w', R e w' → ∃ v, e = .returned v ∧ K (a.put o.dst v) w') :
    if Region.wanted o (yielded ops a.tmps) = true then Oper.wp P o a w K Q else E := by
  have hw : Region.wanted o (yielded ops a.tmps) = true := by simp [Region.wanted, hg]
  rw [if_pos hw]
  unfold Oper.wp
  have hrun : (execOp a.eval o).run P w = .ok (.enter n #[vx]) w := by
    have hfn : a.eval (.func n) = .func (.func n) #[] #[] := rfl
    simp [execOp, hop, resolve, invoke, hx, hfn, Deferred.ofValue, Result.andThen, hcf]
  rw [hrun, Oper.upon_enter]
  refine hc.mono ?_
  intro e w' h
  obtain ⟨v, rfl, h2⟩ := hK e w' h
  exact h2
/-- A call of two arguments. -/
theorem stp2 {P : Program} {ops : Array Oper} {o : Oper} {a : Act} {w : World} {K : Act → World → Prop} {Q : Exit → Act → World → Prop} {E : Prop} {R : Ending → World → Prop}
    (hg : o.guard = none) (n : FuncId) (x y : Operand) (ts : Array TypeId) (hop : o.op = Op.call { callee := Callee.value (Operand.func n), args := #[x, y], argTypes := ts })
    (hcf : ∀ (w : World) (args : Array Value), (callFunc n args).run P w = .ok (.enter n args) w) (vx vy : Value) (hx : a.eval x = vx) (hy : a.eval y = vy) (hc : Calls P n #[vx, vy] w R) (hK : ∀ e w', R e w' → ∃ v, e = .returned v ∧ K (a.put o.dst v) w') :
    if Region.wanted o (yielded ops a.tmps) = true then Oper.wp P o a w K Q else E := by
  have hw : Region.wanted o (yielded ops a.tmps) = true := by simp [Region.wanted, hg]
  rw [if_pos hw]
  unfold Oper.wp
  have hrun : (execOp a.eval o).run P w = .ok (.enter n #[vx, vy]) w := by
    have hfn : a.eval (.func n) = .func (.func n) #[] #[] := rfl
    simp [execOp, hop, resolve, invoke, hx, hy, hfn, Deferred.ofValue, Result.andThen, hcf]
  rw [hrun, Oper.upon_enter]
  refine hc.mono ?_
  intro e w' h
  obtain ⟨v, rfl, h2⟩ := hK e w' h
  exact h2

/-- A call of one argument, its guard decided. -/
theorem wps1 {P : Program} {o : Oper} {a : Act} {w : World} {K : Act → World → Prop} {Q : Exit → Act → World → Prop} {R : Ending → World → Prop}
    (n : FuncId) (x : Operand) (ts : Array TypeId) (hop : o.op = Op.call { callee := Callee.value (Operand.func n), args := #[x], argTypes := ts })
    (hcf : ∀ (w : World) (args : Array Value), (callFunc n args).run P w = .ok (.enter n args) w) (vx : Value) (hx : a.eval x = vx) (hc : Calls P n #[vx] w R) (hK : ∀ e w', R e w' → ∃ v, e = .returned v ∧ K (a.put o.dst v) w') :
    Oper.wp P o a w K Q := by
  unfold Oper.wp
  have hrun : (execOp a.eval o).run P w = .ok (.enter n #[vx]) w := by
    have hfn : a.eval (.func n) = .func (.func n) #[] #[] := rfl
    simp [execOp, hop, resolve, invoke, hx, hfn, Deferred.ofValue, Result.andThen, hcf]
  rw [hrun, Oper.upon_enter]
  refine hc.mono ?_
  intro e w' h
  obtain ⟨v, rfl, h2⟩ := hK e w' h
  exact h2
/-- A call of two arguments, its guard decided. -/
theorem wps2 {P : Program} {o : Oper} {a : Act} {w : World} {K : Act → World → Prop} {Q : Exit → Act → World → Prop} {R : Ending → World → Prop}
    (n : FuncId) (x y : Operand) (ts : Array TypeId) (hop : o.op = Op.call { callee := Callee.value (Operand.func n), args := #[x, y], argTypes := ts })
    (hcf : ∀ (w : World) (args : Array Value), (callFunc n args).run P w = .ok (.enter n args) w) (vx vy : Value) (hx : a.eval x = vx) (hy : a.eval y = vy) (hc : Calls P n #[vx, vy] w R) (hK : ∀ e w', R e w' → ∃ v, e = .returned v ∧ K (a.put o.dst v) w') :
    Oper.wp P o a w K Q := by
  unfold Oper.wp
  have hrun : (execOp a.eval o).run P w = .ok (.enter n #[vx, vy]) w := by
    have hfn : a.eval (.func n) = .func (.func n) #[] #[] := rfl
    simp [execOp, hop, resolve, invoke, hx, hy, hfn, Deferred.ofValue, Result.andThen, hcf]
  rw [hrun, Oper.upon_enter]
  refine hc.mono ?_
  intro e w' h
  obtain ⟨v, rfl, h2⟩ := hK e w' h
  exact h2

theorem in_l2norm : ∀ (w : World) (args : Array Value), (callFunc 148 args).run Try.prog w = .ok (.enter 148 args) w := enters Try.func148 (by decide) (fun h => by cases h)

theorem in_l2of : ∀ (w : World) (args : Array Value), (callFunc 101 args).run Try.prog w = .ok (.enter 101 args) w := enters Try.func101 (by decide) (fun h => by cases h)

theorem in_l2mul : ∀ (w : World) (args : Array Value), (callFunc 98 args).run Try.prog w = .ok (.enter 98 args) w := enters Try.func98 (by decide) (fun h => by cases h)

theorem in_l2cmp : ∀ (w : World) (args : Array Value), (callFunc 159 args).run Try.prog w = .ok (.enter 159 args) w := enters Try.func159 (by decide) (fun h => by cases h)

theorem in_l2sub : ∀ (w : World) (args : Array Value), (callFunc 160 args).run Try.prog w = .ok (.enter 160 args) w := enters Try.func160 (by decide) (fun h => by cases h)

theorem in_l2add : ∀ (w : World) (args : Array Value), (callFunc 138 args).run Try.prog w = .ok (.enter 138 args) w := enters Try.func138 (by decide) (fun h => by cases h)

theorem in_l3make : ∀ (w : World) (args : Array Value), (callFunc 164 args).run Try.prog w = .ok (.enter 164 args) w := enters Try.func164 (by decide) (fun h => by cases h)

theorem in_l3neg : ∀ (w : World) (args : Array Value), (callFunc 131 args).run Try.prog w = .ok (.enter 131 args) w := enters Try.func131 (by decide) (fun h => by cases h)

theorem in_l3add : ∀ (w : World) (args : Array Value), (callFunc 133 args).run Try.prog w = .ok (.enter 133 args) w := enters Try.func133 (by decide) (fun h => by cases h)

theorem in_l3fits : ∀ (w : World) (args : Array Value), (callFunc 132 args).run Try.prog w = .ok (.enter 132 args) w := enters Try.func132 (by decide) (fun h => by cases h)

end Go.Proofs.Ytdhponfpikclhaa
