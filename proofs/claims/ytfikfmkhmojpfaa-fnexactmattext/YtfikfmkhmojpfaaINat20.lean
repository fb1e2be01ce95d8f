/-
  The program's shiftDown.
-/
import Derived.Test.YtfikfmkhmojpfaaINat19
import Derived.RegionTactic
import Derived.Deep.RegionLaw
namespace Go.Proofs.Ytfikfmkhmojpfaa
open Go.RowKit
set_option linter.unusedVariables false
set_option maxRecDepth 8000
set_option linter.unusedSimpArgs false

/-- A call that only reads, as one step of a statement whose order is left open. -/
theorem step_call_pure {P : Program} {ops : Array Oper} {o : Oper} {a : Act} {w : World} {K : Act → World → Prop} {Q : Exit → Act → World → Prop} {E : Prop}
    (hg : o.guard = none) (n : FuncId) (x y : Operand) (ts : Array TypeId) (hop : o.op = Op.call { callee := Callee.value (Operand.func n), args := #[x, y], argTypes := ts })
    (hcf : ∀ args : Array Value, (callFunc n args).run P w = .ok (.enter n args) w) (vx vy v : Value) (hx : a.eval x = vx) (hy : a.eval y = vy) (hc : Calls P n #[vx, vy] w (fun e w' => e = .returned v ∧ w' = w)) (hK : K (a.put o.dst v) w) :
    if Region.wanted o (yielded ops a.tmps) = true then Oper.wp P o a w K Q else E := by
  have hw : Region.wanted o (yielded ops a.tmps) = true := by simp [Region.wanted, hg]
  rw [if_pos hw]
  unfold Oper.wp
  have hrun : (execOp a.eval o).run P w = .ok (.enter n #[vx, vy]) w := by
    have hfn : a.eval (.func n) = .func (.func n) #[] #[] := rfl
    simp [execOp, hop, resolve, invoke, hx, hy, hfn, Deferred.ofValue, Result.andThen, hcf]
  rw [hrun, Oper.upon_enter]
  refine hc.mono ?_
  rintro e w' ⟨rfl, rfl⟩
  exact hK

theorem Work.lost {b g : Nat} {w : World} {v v' : Value} {xs : List Int} (h : Work b w g v xs) (a : Option Addr) (c : Nat) (hc : c ≤ maxLen) : Work b (w.setCell ⟨g, 0, none⟩ (.slice a 0 c)) g (.slice a 0 c) [] :=
  ⟨cell_on _ _ _ _ _ h.cell, by rw [frozen_set]; exact h.loose, Row.empty _ _ _ _ _ _ _ hc, fun e => absurd rfl e⟩
theorem Work.tail {b g gb cap n : Nat} {w : World} {xs : List Int} (h : Work b w g (.slice (some ⟨gb, 0, none⟩) n cap) xs) (q : Nat) (hn : n = xs.length) (hq : q < n) :
    Work b (w.setCell ⟨g, 0, none⟩ (.slice (some ⟨gb, q, none⟩) (n - q) (cap - q))) g (.slice (some ⟨gb, q, none⟩) (n - q) (cap - q)) (xs.drop q) := by
  have hz : xs ≠ [] := by intro e; subst e; simp at hn; omega
  have hr := h.row.drop q hq
  rw [Nat.zero_add] at hr
  have hap : xs.drop q ≠ [] → (Value.slice (some ⟨gb, q, none⟩) (n - q) (cap - q)).ownBlock ≠ some g := fun _ => h.apart hz
  exact ⟨cell_on _ _ _ _ _ h.cell, by rw [frozen_set]; exact h.loose, by rw [size_set]; exact hr.aside hap _, hap⟩

end Go.Proofs.Ytfikfmkhmojpfaa
