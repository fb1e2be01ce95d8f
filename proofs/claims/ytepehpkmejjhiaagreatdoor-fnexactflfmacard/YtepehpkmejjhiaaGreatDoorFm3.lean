/-
  A product and a sum of floats, rounded once: FlFma of the program.
-/
import Derived.Test.YtepehpkmejjhiaaGreatDoorFm2
import Derived.Deep.RegionHeld3
import Derived.Deep.DeepCutAuto
namespace Go.Proofs.YtepehpkmejjhiaaGreatDoor
open Go.RowKit
set_option linter.unusedVariables false
set_option maxRecDepth 8000
set_option linter.unusedSimpArgs false

theorem in_impl_floatOf_m : ∀ (w : World) (args : Array Value), (callFunc 38 args).run Tryz.prog w = .ok (.enter 38 args) w := enters Tryz.func38 (by decide) (fun h => by cases h)

theorem in_impl_multiplyAndAdd_m : ∀ (w : World) (args : Array Value), (callFunc 37 args).run Tryz.prog w = .ok (.enter 37 args) w := enters Tryz.func37 (by decide) (fun h => by cases h)

theorem wps4 {P : Program} {o : Oper} {a : Act} {w : World} {K : Act → World → Prop} {Q : Exit → Act → World → Prop} {R : Ending → World → Prop}
    (n : FuncId) (x y z u : Operand) (ts : Array TypeId) (hop : o.op = Op.call { callee := Callee.value (Operand.func n), args := #[x, y, z, u], argTypes := ts })
    (hcf : ∀ (w : World) (args : Array Value), (callFunc n args).run P w = .ok (.enter n args) w) (vx vy vz vu : Value) (hx : a.eval x = vx) (hy : a.eval y = vy) (hz : a.eval z = vz) (hu : a.eval u = vu) (hc : Calls P n #[vx, vy, vz, vu] w R) (hK : ∀ e w', R e w' → ∃ v, e = .returned v ∧ K (a.put o.dst v) w') :
    Oper.wp P o a w K Q := by
  unfold Oper.wp
  have hrun : (execOp a.eval o).run P w = .ok (.enter n #[vx, vy, vz, vu]) w := by
   have hfn : a.eval (.func n) = .func (.func n) #[] #[] := rfl
   simp [execOp, hop, resolve, invoke, hx, hy, hz, hu, hfn, Deferred.ofValue, Result.andThen, hcf]
  rw [hrun, Oper.upon_enter]
  refine hc.mono ?_
  intro e w' h
  obtain ⟨v, rfl, h2⟩ := hK e w' h
  exact h2

def okM3 (k1 : Int) (n1 : Bool) (m1 e1 k2 : Int) (n2 : Bool) (m2 e2 k3 : Int) (n3 : Bool) (m3 e3 mode : Int) : Bool := flok k1 n1 m1 e1 && flok k2 n2 m2 e2 && flok k3 n3 m3 e3 && modeB mode
def ffmaQ (k1 : Int) (n1 : Bool) (m1 e1 k2 : Int) (n2 : Bool) (m2 e2 k3 : Int) (n3 : Bool) (m3 e3 mode : Int) : (Int × Bool × Int × Int) × Int := if okM3 k1 n1 m1 e1 k2 n2 m2 e2 k3 n3 m3 e3 mode = true then fmaQ k1 n1 m1 e1 k2 n2 m2 e2 k3 n3 m3 e3 mode else ((3, false, 0, 0), 16)
theorem okM3_iff {k1 : Int} {n1 : Bool} {m1 e1 k2 : Int} {n2 : Bool} {m2 e2 k3 : Int} {n3 : Bool} {m3 e3 mode : Int} (h : okM3 k1 n1 m1 e1 k2 n2 m2 e2 k3 n3 m3 e3 mode = true) : flok k1 n1 m1 e1 = true ∧ flok k2 n2 m2 e2 = true ∧ flok k3 n3 m3 e3 = true ∧ 0 ≤ mode ∧ mode ≤ 4 := by
  unfold okM3 modeB at h
  simp only [Bool.and_eq_true, decide_eq_true_eq] at h
  exact ⟨h.1.1.1, h.1.1.2, h.1.2, h.2.1, h.2.2⟩

set_option maxHeartbeats 2000000 in
theorem flfma_impl (k1 : Int) (n1 : Bool) (m1 e1 k2 : Int) (n2 : Bool) (m2 e2 k3 : Int) (n3 : Bool) (m3 e3 mode : Int) (w : World) (T : TabB w) :
    Calls Tryz.prog 8 #[flv k1 n1 m1 e1, flv k2 n2 m2 e2, flv k3 n3 m3 e3, .int .i64 mode] w fun e' w' => e' = .returned (.tuple #[flq (ffmaQ k1 n1 m1 e1 k2 n2 m2 e2 k3 n3 m3 e3 mode).1, .int .i64 (ffmaQ k1 n1 m1 e1 k2 n2 m2 e2 k3 n3 m3 e3 mode).2]) ∧ Kept 0 0 w w' := by
  obtain ⟨Q, hQ⟩ : ∃ q, ffmaQ k1 n1 m1 e1 k2 n2 m2 e2 k3 n3 m3 e3 mode = q := ⟨_, rfl⟩
  rw [hQ]
  have HQ := hide hQ
  clear hQ
  obtain ⟨Wn, hn0⟩ : ∃ wz, wz = ((((w.alloc (.cells #[.int .i64 k1, .bool n1, .int .i64 m1, .int .i64 e1] 24)).alloc (.cells #[.int .i64 k2, .bool n2, .int .i64 m2, .int .i64 e2] 24)).alloc (.cells #[.int .i64 k3, .bool n3, .int .i64 m3, .int .i64 e3] 24)).alloc (.cells #[.int .i64 0, .bool false, .int .i64 0, .int .i64 0] 24)) := ⟨_, rfl⟩
  have k0 : Kept 0 0 w Wn := by rw [hn0]; exact (((((Kept.refl 0 0 w).alloc _).alloc _).alloc _).alloc _)
  have p0 : Wn.cell? ⟨w.heap.size, 0, none⟩ = some (.int .i64 k1) := by rw [hn0]; exact old_cell _ (old_cell _ (old_cell _ (new_cell2 _ _ _ _ _ _ (by simp) rfl)))
  have p1 : Wn.cell? ⟨w.heap.size, 1, none⟩ = some (.bool n1) := by rw [hn0]; exact old_cell _ (old_cell _ (old_cell _ (new_cell2 _ _ _ _ _ _ (by simp) rfl)))
  have p2 : Wn.cell? ⟨w.heap.size, 2, none⟩ = some (.int .i64 m1) := by rw [hn0]; exact old_cell _ (old_cell _ (old_cell _ (new_cell2 _ _ _ _ _ _ (by simp) rfl)))
  have p3 : Wn.cell? ⟨w.heap.size, 3, none⟩ = some (.int .i64 e1) := by rw [hn0]; exact old_cell _ (old_cell _ (old_cell _ (new_cell2 _ _ _ _ _ _ (by simp) rfl)))
  have t0 : Wn.cell? ⟨w.heap.size + 1, 0, none⟩ = some (.int .i64 k2) := by rw [hn0]; exact old_cell _ (old_cell _ (new_cell2 _ _ _ _ _ _ (by simp) rfl))
  have t1 : Wn.cell? ⟨w.heap.size + 1, 1, none⟩ = some (.bool n2) := by rw [hn0]; exact old_cell _ (old_cell _ (new_cell2 _ _ _ _ _ _ (by simp) rfl))
  have t2 : Wn.cell? ⟨w.heap.size + 1, 2, none⟩ = some (.int .i64 m2) := by rw [hn0]; exact old_cell _ (old_cell _ (new_cell2 _ _ _ _ _ _ (by simp) rfl))
  have t3 : Wn.cell? ⟨w.heap.size + 1, 3, none⟩ = some (.int .i64 e2) := by rw [hn0]; exact old_cell _ (old_cell _ (new_cell2 _ _ _ _ _ _ (by simp) rfl))
  have u0 : Wn.cell? ⟨w.heap.size + 2, 0, none⟩ = some (.int .i64 k3) := by rw [hn0]; exact old_cell _ (new_cell2 _ _ _ _ _ _ (by simp) rfl)
  have u1 : Wn.cell? ⟨w.heap.size + 2, 1, none⟩ = some (.bool n3) := by rw [hn0]; exact old_cell _ (new_cell2 _ _ _ _ _ _ (by simp) rfl)
  have u2 : Wn.cell? ⟨w.heap.size + 2, 2, none⟩ = some (.int .i64 m3) := by rw [hn0]; exact old_cell _ (new_cell2 _ _ _ _ _ _ (by simp) rfl)
  have u3 : Wn.cell? ⟨w.heap.size + 2, 3, none⟩ = some (.int .i64 e3) := by rw [hn0]; exact old_cell _ (new_cell2 _ _ _ _ _ _ (by simp) rfl)
  obtain ⟨q0, q1, q2, q3, qf0, qf1, qf2, qf3⟩ := new4 hn0 (n := w.heap.size + 3) (by simp)
  have s0 : Wn.heap.size = w.heap.size + 4 := by rw [hn0]; exact by simp
  subst hn0
  have K := hide (k0)
  clear k0
  have S0 := hide s0
  clear s0
  go_enter Tryz.func8, Tryz.ntmps8
  go_wp2_with fail
  generalize ((((w.alloc (.cells #[.int .i64 k1, .bool n1, .int .i64 m1, .int .i64 e1] 24)).alloc (.cells #[.int .i64 k2, .bool n2, .int .i64 m2, .int .i64 e2] 24)).alloc (.cells #[.int .i64 k3, .bool n3, .int .i64 m3, .int .i64 e3] 24)).alloc (.cells #[.int .i64 0, .bool false, .int .i64 0, .int .i64 0] 24)) = W at *
  cases h1 : flok k1 n1 m1 e1
  ·refine (flok_impl_k h1 _).mono ?_
   rintro e w1 ⟨rfl, k1⟩
   revert qf0 qf1 qf2 qf3; refine k1.l4 q0 q1 q2 q3 ?_; intro qf0 qf1 qf2 qf3
   revert p0 p1 p2 p3 t0 t1 t2 t3 u0 u1 u2 u3; refine k1.m12 ?_; intro p0 p1 p2 p3 t0 t1 t2 t3 u0 u1 u2 u3
   revert q0 q1 q2 q3; refine k1.m4 ?_; intro q0 q1 q2 q3
   replace K := hide ((unhide K).trans k1)
   have z2 := k1.size
   clear k1
   have FQ : Hid (Q = ((3, false, 0, 0), 16)) := by
    show _ = _
    have hc : okM3 k1 n1 m1 e1 k2 n2 m2 e2 k3 n3 m3 e3 mode = false := by unfold okM3; rw [h1]; rfl
    rw [← unhide HQ]; unfold ffmaQ; rw [hc]; rfl
   go_wp2_with fail
   refine (bad_impl _).mono ?_
   rintro e w3 ⟨rfl, k3⟩
   revert qf0 qf1 qf2 qf3; refine k3.l4 q0 q1 q2 q3 ?_; intro qf0 qf1 qf2 qf3
   revert p0 p1 p2 p3 t0 t1 t2 t3 u0 u1 u2 u3; refine k3.m12 ?_; intro p0 p1 p2 p3 t0 t1 t2 t3 u0 u1 u2 u3
   revert q0 q1 q2 q3; refine k3.m4 ?_; intro q0 q1 q2 q3
   replace K := hide ((unhide K).trans k3)
   have z4 := k3.size
   clear k3
   have KF := hide (((((unhide K).setNew (p := ⟨w.heap.size + 3, 0, none⟩) (by simp) (.int .i64 3)).setNew (p := ⟨w.heap.size + 3, 1, none⟩) (by simp) (.bool false)).setNew (p := ⟨w.heap.size + 3, 2, none⟩) (by simp) (.int .i64 0)).setNew (p := ⟨w.heap.size + 3, 3, none⟩) (by simp) (.int .i64 0))
   clear K
   try go_wp2_with fail
   exact bodyPost_ret (v := .tuple #[.agg #[.int .i64 3, .bool false, .int .i64 0, .int .i64 0], .int .i64 16]) (by simp [results, Tryz.results8, go_sem, q0, q1, q2, q3]) rfl ⟨by rw [unhide FQ], unhide KF⟩
  refine (flok_impl_k h1 _).mono ?_
  rintro e w1 ⟨rfl, k1⟩
  replace qf0 := k1.loose0 (zbl q0) qf0
  replace qf1 := k1.loose0 (zbl q1) qf1
  replace qf2 := k1.loose0 (zbl q2) qf2
  replace qf3 := k1.loose0 (zbl q3) qf3
  replace p0 := k1.cell0 p0
  replace p1 := k1.cell0 p1
  replace p2 := k1.cell0 p2
  replace p3 := k1.cell0 p3
  replace t0 := k1.cell0 t0
  replace t1 := k1.cell0 t1
  replace t2 := k1.cell0 t2
  replace t3 := k1.cell0 t3
  replace u0 := k1.cell0 u0
  replace u1 := k1.cell0 u1
  replace u2 := k1.cell0 u2
  replace u3 := k1.cell0 u3
  replace q0 := k1.cell0 q0
  replace q1 := k1.cell0 q1
  replace q2 := k1.cell0 q2
  replace q3 := k1.cell0 q3
  replace K := hide ((unhide K).trans k1)
  have z2 := k1.size
  clear k1
  go_wp2_with fail
  cases h2 : flok k2 n2 m2 e2
  ·refine (flok_impl_k h2 _).mono ?_
   rintro e w3 ⟨rfl, k3⟩
   revert qf0 qf1 qf2 qf3; refine k3.l4 q0 q1 q2 q3 ?_; intro qf0 qf1 qf2 qf3
   revert p0 p1 p2 p3 t0 t1 t2 t3 u0 u1 u2 u3; refine k3.m12 ?_; intro p0 p1 p2 p3 t0 t1 t2 t3 u0 u1 u2 u3
   revert q0 q1 q2 q3; refine k3.m4 ?_; intro q0 q1 q2 q3
   replace K := hide ((unhide K).trans k3)
   have z4 := k3.size
   clear k3
   have FQ : Hid (Q = ((3, false, 0, 0), 16)) := by
    show _ = _
    have hc : okM3 k1 n1 m1 e1 k2 n2 m2 e2 k3 n3 m3 e3 mode = false := by unfold okM3; rw [h2]; simp
    rw [← unhide HQ]; unfold ffmaQ; rw [hc]; rfl
   go_wp2_with fail
   refine (bad_impl _).mono ?_
   rintro e w5 ⟨rfl, k5⟩
   revert qf0 qf1 qf2 qf3; refine k5.l4 q0 q1 q2 q3 ?_; intro qf0 qf1 qf2 qf3
   revert p0 p1 p2 p3 t0 t1 t2 t3 u0 u1 u2 u3; refine k5.m12 ?_; intro p0 p1 p2 p3 t0 t1 t2 t3 u0 u1 u2 u3
   revert q0 q1 q2 q3; refine k5.m4 ?_; intro q0 q1 q2 q3
   replace K := hide ((unhide K).trans k5)
   have z6 := k5.size
   clear k5
   have KF := hide (((((unhide K).setNew (p := ⟨w.heap.size + 3, 0, none⟩) (by simp) (.int .i64 3)).setNew (p := ⟨w.heap.size + 3, 1, none⟩) (by simp) (.bool false)).setNew (p := ⟨w.heap.size + 3, 2, none⟩) (by simp) (.int .i64 0)).setNew (p := ⟨w.heap.size + 3, 3, none⟩) (by simp) (.int .i64 0))
   clear K
   try go_wp2_with fail
   exact bodyPost_ret (v := .tuple #[.agg #[.int .i64 3, .bool false, .int .i64 0, .int .i64 0], .int .i64 16]) (by simp [results, Tryz.results8, go_sem, q0, q1, q2, q3]) rfl ⟨by rw [unhide FQ], unhide KF⟩
  refine (flok_impl_k h2 _).mono ?_
  rintro e w3 ⟨rfl, k3⟩
  replace qf0 := k3.loose0 (zbl q0) qf0
  replace qf1 := k3.loose0 (zbl q1) qf1
  replace qf2 := k3.loose0 (zbl q2) qf2
  replace qf3 := k3.loose0 (zbl q3) qf3
  replace p0 := k3.cell0 p0
  replace p1 := k3.cell0 p1
  replace p2 := k3.cell0 p2
  replace p3 := k3.cell0 p3
  replace t0 := k3.cell0 t0
  replace t1 := k3.cell0 t1
  replace t2 := k3.cell0 t2
  replace t3 := k3.cell0 t3
  replace u0 := k3.cell0 u0
  replace u1 := k3.cell0 u1
  replace u2 := k3.cell0 u2
  replace u3 := k3.cell0 u3
  replace q0 := k3.cell0 q0
  replace q1 := k3.cell0 q1
  replace q2 := k3.cell0 q2
  replace q3 := k3.cell0 q3
  replace K := hide ((unhide K).trans k3)
  have z4 := k3.size
  clear k3
  go_wp2_with fail
  cases h3 : flok k3 n3 m3 e3
  ·refine (flok_impl_k h3 _).mono ?_
   rintro e w5 ⟨rfl, k5⟩
   revert qf0 qf1 qf2 qf3; refine k5.l4 q0 q1 q2 q3 ?_; intro qf0 qf1 qf2 qf3
   revert p0 p1 p2 p3 t0 t1 t2 t3 u0 u1 u2 u3; refine k5.m12 ?_; intro p0 p1 p2 p3 t0 t1 t2 t3 u0 u1 u2 u3
   revert q0 q1 q2 q3; refine k5.m4 ?_; intro q0 q1 q2 q3
   replace K := hide ((unhide K).trans k5)
   have z6 := k5.size
   clear k5
   have FQ : Hid (Q = ((3, false, 0, 0), 16)) := by
    show _ = _
    have hc : okM3 k1 n1 m1 e1 k2 n2 m2 e2 k3 n3 m3 e3 mode = false := by unfold okM3; rw [h3]; simp
    rw [← unhide HQ]; unfold ffmaQ; rw [hc]; rfl
   go_wp2_with fail
   refine (bad_impl _).mono ?_
   rintro e w7 ⟨rfl, k7⟩
   revert qf0 qf1 qf2 qf3; refine k7.l4 q0 q1 q2 q3 ?_; intro qf0 qf1 qf2 qf3
   revert p0 p1 p2 p3 t0 t1 t2 t3 u0 u1 u2 u3; refine k7.m12 ?_; intro p0 p1 p2 p3 t0 t1 t2 t3 u0 u1 u2 u3
   revert q0 q1 q2 q3; refine k7.m4 ?_; intro q0 q1 q2 q3
   replace K := hide ((unhide K).trans k7)
   have z8 := k7.size
   clear k7
   have KF := hide (((((unhide K).setNew (p := ⟨w.heap.size + 3, 0, none⟩) (by simp) (.int .i64 3)).setNew (p := ⟨w.heap.size + 3, 1, none⟩) (by simp) (.bool false)).setNew (p := ⟨w.heap.size + 3, 2, none⟩) (by simp) (.int .i64 0)).setNew (p := ⟨w.heap.size + 3, 3, none⟩) (by simp) (.int .i64 0))
   clear K
   try go_wp2_with fail
   exact bodyPost_ret (v := .tuple #[.agg #[.int .i64 3, .bool false, .int .i64 0, .int .i64 0], .int .i64 16]) (by simp [results, Tryz.results8, go_sem, q0, q1, q2, q3]) rfl ⟨by rw [unhide FQ], unhide KF⟩
  refine (flok_impl_k h3 _).mono ?_
  rintro e w5 ⟨rfl, k5⟩
  replace qf0 := k5.loose0 (zbl q0) qf0
  replace qf1 := k5.loose0 (zbl q1) qf1
  replace qf2 := k5.loose0 (zbl q2) qf2
  replace qf3 := k5.loose0 (zbl q3) qf3
  replace p0 := k5.cell0 p0
  replace p1 := k5.cell0 p1
  replace p2 := k5.cell0 p2
  replace p3 := k5.cell0 p3
  replace t0 := k5.cell0 t0
  replace t1 := k5.cell0 t1
  replace t2 := k5.cell0 t2
  replace t3 := k5.cell0 t3
  replace u0 := k5.cell0 u0
  replace u1 := k5.cell0 u1
  replace u2 := k5.cell0 u2
  replace u3 := k5.cell0 u3
  replace q0 := k5.cell0 q0
  replace q1 := k5.cell0 q1
  replace q2 := k5.cell0 q2
  replace q3 := k5.cell0 q3
  replace K := hide ((unhide K).trans k5)
  have z6 := k5.size
  clear k5
  go_wp2_with fail
  refine (isMode_impl mode _).mono ?_
  rintro e wm ⟨rfl, rfl⟩
  cases hm : modeB mode
  ·have FQ : Hid (Q = ((3, false, 0, 0), 16)) := by
    show _ = _
    have hc : okM3 k1 n1 m1 e1 k2 n2 m2 e2 k3 n3 m3 e3 mode = false := by unfold okM3; rw [hm]; simp
    rw [← unhide HQ]; unfold ffmaQ; rw [hc]; rfl
   go_wp2_with fail
   refine (bad_impl _).mono ?_
   rintro e w7 ⟨rfl, k7⟩
   revert qf0 qf1 qf2 qf3; refine k7.l4 q0 q1 q2 q3 ?_; intro qf0 qf1 qf2 qf3
   revert p0 p1 p2 p3 t0 t1 t2 t3 u0 u1 u2 u3; refine k7.m12 ?_; intro p0 p1 p2 p3 t0 t1 t2 t3 u0 u1 u2 u3
   revert q0 q1 q2 q3; refine k7.m4 ?_; intro q0 q1 q2 q3
   replace K := hide ((unhide K).trans k7)
   have z8 := k7.size
   clear k7
   have KF := hide (((((unhide K).setNew (p := ⟨w.heap.size + 3, 0, none⟩) (by simp) (.int .i64 3)).setNew (p := ⟨w.heap.size + 3, 1, none⟩) (by simp) (.bool false)).setNew (p := ⟨w.heap.size + 3, 2, none⟩) (by simp) (.int .i64 0)).setNew (p := ⟨w.heap.size + 3, 3, none⟩) (by simp) (.int .i64 0))
   clear K
   try go_wp2_with fail
   exact bodyPost_ret (v := .tuple #[.agg #[.int .i64 3, .bool false, .int .i64 0, .int .i64 0], .int .i64 16]) (by simp [results, Tryz.results8, go_sem, q0, q1, q2, q3]) rfl ⟨by rw [unhide FQ], unhide KF⟩
  have hc : okM3 k1 n1 m1 e1 k2 n2 m2 e2 k3 n3 m3 e3 mode = true := by unfold okM3; rw [h1, h2, h3, hm]; rfl
  obtain ⟨-, -, -, g3, g4⟩ := okM3_iff hc
  have hM : fmaQ k1 n1 m1 e1 k2 n2 m2 e2 k3 n3 m3 e3 mode = Q := by rw [← unhide HQ]; unfold ffmaQ; rw [hc, if_pos rfl]
  have mm := fun (w : World) (T : TabB w) => maI_any h1 h2 h3 mode g3 g4 w T
  simp only [hM] at mm
  have mf1 := fun w => fo_any h1 w
  obtain ⟨I1, hI1⟩ : ∃ y, ivl k1 n1 m1 e1 = y := ⟨_, rfl⟩
  simp only [hI1] at mf1 mm
  replace mf1 := hide mf1
  have mf2 := fun w => fo_any h2 w
  obtain ⟨I2, hI2⟩ : ∃ y, ivl k2 n2 m2 e2 = y := ⟨_, rfl⟩
  simp only [hI2] at mf2 mm
  replace mf2 := hide mf2
  have mf3 := fun w => fo_any h3 w
  obtain ⟨I3, hI3⟩ : ∃ y, ivl k3 n3 m3 e3 = y := ⟨_, rfl⟩
  simp only [hI3] at mf3 mm
  replace mf3 := hide mf3
  replace mm := hide mm
  clear hc hM hm h1 h2 h3 hI1 hI2 hI3
  go_wp2_with fail
  have kd := (Kept.refl 0 0 wm).drew
  replace qf0 := kd.loose0 (zbl q0) qf0
  replace qf1 := kd.loose0 (zbl q1) qf1
  replace qf2 := kd.loose0 (zbl q2) qf2
  replace qf3 := kd.loose0 (zbl q3) qf3
  replace p0 := kd.cell0 p0
  replace p1 := kd.cell0 p1
  replace p2 := kd.cell0 p2
  replace p3 := kd.cell0 p3
  replace t0 := kd.cell0 t0
  replace t1 := kd.cell0 t1
  replace t2 := kd.cell0 t2
  replace t3 := kd.cell0 t3
  replace u0 := kd.cell0 u0
  replace u1 := kd.cell0 u1
  replace u2 := kd.cell0 u2
  replace u3 := kd.cell0 u3
  replace q0 := kd.cell0 q0
  replace q1 := kd.cell0 q1
  replace q2 := kd.cell0 q2
  replace q3 := kd.cell0 q3
  replace K := hide ((unhide K).trans kd)
  have z7 := kd.size
  clear kd
  refine wp_region_held_drew (S := (fun w' => w'.cell? ⟨w.heap.size, 0, none⟩ = some (.int .i64 k1) ∧ w'.cell? ⟨w.heap.size, 1, none⟩ = some (.bool n1) ∧ w'.cell? ⟨w.heap.size, 2, none⟩ = some (.int .i64 m1) ∧ w'.cell? ⟨w.heap.size, 3, none⟩ = some (.int .i64 e1) ∧ w'.cell? ⟨w.heap.size + 1, 0, none⟩ = some (.int .i64 k2) ∧ w'.cell? ⟨w.heap.size + 1, 1, none⟩ = some (.bool n2) ∧ w'.cell? ⟨w.heap.size + 1, 2, none⟩ = some (.int .i64 m2) ∧ w'.cell? ⟨w.heap.size + 1, 3, none⟩ = some (.int .i64 e2) ∧ w'.cell? ⟨w.heap.size + 2, 0, none⟩ = some (.int .i64 k3) ∧ w'.cell? ⟨w.heap.size + 2, 1, none⟩ = some (.bool n3) ∧ w'.cell? ⟨w.heap.size + 2, 2, none⟩ = some (.int .i64 m3) ∧ w'.cell? ⟨w.heap.size + 2, 3, none⟩ = some (.int .i64 e3))) (by kernel_rfl) ?_ (fun hH => ?_)
  ·exact ⟨p0, p1, p2, p3, t0, t1, t2, t3, u0, u1, u2, u3⟩
  refine wT (i := 0) (v := .agg #[.int .i64 k1, .bool n1, .int .i64 m1, .int .i64 e1]) rfl (Or.inl ⟨by rfl, ?_⟩) hH ?_
  ·intro wq hSw
   try dsimp only at hSw
   go_simp
  try simp only [Act.put, zq1, zq2, zq3, zq4, zq5, zq6]
  refine wT (i := 2) (v := .agg #[.int .i64 k2, .bool n2, .int .i64 m2, .int .i64 e2]) rfl (Or.inl ⟨by rfl, ?_⟩) hH ?_
  ·intro wq hSw
   try dsimp only at hSw
   go_simp
  try simp only [Act.put, zq1, zq2, zq3, zq4, zq5, zq6]
  refine wT (i := 4) (v := .agg #[.int .i64 k3, .bool n3, .int .i64 m3, .int .i64 e3]) rfl (Or.inl ⟨by rfl, ?_⟩) hH ?_
  ·intro wq hSw
   try dsimp only at hSw
   go_simp
  try simp only [Act.put, zq1, zq2, zq3, zq4, zq5, zq6]
  refine wT (i := 6) (v := .int .i64 mode) rfl (Or.inl ⟨by rfl, ?_⟩) hH ?_
  ·intro wq hSw
   try dsimp only at hSw
   go_simp
  try simp only [Act.put, zq1, zq2, zq3, zq4, zq5, zq6]
  refine wR 1 (by kernel_rfl) rfl (fun KK hK => ?_)
  simp only [zq1, zq2, zq3]
  rw [if_pos (by rfl)]
  refine wps1 38 (.tmp 31) _ rfl in_impl_floatOf_m (.agg #[.int .i64 k1, .bool n1, .int .i64 m1, .int .i64 e1]) rfl (unhide mf1 _) ?_
  rintro e w8 ⟨rfl, k8⟩
  refine ⟨_, rfl, ?_⟩
  revert qf0 qf1 qf2 qf3; refine k8.l4 q0 q1 q2 q3 ?_; intro qf0 qf1 qf2 qf3
  revert p0 p1 p2 p3 t0 t1 t2 t3 u0 u1 u2 u3; refine k8.m12 ?_; intro p0 p1 p2 p3 t0 t1 t2 t3 u0 u1 u2 u3
  revert q0 q1 q2 q3; refine k8.m4 ?_; intro q0 q1 q2 q3
  replace K := hide ((unhide K).trans k8)
  have z9 := k8.size
  clear k8
  clear hH
  refine hK.out _ _ ?_ (fun hH => ?_)
  ·exact ⟨p0, p1, p2, p3, t0, t1, t2, t3, u0, u1, u2, u3⟩
  clear hK KK
  try simp only [Act.put, zq1, zq2, zq3, zq4, zq5, zq6]
  refine wR 3 (by kernel_rfl) rfl (fun KK hK => ?_)
  simp only [zq1, zq2, zq3]
  rw [if_pos (by rfl)]
  refine wps1 38 (.tmp 33) _ rfl in_impl_floatOf_m (.agg #[.int .i64 k2, .bool n2, .int .i64 m2, .int .i64 e2]) rfl (unhide mf2 _) ?_
  rintro e w10 ⟨rfl, k10⟩
  refine ⟨_, rfl, ?_⟩
  revert qf0 qf1 qf2 qf3; refine k10.l4 q0 q1 q2 q3 ?_; intro qf0 qf1 qf2 qf3
  revert p0 p1 p2 p3 t0 t1 t2 t3 u0 u1 u2 u3; refine k10.m12 ?_; intro p0 p1 p2 p3 t0 t1 t2 t3 u0 u1 u2 u3
  revert q0 q1 q2 q3; refine k10.m4 ?_; intro q0 q1 q2 q3
  replace K := hide ((unhide K).trans k10)
  have z11 := k10.size
  clear k10
  clear hH
  refine hK.out _ _ ?_ (fun hH => ?_)
  ·exact ⟨p0, p1, p2, p3, t0, t1, t2, t3, u0, u1, u2, u3⟩
  clear hK KK
  try simp only [Act.put, zq1, zq2, zq3, zq4, zq5, zq6]
  refine wR 5 (by kernel_rfl) rfl (fun KK hK => ?_)
  simp only [zq1, zq2, zq3]
  rw [if_pos (by rfl)]
  refine wps1 38 (.tmp 35) _ rfl in_impl_floatOf_m (.agg #[.int .i64 k3, .bool n3, .int .i64 m3, .int .i64 e3]) rfl (unhide mf3 _) ?_
  rintro e w12 ⟨rfl, k12⟩
  refine ⟨_, rfl, ?_⟩
  revert qf0 qf1 qf2 qf3; refine k12.l4 q0 q1 q2 q3 ?_; intro qf0 qf1 qf2 qf3
  revert p0 p1 p2 p3 t0 t1 t2 t3 u0 u1 u2 u3; refine k12.m12 ?_; intro p0 p1 p2 p3 t0 t1 t2 t3 u0 u1 u2 u3
  revert q0 q1 q2 q3; refine k12.m4 ?_; intro q0 q1 q2 q3
  replace K := hide ((unhide K).trans k12)
  have z13 := k12.size
  clear k12
  clear hH
  refine hK.out _ _ ?_ (fun hH => ?_)
  ·exact ⟨p0, p1, p2, p3, t0, t1, t2, t3, u0, u1, u2, u3⟩
  clear hK KK
  try simp only [Act.put, zq1, zq2, zq3, zq4, zq5, zq6]
  refine wR 7 (by kernel_rfl) rfl (fun KK hK => ?_)
  simp only [zq1, zq2, zq3]
  rw [if_pos (by rfl)]
  refine wps4 37 (.tmp 32) (.tmp 34) (.tmp 36) (.tmp 37) _ rfl in_impl_multiplyAndAdd_m I1 I2 I3 (.int .i64 mode) rfl rfl rfl rfl (unhide mm _ (T.kept (unhide K))) ?_
  rintro e w14 ⟨rfl, k14⟩
  refine ⟨_, rfl, ?_⟩
  revert qf0 qf1 qf2 qf3; refine k14.l4 q0 q1 q2 q3 ?_; intro qf0 qf1 qf2 qf3
  revert p0 p1 p2 p3 t0 t1 t2 t3 u0 u1 u2 u3; refine k14.m12 ?_; intro p0 p1 p2 p3 t0 t1 t2 t3 u0 u1 u2 u3
  revert q0 q1 q2 q3; refine k14.m4 ?_; intro q0 q1 q2 q3
  replace K := hide ((unhide K).trans k14)
  have z15 := k14.size
  clear k14
  clear hH
  refine hK.out _ _ ?_ (fun hH => ?_)
  ·exact ⟨p0, p1, p2, p3, t0, t1, t2, t3, u0, u1, u2, u3⟩
  clear hK KK
  try simp only [Act.put, zq1, zq2, zq3, zq4, zq5, zq6]
  refine wT (i := 8) (v := .agg #[.int .i64 Q.1.1, .bool Q.1.2.1, .int .i64 Q.1.2.2.1, .int .i64 Q.1.2.2.2]) rfl (Or.inl ⟨by rfl, ?_⟩) hH ?_
  ·intro wq hSw
   try dsimp only at hSw
   go_simp
  try simp only [Act.put, zq1, zq2, zq3, zq4, zq5, zq6]
  refine wT (i := 9) (v := .int .i64 Q.2) rfl (Or.inl ⟨by rfl, ?_⟩) hH ?_
  ·intro wq hSw
   try dsimp only at hSw
   go_simp
  try simp only [Act.put, zq1, zq2, zq3, zq4, zq5, zq6]
  refine wR 10 (by kernel_rfl) rfl (fun KK hK => ?_)
  simp only [zq1, zq2, zq3]
  rw [if_pos (by rfl)]
  go_simp
  clear hH
  refine hK.out _ _ ?_ (fun hH => ?_)
  ·have sq := unhide S0; exact ⟨(cell_aside _ (by dsimp only; omega) (cw3 (by dsimp only; omega) p0)), (cell_aside _ (by dsimp only; omega) (cw3 (by dsimp only; omega) p1)), (cell_aside _ (by dsimp only; omega) (cw3 (by dsimp only; omega) p2)), (cell_aside _ (by dsimp only; omega) (cw3 (by dsimp only; omega) p3)), (cell_aside _ (by dsimp only; omega) (cw3 (by dsimp only; omega) t0)), (cell_aside _ (by dsimp only; omega) (cw3 (by dsimp only; omega) t1)), (cell_aside _ (by dsimp only; omega) (cw3 (by dsimp only; omega) t2)), (cell_aside _ (by dsimp only; omega) (cw3 (by dsimp only; omega) t3)), (cell_aside _ (by dsimp only; omega) (cw3 (by dsimp only; omega) u0)), (cell_aside _ (by dsimp only; omega) (cw3 (by dsimp only; omega) u1)), (cell_aside _ (by dsimp only; omega) (cw3 (by dsimp only; omega) u2)), (cell_aside _ (by dsimp only; omega) (cw3 (by dsimp only; omega) u3))⟩
  clear hK KK
  try simp only [Act.put, zq1, zq2, zq3, zq4, zq5, zq6]
  refine wT (i := 11) (v := .int .i64 Q.2) rfl (Or.inl ⟨by rfl, ?_⟩) hH ?_
  ·intro wq hSw
   try dsimp only at hSw
   go_simp
  try simp only [Act.put, zq1, zq2, zq3, zq4, zq5, zq6]
  refine wpAnyH_done (by kernel_rfl) ?_ _
  clear hH
  have KF := hide (((((unhide K).setNew (p := ⟨w.heap.size + 3, 0, none⟩) (by simp) (.int .i64 Q.1.1)).setNew (p := ⟨w.heap.size + 3, 1, none⟩) (by simp) (.bool Q.1.2.1)).setNew (p := ⟨w.heap.size + 3, 2, none⟩) (by simp) (.int .i64 Q.1.2.2.1)).setNew (p := ⟨w.heap.size + 3, 3, none⟩) (by simp) (.int .i64 Q.1.2.2.2))
  clear K
  try go_wp2_with fail
  exact bodyPost_ret (v := .tuple #[.agg #[.int .i64 Q.1.1, .bool Q.1.2.1, .int .i64 Q.1.2.2.1, .int .i64 Q.1.2.2.2], .int .i64 Q.2]) (by simp [results, Tryz.results8, go_sem, q0, q1, q2, q3]) rfl ⟨rfl, unhide KF⟩

end Go.Proofs.YtepehpkmejjhiaaGreatDoor

