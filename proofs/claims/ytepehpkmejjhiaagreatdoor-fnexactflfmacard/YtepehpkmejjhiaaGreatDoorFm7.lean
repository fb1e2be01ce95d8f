/-
  A product and a sum of floats, rounded once: FlFma of the model, all floats; the law's walk.
-/
import Derived.Test.YtepehpkmejjhiaaGreatDoorFm6
import Derived.Test.YtepehpkmejjhiaaGreatDoorBD
import Derived.Deep.RegionHeld3
import Derived.Deep.DeepCutAuto
namespace Go.Proofs.YtepehpkmejjhiaaGreatDoor
open Go.RowKit
set_option linter.unusedVariables false
set_option maxRecDepth 8000
set_option linter.unusedSimpArgs false

theorem in_laws_toFl_m : ∀ (w : World) (args : Array Value), (callFunc 25 args).run Tryz.prog w = .ok (.enter 25 args) w := enters Tryz.func25 (by decide) (fun h => by cases h)

theorem in_spec_FlFma_m : ∀ (w : World) (args : Array Value), (callFunc 24 args).run Tryz.prog w = .ok (.enter 24 args) w := enters Tryz.func24 (by decide) (fun h => by cases h)

theorem in_impl_FlFma_m : ∀ (w : World) (args : Array Value), (callFunc 8 args).run Tryz.prog w = .ok (.enter 8 args) w := enters Tryz.func8 (by decide) (fun h => by cases h)

theorem fmaS_any {k1 : Int} {n1 : Bool} {m1 e1 k2 : Int} {n2 : Bool} {m2 e2 k3 : Int} {n3 : Bool} {m3 e3 : Int} (h1 : flok k1 n1 m1 e1 = true) (h2 : flok k2 n2 m2 e2 = true) (h3 : flok k3 n3 m3 e3 = true) (mode : Int) (hm0 : 0 ≤ mode) (hm4 : mode ≤ 4) (w : World) :
    Calls Tryz.prog 24 #[flv k1 n1 m1 e1, flv k2 n2 m2 e2, flv k3 n3 m3 e3, .int .i64 mode] w fun e' w' => e' = .returned (.tuple #[flq (fmaQ k1 n1 m1 e1 k2 n2 m2 e2 k3 n3 m3 e3 mode).1, .int .i64 (fmaQ k1 n1 m1 e1 k2 n2 m2 e2 k3 n3 m3 e3 mode).2]) ∧ Kept 0 0 w w' := by
  by_cases hs : 2 ≤ k1 ∨ 2 ≤ k2
  ·exact fmaS_sp h1 h2 h3 hs mode hm0 hm4 w
  by_cases c2 : 2 ≤ k3
  ·exact fmaS_c h1 h2 h3 (by omega) (by omega) c2 mode hm0 hm4 w
  ·exact fmaS_fin h1 h2 h3 (by omega) (by omega) (by omega) mode hm0 hm4 w

set_option maxHeartbeats 2000000 in
theorem flfma_spec (k1 : Int) (n1 : Bool) (m1 e1 k2 : Int) (n2 : Bool) (m2 e2 k3 : Int) (n3 : Bool) (m3 e3 mode : Int) (w : World) :
    Calls Tryz.prog 24 #[flv k1 n1 m1 e1, flv k2 n2 m2 e2, flv k3 n3 m3 e3, .int .i64 mode] w fun e' w' => e' = .returned (.tuple #[flq (ffmaQ k1 n1 m1 e1 k2 n2 m2 e2 k3 n3 m3 e3 mode).1, .int .i64 (ffmaQ k1 n1 m1 e1 k2 n2 m2 e2 k3 n3 m3 e3 mode).2]) ∧ Kept 0 0 w w' := by
  by_cases hc3 : okM3 k1 n1 m1 e1 k2 n2 m2 e2 k3 n3 m3 e3 mode = true
  ·obtain ⟨h1, h2, h3, hm0, hm4⟩ := okM3_iff hc3
   rw [show ffmaQ k1 n1 m1 e1 k2 n2 m2 e2 k3 n3 m3 e3 mode = fmaQ k1 n1 m1 e1 k2 n2 m2 e2 k3 n3 m3 e3 mode by unfold ffmaQ; rw [if_pos hc3]]
   exact fmaS_any h1 h2 h3 mode hm0 hm4 w
  rw [show ffmaQ k1 n1 m1 e1 k2 n2 m2 e2 k3 n3 m3 e3 mode = ((3, false, 0, 0), 16) by unfold ffmaQ; rw [if_neg hc3]]
  obtain ⟨Wn, hn0⟩ : ∃ wz, wz = ((((w.alloc (.cells #[.int .i64 k1, .bool n1, .int .i64 m1, .int .i64 e1] 24)).alloc (.cells #[.int .i64 k2, .bool n2, .int .i64 m2, .int .i64 e2] 24)).alloc (.cells #[.int .i64 k3, .bool n3, .int .i64 m3, .int .i64 e3] 24)).alloc (.cells #[.int .i64 0, .bool false, .int .i64 0, .int .i64 0] 24)) := ⟨_, rfl⟩
  have k0 : Kept 0 0 w Wn := by rw [hn0]; exact (((((Kept.refl 0 0 w).alloc _).alloc _).alloc _).alloc _)
  have p0 : Wn.cell? ⟨w.heap.size, 0, none⟩ = some (.int .i64 k1) := by rw [hn0]; exact old_cell _ (old_cell _ (old_cell _ (new_cell2 _ _ _ _ _ _ (by simp) rfl)))
  have p1 : Wn.cell? ⟨w.heap.size, 1, none⟩ = some (.bool n1) := by rw [hn0]; exact old_cell _ (old_cell _ (old_cell _ (new_cell2 _ _ _ _ _ _ (by simp) rfl)))
  have p2 : Wn.cell? ⟨w.heap.size, 2, none⟩ = some (.int .i64 m1) := by rw [hn0]; exact old_cell _ (old_cell _ (old_cell _ (new_cell2 _ _ _ _ _ _ (by simp) rfl)))
  have p3 : Wn.cell? ⟨w.heap.size, 3, none⟩ = some (.int .i64 e1) := by rw [hn0]; exact old_cell _ (old_cell _ (old_cell _ (new_cell2 _ _ _ _ _ _ (by simp) rfl)))
  have t0 : Wn.cell? ⟨w.heap.size + 1, 0, none⟩ = some (.int .i64 k2) := by rw [hn0]; exact old_cell _ (old_cell _ (new_cell2 _ _ _ _ _ _ (by simp) rfl))
  have t1 : Wn.cell? ⟨w.heap.size + 1, 1, none⟩ = some (.bool n2) := by rw [hn0]; exact old_cell _ (old_cell _ (new_cell2 _ _ _ _ _ _ (by simp) rfl))
  have t2 : Wn.cell? ⟨w.heap.size + 1, 2, none⟩ = some (.int .i64 m2) := by rw [hn0]; exact old_cell _ (old_cell _ (new_cell2 _ _ _ _ _ _ (by simp) rfl))
  have t3 : Wn.cell? ⟨w.heap.size + 1, 3, none⟩ = some (.int .i64 e2) := by rw [hn0]; exact old_cell _ (old_cell _ (new_cell2 _ _ _ _ _ _ (by simp) rfl))
  have u0 : Wn.cell? ⟨w.heap.size + 2, 0, none⟩ = some (.int .i64 k3) := by rw [hn0]; exact old_cell _ (new_cell2 _ _ _ _ _ _ (by simp) rfl)
  have u1 : Wn.cell? ⟨w.heap.size + 2, 1, none⟩ = some (.bool n3) := by rw [hn0]; exact old_cell _ (new_cell2 _ _ _ _ _ _ (by simp) rfl)
  have u2 : Wn.cell? ⟨w.heap.size + 2, 2, none⟩ = some (.int .i64 m3) := by rw [hn0]; exact old_cell _ (new_cell2 _ _ _ _ _ _ (by simp) rfl)
  have u3 : Wn.cell? ⟨w.heap.size + 2, 3, none⟩ = some (.int .i64 e3) := by rw [hn0]; exact old_cell _ (new_cell2 _ _ _ _ _ _ (by simp) rfl)
  obtain ⟨q0, q1, q2, q3, qf0, qf1, qf2, qf3⟩ := new4 hn0 (n := w.heap.size + 3) (by simp)
  have s0 : Wn.heap.size = w.heap.size + 4 := by rw [hn0]; exact by simp
  subst hn0
  have K := hide (k0)
  clear k0
  have S0 := hide s0
  clear s0
  go_enter Tryz.func24, Tryz.ntmps24
  go_wp2_with fail
  generalize ((((w.alloc (.cells #[.int .i64 k1, .bool n1, .int .i64 m1, .int .i64 e1] 24)).alloc (.cells #[.int .i64 k2, .bool n2, .int .i64 m2, .int .i64 e2] 24)).alloc (.cells #[.int .i64 k3, .bool n3, .int .i64 m3, .int .i64 e3] 24)).alloc (.cells #[.int .i64 0, .bool false, .int .i64 0, .int .i64 0] 24)) = W at *
  have mo := l5ok_spec k1 n1 m1 e1 k2 n2 m2 e2 mode W
  cases hc : okM k1 n1 m1 e1 k2 n2 m2 e2 mode
  ·rw [hc] at mo
   clear hc hc3
   refine (mo).mono ?_
   rintro e w1 ⟨rfl, k1⟩
   revert qf0 qf1 qf2 qf3; refine k1.l4 q0 q1 q2 q3 ?_; intro qf0 qf1 qf2 qf3
   revert p0 p1 p2 p3 t0 t1 t2 t3 u0 u1 u2 u3; refine k1.m12 ?_; intro p0 p1 p2 p3 t0 t1 t2 t3 u0 u1 u2 u3
   revert q0 q1 q2 q3; refine k1.m4 ?_; intro q0 q1 q2 q3
   replace K := hide ((unhide K).trans k1)
   have z2 := k1.size
   clear k1
   clear mo
   go_wp2_with fail
   refine (bad_spec _).mono ?_
   rintro e w3 ⟨rfl, k3⟩
   revert qf0 qf1 qf2 qf3; refine k3.l4 q0 q1 q2 q3 ?_; intro qf0 qf1 qf2 qf3
   revert p0 p1 p2 p3 t0 t1 t2 t3 u0 u1 u2 u3; refine k3.m12 ?_; intro p0 p1 p2 p3 t0 t1 t2 t3 u0 u1 u2 u3
   revert q0 q1 q2 q3; refine k3.m4 ?_; intro q0 q1 q2 q3
   replace K := hide ((unhide K).trans k3)
   have z4 := k3.size
   clear k3
   have KF := hide (((((unhide K).setNew (p := ⟨w.heap.size + 3, 0, none⟩) (by simp) (.int .i64 3)).setNew (p := ⟨w.heap.size + 3, 1, none⟩) (by simp) (.bool false)).setNew (p := ⟨w.heap.size + 3, 2, none⟩) (by simp) (.int .i64 0)).setNew (p := ⟨w.heap.size + 3, 3, none⟩) (by simp) (.int .i64 0))
   clear K
   try go_wp2_with fail
   exact bodyPost_ret (v := .tuple #[.agg #[.int .i64 3, .bool false, .int .i64 0, .int .i64 0], .int .i64 16]) (by simp [results, Tryz.results24, go_sem, q0, q1, q2, q3]) rfl ⟨rfl, unhide KF⟩
  rw [hc] at mo
  have h3 : flok k3 n3 m3 e3 = false := by
   cases h3 : flok k3 n3 m3 e3
   ·rfl
   ·exfalso
    apply hc3
    obtain ⟨g1, g2, g3, g4⟩ := okM_iff hc
    unfold okM3 modeB
    rw [g1, g2, h3, decide_eq_true g3, decide_eq_true g4]
    rfl
  clear hc hc3
  refine (mo).mono ?_
  rintro e w1 ⟨rfl, k1⟩
  replace qf0 := k1.loose0 (zbl q0) qf0
  replace qf1 := k1.loose0 (zbl q1) qf1
  replace qf2 := k1.loose0 (zbl q2) qf2
  replace qf3 := k1.loose0 (zbl q3) qf3
  replace p0 := k1.cell0 p0
  replace p1 := k1.cell0 p1
  replace p2 := k1.cell0 p2
  replace p3 := k1.cell0 p3
  replace t0 := k1.cell0 t0
  replace t1 := k1.cell0 t1
  replace t2 := k1.cell0 t2
  replace t3 := k1.cell0 t3
  replace u0 := k1.cell0 u0
  replace u1 := k1.cell0 u1
  replace u2 := k1.cell0 u2
  replace u3 := k1.cell0 u3
  replace q0 := k1.cell0 q0
  replace q1 := k1.cell0 q1
  replace q2 := k1.cell0 q2
  replace q3 := k1.cell0 q3
  replace K := hide ((unhide K).trans k1)
  have z2 := k1.size
  clear k1
  clear mo
  go_wp2_with fail
  have mc := fun w => flok_spec_k h3 w
  replace mc := hide mc
  clear h3
  refine (unhide mc _).mono ?_
  rintro e w3 ⟨rfl, k3⟩
  revert qf0 qf1 qf2 qf3; refine k3.l4 q0 q1 q2 q3 ?_; intro qf0 qf1 qf2 qf3
  revert p0 p1 p2 p3 t0 t1 t2 t3 u0 u1 u2 u3; refine k3.m12 ?_; intro p0 p1 p2 p3 t0 t1 t2 t3 u0 u1 u2 u3
  revert q0 q1 q2 q3; refine k3.m4 ?_; intro q0 q1 q2 q3
  replace K := hide ((unhide K).trans k3)
  have z4 := k3.size
  clear k3
  clear mc
  go_wp2_with fail
  refine (bad_spec _).mono ?_
  rintro e w5 ⟨rfl, k5⟩
  revert qf0 qf1 qf2 qf3; refine k5.l4 q0 q1 q2 q3 ?_; intro qf0 qf1 qf2 qf3
  revert p0 p1 p2 p3 t0 t1 t2 t3 u0 u1 u2 u3; refine k5.m12 ?_; intro p0 p1 p2 p3 t0 t1 t2 t3 u0 u1 u2 u3
  revert q0 q1 q2 q3; refine k5.m4 ?_; intro q0 q1 q2 q3
  replace K := hide ((unhide K).trans k5)
  have z6 := k5.size
  clear k5
  have KF := hide (((((unhide K).setNew (p := ⟨w.heap.size + 3, 0, none⟩) (by simp) (.int .i64 3)).setNew (p := ⟨w.heap.size + 3, 1, none⟩) (by simp) (.bool false)).setNew (p := ⟨w.heap.size + 3, 2, none⟩) (by simp) (.int .i64 0)).setNew (p := ⟨w.heap.size + 3, 3, none⟩) (by simp) (.int .i64 0))
  clear K
  try go_wp2_with fail
  exact bodyPost_ret (v := .tuple #[.agg #[.int .i64 3, .bool false, .int .i64 0, .int .i64 0], .int .i64 16]) (by simp [results, Tryz.results24, go_sem, q0, q1, q2, q3]) rfl ⟨rfl, unhide KF⟩

theorem eqFl_k2 (k : Int) (n : Bool) (m e : Int) (w : World) :
    Calls Tryz.prog 26 #[flv k n m e, flv k n m e] w fun r w' => r = .returned (.bool true) ∧ Kept 0 0 w w' :=
  (eqFl_same k n m e w).mono (fun e w' h => ⟨h.1, by rw [h.2]; exact ((Kept.refl 0 0 w).alloc _).alloc _⟩)

set_option maxHeartbeats 4000000 in
theorem law_FlFma (k1 : Int) (n1 : Bool) (m1 e1 : Int) (_ : (Lit.int .i64 m1).wf = true) (_ : (Lit.int .i64 e1).wf = true) (k2 : Int) (n2 : Bool) (m2 e2 : Int) (_ : (Lit.int .i64 m2).wf = true) (_ : (Lit.int .i64 e2).wf = true) (k3 : Int) (n3 : Bool) (m3 e3 : Int) (_ : (Lit.int .i64 m3).wf = true) (_ : (Lit.int .i64 e3).wf = true) (mode : Int) (_ : (Lit.int .i64 mode).wf = true) (w : World) (T : TabB w) :
    Calls Tryz.prog 5 #[flv k1 n1 m1 e1, flv k2 n2 m2 e2, flv k3 n3 m3 e3, .int .i64 mode] w fun e w' => e = .returned (.bool true) ∧ Below w.heap.size w w' := by
  obtain ⟨Q, hQ⟩ : ∃ q, ffmaQ k1 n1 m1 e1 k2 n2 m2 e2 k3 n3 m3 e3 mode = q := ⟨_, rfl⟩
  have ms := fun w => flfma_spec k1 n1 m1 e1 k2 n2 m2 e2 k3 n3 m3 e3 mode w
  have mi := fun (w : World) (T : TabB w) => flfma_impl k1 n1 m1 e1 k2 n2 m2 e2 k3 n3 m3 e3 mode w T
  simp only [hQ] at ms mi
  replace ms := hide ms
  replace mi := hide mi
  clear hQ
  obtain ⟨Wn, hn0⟩ : ∃ wz, wz = (((w.alloc (.cells #[.int .i64 k1, .bool n1, .int .i64 m1, .int .i64 e1] 52)).alloc (.cells #[.int .i64 k2, .bool n2, .int .i64 m2, .int .i64 e2] 52)).alloc (.cells #[.int .i64 k3, .bool n3, .int .i64 m3, .int .i64 e3] 52)) := ⟨_, rfl⟩
  have k0 : Kept 0 0 w Wn := by rw [hn0]; exact ((((Kept.refl 0 0 w).alloc _).alloc _).alloc _)
  have p0 : Wn.cell? ⟨w.heap.size, 0, none⟩ = some (.int .i64 k1) := by rw [hn0]; exact old_cell _ (old_cell _ (new_cell2 _ _ _ _ _ _ (by simp) rfl))
  have p1 : Wn.cell? ⟨w.heap.size, 1, none⟩ = some (.bool n1) := by rw [hn0]; exact old_cell _ (old_cell _ (new_cell2 _ _ _ _ _ _ (by simp) rfl))
  have p2 : Wn.cell? ⟨w.heap.size, 2, none⟩ = some (.int .i64 m1) := by rw [hn0]; exact old_cell _ (old_cell _ (new_cell2 _ _ _ _ _ _ (by simp) rfl))
  have p3 : Wn.cell? ⟨w.heap.size, 3, none⟩ = some (.int .i64 e1) := by rw [hn0]; exact old_cell _ (old_cell _ (new_cell2 _ _ _ _ _ _ (by simp) rfl))
  have t0 : Wn.cell? ⟨w.heap.size + 1, 0, none⟩ = some (.int .i64 k2) := by rw [hn0]; exact old_cell _ (new_cell2 _ _ _ _ _ _ (by simp) rfl)
  have t1 : Wn.cell? ⟨w.heap.size + 1, 1, none⟩ = some (.bool n2) := by rw [hn0]; exact old_cell _ (new_cell2 _ _ _ _ _ _ (by simp) rfl)
  have t2 : Wn.cell? ⟨w.heap.size + 1, 2, none⟩ = some (.int .i64 m2) := by rw [hn0]; exact old_cell _ (new_cell2 _ _ _ _ _ _ (by simp) rfl)
  have t3 : Wn.cell? ⟨w.heap.size + 1, 3, none⟩ = some (.int .i64 e2) := by rw [hn0]; exact old_cell _ (new_cell2 _ _ _ _ _ _ (by simp) rfl)
  have u0 : Wn.cell? ⟨w.heap.size + 2, 0, none⟩ = some (.int .i64 k3) := by rw [hn0]; exact new_cell2 _ _ _ _ _ _ (by simp) rfl
  have u1 : Wn.cell? ⟨w.heap.size + 2, 1, none⟩ = some (.bool n3) := by rw [hn0]; exact new_cell2 _ _ _ _ _ _ (by simp) rfl
  have u2 : Wn.cell? ⟨w.heap.size + 2, 2, none⟩ = some (.int .i64 m3) := by rw [hn0]; exact new_cell2 _ _ _ _ _ _ (by simp) rfl
  have u3 : Wn.cell? ⟨w.heap.size + 2, 3, none⟩ = some (.int .i64 e3) := by rw [hn0]; exact new_cell2 _ _ _ _ _ _ (by simp) rfl
  have s0 : Wn.heap.size = w.heap.size + 3 := by rw [hn0]; exact by simp
  subst hn0
  have K := hide (k0)
  clear k0
  have S0 := hide s0
  clear s0
  go_enter Tryz.func5, Tryz.ntmps5
  go_upto_region 1 with fail
  generalize (((w.alloc (.cells #[.int .i64 k1, .bool n1, .int .i64 m1, .int .i64 e1] 52)).alloc (.cells #[.int .i64 k2, .bool n2, .int .i64 m2, .int .i64 e2] 52)).alloc (.cells #[.int .i64 k3, .bool n3, .int .i64 m3, .int .i64 e3] 52)) = W at *
  go_cut [9, 10] (fun p g wx => ∃ X, p = .pointer (some ⟨X, 0, none⟩) ∧ g = .int .i64 Q.2 ∧ FB wx X Q.1.1 Q.1.2.1 Q.1.2.2.1 Q.1.2.2.2 ∧ Kept 0 0 W wx)
  case first =>
   have kw := Kept.refl 0 0 W
   have kd := (Kept.refl 0 0 W).drew
   replace kw := kw.trans kd
   revert p0 p1 p2 p3 t0 t1 t2 t3 u0 u1 u2 u3; refine kd.m12 ?_; intro p0 p1 p2 p3 t0 t1 t2 t3 u0 u1 u2 u3
   replace K := hide ((unhide K).trans kd)
   have z1 := kd.size
   clear kd
   refine wp_region_held_drew (S := (fun w' => w'.cell? ⟨w.heap.size, 0, none⟩ = some (.int .i64 k1) ∧ w'.cell? ⟨w.heap.size, 1, none⟩ = some (.bool n1) ∧ w'.cell? ⟨w.heap.size, 2, none⟩ = some (.int .i64 m1) ∧ w'.cell? ⟨w.heap.size, 3, none⟩ = some (.int .i64 e1) ∧ w'.cell? ⟨w.heap.size + 1, 0, none⟩ = some (.int .i64 k2) ∧ w'.cell? ⟨w.heap.size + 1, 1, none⟩ = some (.bool n2) ∧ w'.cell? ⟨w.heap.size + 1, 2, none⟩ = some (.int .i64 m2) ∧ w'.cell? ⟨w.heap.size + 1, 3, none⟩ = some (.int .i64 e2) ∧ w'.cell? ⟨w.heap.size + 2, 0, none⟩ = some (.int .i64 k3) ∧ w'.cell? ⟨w.heap.size + 2, 1, none⟩ = some (.bool n3) ∧ w'.cell? ⟨w.heap.size + 2, 2, none⟩ = some (.int .i64 m3) ∧ w'.cell? ⟨w.heap.size + 2, 3, none⟩ = some (.int .i64 e3))) (by kernel_rfl) ?_ (fun hH => ?_)
   ·exact ⟨p0, p1, p2, p3, t0, t1, t2, t3, u0, u1, u2, u3⟩
   generalize W.drew = wd2 at *
   refine wT (i := 0) (v := .agg #[.int .i64 k1, .bool n1, .int .i64 m1, .int .i64 e1]) rfl (Or.inl ⟨by rfl, ?_⟩) hH ?_
   ·intro wq hSw
    try dsimp only at hSw
    go_simp
   try simp only [Act.put, zq1, zq2, zq3, zq4, zq5, zq6]
   refine wT (i := 2) (v := .agg #[.int .i64 k2, .bool n2, .int .i64 m2, .int .i64 e2]) rfl (Or.inl ⟨by rfl, ?_⟩) hH ?_
   ·intro wq hSw
    try dsimp only at hSw
    go_simp
   try simp only [Act.put, zq1, zq2, zq3, zq4, zq5, zq6]
   refine wT (i := 4) (v := .agg #[.int .i64 k3, .bool n3, .int .i64 m3, .int .i64 e3]) rfl (Or.inl ⟨by rfl, ?_⟩) hH ?_
   ·intro wq hSw
    try dsimp only at hSw
    go_simp
   try simp only [Act.put, zq1, zq2, zq3, zq4, zq5, zq6]
   refine wT (i := 6) (v := .int .i64 mode) rfl (Or.inl ⟨by rfl, ?_⟩) hH ?_
   ·intro wq hSw
    try dsimp only at hSw
    go_simp
   try simp only [Act.put, zq1, zq2, zq3, zq4, zq5, zq6]
   refine wpAnyH_ready (rs := [1, 11]) (by kernel_rfl) (by simp) ?_
   refine AllReadyH.cons rfl (fun KK hK => ?_) (AllReadyH.cons rfl (fun KK hK => ?_) AllReadyH.nil)
   ·simp only [zq1, zq2, zq3]
    rw [if_pos (by rfl)]
    refine wps1 25 (.tmp 14) _ rfl in_laws_toFl_m (.agg #[.int .i64 k1, .bool n1, .int .i64 m1, .int .i64 e1]) rfl (toFl_k k1 n1 m1 e1 _) ?_
    rintro e w3 ⟨rfl, k3⟩
    refine ⟨_, rfl, ?_⟩
    replace kw := kw.trans k3
    revert p0 p1 p2 p3 t0 t1 t2 t3 u0 u1 u2 u3; refine k3.m12 ?_; intro p0 p1 p2 p3 t0 t1 t2 t3 u0 u1 u2 u3
    replace K := hide ((unhide K).trans k3)
    have z4 := k3.size
    clear k3
    clear hH
    refine hK.out _ _ ?_ (fun hH => ?_)
    ·exact ⟨p0, p1, p2, p3, t0, t1, t2, t3, u0, u1, u2, u3⟩
    clear hK KK
    try simp only [Act.put, zq1, zq2, zq3, zq4, zq5, zq6]
    refine wpAnyH_ready (rs := [3, 11]) (by kernel_rfl) (by simp) ?_
    refine AllReadyH.cons rfl (fun KK hK => ?_) (AllReadyH.cons rfl (fun KK hK => ?_) AllReadyH.nil)
    ·simp only [zq1, zq2, zq3]
     rw [if_pos (by rfl)]
     refine wps1 25 (.tmp 16) _ rfl in_laws_toFl_m (.agg #[.int .i64 k2, .bool n2, .int .i64 m2, .int .i64 e2]) rfl (toFl_k k2 n2 m2 e2 _) ?_
     rintro e w5 ⟨rfl, k5⟩
     refine ⟨_, rfl, ?_⟩
     replace kw := kw.trans k5
     revert p0 p1 p2 p3 t0 t1 t2 t3 u0 u1 u2 u3; refine k5.m12 ?_; intro p0 p1 p2 p3 t0 t1 t2 t3 u0 u1 u2 u3
     replace K := hide ((unhide K).trans k5)
     have z6 := k5.size
     clear k5
     clear hH
     refine hK.out _ _ ?_ (fun hH => ?_)
     ·exact ⟨p0, p1, p2, p3, t0, t1, t2, t3, u0, u1, u2, u3⟩
     clear hK KK
     try simp only [Act.put, zq1, zq2, zq3, zq4, zq5, zq6]
     refine wpAnyH_ready (rs := [5, 11]) (by kernel_rfl) (by simp) ?_
     refine AllReadyH.cons rfl (fun KK hK => ?_) (AllReadyH.cons rfl (fun KK hK => ?_) AllReadyH.nil)
     ·simp only [zq1, zq2, zq3]
      rw [if_pos (by rfl)]
      refine wps1 25 (.tmp 18) _ rfl in_laws_toFl_m (.agg #[.int .i64 k3, .bool n3, .int .i64 m3, .int .i64 e3]) rfl (toFl_k k3 n3 m3 e3 _) ?_
      rintro e w7 ⟨rfl, k7⟩
      refine ⟨_, rfl, ?_⟩
      replace kw := kw.trans k7
      revert p0 p1 p2 p3 t0 t1 t2 t3 u0 u1 u2 u3; refine k7.m12 ?_; intro p0 p1 p2 p3 t0 t1 t2 t3 u0 u1 u2 u3
      replace K := hide ((unhide K).trans k7)
      have z8 := k7.size
      clear k7
      clear hH
      refine hK.out _ _ ?_ (fun hH => ?_)
      ·exact ⟨p0, p1, p2, p3, t0, t1, t2, t3, u0, u1, u2, u3⟩
      clear hK KK
      try simp only [Act.put, zq1, zq2, zq3, zq4, zq5, zq6]
      refine wpAnyH_ready (rs := [7, 11]) (by kernel_rfl) (by simp) ?_
      refine AllReadyH.cons rfl (fun KK hK => ?_) (AllReadyH.cons rfl (fun KK hK => ?_) AllReadyH.nil)
      ·simp only [zq1, zq2, zq3]
       rw [if_pos (by rfl)]
       refine wps4 24 (.tmp 15) (.tmp 17) (.tmp 19) (.tmp 20) _ rfl in_spec_FlFma_m (.agg #[.int .i64 k1, .bool n1, .int .i64 m1, .int .i64 e1]) (.agg #[.int .i64 k2, .bool n2, .int .i64 m2, .int .i64 e2]) (.agg #[.int .i64 k3, .bool n3, .int .i64 m3, .int .i64 e3]) (.int .i64 mode) rfl rfl rfl rfl (unhide ms _) ?_
       rintro e w9 ⟨rfl, k9⟩
       refine ⟨_, rfl, ?_⟩
       replace kw := kw.trans k9
       revert p0 p1 p2 p3 t0 t1 t2 t3 u0 u1 u2 u3; refine k9.m12 ?_; intro p0 p1 p2 p3 t0 t1 t2 t3 u0 u1 u2 u3
       replace K := hide ((unhide K).trans k9)
       have z10 := k9.size
       clear k9
       clear hH
       refine hK.out _ _ ?_ (fun hH => ?_)
       ·exact ⟨p0, p1, p2, p3, t0, t1, t2, t3, u0, u1, u2, u3⟩
       clear hK KK
       try simp only [Act.put, zq1, zq2, zq3, zq4, zq5, zq6]
       refine wT (i := 8) (v := .tuple #[.agg #[.int .i64 Q.1.1, .bool Q.1.2.1, .int .i64 Q.1.2.2.1, .int .i64 Q.1.2.2.2], .int .i64 Q.2]) rfl (Or.inl ⟨by rfl, ?_⟩) hH ?_
       ·intro wq hSw
        try dsimp only at hSw
        go_simp
       try simp only [Act.put, zq1, zq2, zq3, zq4, zq5, zq6]
       refine wT (i := 9) (v := .agg #[.int .i64 Q.1.1, .bool Q.1.2.1, .int .i64 Q.1.2.2.1, .int .i64 Q.1.2.2.2]) rfl (Or.inl ⟨by rfl, ?_⟩) hH ?_
       ·intro wq hSw
        try dsimp only at hSw
        go_simp
       try simp only [Act.put, zq1, zq2, zq3, zq4, zq5, zq6]
       refine wT (i := 10) (v := .int .i64 Q.2) rfl (Or.inl ⟨by rfl, ?_⟩) hH ?_
       ·intro wq hSw
        try dsimp only at hSw
        go_simp
       try simp only [Act.put, zq1, zq2, zq3, zq4, zq5, zq6]
       refine wR 11 (by kernel_rfl) rfl (fun KK hK => ?_)
       simp only [zq1, zq2, zq3]
       rw [if_pos (by rfl)]
       go_simp
       have kn := (Kept.refl 0 0 w9).alloc (.cells #[.int .i64 0, .bool false, .int .i64 0, .int .i64 0] 24)
       replace kw := kw.trans kn
       revert p0 p1 p2 p3 t0 t1 t2 t3 u0 u1 u2 u3; refine kn.m12 ?_; intro p0 p1 p2 p3 t0 t1 t2 t3 u0 u1 u2 u3
       replace K := hide ((unhide K).trans kn)
       have z12 := kn.size
       clear kn
       have szy : w9.heap.size < (w9.alloc (.cells #[.int .i64 0, .bool false, .int .i64 0, .int .i64 0] 24)).heap.size := by simp
       have y0 : (w9.alloc (.cells #[.int .i64 0, .bool false, .int .i64 0, .int .i64 0] 24)).cell? ⟨w9.heap.size, 0, none⟩ = some (.int .i64 0) := new_cell2 _ _ _ _ _ _ rfl rfl
       have yf0 : (w9.alloc (.cells #[.int .i64 0, .bool false, .int .i64 0, .int .i64 0] 24)).frozen? ⟨w9.heap.size, 0, none⟩ = false := new_loose2 _ _ _ _ _ rfl
       have y1 : (w9.alloc (.cells #[.int .i64 0, .bool false, .int .i64 0, .int .i64 0] 24)).cell? ⟨w9.heap.size, 1, none⟩ = some (.bool false) := new_cell2 _ _ _ _ _ _ rfl rfl
       have yf1 : (w9.alloc (.cells #[.int .i64 0, .bool false, .int .i64 0, .int .i64 0] 24)).frozen? ⟨w9.heap.size, 1, none⟩ = false := new_loose2 _ _ _ _ _ rfl
       have y2 : (w9.alloc (.cells #[.int .i64 0, .bool false, .int .i64 0, .int .i64 0] 24)).cell? ⟨w9.heap.size, 2, none⟩ = some (.int .i64 0) := new_cell2 _ _ _ _ _ _ rfl rfl
       have yf2 : (w9.alloc (.cells #[.int .i64 0, .bool false, .int .i64 0, .int .i64 0] 24)).frozen? ⟨w9.heap.size, 2, none⟩ = false := new_loose2 _ _ _ _ _ rfl
       have y3 : (w9.alloc (.cells #[.int .i64 0, .bool false, .int .i64 0, .int .i64 0] 24)).cell? ⟨w9.heap.size, 3, none⟩ = some (.int .i64 0) := new_cell2 _ _ _ _ _ _ rfl rfl
       have yf3 : (w9.alloc (.cells #[.int .i64 0, .bool false, .int .i64 0, .int .i64 0] 24)).frozen? ⟨w9.heap.size, 3, none⟩ = false := new_loose2 _ _ _ _ _ rfl
       clear hH
       refine hK.out _ _ ?_ (fun hH => ?_)
       ·exact ⟨p0, p1, p2, p3, t0, t1, t2, t3, u0, u1, u2, u3⟩
       clear hK KK
       try simp only [Act.put, zq1, zq2, zq3, zq4, zq5, zq6]
       generalize w9.alloc (.cells #[.int .i64 0, .bool false, .int .i64 0, .int .i64 0] 24) = w11 at *
       refine wR 12 (by kernel_rfl) rfl (fun KK hK => ?_)
       simp only [zq1, zq2, zq3]
       rw [if_pos (by rfl)]
       go_simp
       clear hH
       refine hK.out _ _ ?_ (fun hH => ?_)
       ·have sq := unhide S0; exact ⟨(cell_aside _ (by dsimp only; omega) (cw3 (by dsimp only; omega) p0)), (cell_aside _ (by dsimp only; omega) (cw3 (by dsimp only; omega) p1)), (cell_aside _ (by dsimp only; omega) (cw3 (by dsimp only; omega) p2)), (cell_aside _ (by dsimp only; omega) (cw3 (by dsimp only; omega) p3)), (cell_aside _ (by dsimp only; omega) (cw3 (by dsimp only; omega) t0)), (cell_aside _ (by dsimp only; omega) (cw3 (by dsimp only; omega) t1)), (cell_aside _ (by dsimp only; omega) (cw3 (by dsimp only; omega) t2)), (cell_aside _ (by dsimp only; omega) (cw3 (by dsimp only; omega) t3)), (cell_aside _ (by dsimp only; omega) (cw3 (by dsimp only; omega) u0)), (cell_aside _ (by dsimp only; omega) (cw3 (by dsimp only; omega) u1)), (cell_aside _ (by dsimp only; omega) (cw3 (by dsimp only; omega) u2)), (cell_aside _ (by dsimp only; omega) (cw3 (by dsimp only; omega) u3))⟩
       clear hK KK
       try simp only [Act.put, zq1, zq2, zq3, zq4, zq5, zq6]
       refine wT (i := 13) (v := .int .i64 Q.2) rfl (Or.inl ⟨by rfl, ?_⟩) hH ?_
       ·intro wq hSw
        try dsimp only at hSw
        go_simp
       try simp only [Act.put, zq1, zq2, zq3, zq4, zq5, zq6]
       refine wpAnyH_done (by kernel_rfl) ?_ _
       clear hH
       go_wp2_with fail
       go_meet
       have sq := unhide S0; exact ⟨_, rfl, rfl, FB.set4 _ _ _ _ y0 y1 y2 y3, ((((kw.setNew (p := ⟨w9.heap.size, 0, none⟩) (by dsimp only; omega) (.int .i64 Q.1.1)).setNew (p := ⟨w9.heap.size, 1, none⟩) (by dsimp only; omega) (.bool Q.1.2.1)).setNew (p := ⟨w9.heap.size, 2, none⟩) (by dsimp only; omega) (.int .i64 Q.1.2.2.1)).setNew (p := ⟨w9.heap.size, 3, none⟩) (by dsimp only; omega) (.int .i64 Q.1.2.2.2))⟩
      ·simp only [zq1, zq2, zq3]
       rw [if_pos (by rfl)]
       go_simp
       have kn := (Kept.refl 0 0 w7).alloc (.cells #[.int .i64 0, .bool false, .int .i64 0, .int .i64 0] 24)
       replace kw := kw.trans kn
       replace p0 := kn.cell0 p0
       replace p1 := kn.cell0 p1
       replace p2 := kn.cell0 p2
       replace p3 := kn.cell0 p3
       replace t0 := kn.cell0 t0
       replace t1 := kn.cell0 t1
       replace t2 := kn.cell0 t2
       replace t3 := kn.cell0 t3
       replace u0 := kn.cell0 u0
       replace u1 := kn.cell0 u1
       replace u2 := kn.cell0 u2
       replace u3 := kn.cell0 u3
       replace K := hide ((unhide K).trans kn)
       have z10 := kn.size
       clear kn
       have szy : w7.heap.size < (w7.alloc (.cells #[.int .i64 0, .bool false, .int .i64 0, .int .i64 0] 24)).heap.size := by simp
       have y0 : (w7.alloc (.cells #[.int .i64 0, .bool false, .int .i64 0, .int .i64 0] 24)).cell? ⟨w7.heap.size, 0, none⟩ = some (.int .i64 0) := new_cell2 _ _ _ _ _ _ rfl rfl
       have yf0 : (w7.alloc (.cells #[.int .i64 0, .bool false, .int .i64 0, .int .i64 0] 24)).frozen? ⟨w7.heap.size, 0, none⟩ = false := new_loose2 _ _ _ _ _ rfl
       have y1 : (w7.alloc (.cells #[.int .i64 0, .bool false, .int .i64 0, .int .i64 0] 24)).cell? ⟨w7.heap.size, 1, none⟩ = some (.bool false) := new_cell2 _ _ _ _ _ _ rfl rfl
       have yf1 : (w7.alloc (.cells #[.int .i64 0, .bool false, .int .i64 0, .int .i64 0] 24)).frozen? ⟨w7.heap.size, 1, none⟩ = false := new_loose2 _ _ _ _ _ rfl
       have y2 : (w7.alloc (.cells #[.int .i64 0, .bool false, .int .i64 0, .int .i64 0] 24)).cell? ⟨w7.heap.size, 2, none⟩ = some (.int .i64 0) := new_cell2 _ _ _ _ _ _ rfl rfl
       have yf2 : (w7.alloc (.cells #[.int .i64 0, .bool false, .int .i64 0, .int .i64 0] 24)).frozen? ⟨w7.heap.size, 2, none⟩ = false := new_loose2 _ _ _ _ _ rfl
       have y3 : (w7.alloc (.cells #[.int .i64 0, .bool false, .int .i64 0, .int .i64 0] 24)).cell? ⟨w7.heap.size, 3, none⟩ = some (.int .i64 0) := new_cell2 _ _ _ _ _ _ rfl rfl
       have yf3 : (w7.alloc (.cells #[.int .i64 0, .bool false, .int .i64 0, .int .i64 0] 24)).frozen? ⟨w7.heap.size, 3, none⟩ = false := new_loose2 _ _ _ _ _ rfl
       clear hH
       refine hK.out _ _ ?_ (fun hH => ?_)
       ·exact ⟨p0, p1, p2, p3, t0, t1, t2, t3, u0, u1, u2, u3⟩
       clear hK KK
       try simp only [Act.put, zq1, zq2, zq3, zq4, zq5, zq6]
       generalize w7.alloc (.cells #[.int .i64 0, .bool false, .int .i64 0, .int .i64 0] 24) = w9 at *
       refine wR 7 (by kernel_rfl) rfl (fun KK hK => ?_)
       simp only [zq1, zq2, zq3]
       rw [if_pos (by rfl)]
       refine wps4 24 (.tmp 15) (.tmp 17) (.tmp 19) (.tmp 20) _ rfl in_spec_FlFma_m (.agg #[.int .i64 k1, .bool n1, .int .i64 m1, .int .i64 e1]) (.agg #[.int .i64 k2, .bool n2, .int .i64 m2, .int .i64 e2]) (.agg #[.int .i64 k3, .bool n3, .int .i64 m3, .int .i64 e3]) (.int .i64 mode) rfl rfl rfl rfl (unhide ms _) ?_
       rintro e w11 ⟨rfl, k11⟩
       refine ⟨_, rfl, ?_⟩
       replace kw := kw.trans k11
       revert yf0 yf1 yf2 yf3; refine k11.l4 y0 y1 y2 y3 ?_; intro yf0 yf1 yf2 yf3
       revert p0 p1 p2 p3 t0 t1 t2 t3 u0 u1 u2 u3; refine k11.m12 ?_; intro p0 p1 p2 p3 t0 t1 t2 t3 u0 u1 u2 u3
       revert y0 y1 y2 y3; refine k11.m4 ?_; intro y0 y1 y2 y3
       replace K := hide ((unhide K).trans k11)
       have z12 := k11.size
       clear k11
       clear hH
       refine hK.out _ _ ?_ (fun hH => ?_)
       ·exact ⟨p0, p1, p2, p3, t0, t1, t2, t3, u0, u1, u2, u3⟩
       clear hK KK
       try simp only [Act.put, zq1, zq2, zq3, zq4, zq5, zq6]
       refine wT (i := 8) (v := .tuple #[.agg #[.int .i64 Q.1.1, .bool Q.1.2.1, .int .i64 Q.1.2.2.1, .int .i64 Q.1.2.2.2], .int .i64 Q.2]) rfl (Or.inl ⟨by rfl, ?_⟩) hH ?_
       ·intro wq hSw
        try dsimp only at hSw
        go_simp
       try simp only [Act.put, zq1, zq2, zq3, zq4, zq5, zq6]
       refine wT (i := 9) (v := .agg #[.int .i64 Q.1.1, .bool Q.1.2.1, .int .i64 Q.1.2.2.1, .int .i64 Q.1.2.2.2]) rfl (Or.inl ⟨by rfl, ?_⟩) hH ?_
       ·intro wq hSw
        try dsimp only at hSw
        go_simp
       try simp only [Act.put, zq1, zq2, zq3, zq4, zq5, zq6]
       refine wT (i := 10) (v := .int .i64 Q.2) rfl (Or.inl ⟨by rfl, ?_⟩) hH ?_
       ·intro wq hSw
        try dsimp only at hSw
        go_simp
       try simp only [Act.put, zq1, zq2, zq3, zq4, zq5, zq6]
       refine wR 12 (by kernel_rfl) rfl (fun KK hK => ?_)
       simp only [zq1, zq2, zq3]
       rw [if_pos (by rfl)]
       go_simp
       clear hH
       refine hK.out _ _ ?_ (fun hH => ?_)
       ·have sq := unhide S0; exact ⟨(cell_aside _ (by dsimp only; omega) (cw3 (by dsimp only; omega) p0)), (cell_aside _ (by dsimp only; omega) (cw3 (by dsimp only; omega) p1)), (cell_aside _ (by dsimp only; omega) (cw3 (by dsimp only; omega) p2)), (cell_aside _ (by dsimp only; omega) (cw3 (by dsimp only; omega) p3)), (cell_aside _ (by dsimp only; omega) (cw3 (by dsimp only; omega) t0)), (cell_aside _ (by dsimp only; omega) (cw3 (by dsimp only; omega) t1)), (cell_aside _ (by dsimp only; omega) (cw3 (by dsimp only; omega) t2)), (cell_aside _ (by dsimp only; omega) (cw3 (by dsimp only; omega) t3)), (cell_aside _ (by dsimp only; omega) (cw3 (by dsimp only; omega) u0)), (cell_aside _ (by dsimp only; omega) (cw3 (by dsimp only; omega) u1)), (cell_aside _ (by dsimp only; omega) (cw3 (by dsimp only; omega) u2)), (cell_aside _ (by dsimp only; omega) (cw3 (by dsimp only; omega) u3))⟩
       clear hK KK
       try simp only [Act.put, zq1, zq2, zq3, zq4, zq5, zq6]
       refine wT (i := 13) (v := .int .i64 Q.2) rfl (Or.inl ⟨by rfl, ?_⟩) hH ?_
       ·intro wq hSw
        try dsimp only at hSw
        go_simp
       try simp only [Act.put, zq1, zq2, zq3, zq4, zq5, zq6]
       refine wpAnyH_done (by kernel_rfl) ?_ _
       clear hH
       go_wp2_with fail
       go_meet
       have sq := unhide S0; exact ⟨_, rfl, rfl, FB.set4 _ _ _ _ y0 y1 y2 y3, ((((kw.setNew (p := ⟨w7.heap.size, 0, none⟩) (by dsimp only; omega) (.int .i64 Q.1.1)).setNew (p := ⟨w7.heap.size, 1, none⟩) (by dsimp only; omega) (.bool Q.1.2.1)).setNew (p := ⟨w7.heap.size, 2, none⟩) (by dsimp only; omega) (.int .i64 Q.1.2.2.1)).setNew (p := ⟨w7.heap.size, 3, none⟩) (by dsimp only; omega) (.int .i64 Q.1.2.2.2))⟩
     ·simp only [zq1, zq2, zq3]
      rw [if_pos (by rfl)]
      go_simp
      have kn := (Kept.refl 0 0 w5).alloc (.cells #[.int .i64 0, .bool false, .int .i64 0, .int .i64 0] 24)
      replace kw := kw.trans kn
      replace p0 := kn.cell0 p0
      replace p1 := kn.cell0 p1
      replace p2 := kn.cell0 p2
      replace p3 := kn.cell0 p3
      replace t0 := kn.cell0 t0
      replace t1 := kn.cell0 t1
      replace t2 := kn.cell0 t2
      replace t3 := kn.cell0 t3
      replace u0 := kn.cell0 u0
      replace u1 := kn.cell0 u1
      replace u2 := kn.cell0 u2
      replace u3 := kn.cell0 u3
      replace K := hide ((unhide K).trans kn)
      have z8 := kn.size
      clear kn
      have szy : w5.heap.size < (w5.alloc (.cells #[.int .i64 0, .bool false, .int .i64 0, .int .i64 0] 24)).heap.size := by simp
      have y0 : (w5.alloc (.cells #[.int .i64 0, .bool false, .int .i64 0, .int .i64 0] 24)).cell? ⟨w5.heap.size, 0, none⟩ = some (.int .i64 0) := new_cell2 _ _ _ _ _ _ rfl rfl
      have yf0 : (w5.alloc (.cells #[.int .i64 0, .bool false, .int .i64 0, .int .i64 0] 24)).frozen? ⟨w5.heap.size, 0, none⟩ = false := new_loose2 _ _ _ _ _ rfl
      have y1 : (w5.alloc (.cells #[.int .i64 0, .bool false, .int .i64 0, .int .i64 0] 24)).cell? ⟨w5.heap.size, 1, none⟩ = some (.bool false) := new_cell2 _ _ _ _ _ _ rfl rfl
      have yf1 : (w5.alloc (.cells #[.int .i64 0, .bool false, .int .i64 0, .int .i64 0] 24)).frozen? ⟨w5.heap.size, 1, none⟩ = false := new_loose2 _ _ _ _ _ rfl
      have y2 : (w5.alloc (.cells #[.int .i64 0, .bool false, .int .i64 0, .int .i64 0] 24)).cell? ⟨w5.heap.size, 2, none⟩ = some (.int .i64 0) := new_cell2 _ _ _ _ _ _ rfl rfl
      have yf2 : (w5.alloc (.cells #[.int .i64 0, .bool false, .int .i64 0, .int .i64 0] 24)).frozen? ⟨w5.heap.size, 2, none⟩ = false := new_loose2 _ _ _ _ _ rfl
      have y3 : (w5.alloc (.cells #[.int .i64 0, .bool false, .int .i64 0, .int .i64 0] 24)).cell? ⟨w5.heap.size, 3, none⟩ = some (.int .i64 0) := new_cell2 _ _ _ _ _ _ rfl rfl
      have yf3 : (w5.alloc (.cells #[.int .i64 0, .bool false, .int .i64 0, .int .i64 0] 24)).frozen? ⟨w5.heap.size, 3, none⟩ = false := new_loose2 _ _ _ _ _ rfl
      clear hH
      refine hK.out _ _ ?_ (fun hH => ?_)
      ·exact ⟨p0, p1, p2, p3, t0, t1, t2, t3, u0, u1, u2, u3⟩
      clear hK KK
      try simp only [Act.put, zq1, zq2, zq3, zq4, zq5, zq6]
      generalize w5.alloc (.cells #[.int .i64 0, .bool false, .int .i64 0, .int .i64 0] 24) = w7 at *
      refine wR 5 (by kernel_rfl) rfl (fun KK hK => ?_)
      simp only [zq1, zq2, zq3]
      rw [if_pos (by rfl)]
      refine wps1 25 (.tmp 18) _ rfl in_laws_toFl_m (.agg #[.int .i64 k3, .bool n3, .int .i64 m3, .int .i64 e3]) rfl (toFl_k k3 n3 m3 e3 _) ?_
      rintro e w9 ⟨rfl, k9⟩
      refine ⟨_, rfl, ?_⟩
      replace kw := kw.trans k9
      revert yf0 yf1 yf2 yf3; refine k9.l4 y0 y1 y2 y3 ?_; intro yf0 yf1 yf2 yf3
      revert p0 p1 p2 p3 t0 t1 t2 t3 u0 u1 u2 u3; refine k9.m12 ?_; intro p0 p1 p2 p3 t0 t1 t2 t3 u0 u1 u2 u3
      revert y0 y1 y2 y3; refine k9.m4 ?_; intro y0 y1 y2 y3
      replace K := hide ((unhide K).trans k9)
      have z10 := k9.size
      clear k9
      clear hH
      refine hK.out _ _ ?_ (fun hH => ?_)
      ·exact ⟨p0, p1, p2, p3, t0, t1, t2, t3, u0, u1, u2, u3⟩
      clear hK KK
      try simp only [Act.put, zq1, zq2, zq3, zq4, zq5, zq6]
      refine wR 7 (by kernel_rfl) rfl (fun KK hK => ?_)
      simp only [zq1, zq2, zq3]
      rw [if_pos (by rfl)]
      refine wps4 24 (.tmp 15) (.tmp 17) (.tmp 19) (.tmp 20) _ rfl in_spec_FlFma_m (.agg #[.int .i64 k1, .bool n1, .int .i64 m1, .int .i64 e1]) (.agg #[.int .i64 k2, .bool n2, .int .i64 m2, .int .i64 e2]) (.agg #[.int .i64 k3, .bool n3, .int .i64 m3, .int .i64 e3]) (.int .i64 mode) rfl rfl rfl rfl (unhide ms _) ?_
      rintro e w11 ⟨rfl, k11⟩
      refine ⟨_, rfl, ?_⟩
      replace kw := kw.trans k11
      revert yf0 yf1 yf2 yf3; refine k11.l4 y0 y1 y2 y3 ?_; intro yf0 yf1 yf2 yf3
      revert p0 p1 p2 p3 t0 t1 t2 t3 u0 u1 u2 u3; refine k11.m12 ?_; intro p0 p1 p2 p3 t0 t1 t2 t3 u0 u1 u2 u3
      revert y0 y1 y2 y3; refine k11.m4 ?_; intro y0 y1 y2 y3
      replace K := hide ((unhide K).trans k11)
      have z12 := k11.size
      clear k11
      clear hH
      refine hK.out _ _ ?_ (fun hH => ?_)
      ·exact ⟨p0, p1, p2, p3, t0, t1, t2, t3, u0, u1, u2, u3⟩
      clear hK KK
      try simp only [Act.put, zq1, zq2, zq3, zq4, zq5, zq6]
      refine wT (i := 8) (v := .tuple #[.agg #[.int .i64 Q.1.1, .bool Q.1.2.1, .int .i64 Q.1.2.2.1, .int .i64 Q.1.2.2.2], .int .i64 Q.2]) rfl (Or.inl ⟨by rfl, ?_⟩) hH ?_
      ·intro wq hSw
       try dsimp only at hSw
       go_simp
      try simp only [Act.put, zq1, zq2, zq3, zq4, zq5, zq6]
      refine wT (i := 9) (v := .agg #[.int .i64 Q.1.1, .bool Q.1.2.1, .int .i64 Q.1.2.2.1, .int .i64 Q.1.2.2.2]) rfl (Or.inl ⟨by rfl, ?_⟩) hH ?_
      ·intro wq hSw
       try dsimp only at hSw
       go_simp
      try simp only [Act.put, zq1, zq2, zq3, zq4, zq5, zq6]
      refine wT (i := 10) (v := .int .i64 Q.2) rfl (Or.inl ⟨by rfl, ?_⟩) hH ?_
      ·intro wq hSw
       try dsimp only at hSw
       go_simp
      try simp only [Act.put, zq1, zq2, zq3, zq4, zq5, zq6]
      refine wR 12 (by kernel_rfl) rfl (fun KK hK => ?_)
      simp only [zq1, zq2, zq3]
      rw [if_pos (by rfl)]
      go_simp
      clear hH
      refine hK.out _ _ ?_ (fun hH => ?_)
      ·have sq := unhide S0; exact ⟨(cell_aside _ (by dsimp only; omega) (cw3 (by dsimp only; omega) p0)), (cell_aside _ (by dsimp only; omega) (cw3 (by dsimp only; omega) p1)), (cell_aside _ (by dsimp only; omega) (cw3 (by dsimp only; omega) p2)), (cell_aside _ (by dsimp only; omega) (cw3 (by dsimp only; omega) p3)), (cell_aside _ (by dsimp only; omega) (cw3 (by dsimp only; omega) t0)), (cell_aside _ (by dsimp only; omega) (cw3 (by dsimp only; omega) t1)), (cell_aside _ (by dsimp only; omega) (cw3 (by dsimp only; omega) t2)), (cell_aside _ (by dsimp only; omega) (cw3 (by dsimp only; omega) t3)), (cell_aside _ (by dsimp only; omega) (cw3 (by dsimp only; omega) u0)), (cell_aside _ (by dsimp only; omega) (cw3 (by dsimp only; omega) u1)), (cell_aside _ (by dsimp only; omega) (cw3 (by dsimp only; omega) u2)), (cell_aside _ (by dsimp only; omega) (cw3 (by dsimp only; omega) u3))⟩
      clear hK KK
      try simp only [Act.put, zq1, zq2, zq3, zq4, zq5, zq6]
      refine wT (i := 13) (v := .int .i64 Q.2) rfl (Or.inl ⟨by rfl, ?_⟩) hH ?_
      ·intro wq hSw
       try dsimp only at hSw
       go_simp
      try simp only [Act.put, zq1, zq2, zq3, zq4, zq5, zq6]
      refine wpAnyH_done (by kernel_rfl) ?_ _
      clear hH
      go_wp2_with fail
      go_meet
      have sq := unhide S0; exact ⟨_, rfl, rfl, FB.set4 _ _ _ _ y0 y1 y2 y3, ((((kw.setNew (p := ⟨w5.heap.size, 0, none⟩) (by dsimp only; omega) (.int .i64 Q.1.1)).setNew (p := ⟨w5.heap.size, 1, none⟩) (by dsimp only; omega) (.bool Q.1.2.1)).setNew (p := ⟨w5.heap.size, 2, none⟩) (by dsimp only; omega) (.int .i64 Q.1.2.2.1)).setNew (p := ⟨w5.heap.size, 3, none⟩) (by dsimp only; omega) (.int .i64 Q.1.2.2.2))⟩
    ·simp only [zq1, zq2, zq3]
     rw [if_pos (by rfl)]
     go_simp
     have kn := (Kept.refl 0 0 w3).alloc (.cells #[.int .i64 0, .bool false, .int .i64 0, .int .i64 0] 24)
     replace kw := kw.trans kn
     replace p0 := kn.cell0 p0
     replace p1 := kn.cell0 p1
     replace p2 := kn.cell0 p2
     replace p3 := kn.cell0 p3
     replace t0 := kn.cell0 t0
     replace t1 := kn.cell0 t1
     replace t2 := kn.cell0 t2
     replace t3 := kn.cell0 t3
     replace u0 := kn.cell0 u0
     replace u1 := kn.cell0 u1
     replace u2 := kn.cell0 u2
     replace u3 := kn.cell0 u3
     replace K := hide ((unhide K).trans kn)
     have z6 := kn.size
     clear kn
     have szy : w3.heap.size < (w3.alloc (.cells #[.int .i64 0, .bool false, .int .i64 0, .int .i64 0] 24)).heap.size := by simp
     have y0 : (w3.alloc (.cells #[.int .i64 0, .bool false, .int .i64 0, .int .i64 0] 24)).cell? ⟨w3.heap.size, 0, none⟩ = some (.int .i64 0) := new_cell2 _ _ _ _ _ _ rfl rfl
     have yf0 : (w3.alloc (.cells #[.int .i64 0, .bool false, .int .i64 0, .int .i64 0] 24)).frozen? ⟨w3.heap.size, 0, none⟩ = false := new_loose2 _ _ _ _ _ rfl
     have y1 : (w3.alloc (.cells #[.int .i64 0, .bool false, .int .i64 0, .int .i64 0] 24)).cell? ⟨w3.heap.size, 1, none⟩ = some (.bool false) := new_cell2 _ _ _ _ _ _ rfl rfl
     have yf1 : (w3.alloc (.cells #[.int .i64 0, .bool false, .int .i64 0, .int .i64 0] 24)).frozen? ⟨w3.heap.size, 1, none⟩ = false := new_loose2 _ _ _ _ _ rfl
     have y2 : (w3.alloc (.cells #[.int .i64 0, .bool false, .int .i64 0, .int .i64 0] 24)).cell? ⟨w3.heap.size, 2, none⟩ = some (.int .i64 0) := new_cell2 _ _ _ _ _ _ rfl rfl
     have yf2 : (w3.alloc (.cells #[.int .i64 0, .bool false, .int .i64 0, .int .i64 0] 24)).frozen? ⟨w3.heap.size, 2, none⟩ = false := new_loose2 _ _ _ _ _ rfl
     have y3 : (w3.alloc (.cells #[.int .i64 0, .bool false, .int .i64 0, .int .i64 0] 24)).cell? ⟨w3.heap.size, 3, none⟩ = some (.int .i64 0) := new_cell2 _ _ _ _ _ _ rfl rfl
     have yf3 : (w3.alloc (.cells #[.int .i64 0, .bool false, .int .i64 0, .int .i64 0] 24)).frozen? ⟨w3.heap.size, 3, none⟩ = false := new_loose2 _ _ _ _ _ rfl
     clear hH
     refine hK.out _ _ ?_ (fun hH => ?_)
     ·exact ⟨p0, p1, p2, p3, t0, t1, t2, t3, u0, u1, u2, u3⟩
     clear hK KK
     try simp only [Act.put, zq1, zq2, zq3, zq4, zq5, zq6]
     generalize w3.alloc (.cells #[.int .i64 0, .bool false, .int .i64 0, .int .i64 0] 24) = w5 at *
     refine wR 3 (by kernel_rfl) rfl (fun KK hK => ?_)
     simp only [zq1, zq2, zq3]
     rw [if_pos (by rfl)]
     refine wps1 25 (.tmp 16) _ rfl in_laws_toFl_m (.agg #[.int .i64 k2, .bool n2, .int .i64 m2, .int .i64 e2]) rfl (toFl_k k2 n2 m2 e2 _) ?_
     rintro e w7 ⟨rfl, k7⟩
     refine ⟨_, rfl, ?_⟩
     replace kw := kw.trans k7
     revert yf0 yf1 yf2 yf3; refine k7.l4 y0 y1 y2 y3 ?_; intro yf0 yf1 yf2 yf3
     revert p0 p1 p2 p3 t0 t1 t2 t3 u0 u1 u2 u3; refine k7.m12 ?_; intro p0 p1 p2 p3 t0 t1 t2 t3 u0 u1 u2 u3
     revert y0 y1 y2 y3; refine k7.m4 ?_; intro y0 y1 y2 y3
     replace K := hide ((unhide K).trans k7)
     have z8 := k7.size
     clear k7
     clear hH
     refine hK.out _ _ ?_ (fun hH => ?_)
     ·exact ⟨p0, p1, p2, p3, t0, t1, t2, t3, u0, u1, u2, u3⟩
     clear hK KK
     try simp only [Act.put, zq1, zq2, zq3, zq4, zq5, zq6]
     refine wR 5 (by kernel_rfl) rfl (fun KK hK => ?_)
     simp only [zq1, zq2, zq3]
     rw [if_pos (by rfl)]
     refine wps1 25 (.tmp 18) _ rfl in_laws_toFl_m (.agg #[.int .i64 k3, .bool n3, .int .i64 m3, .int .i64 e3]) rfl (toFl_k k3 n3 m3 e3 _) ?_
     rintro e w9 ⟨rfl, k9⟩
     refine ⟨_, rfl, ?_⟩
     replace kw := kw.trans k9
     revert yf0 yf1 yf2 yf3; refine k9.l4 y0 y1 y2 y3 ?_; intro yf0 yf1 yf2 yf3
     revert p0 p1 p2 p3 t0 t1 t2 t3 u0 u1 u2 u3; refine k9.m12 ?_; intro p0 p1 p2 p3 t0 t1 t2 t3 u0 u1 u2 u3
     revert y0 y1 y2 y3; refine k9.m4 ?_; intro y0 y1 y2 y3
     replace K := hide ((unhide K).trans k9)
     have z10 := k9.size
     clear k9
     clear hH
     refine hK.out _ _ ?_ (fun hH => ?_)
     ·exact ⟨p0, p1, p2, p3, t0, t1, t2, t3, u0, u1, u2, u3⟩
     clear hK KK
     try simp only [Act.put, zq1, zq2, zq3, zq4, zq5, zq6]
     refine wR 7 (by kernel_rfl) rfl (fun KK hK => ?_)
     simp only [zq1, zq2, zq3]
     rw [if_pos (by rfl)]
     refine wps4 24 (.tmp 15) (.tmp 17) (.tmp 19) (.tmp 20) _ rfl in_spec_FlFma_m (.agg #[.int .i64 k1, .bool n1, .int .i64 m1, .int .i64 e1]) (.agg #[.int .i64 k2, .bool n2, .int .i64 m2, .int .i64 e2]) (.agg #[.int .i64 k3, .bool n3, .int .i64 m3, .int .i64 e3]) (.int .i64 mode) rfl rfl rfl rfl (unhide ms _) ?_
     rintro e w11 ⟨rfl, k11⟩
     refine ⟨_, rfl, ?_⟩
     replace kw := kw.trans k11
     revert yf0 yf1 yf2 yf3; refine k11.l4 y0 y1 y2 y3 ?_; intro yf0 yf1 yf2 yf3
     revert p0 p1 p2 p3 t0 t1 t2 t3 u0 u1 u2 u3; refine k11.m12 ?_; intro p0 p1 p2 p3 t0 t1 t2 t3 u0 u1 u2 u3
     revert y0 y1 y2 y3; refine k11.m4 ?_; intro y0 y1 y2 y3
     replace K := hide ((unhide K).trans k11)
     have z12 := k11.size
     clear k11
     clear hH
     refine hK.out _ _ ?_ (fun hH => ?_)
     ·exact ⟨p0, p1, p2, p3, t0, t1, t2, t3, u0, u1, u2, u3⟩
     clear hK KK
     try simp only [Act.put, zq1, zq2, zq3, zq4, zq5, zq6]
     refine wT (i := 8) (v := .tuple #[.agg #[.int .i64 Q.1.1, .bool Q.1.2.1, .int .i64 Q.1.2.2.1, .int .i64 Q.1.2.2.2], .int .i64 Q.2]) rfl (Or.inl ⟨by rfl, ?_⟩) hH ?_
     ·intro wq hSw
      try dsimp only at hSw
      go_simp
     try simp only [Act.put, zq1, zq2, zq3, zq4, zq5, zq6]
     refine wT (i := 9) (v := .agg #[.int .i64 Q.1.1, .bool Q.1.2.1, .int .i64 Q.1.2.2.1, .int .i64 Q.1.2.2.2]) rfl (Or.inl ⟨by rfl, ?_⟩) hH ?_
     ·intro wq hSw
      try dsimp only at hSw
      go_simp
     try simp only [Act.put, zq1, zq2, zq3, zq4, zq5, zq6]
     refine wT (i := 10) (v := .int .i64 Q.2) rfl (Or.inl ⟨by rfl, ?_⟩) hH ?_
     ·intro wq hSw
      try dsimp only at hSw
      go_simp
     try simp only [Act.put, zq1, zq2, zq3, zq4, zq5, zq6]
     refine wR 12 (by kernel_rfl) rfl (fun KK hK => ?_)
     simp only [zq1, zq2, zq3]
     rw [if_pos (by rfl)]
     go_simp
     clear hH
     refine hK.out _ _ ?_ (fun hH => ?_)
     ·have sq := unhide S0; exact ⟨(cell_aside _ (by dsimp only; omega) (cw3 (by dsimp only; omega) p0)), (cell_aside _ (by dsimp only; omega) (cw3 (by dsimp only; omega) p1)), (cell_aside _ (by dsimp only; omega) (cw3 (by dsimp only; omega) p2)), (cell_aside _ (by dsimp only; omega) (cw3 (by dsimp only; omega) p3)), (cell_aside _ (by dsimp only; omega) (cw3 (by dsimp only; omega) t0)), (cell_aside _ (by dsimp only; omega) (cw3 (by dsimp only; omega) t1)), (cell_aside _ (by dsimp only; omega) (cw3 (by dsimp only; omega) t2)), (cell_aside _ (by dsimp only; omega) (cw3 (by dsimp only; omega) t3)), (cell_aside _ (by dsimp only; omega) (cw3 (by dsimp only; omega) u0)), (cell_aside _ (by dsimp only; omega) (cw3 (by dsimp only; omega) u1)), (cell_aside _ (by dsimp only; omega) (cw3 (by dsimp only; omega) u2)), (cell_aside _ (by dsimp only; omega) (cw3 (by dsimp only; omega) u3))⟩
     clear hK KK
     try simp only [Act.put, zq1, zq2, zq3, zq4, zq5, zq6]
     refine wT (i := 13) (v := .int .i64 Q.2) rfl (Or.inl ⟨by rfl, ?_⟩) hH ?_
     ·intro wq hSw
      try dsimp only at hSw
      go_simp
     try simp only [Act.put, zq1, zq2, zq3, zq4, zq5, zq6]
     refine wpAnyH_done (by kernel_rfl) ?_ _
     clear hH
     go_wp2_with fail
     go_meet
     have sq := unhide S0; exact ⟨_, rfl, rfl, FB.set4 _ _ _ _ y0 y1 y2 y3, ((((kw.setNew (p := ⟨w3.heap.size, 0, none⟩) (by dsimp only; omega) (.int .i64 Q.1.1)).setNew (p := ⟨w3.heap.size, 1, none⟩) (by dsimp only; omega) (.bool Q.1.2.1)).setNew (p := ⟨w3.heap.size, 2, none⟩) (by dsimp only; omega) (.int .i64 Q.1.2.2.1)).setNew (p := ⟨w3.heap.size, 3, none⟩) (by dsimp only; omega) (.int .i64 Q.1.2.2.2))⟩
   ·simp only [zq1, zq2, zq3]
    rw [if_pos (by rfl)]
    go_simp
    have kn := (Kept.refl 0 0 wd2).alloc (.cells #[.int .i64 0, .bool false, .int .i64 0, .int .i64 0] 24)
    replace kw := kw.trans kn
    replace p0 := kn.cell0 p0
    replace p1 := kn.cell0 p1
    replace p2 := kn.cell0 p2
    replace p3 := kn.cell0 p3
    replace t0 := kn.cell0 t0
    replace t1 := kn.cell0 t1
    replace t2 := kn.cell0 t2
    replace t3 := kn.cell0 t3
    replace u0 := kn.cell0 u0
    replace u1 := kn.cell0 u1
    replace u2 := kn.cell0 u2
    replace u3 := kn.cell0 u3
    replace K := hide ((unhide K).trans kn)
    have z4 := kn.size
    clear kn
    have szy : wd2.heap.size < (wd2.alloc (.cells #[.int .i64 0, .bool false, .int .i64 0, .int .i64 0] 24)).heap.size := by simp
    have y0 : (wd2.alloc (.cells #[.int .i64 0, .bool false, .int .i64 0, .int .i64 0] 24)).cell? ⟨wd2.heap.size, 0, none⟩ = some (.int .i64 0) := new_cell2 _ _ _ _ _ _ rfl rfl
    have yf0 : (wd2.alloc (.cells #[.int .i64 0, .bool false, .int .i64 0, .int .i64 0] 24)).frozen? ⟨wd2.heap.size, 0, none⟩ = false := new_loose2 _ _ _ _ _ rfl
    have y1 : (wd2.alloc (.cells #[.int .i64 0, .bool false, .int .i64 0, .int .i64 0] 24)).cell? ⟨wd2.heap.size, 1, none⟩ = some (.bool false) := new_cell2 _ _ _ _ _ _ rfl rfl
    have yf1 : (wd2.alloc (.cells #[.int .i64 0, .bool false, .int .i64 0, .int .i64 0] 24)).frozen? ⟨wd2.heap.size, 1, none⟩ = false := new_loose2 _ _ _ _ _ rfl
    have y2 : (wd2.alloc (.cells #[.int .i64 0, .bool false, .int .i64 0, .int .i64 0] 24)).cell? ⟨wd2.heap.size, 2, none⟩ = some (.int .i64 0) := new_cell2 _ _ _ _ _ _ rfl rfl
    have yf2 : (wd2.alloc (.cells #[.int .i64 0, .bool false, .int .i64 0, .int .i64 0] 24)).frozen? ⟨wd2.heap.size, 2, none⟩ = false := new_loose2 _ _ _ _ _ rfl
    have y3 : (wd2.alloc (.cells #[.int .i64 0, .bool false, .int .i64 0, .int .i64 0] 24)).cell? ⟨wd2.heap.size, 3, none⟩ = some (.int .i64 0) := new_cell2 _ _ _ _ _ _ rfl rfl
    have yf3 : (wd2.alloc (.cells #[.int .i64 0, .bool false, .int .i64 0, .int .i64 0] 24)).frozen? ⟨wd2.heap.size, 3, none⟩ = false := new_loose2 _ _ _ _ _ rfl
    clear hH
    refine hK.out _ _ ?_ (fun hH => ?_)
    ·exact ⟨p0, p1, p2, p3, t0, t1, t2, t3, u0, u1, u2, u3⟩
    clear hK KK
    try simp only [Act.put, zq1, zq2, zq3, zq4, zq5, zq6]
    generalize wd2.alloc (.cells #[.int .i64 0, .bool false, .int .i64 0, .int .i64 0] 24) = w3 at *
    refine wR 1 (by kernel_rfl) rfl (fun KK hK => ?_)
    simp only [zq1, zq2, zq3]
    rw [if_pos (by rfl)]
    refine wps1 25 (.tmp 14) _ rfl in_laws_toFl_m (.agg #[.int .i64 k1, .bool n1, .int .i64 m1, .int .i64 e1]) rfl (toFl_k k1 n1 m1 e1 _) ?_
    rintro e w5 ⟨rfl, k5⟩
    refine ⟨_, rfl, ?_⟩
    replace kw := kw.trans k5
    revert yf0 yf1 yf2 yf3; refine k5.l4 y0 y1 y2 y3 ?_; intro yf0 yf1 yf2 yf3
    revert p0 p1 p2 p3 t0 t1 t2 t3 u0 u1 u2 u3; refine k5.m12 ?_; intro p0 p1 p2 p3 t0 t1 t2 t3 u0 u1 u2 u3
    revert y0 y1 y2 y3; refine k5.m4 ?_; intro y0 y1 y2 y3
    replace K := hide ((unhide K).trans k5)
    have z6 := k5.size
    clear k5
    clear hH
    refine hK.out _ _ ?_ (fun hH => ?_)
    ·exact ⟨p0, p1, p2, p3, t0, t1, t2, t3, u0, u1, u2, u3⟩
    clear hK KK
    try simp only [Act.put, zq1, zq2, zq3, zq4, zq5, zq6]
    refine wR 3 (by kernel_rfl) rfl (fun KK hK => ?_)
    simp only [zq1, zq2, zq3]
    rw [if_pos (by rfl)]
    refine wps1 25 (.tmp 16) _ rfl in_laws_toFl_m (.agg #[.int .i64 k2, .bool n2, .int .i64 m2, .int .i64 e2]) rfl (toFl_k k2 n2 m2 e2 _) ?_
    rintro e w7 ⟨rfl, k7⟩
    refine ⟨_, rfl, ?_⟩
    replace kw := kw.trans k7
    revert yf0 yf1 yf2 yf3; refine k7.l4 y0 y1 y2 y3 ?_; intro yf0 yf1 yf2 yf3
    revert p0 p1 p2 p3 t0 t1 t2 t3 u0 u1 u2 u3; refine k7.m12 ?_; intro p0 p1 p2 p3 t0 t1 t2 t3 u0 u1 u2 u3
    revert y0 y1 y2 y3; refine k7.m4 ?_; intro y0 y1 y2 y3
    replace K := hide ((unhide K).trans k7)
    have z8 := k7.size
    clear k7
    clear hH
    refine hK.out _ _ ?_ (fun hH => ?_)
    ·exact ⟨p0, p1, p2, p3, t0, t1, t2, t3, u0, u1, u2, u3⟩
    clear hK KK
    try simp only [Act.put, zq1, zq2, zq3, zq4, zq5, zq6]
    refine wR 5 (by kernel_rfl) rfl (fun KK hK => ?_)
    simp only [zq1, zq2, zq3]
    rw [if_pos (by rfl)]
    refine wps1 25 (.tmp 18) _ rfl in_laws_toFl_m (.agg #[.int .i64 k3, .bool n3, .int .i64 m3, .int .i64 e3]) rfl (toFl_k k3 n3 m3 e3 _) ?_
    rintro e w9 ⟨rfl, k9⟩
    refine ⟨_, rfl, ?_⟩
    replace kw := kw.trans k9
    revert yf0 yf1 yf2 yf3; refine k9.l4 y0 y1 y2 y3 ?_; intro yf0 yf1 yf2 yf3
    revert p0 p1 p2 p3 t0 t1 t2 t3 u0 u1 u2 u3; refine k9.m12 ?_; intro p0 p1 p2 p3 t0 t1 t2 t3 u0 u1 u2 u3
    revert y0 y1 y2 y3; refine k9.m4 ?_; intro y0 y1 y2 y3
    replace K := hide ((unhide K).trans k9)
    have z10 := k9.size
    clear k9
    clear hH
    refine hK.out _ _ ?_ (fun hH => ?_)
    ·exact ⟨p0, p1, p2, p3, t0, t1, t2, t3, u0, u1, u2, u3⟩
    clear hK KK
    try simp only [Act.put, zq1, zq2, zq3, zq4, zq5, zq6]
    refine wR 7 (by kernel_rfl) rfl (fun KK hK => ?_)
    simp only [zq1, zq2, zq3]
    rw [if_pos (by rfl)]
    refine wps4 24 (.tmp 15) (.tmp 17) (.tmp 19) (.tmp 20) _ rfl in_spec_FlFma_m (.agg #[.int .i64 k1, .bool n1, .int .i64 m1, .int .i64 e1]) (.agg #[.int .i64 k2, .bool n2, .int .i64 m2, .int .i64 e2]) (.agg #[.int .i64 k3, .bool n3, .int .i64 m3, .int .i64 e3]) (.int .i64 mode) rfl rfl rfl rfl (unhide ms _) ?_
    rintro e w11 ⟨rfl, k11⟩
    refine ⟨_, rfl, ?_⟩
    replace kw := kw.trans k11
    revert yf0 yf1 yf2 yf3; refine k11.l4 y0 y1 y2 y3 ?_; intro yf0 yf1 yf2 yf3
    revert p0 p1 p2 p3 t0 t1 t2 t3 u0 u1 u2 u3; refine k11.m12 ?_; intro p0 p1 p2 p3 t0 t1 t2 t3 u0 u1 u2 u3
    revert y0 y1 y2 y3; refine k11.m4 ?_; intro y0 y1 y2 y3
    replace K := hide ((unhide K).trans k11)
    have z12 := k11.size
    clear k11
    clear hH
    refine hK.out _ _ ?_ (fun hH => ?_)
    ·exact ⟨p0, p1, p2, p3, t0, t1, t2, t3, u0, u1, u2, u3⟩
    clear hK KK
    try simp only [Act.put, zq1, zq2, zq3, zq4, zq5, zq6]
    refine wT (i := 8) (v := .tuple #[.agg #[.int .i64 Q.1.1, .bool Q.1.2.1, .int .i64 Q.1.2.2.1, .int .i64 Q.1.2.2.2], .int .i64 Q.2]) rfl (Or.inl ⟨by rfl, ?_⟩) hH ?_
    ·intro wq hSw
     try dsimp only at hSw
     go_simp
    try simp only [Act.put, zq1, zq2, zq3, zq4, zq5, zq6]
    refine wT (i := 9) (v := .agg #[.int .i64 Q.1.1, .bool Q.1.2.1, .int .i64 Q.1.2.2.1, .int .i64 Q.1.2.2.2]) rfl (Or.inl ⟨by rfl, ?_⟩) hH ?_
    ·intro wq hSw
     try dsimp only at hSw
     go_simp
    try simp only [Act.put, zq1, zq2, zq3, zq4, zq5, zq6]
    refine wT (i := 10) (v := .int .i64 Q.2) rfl (Or.inl ⟨by rfl, ?_⟩) hH ?_
    ·intro wq hSw
     try dsimp only at hSw
     go_simp
    try simp only [Act.put, zq1, zq2, zq3, zq4, zq5, zq6]
    refine wR 12 (by kernel_rfl) rfl (fun KK hK => ?_)
    simp only [zq1, zq2, zq3]
    rw [if_pos (by rfl)]
    go_simp
    clear hH
    refine hK.out _ _ ?_ (fun hH => ?_)
    ·have sq := unhide S0; exact ⟨(cell_aside _ (by dsimp only; omega) (cw3 (by dsimp only; omega) p0)), (cell_aside _ (by dsimp only; omega) (cw3 (by dsimp only; omega) p1)), (cell_aside _ (by dsimp only; omega) (cw3 (by dsimp only; omega) p2)), (cell_aside _ (by dsimp only; omega) (cw3 (by dsimp only; omega) p3)), (cell_aside _ (by dsimp only; omega) (cw3 (by dsimp only; omega) t0)), (cell_aside _ (by dsimp only; omega) (cw3 (by dsimp only; omega) t1)), (cell_aside _ (by dsimp only; omega) (cw3 (by dsimp only; omega) t2)), (cell_aside _ (by dsimp only; omega) (cw3 (by dsimp only; omega) t3)), (cell_aside _ (by dsimp only; omega) (cw3 (by dsimp only; omega) u0)), (cell_aside _ (by dsimp only; omega) (cw3 (by dsimp only; omega) u1)), (cell_aside _ (by dsimp only; omega) (cw3 (by dsimp only; omega) u2)), (cell_aside _ (by dsimp only; omega) (cw3 (by dsimp only; omega) u3))⟩
    clear hK KK
    try simp only [Act.put, zq1, zq2, zq3, zq4, zq5, zq6]
    refine wT (i := 13) (v := .int .i64 Q.2) rfl (Or.inl ⟨by rfl, ?_⟩) hH ?_
    ·intro wq hSw
     try dsimp only at hSw
     go_simp
    try simp only [Act.put, zq1, zq2, zq3, zq4, zq5, zq6]
    refine wpAnyH_done (by kernel_rfl) ?_ _
    clear hH
    go_wp2_with fail
    go_meet
    have sq := unhide S0; exact ⟨_, rfl, rfl, FB.set4 _ _ _ _ y0 y1 y2 y3, ((((kw.setNew (p := ⟨wd2.heap.size, 0, none⟩) (by dsimp only; omega) (.int .i64 Q.1.1)).setNew (p := ⟨wd2.heap.size, 1, none⟩) (by dsimp only; omega) (.bool Q.1.2.1)).setNew (p := ⟨wd2.heap.size, 2, none⟩) (by dsimp only; omega) (.int .i64 Q.1.2.2.1)).setNew (p := ⟨wd2.heap.size, 3, none⟩) (by dsimp only; omega) (.int .i64 Q.1.2.2.2))⟩
  case rest =>
   obtain ⟨Xw, rfl, rfl, Fw, kx⟩ := hcut
   replace p0 := kx.cell0 p0
   replace p1 := kx.cell0 p1
   replace p2 := kx.cell0 p2
   replace p3 := kx.cell0 p3
   replace t0 := kx.cell0 t0
   replace t1 := kx.cell0 t1
   replace t2 := kx.cell0 t2
   replace t3 := kx.cell0 t3
   replace u0 := kx.cell0 u0
   replace u1 := kx.cell0 u1
   replace u2 := kx.cell0 u2
   replace u3 := kx.cell0 u3
   replace K := hide ((unhide K).trans kx)
   have z1 := kx.size
   clear kx
   generalize hwc : wc = wa at *
   clear hwc
   go_upto_region 2 with fail
   go_cut [11, 12] (fun p g wx => ∃ X, p = .pointer (some ⟨X, 0, none⟩) ∧ g = .int .i64 Q.2 ∧ FB wx X Q.1.1 Q.1.2.1 Q.1.2.2.1 Q.1.2.2.2 ∧ Kept 0 0 wa wx)
   case first =>
    have kw := Kept.refl 0 0 wa
    have kd := (Kept.refl 0 0 wa).drew
    replace kw := kw.trans kd
    revert p0 p1 p2 p3 t0 t1 t2 t3 u0 u1 u2 u3; refine kd.m12 ?_; intro p0 p1 p2 p3 t0 t1 t2 t3 u0 u1 u2 u3
    replace K := hide ((unhide K).trans kd)
    have z2 := kd.size
    clear kd
    refine wp_region_held_drew (S := (fun w' => w'.cell? ⟨w.heap.size, 0, none⟩ = some (.int .i64 k1) ∧ w'.cell? ⟨w.heap.size, 1, none⟩ = some (.bool n1) ∧ w'.cell? ⟨w.heap.size, 2, none⟩ = some (.int .i64 m1) ∧ w'.cell? ⟨w.heap.size, 3, none⟩ = some (.int .i64 e1) ∧ w'.cell? ⟨w.heap.size + 1, 0, none⟩ = some (.int .i64 k2) ∧ w'.cell? ⟨w.heap.size + 1, 1, none⟩ = some (.bool n2) ∧ w'.cell? ⟨w.heap.size + 1, 2, none⟩ = some (.int .i64 m2) ∧ w'.cell? ⟨w.heap.size + 1, 3, none⟩ = some (.int .i64 e2) ∧ w'.cell? ⟨w.heap.size + 2, 0, none⟩ = some (.int .i64 k3) ∧ w'.cell? ⟨w.heap.size + 2, 1, none⟩ = some (.bool n3) ∧ w'.cell? ⟨w.heap.size + 2, 2, none⟩ = some (.int .i64 m3) ∧ w'.cell? ⟨w.heap.size + 2, 3, none⟩ = some (.int .i64 e3))) (by kernel_rfl) ?_ (fun hH => ?_)
    ·exact ⟨p0, p1, p2, p3, t0, t1, t2, t3, u0, u1, u2, u3⟩
    generalize wa.drew = wd3 at *
    refine wT (i := 0) (v := .agg #[.int .i64 k1, .bool n1, .int .i64 m1, .int .i64 e1]) rfl (Or.inl ⟨by rfl, ?_⟩) hH ?_
    ·intro wq hSw
     try dsimp only at hSw
     go_simp
    try simp only [Act.put, zq1, zq2, zq3, zq4, zq5, zq6]
    refine wT (i := 2) (v := .agg #[.int .i64 k2, .bool n2, .int .i64 m2, .int .i64 e2]) rfl (Or.inl ⟨by rfl, ?_⟩) hH ?_
    ·intro wq hSw
     try dsimp only at hSw
     go_simp
    try simp only [Act.put, zq1, zq2, zq3, zq4, zq5, zq6]
    refine wT (i := 4) (v := .agg #[.int .i64 k3, .bool n3, .int .i64 m3, .int .i64 e3]) rfl (Or.inl ⟨by rfl, ?_⟩) hH ?_
    ·intro wq hSw
     try dsimp only at hSw
     go_simp
    try simp only [Act.put, zq1, zq2, zq3, zq4, zq5, zq6]
    refine wT (i := 6) (v := .int .i64 mode) rfl (Or.inl ⟨by rfl, ?_⟩) hH ?_
    ·intro wq hSw
     try dsimp only at hSw
     go_simp
    try simp only [Act.put, zq1, zq2, zq3, zq4, zq5, zq6]
    refine wpAnyH_ready (rs := [1, 11]) (by kernel_rfl) (by simp) ?_
    refine AllReadyH.cons rfl (fun KK hK => ?_) (AllReadyH.cons rfl (fun KK hK => ?_) AllReadyH.nil)
    ·simp only [zq1, zq2, zq3]
     rw [if_pos (by rfl)]
     refine wps1 25 (.tmp 25) _ rfl in_laws_toFl_m (.agg #[.int .i64 k1, .bool n1, .int .i64 m1, .int .i64 e1]) rfl (toFl_k k1 n1 m1 e1 _) ?_
     rintro e w4 ⟨rfl, k4⟩
     refine ⟨_, rfl, ?_⟩
     replace kw := kw.trans k4
     revert p0 p1 p2 p3 t0 t1 t2 t3 u0 u1 u2 u3; refine k4.m12 ?_; intro p0 p1 p2 p3 t0 t1 t2 t3 u0 u1 u2 u3
     replace K := hide ((unhide K).trans k4)
     have z5 := k4.size
     clear k4
     clear hH
     refine hK.out _ _ ?_ (fun hH => ?_)
     ·exact ⟨p0, p1, p2, p3, t0, t1, t2, t3, u0, u1, u2, u3⟩
     clear hK KK
     try simp only [Act.put, zq1, zq2, zq3, zq4, zq5, zq6]
     refine wpAnyH_ready (rs := [3, 11]) (by kernel_rfl) (by simp) ?_
     refine AllReadyH.cons rfl (fun KK hK => ?_) (AllReadyH.cons rfl (fun KK hK => ?_) AllReadyH.nil)
     ·simp only [zq1, zq2, zq3]
      rw [if_pos (by rfl)]
      refine wps1 25 (.tmp 27) _ rfl in_laws_toFl_m (.agg #[.int .i64 k2, .bool n2, .int .i64 m2, .int .i64 e2]) rfl (toFl_k k2 n2 m2 e2 _) ?_
      rintro e w6 ⟨rfl, k6⟩
      refine ⟨_, rfl, ?_⟩
      replace kw := kw.trans k6
      revert p0 p1 p2 p3 t0 t1 t2 t3 u0 u1 u2 u3; refine k6.m12 ?_; intro p0 p1 p2 p3 t0 t1 t2 t3 u0 u1 u2 u3
      replace K := hide ((unhide K).trans k6)
      have z7 := k6.size
      clear k6
      clear hH
      refine hK.out _ _ ?_ (fun hH => ?_)
      ·exact ⟨p0, p1, p2, p3, t0, t1, t2, t3, u0, u1, u2, u3⟩
      clear hK KK
      try simp only [Act.put, zq1, zq2, zq3, zq4, zq5, zq6]
      refine wpAnyH_ready (rs := [5, 11]) (by kernel_rfl) (by simp) ?_
      refine AllReadyH.cons rfl (fun KK hK => ?_) (AllReadyH.cons rfl (fun KK hK => ?_) AllReadyH.nil)
      ·simp only [zq1, zq2, zq3]
       rw [if_pos (by rfl)]
       refine wps1 25 (.tmp 29) _ rfl in_laws_toFl_m (.agg #[.int .i64 k3, .bool n3, .int .i64 m3, .int .i64 e3]) rfl (toFl_k k3 n3 m3 e3 _) ?_
       rintro e w8 ⟨rfl, k8⟩
       refine ⟨_, rfl, ?_⟩
       replace kw := kw.trans k8
       revert p0 p1 p2 p3 t0 t1 t2 t3 u0 u1 u2 u3; refine k8.m12 ?_; intro p0 p1 p2 p3 t0 t1 t2 t3 u0 u1 u2 u3
       replace K := hide ((unhide K).trans k8)
       have z9 := k8.size
       clear k8
       clear hH
       refine hK.out _ _ ?_ (fun hH => ?_)
       ·exact ⟨p0, p1, p2, p3, t0, t1, t2, t3, u0, u1, u2, u3⟩
       clear hK KK
       try simp only [Act.put, zq1, zq2, zq3, zq4, zq5, zq6]
       refine wpAnyH_ready (rs := [7, 11]) (by kernel_rfl) (by simp) ?_
       refine AllReadyH.cons rfl (fun KK hK => ?_) (AllReadyH.cons rfl (fun KK hK => ?_) AllReadyH.nil)
       ·simp only [zq1, zq2, zq3]
        rw [if_pos (by rfl)]
        refine wps4 8 (.tmp 26) (.tmp 28) (.tmp 30) (.tmp 31) _ rfl in_impl_FlFma_m (.agg #[.int .i64 k1, .bool n1, .int .i64 m1, .int .i64 e1]) (.agg #[.int .i64 k2, .bool n2, .int .i64 m2, .int .i64 e2]) (.agg #[.int .i64 k3, .bool n3, .int .i64 m3, .int .i64 e3]) (.int .i64 mode) rfl rfl rfl rfl (unhide mi _ (T.kept (unhide K))) ?_
        rintro e w10 ⟨rfl, k10⟩
        refine ⟨_, rfl, ?_⟩
        replace kw := kw.trans k10
        revert p0 p1 p2 p3 t0 t1 t2 t3 u0 u1 u2 u3; refine k10.m12 ?_; intro p0 p1 p2 p3 t0 t1 t2 t3 u0 u1 u2 u3
        replace K := hide ((unhide K).trans k10)
        have z11 := k10.size
        clear k10
        clear hH
        refine hK.out _ _ ?_ (fun hH => ?_)
        ·exact ⟨p0, p1, p2, p3, t0, t1, t2, t3, u0, u1, u2, u3⟩
        clear hK KK
        try simp only [Act.put, zq1, zq2, zq3, zq4, zq5, zq6]
        refine wT (i := 8) (v := .tuple #[.agg #[.int .i64 Q.1.1, .bool Q.1.2.1, .int .i64 Q.1.2.2.1, .int .i64 Q.1.2.2.2], .int .i64 Q.2]) rfl (Or.inl ⟨by rfl, ?_⟩) hH ?_
        ·intro wq hSw
         try dsimp only at hSw
         go_simp
        try simp only [Act.put, zq1, zq2, zq3, zq4, zq5, zq6]
        refine wT (i := 9) (v := .agg #[.int .i64 Q.1.1, .bool Q.1.2.1, .int .i64 Q.1.2.2.1, .int .i64 Q.1.2.2.2]) rfl (Or.inl ⟨by rfl, ?_⟩) hH ?_
        ·intro wq hSw
         try dsimp only at hSw
         go_simp
        try simp only [Act.put, zq1, zq2, zq3, zq4, zq5, zq6]
        refine wT (i := 10) (v := .int .i64 Q.2) rfl (Or.inl ⟨by rfl, ?_⟩) hH ?_
        ·intro wq hSw
         try dsimp only at hSw
         go_simp
        try simp only [Act.put, zq1, zq2, zq3, zq4, zq5, zq6]
        refine wR 11 (by kernel_rfl) rfl (fun KK hK => ?_)
        simp only [zq1, zq2, zq3]
        rw [if_pos (by rfl)]
        go_simp
        have kn := (Kept.refl 0 0 w10).alloc (.cells #[.int .i64 0, .bool false, .int .i64 0, .int .i64 0] 24)
        replace kw := kw.trans kn
        revert p0 p1 p2 p3 t0 t1 t2 t3 u0 u1 u2 u3; refine kn.m12 ?_; intro p0 p1 p2 p3 t0 t1 t2 t3 u0 u1 u2 u3
        replace K := hide ((unhide K).trans kn)
        have z13 := kn.size
        clear kn
        have szy : w10.heap.size < (w10.alloc (.cells #[.int .i64 0, .bool false, .int .i64 0, .int .i64 0] 24)).heap.size := by simp
        have y0 : (w10.alloc (.cells #[.int .i64 0, .bool false, .int .i64 0, .int .i64 0] 24)).cell? ⟨w10.heap.size, 0, none⟩ = some (.int .i64 0) := new_cell2 _ _ _ _ _ _ rfl rfl
        have yf0 : (w10.alloc (.cells #[.int .i64 0, .bool false, .int .i64 0, .int .i64 0] 24)).frozen? ⟨w10.heap.size, 0, none⟩ = false := new_loose2 _ _ _ _ _ rfl
        have y1 : (w10.alloc (.cells #[.int .i64 0, .bool false, .int .i64 0, .int .i64 0] 24)).cell? ⟨w10.heap.size, 1, none⟩ = some (.bool false) := new_cell2 _ _ _ _ _ _ rfl rfl
        have yf1 : (w10.alloc (.cells #[.int .i64 0, .bool false, .int .i64 0, .int .i64 0] 24)).frozen? ⟨w10.heap.size, 1, none⟩ = false := new_loose2 _ _ _ _ _ rfl
        have y2 : (w10.alloc (.cells #[.int .i64 0, .bool false, .int .i64 0, .int .i64 0] 24)).cell? ⟨w10.heap.size, 2, none⟩ = some (.int .i64 0) := new_cell2 _ _ _ _ _ _ rfl rfl
        have yf2 : (w10.alloc (.cells #[.int .i64 0, .bool false, .int .i64 0, .int .i64 0] 24)).frozen? ⟨w10.heap.size, 2, none⟩ = false := new_loose2 _ _ _ _ _ rfl
        have y3 : (w10.alloc (.cells #[.int .i64 0, .bool false, .int .i64 0, .int .i64 0] 24)).cell? ⟨w10.heap.size, 3, none⟩ = some (.int .i64 0) := new_cell2 _ _ _ _ _ _ rfl rfl
        have yf3 : (w10.alloc (.cells #[.int .i64 0, .bool false, .int .i64 0, .int .i64 0] 24)).frozen? ⟨w10.heap.size, 3, none⟩ = false := new_loose2 _ _ _ _ _ rfl
        clear hH
        refine hK.out _ _ ?_ (fun hH => ?_)
        ·exact ⟨p0, p1, p2, p3, t0, t1, t2, t3, u0, u1, u2, u3⟩
        clear hK KK
        try simp only [Act.put, zq1, zq2, zq3, zq4, zq5, zq6]
        generalize w10.alloc (.cells #[.int .i64 0, .bool false, .int .i64 0, .int .i64 0] 24) = w12 at *
        refine wR 12 (by kernel_rfl) rfl (fun KK hK => ?_)
        simp only [zq1, zq2, zq3]
        rw [if_pos (by rfl)]
        go_simp
        clear hH
        refine hK.out _ _ ?_ (fun hH => ?_)
        ·have sq := unhide S0; exact ⟨(cell_aside _ (by dsimp only; omega) (cw3 (by dsimp only; omega) p0)), (cell_aside _ (by dsimp only; omega) (cw3 (by dsimp only; omega) p1)), (cell_aside _ (by dsimp only; omega) (cw3 (by dsimp only; omega) p2)), (cell_aside _ (by dsimp only; omega) (cw3 (by dsimp only; omega) p3)), (cell_aside _ (by dsimp only; omega) (cw3 (by dsimp only; omega) t0)), (cell_aside _ (by dsimp only; omega) (cw3 (by dsimp only; omega) t1)), (cell_aside _ (by dsimp only; omega) (cw3 (by dsimp only; omega) t2)), (cell_aside _ (by dsimp only; omega) (cw3 (by dsimp only; omega) t3)), (cell_aside _ (by dsimp only; omega) (cw3 (by dsimp only; omega) u0)), (cell_aside _ (by dsimp only; omega) (cw3 (by dsimp only; omega) u1)), (cell_aside _ (by dsimp only; omega) (cw3 (by dsimp only; omega) u2)), (cell_aside _ (by dsimp only; omega) (cw3 (by dsimp only; omega) u3))⟩
        clear hK KK
        try simp only [Act.put, zq1, zq2, zq3, zq4, zq5, zq6]
        refine wT (i := 13) (v := .int .i64 Q.2) rfl (Or.inl ⟨by rfl, ?_⟩) hH ?_
        ·intro wq hSw
         try dsimp only at hSw
         go_simp
        try simp only [Act.put, zq1, zq2, zq3, zq4, zq5, zq6]
        refine wpAnyH_done (by kernel_rfl) ?_ _
        clear hH
        go_wp2_with fail
        go_meet
        have sq := unhide S0; exact ⟨_, rfl, rfl, FB.set4 _ _ _ _ y0 y1 y2 y3, ((((kw.setNew (p := ⟨w10.heap.size, 0, none⟩) (by dsimp only; omega) (.int .i64 Q.1.1)).setNew (p := ⟨w10.heap.size, 1, none⟩) (by dsimp only; omega) (.bool Q.1.2.1)).setNew (p := ⟨w10.heap.size, 2, none⟩) (by dsimp only; omega) (.int .i64 Q.1.2.2.1)).setNew (p := ⟨w10.heap.size, 3, none⟩) (by dsimp only; omega) (.int .i64 Q.1.2.2.2))⟩
       ·simp only [zq1, zq2, zq3]
        rw [if_pos (by rfl)]
        go_simp
        have kn := (Kept.refl 0 0 w8).alloc (.cells #[.int .i64 0, .bool false, .int .i64 0, .int .i64 0] 24)
        replace kw := kw.trans kn
        replace p0 := kn.cell0 p0
        replace p1 := kn.cell0 p1
        replace p2 := kn.cell0 p2
        replace p3 := kn.cell0 p3
        replace t0 := kn.cell0 t0
        replace t1 := kn.cell0 t1
        replace t2 := kn.cell0 t2
        replace t3 := kn.cell0 t3
        replace u0 := kn.cell0 u0
        replace u1 := kn.cell0 u1
        replace u2 := kn.cell0 u2
        replace u3 := kn.cell0 u3
        replace K := hide ((unhide K).trans kn)
        have z11 := kn.size
        clear kn
        have szy : w8.heap.size < (w8.alloc (.cells #[.int .i64 0, .bool false, .int .i64 0, .int .i64 0] 24)).heap.size := by simp
        have y0 : (w8.alloc (.cells #[.int .i64 0, .bool false, .int .i64 0, .int .i64 0] 24)).cell? ⟨w8.heap.size, 0, none⟩ = some (.int .i64 0) := new_cell2 _ _ _ _ _ _ rfl rfl
        have yf0 : (w8.alloc (.cells #[.int .i64 0, .bool false, .int .i64 0, .int .i64 0] 24)).frozen? ⟨w8.heap.size, 0, none⟩ = false := new_loose2 _ _ _ _ _ rfl
        have y1 : (w8.alloc (.cells #[.int .i64 0, .bool false, .int .i64 0, .int .i64 0] 24)).cell? ⟨w8.heap.size, 1, none⟩ = some (.bool false) := new_cell2 _ _ _ _ _ _ rfl rfl
        have yf1 : (w8.alloc (.cells #[.int .i64 0, .bool false, .int .i64 0, .int .i64 0] 24)).frozen? ⟨w8.heap.size, 1, none⟩ = false := new_loose2 _ _ _ _ _ rfl
        have y2 : (w8.alloc (.cells #[.int .i64 0, .bool false, .int .i64 0, .int .i64 0] 24)).cell? ⟨w8.heap.size, 2, none⟩ = some (.int .i64 0) := new_cell2 _ _ _ _ _ _ rfl rfl
        have yf2 : (w8.alloc (.cells #[.int .i64 0, .bool false, .int .i64 0, .int .i64 0] 24)).frozen? ⟨w8.heap.size, 2, none⟩ = false := new_loose2 _ _ _ _ _ rfl
        have y3 : (w8.alloc (.cells #[.int .i64 0, .bool false, .int .i64 0, .int .i64 0] 24)).cell? ⟨w8.heap.size, 3, none⟩ = some (.int .i64 0) := new_cell2 _ _ _ _ _ _ rfl rfl
        have yf3 : (w8.alloc (.cells #[.int .i64 0, .bool false, .int .i64 0, .int .i64 0] 24)).frozen? ⟨w8.heap.size, 3, none⟩ = false := new_loose2 _ _ _ _ _ rfl
        clear hH
        refine hK.out _ _ ?_ (fun hH => ?_)
        ·exact ⟨p0, p1, p2, p3, t0, t1, t2, t3, u0, u1, u2, u3⟩
        clear hK KK
        try simp only [Act.put, zq1, zq2, zq3, zq4, zq5, zq6]
        generalize w8.alloc (.cells #[.int .i64 0, .bool false, .int .i64 0, .int .i64 0] 24) = w10 at *
        refine wR 7 (by kernel_rfl) rfl (fun KK hK => ?_)
        simp only [zq1, zq2, zq3]
        rw [if_pos (by rfl)]
        refine wps4 8 (.tmp 26) (.tmp 28) (.tmp 30) (.tmp 31) _ rfl in_impl_FlFma_m (.agg #[.int .i64 k1, .bool n1, .int .i64 m1, .int .i64 e1]) (.agg #[.int .i64 k2, .bool n2, .int .i64 m2, .int .i64 e2]) (.agg #[.int .i64 k3, .bool n3, .int .i64 m3, .int .i64 e3]) (.int .i64 mode) rfl rfl rfl rfl (unhide mi _ (T.kept (unhide K))) ?_
        rintro e w12 ⟨rfl, k12⟩
        refine ⟨_, rfl, ?_⟩
        replace kw := kw.trans k12
        revert yf0 yf1 yf2 yf3; refine k12.l4 y0 y1 y2 y3 ?_; intro yf0 yf1 yf2 yf3
        revert p0 p1 p2 p3 t0 t1 t2 t3 u0 u1 u2 u3; refine k12.m12 ?_; intro p0 p1 p2 p3 t0 t1 t2 t3 u0 u1 u2 u3
        revert y0 y1 y2 y3; refine k12.m4 ?_; intro y0 y1 y2 y3
        replace K := hide ((unhide K).trans k12)
        have z13 := k12.size
        clear k12
        clear hH
        refine hK.out _ _ ?_ (fun hH => ?_)
        ·exact ⟨p0, p1, p2, p3, t0, t1, t2, t3, u0, u1, u2, u3⟩
        clear hK KK
        try simp only [Act.put, zq1, zq2, zq3, zq4, zq5, zq6]
        refine wT (i := 8) (v := .tuple #[.agg #[.int .i64 Q.1.1, .bool Q.1.2.1, .int .i64 Q.1.2.2.1, .int .i64 Q.1.2.2.2], .int .i64 Q.2]) rfl (Or.inl ⟨by rfl, ?_⟩) hH ?_
        ·intro wq hSw
         try dsimp only at hSw
         go_simp
        try simp only [Act.put, zq1, zq2, zq3, zq4, zq5, zq6]
        refine wT (i := 9) (v := .agg #[.int .i64 Q.1.1, .bool Q.1.2.1, .int .i64 Q.1.2.2.1, .int .i64 Q.1.2.2.2]) rfl (Or.inl ⟨by rfl, ?_⟩) hH ?_
        ·intro wq hSw
         try dsimp only at hSw
         go_simp
        try simp only [Act.put, zq1, zq2, zq3, zq4, zq5, zq6]
        refine wT (i := 10) (v := .int .i64 Q.2) rfl (Or.inl ⟨by rfl, ?_⟩) hH ?_
        ·intro wq hSw
         try dsimp only at hSw
         go_simp
        try simp only [Act.put, zq1, zq2, zq3, zq4, zq5, zq6]
        refine wR 12 (by kernel_rfl) rfl (fun KK hK => ?_)
        simp only [zq1, zq2, zq3]
        rw [if_pos (by rfl)]
        go_simp
        clear hH
        refine hK.out _ _ ?_ (fun hH => ?_)
        ·have sq := unhide S0; exact ⟨(cell_aside _ (by dsimp only; omega) (cw3 (by dsimp only; omega) p0)), (cell_aside _ (by dsimp only; omega) (cw3 (by dsimp only; omega) p1)), (cell_aside _ (by dsimp only; omega) (cw3 (by dsimp only; omega) p2)), (cell_aside _ (by dsimp only; omega) (cw3 (by dsimp only; omega) p3)), (cell_aside _ (by dsimp only; omega) (cw3 (by dsimp only; omega) t0)), (cell_aside _ (by dsimp only; omega) (cw3 (by dsimp only; omega) t1)), (cell_aside _ (by dsimp only; omega) (cw3 (by dsimp only; omega) t2)), (cell_aside _ (by dsimp only; omega) (cw3 (by dsimp only; omega) t3)), (cell_aside _ (by dsimp only; omega) (cw3 (by dsimp only; omega) u0)), (cell_aside _ (by dsimp only; omega) (cw3 (by dsimp only; omega) u1)), (cell_aside _ (by dsimp only; omega) (cw3 (by dsimp only; omega) u2)), (cell_aside _ (by dsimp only; omega) (cw3 (by dsimp only; omega) u3))⟩
        clear hK KK
        try simp only [Act.put, zq1, zq2, zq3, zq4, zq5, zq6]
        refine wT (i := 13) (v := .int .i64 Q.2) rfl (Or.inl ⟨by rfl, ?_⟩) hH ?_
        ·intro wq hSw
         try dsimp only at hSw
         go_simp
        try simp only [Act.put, zq1, zq2, zq3, zq4, zq5, zq6]
        refine wpAnyH_done (by kernel_rfl) ?_ _
        clear hH
        go_wp2_with fail
        go_meet
        have sq := unhide S0; exact ⟨_, rfl, rfl, FB.set4 _ _ _ _ y0 y1 y2 y3, ((((kw.setNew (p := ⟨w8.heap.size, 0, none⟩) (by dsimp only; omega) (.int .i64 Q.1.1)).setNew (p := ⟨w8.heap.size, 1, none⟩) (by dsimp only; omega) (.bool Q.1.2.1)).setNew (p := ⟨w8.heap.size, 2, none⟩) (by dsimp only; omega) (.int .i64 Q.1.2.2.1)).setNew (p := ⟨w8.heap.size, 3, none⟩) (by dsimp only; omega) (.int .i64 Q.1.2.2.2))⟩
      ·simp only [zq1, zq2, zq3]
       rw [if_pos (by rfl)]
       go_simp
       have kn := (Kept.refl 0 0 w6).alloc (.cells #[.int .i64 0, .bool false, .int .i64 0, .int .i64 0] 24)
       replace kw := kw.trans kn
       replace p0 := kn.cell0 p0
       replace p1 := kn.cell0 p1
       replace p2 := kn.cell0 p2
       replace p3 := kn.cell0 p3
       replace t0 := kn.cell0 t0
       replace t1 := kn.cell0 t1
       replace t2 := kn.cell0 t2
       replace t3 := kn.cell0 t3
       replace u0 := kn.cell0 u0
       replace u1 := kn.cell0 u1
       replace u2 := kn.cell0 u2
       replace u3 := kn.cell0 u3
       replace K := hide ((unhide K).trans kn)
       have z9 := kn.size
       clear kn
       have szy : w6.heap.size < (w6.alloc (.cells #[.int .i64 0, .bool false, .int .i64 0, .int .i64 0] 24)).heap.size := by simp
       have y0 : (w6.alloc (.cells #[.int .i64 0, .bool false, .int .i64 0, .int .i64 0] 24)).cell? ⟨w6.heap.size, 0, none⟩ = some (.int .i64 0) := new_cell2 _ _ _ _ _ _ rfl rfl
       have yf0 : (w6.alloc (.cells #[.int .i64 0, .bool false, .int .i64 0, .int .i64 0] 24)).frozen? ⟨w6.heap.size, 0, none⟩ = false := new_loose2 _ _ _ _ _ rfl
       have y1 : (w6.alloc (.cells #[.int .i64 0, .bool false, .int .i64 0, .int .i64 0] 24)).cell? ⟨w6.heap.size, 1, none⟩ = some (.bool false) := new_cell2 _ _ _ _ _ _ rfl rfl
       have yf1 : (w6.alloc (.cells #[.int .i64 0, .bool false, .int .i64 0, .int .i64 0] 24)).frozen? ⟨w6.heap.size, 1, none⟩ = false := new_loose2 _ _ _ _ _ rfl
       have y2 : (w6.alloc (.cells #[.int .i64 0, .bool false, .int .i64 0, .int .i64 0] 24)).cell? ⟨w6.heap.size, 2, none⟩ = some (.int .i64 0) := new_cell2 _ _ _ _ _ _ rfl rfl
       have yf2 : (w6.alloc (.cells #[.int .i64 0, .bool false, .int .i64 0, .int .i64 0] 24)).frozen? ⟨w6.heap.size, 2, none⟩ = false := new_loose2 _ _ _ _ _ rfl
       have y3 : (w6.alloc (.cells #[.int .i64 0, .bool false, .int .i64 0, .int .i64 0] 24)).cell? ⟨w6.heap.size, 3, none⟩ = some (.int .i64 0) := new_cell2 _ _ _ _ _ _ rfl rfl
       have yf3 : (w6.alloc (.cells #[.int .i64 0, .bool false, .int .i64 0, .int .i64 0] 24)).frozen? ⟨w6.heap.size, 3, none⟩ = false := new_loose2 _ _ _ _ _ rfl
       clear hH
       refine hK.out _ _ ?_ (fun hH => ?_)
       ·exact ⟨p0, p1, p2, p3, t0, t1, t2, t3, u0, u1, u2, u3⟩
       clear hK KK
       try simp only [Act.put, zq1, zq2, zq3, zq4, zq5, zq6]
       generalize w6.alloc (.cells #[.int .i64 0, .bool false, .int .i64 0, .int .i64 0] 24) = w8 at *
       refine wR 5 (by kernel_rfl) rfl (fun KK hK => ?_)
       simp only [zq1, zq2, zq3]
       rw [if_pos (by rfl)]
       refine wps1 25 (.tmp 29) _ rfl in_laws_toFl_m (.agg #[.int .i64 k3, .bool n3, .int .i64 m3, .int .i64 e3]) rfl (toFl_k k3 n3 m3 e3 _) ?_
       rintro e w10 ⟨rfl, k10⟩
       refine ⟨_, rfl, ?_⟩
       replace kw := kw.trans k10
       revert yf0 yf1 yf2 yf3; refine k10.l4 y0 y1 y2 y3 ?_; intro yf0 yf1 yf2 yf3
       revert p0 p1 p2 p3 t0 t1 t2 t3 u0 u1 u2 u3; refine k10.m12 ?_; intro p0 p1 p2 p3 t0 t1 t2 t3 u0 u1 u2 u3
       revert y0 y1 y2 y3; refine k10.m4 ?_; intro y0 y1 y2 y3
       replace K := hide ((unhide K).trans k10)
       have z11 := k10.size
       clear k10
       clear hH
       refine hK.out _ _ ?_ (fun hH => ?_)
       ·exact ⟨p0, p1, p2, p3, t0, t1, t2, t3, u0, u1, u2, u3⟩
       clear hK KK
       try simp only [Act.put, zq1, zq2, zq3, zq4, zq5, zq6]
       refine wR 7 (by kernel_rfl) rfl (fun KK hK => ?_)
       simp only [zq1, zq2, zq3]
       rw [if_pos (by rfl)]
       refine wps4 8 (.tmp 26) (.tmp 28) (.tmp 30) (.tmp 31) _ rfl in_impl_FlFma_m (.agg #[.int .i64 k1, .bool n1, .int .i64 m1, .int .i64 e1]) (.agg #[.int .i64 k2, .bool n2, .int .i64 m2, .int .i64 e2]) (.agg #[.int .i64 k3, .bool n3, .int .i64 m3, .int .i64 e3]) (.int .i64 mode) rfl rfl rfl rfl (unhide mi _ (T.kept (unhide K))) ?_
       rintro e w12 ⟨rfl, k12⟩
       refine ⟨_, rfl, ?_⟩
       replace kw := kw.trans k12
       revert yf0 yf1 yf2 yf3; refine k12.l4 y0 y1 y2 y3 ?_; intro yf0 yf1 yf2 yf3
       revert p0 p1 p2 p3 t0 t1 t2 t3 u0 u1 u2 u3; refine k12.m12 ?_; intro p0 p1 p2 p3 t0 t1 t2 t3 u0 u1 u2 u3
       revert y0 y1 y2 y3; refine k12.m4 ?_; intro y0 y1 y2 y3
       replace K := hide ((unhide K).trans k12)
       have z13 := k12.size
       clear k12
       clear hH
       refine hK.out _ _ ?_ (fun hH => ?_)
       ·exact ⟨p0, p1, p2, p3, t0, t1, t2, t3, u0, u1, u2, u3⟩
       clear hK KK
       try simp only [Act.put, zq1, zq2, zq3, zq4, zq5, zq6]
       refine wT (i := 8) (v := .tuple #[.agg #[.int .i64 Q.1.1, .bool Q.1.2.1, .int .i64 Q.1.2.2.1, .int .i64 Q.1.2.2.2], .int .i64 Q.2]) rfl (Or.inl ⟨by rfl, ?_⟩) hH ?_
       ·intro wq hSw
        try dsimp only at hSw
        go_simp
       try simp only [Act.put, zq1, zq2, zq3, zq4, zq5, zq6]
       refine wT (i := 9) (v := .agg #[.int .i64 Q.1.1, .bool Q.1.2.1, .int .i64 Q.1.2.2.1, .int .i64 Q.1.2.2.2]) rfl (Or.inl ⟨by rfl, ?_⟩) hH ?_
       ·intro wq hSw
        try dsimp only at hSw
        go_simp
       try simp only [Act.put, zq1, zq2, zq3, zq4, zq5, zq6]
       refine wT (i := 10) (v := .int .i64 Q.2) rfl (Or.inl ⟨by rfl, ?_⟩) hH ?_
       ·intro wq hSw
        try dsimp only at hSw
        go_simp
       try simp only [Act.put, zq1, zq2, zq3, zq4, zq5, zq6]
       refine wR 12 (by kernel_rfl) rfl (fun KK hK => ?_)
       simp only [zq1, zq2, zq3]
       rw [if_pos (by rfl)]
       go_simp
       clear hH
       refine hK.out _ _ ?_ (fun hH => ?_)
       ·have sq := unhide S0; exact ⟨(cell_aside _ (by dsimp only; omega) (cw3 (by dsimp only; omega) p0)), (cell_aside _ (by dsimp only; omega) (cw3 (by dsimp only; omega) p1)), (cell_aside _ (by dsimp only; omega) (cw3 (by dsimp only; omega) p2)), (cell_aside _ (by dsimp only; omega) (cw3 (by dsimp only; omega) p3)), (cell_aside _ (by dsimp only; omega) (cw3 (by dsimp only; omega) t0)), (cell_aside _ (by dsimp only; omega) (cw3 (by dsimp only; omega) t1)), (cell_aside _ (by dsimp only; omega) (cw3 (by dsimp only; omega) t2)), (cell_aside _ (by dsimp only; omega) (cw3 (by dsimp only; omega) t3)), (cell_aside _ (by dsimp only; omega) (cw3 (by dsimp only; omega) u0)), (cell_aside _ (by dsimp only; omega) (cw3 (by dsimp only; omega) u1)), (cell_aside _ (by dsimp only; omega) (cw3 (by dsimp only; omega) u2)), (cell_aside _ (by dsimp only; omega) (cw3 (by dsimp only; omega) u3))⟩
       clear hK KK
       try simp only [Act.put, zq1, zq2, zq3, zq4, zq5, zq6]
       refine wT (i := 13) (v := .int .i64 Q.2) rfl (Or.inl ⟨by rfl, ?_⟩) hH ?_
       ·intro wq hSw
        try dsimp only at hSw
        go_simp
       try simp only [Act.put, zq1, zq2, zq3, zq4, zq5, zq6]
       refine wpAnyH_done (by kernel_rfl) ?_ _
       clear hH
       go_wp2_with fail
       go_meet
       have sq := unhide S0; exact ⟨_, rfl, rfl, FB.set4 _ _ _ _ y0 y1 y2 y3, ((((kw.setNew (p := ⟨w6.heap.size, 0, none⟩) (by dsimp only; omega) (.int .i64 Q.1.1)).setNew (p := ⟨w6.heap.size, 1, none⟩) (by dsimp only; omega) (.bool Q.1.2.1)).setNew (p := ⟨w6.heap.size, 2, none⟩) (by dsimp only; omega) (.int .i64 Q.1.2.2.1)).setNew (p := ⟨w6.heap.size, 3, none⟩) (by dsimp only; omega) (.int .i64 Q.1.2.2.2))⟩
     ·simp only [zq1, zq2, zq3]
      rw [if_pos (by rfl)]
      go_simp
      have kn := (Kept.refl 0 0 w4).alloc (.cells #[.int .i64 0, .bool false, .int .i64 0, .int .i64 0] 24)
      replace kw := kw.trans kn
      replace p0 := kn.cell0 p0
      replace p1 := kn.cell0 p1
      replace p2 := kn.cell0 p2
      replace p3 := kn.cell0 p3
      replace t0 := kn.cell0 t0
      replace t1 := kn.cell0 t1
      replace t2 := kn.cell0 t2
      replace t3 := kn.cell0 t3
      replace u0 := kn.cell0 u0
      replace u1 := kn.cell0 u1
      replace u2 := kn.cell0 u2
      replace u3 := kn.cell0 u3
      replace K := hide ((unhide K).trans kn)
      have z7 := kn.size
      clear kn
      have szy : w4.heap.size < (w4.alloc (.cells #[.int .i64 0, .bool false, .int .i64 0, .int .i64 0] 24)).heap.size := by simp
      have y0 : (w4.alloc (.cells #[.int .i64 0, .bool false, .int .i64 0, .int .i64 0] 24)).cell? ⟨w4.heap.size, 0, none⟩ = some (.int .i64 0) := new_cell2 _ _ _ _ _ _ rfl rfl
      have yf0 : (w4.alloc (.cells #[.int .i64 0, .bool false, .int .i64 0, .int .i64 0] 24)).frozen? ⟨w4.heap.size, 0, none⟩ = false := new_loose2 _ _ _ _ _ rfl
      have y1 : (w4.alloc (.cells #[.int .i64 0, .bool false, .int .i64 0, .int .i64 0] 24)).cell? ⟨w4.heap.size, 1, none⟩ = some (.bool false) := new_cell2 _ _ _ _ _ _ rfl rfl
      have yf1 : (w4.alloc (.cells #[.int .i64 0, .bool false, .int .i64 0, .int .i64 0] 24)).frozen? ⟨w4.heap.size, 1, none⟩ = false := new_loose2 _ _ _ _ _ rfl
      have y2 : (w4.alloc (.cells #[.int .i64 0, .bool false, .int .i64 0, .int .i64 0] 24)).cell? ⟨w4.heap.size, 2, none⟩ = some (.int .i64 0) := new_cell2 _ _ _ _ _ _ rfl rfl
      have yf2 : (w4.alloc (.cells #[.int .i64 0, .bool false, .int .i64 0, .int .i64 0] 24)).frozen? ⟨w4.heap.size, 2, none⟩ = false := new_loose2 _ _ _ _ _ rfl
      have y3 : (w4.alloc (.cells #[.int .i64 0, .bool false, .int .i64 0, .int .i64 0] 24)).cell? ⟨w4.heap.size, 3, none⟩ = some (.int .i64 0) := new_cell2 _ _ _ _ _ _ rfl rfl
      have yf3 : (w4.alloc (.cells #[.int .i64 0, .bool false, .int .i64 0, .int .i64 0] 24)).frozen? ⟨w4.heap.size, 3, none⟩ = false := new_loose2 _ _ _ _ _ rfl
      clear hH
      refine hK.out _ _ ?_ (fun hH => ?_)
      ·exact ⟨p0, p1, p2, p3, t0, t1, t2, t3, u0, u1, u2, u3⟩
      clear hK KK
      try simp only [Act.put, zq1, zq2, zq3, zq4, zq5, zq6]
      generalize w4.alloc (.cells #[.int .i64 0, .bool false, .int .i64 0, .int .i64 0] 24) = w6 at *
      refine wR 3 (by kernel_rfl) rfl (fun KK hK => ?_)
      simp only [zq1, zq2, zq3]
      rw [if_pos (by rfl)]
      refine wps1 25 (.tmp 27) _ rfl in_laws_toFl_m (.agg #[.int .i64 k2, .bool n2, .int .i64 m2, .int .i64 e2]) rfl (toFl_k k2 n2 m2 e2 _) ?_
      rintro e w8 ⟨rfl, k8⟩
      refine ⟨_, rfl, ?_⟩
      replace kw := kw.trans k8
      revert yf0 yf1 yf2 yf3; refine k8.l4 y0 y1 y2 y3 ?_; intro yf0 yf1 yf2 yf3
      revert p0 p1 p2 p3 t0 t1 t2 t3 u0 u1 u2 u3; refine k8.m12 ?_; intro p0 p1 p2 p3 t0 t1 t2 t3 u0 u1 u2 u3
      revert y0 y1 y2 y3; refine k8.m4 ?_; intro y0 y1 y2 y3
      replace K := hide ((unhide K).trans k8)
      have z9 := k8.size
      clear k8
      clear hH
      refine hK.out _ _ ?_ (fun hH => ?_)
      ·exact ⟨p0, p1, p2, p3, t0, t1, t2, t3, u0, u1, u2, u3⟩
      clear hK KK
      try simp only [Act.put, zq1, zq2, zq3, zq4, zq5, zq6]
      refine wR 5 (by kernel_rfl) rfl (fun KK hK => ?_)
      simp only [zq1, zq2, zq3]
      rw [if_pos (by rfl)]
      refine wps1 25 (.tmp 29) _ rfl in_laws_toFl_m (.agg #[.int .i64 k3, .bool n3, .int .i64 m3, .int .i64 e3]) rfl (toFl_k k3 n3 m3 e3 _) ?_
      rintro e w10 ⟨rfl, k10⟩
      refine ⟨_, rfl, ?_⟩
      replace kw := kw.trans k10
      revert yf0 yf1 yf2 yf3; refine k10.l4 y0 y1 y2 y3 ?_; intro yf0 yf1 yf2 yf3
      revert p0 p1 p2 p3 t0 t1 t2 t3 u0 u1 u2 u3; refine k10.m12 ?_; intro p0 p1 p2 p3 t0 t1 t2 t3 u0 u1 u2 u3
      revert y0 y1 y2 y3; refine k10.m4 ?_; intro y0 y1 y2 y3
      replace K := hide ((unhide K).trans k10)
      have z11 := k10.size
      clear k10
      clear hH
      refine hK.out _ _ ?_ (fun hH => ?_)
      ·exact ⟨p0, p1, p2, p3, t0, t1, t2, t3, u0, u1, u2, u3⟩
      clear hK KK
      try simp only [Act.put, zq1, zq2, zq3, zq4, zq5, zq6]
      refine wR 7 (by kernel_rfl) rfl (fun KK hK => ?_)
      simp only [zq1, zq2, zq3]
      rw [if_pos (by rfl)]
      refine wps4 8 (.tmp 26) (.tmp 28) (.tmp 30) (.tmp 31) _ rfl in_impl_FlFma_m (.agg #[.int .i64 k1, .bool n1, .int .i64 m1, .int .i64 e1]) (.agg #[.int .i64 k2, .bool n2, .int .i64 m2, .int .i64 e2]) (.agg #[.int .i64 k3, .bool n3, .int .i64 m3, .int .i64 e3]) (.int .i64 mode) rfl rfl rfl rfl (unhide mi _ (T.kept (unhide K))) ?_
      rintro e w12 ⟨rfl, k12⟩
      refine ⟨_, rfl, ?_⟩
      replace kw := kw.trans k12
      revert yf0 yf1 yf2 yf3; refine k12.l4 y0 y1 y2 y3 ?_; intro yf0 yf1 yf2 yf3
      revert p0 p1 p2 p3 t0 t1 t2 t3 u0 u1 u2 u3; refine k12.m12 ?_; intro p0 p1 p2 p3 t0 t1 t2 t3 u0 u1 u2 u3
      revert y0 y1 y2 y3; refine k12.m4 ?_; intro y0 y1 y2 y3
      replace K := hide ((unhide K).trans k12)
      have z13 := k12.size
      clear k12
      clear hH
      refine hK.out _ _ ?_ (fun hH => ?_)
      ·exact ⟨p0, p1, p2, p3, t0, t1, t2, t3, u0, u1, u2, u3⟩
      clear hK KK
      try simp only [Act.put, zq1, zq2, zq3, zq4, zq5, zq6]
      refine wT (i := 8) (v := .tuple #[.agg #[.int .i64 Q.1.1, .bool Q.1.2.1, .int .i64 Q.1.2.2.1, .int .i64 Q.1.2.2.2], .int .i64 Q.2]) rfl (Or.inl ⟨by rfl, ?_⟩) hH ?_
      ·intro wq hSw
       try dsimp only at hSw
       go_simp
      try simp only [Act.put, zq1, zq2, zq3, zq4, zq5, zq6]
      refine wT (i := 9) (v := .agg #[.int .i64 Q.1.1, .bool Q.1.2.1, .int .i64 Q.1.2.2.1, .int .i64 Q.1.2.2.2]) rfl (Or.inl ⟨by rfl, ?_⟩) hH ?_
      ·intro wq hSw
       try dsimp only at hSw
       go_simp
      try simp only [Act.put, zq1, zq2, zq3, zq4, zq5, zq6]
      refine wT (i := 10) (v := .int .i64 Q.2) rfl (Or.inl ⟨by rfl, ?_⟩) hH ?_
      ·intro wq hSw
       try dsimp only at hSw
       go_simp
      try simp only [Act.put, zq1, zq2, zq3, zq4, zq5, zq6]
      refine wR 12 (by kernel_rfl) rfl (fun KK hK => ?_)
      simp only [zq1, zq2, zq3]
      rw [if_pos (by rfl)]
      go_simp
      clear hH
      refine hK.out _ _ ?_ (fun hH => ?_)
      ·have sq := unhide S0; exact ⟨(cell_aside _ (by dsimp only; omega) (cw3 (by dsimp only; omega) p0)), (cell_aside _ (by dsimp only; omega) (cw3 (by dsimp only; omega) p1)), (cell_aside _ (by dsimp only; omega) (cw3 (by dsimp only; omega) p2)), (cell_aside _ (by dsimp only; omega) (cw3 (by dsimp only; omega) p3)), (cell_aside _ (by dsimp only; omega) (cw3 (by dsimp only; omega) t0)), (cell_aside _ (by dsimp only; omega) (cw3 (by dsimp only; omega) t1)), (cell_aside _ (by dsimp only; omega) (cw3 (by dsimp only; omega) t2)), (cell_aside _ (by dsimp only; omega) (cw3 (by dsimp only; omega) t3)), (cell_aside _ (by dsimp only; omega) (cw3 (by dsimp only; omega) u0)), (cell_aside _ (by dsimp only; omega) (cw3 (by dsimp only; omega) u1)), (cell_aside _ (by dsimp only; omega) (cw3 (by dsimp only; omega) u2)), (cell_aside _ (by dsimp only; omega) (cw3 (by dsimp only; omega) u3))⟩
      clear hK KK
      try simp only [Act.put, zq1, zq2, zq3, zq4, zq5, zq6]
      refine wT (i := 13) (v := .int .i64 Q.2) rfl (Or.inl ⟨by rfl, ?_⟩) hH ?_
      ·intro wq hSw
       try dsimp only at hSw
       go_simp
      try simp only [Act.put, zq1, zq2, zq3, zq4, zq5, zq6]
      refine wpAnyH_done (by kernel_rfl) ?_ _
      clear hH
      go_wp2_with fail
      go_meet
      have sq := unhide S0; exact ⟨_, rfl, rfl, FB.set4 _ _ _ _ y0 y1 y2 y3, ((((kw.setNew (p := ⟨w4.heap.size, 0, none⟩) (by dsimp only; omega) (.int .i64 Q.1.1)).setNew (p := ⟨w4.heap.size, 1, none⟩) (by dsimp only; omega) (.bool Q.1.2.1)).setNew (p := ⟨w4.heap.size, 2, none⟩) (by dsimp only; omega) (.int .i64 Q.1.2.2.1)).setNew (p := ⟨w4.heap.size, 3, none⟩) (by dsimp only; omega) (.int .i64 Q.1.2.2.2))⟩
    ·simp only [zq1, zq2, zq3]
     rw [if_pos (by rfl)]
     go_simp
     have kn := (Kept.refl 0 0 wd3).alloc (.cells #[.int .i64 0, .bool false, .int .i64 0, .int .i64 0] 24)
     replace kw := kw.trans kn
     replace p0 := kn.cell0 p0
     replace p1 := kn.cell0 p1
     replace p2 := kn.cell0 p2
     replace p3 := kn.cell0 p3
     replace t0 := kn.cell0 t0
     replace t1 := kn.cell0 t1
     replace t2 := kn.cell0 t2
     replace t3 := kn.cell0 t3
     replace u0 := kn.cell0 u0
     replace u1 := kn.cell0 u1
     replace u2 := kn.cell0 u2
     replace u3 := kn.cell0 u3
     replace K := hide ((unhide K).trans kn)
     have z5 := kn.size
     clear kn
     have szy : wd3.heap.size < (wd3.alloc (.cells #[.int .i64 0, .bool false, .int .i64 0, .int .i64 0] 24)).heap.size := by simp
     have y0 : (wd3.alloc (.cells #[.int .i64 0, .bool false, .int .i64 0, .int .i64 0] 24)).cell? ⟨wd3.heap.size, 0, none⟩ = some (.int .i64 0) := new_cell2 _ _ _ _ _ _ rfl rfl
     have yf0 : (wd3.alloc (.cells #[.int .i64 0, .bool false, .int .i64 0, .int .i64 0] 24)).frozen? ⟨wd3.heap.size, 0, none⟩ = false := new_loose2 _ _ _ _ _ rfl
     have y1 : (wd3.alloc (.cells #[.int .i64 0, .bool false, .int .i64 0, .int .i64 0] 24)).cell? ⟨wd3.heap.size, 1, none⟩ = some (.bool false) := new_cell2 _ _ _ _ _ _ rfl rfl
     have yf1 : (wd3.alloc (.cells #[.int .i64 0, .bool false, .int .i64 0, .int .i64 0] 24)).frozen? ⟨wd3.heap.size, 1, none⟩ = false := new_loose2 _ _ _ _ _ rfl
     have y2 : (wd3.alloc (.cells #[.int .i64 0, .bool false, .int .i64 0, .int .i64 0] 24)).cell? ⟨wd3.heap.size, 2, none⟩ = some (.int .i64 0) := new_cell2 _ _ _ _ _ _ rfl rfl
     have yf2 : (wd3.alloc (.cells #[.int .i64 0, .bool false, .int .i64 0, .int .i64 0] 24)).frozen? ⟨wd3.heap.size, 2, none⟩ = false := new_loose2 _ _ _ _ _ rfl
     have y3 : (wd3.alloc (.cells #[.int .i64 0, .bool false, .int .i64 0, .int .i64 0] 24)).cell? ⟨wd3.heap.size, 3, none⟩ = some (.int .i64 0) := new_cell2 _ _ _ _ _ _ rfl rfl
     have yf3 : (wd3.alloc (.cells #[.int .i64 0, .bool false, .int .i64 0, .int .i64 0] 24)).frozen? ⟨wd3.heap.size, 3, none⟩ = false := new_loose2 _ _ _ _ _ rfl
     clear hH
     refine hK.out _ _ ?_ (fun hH => ?_)
     ·exact ⟨p0, p1, p2, p3, t0, t1, t2, t3, u0, u1, u2, u3⟩
     clear hK KK
     try simp only [Act.put, zq1, zq2, zq3, zq4, zq5, zq6]
     generalize wd3.alloc (.cells #[.int .i64 0, .bool false, .int .i64 0, .int .i64 0] 24) = w4 at *
     refine wR 1 (by kernel_rfl) rfl (fun KK hK => ?_)
     simp only [zq1, zq2, zq3]
     rw [if_pos (by rfl)]
     refine wps1 25 (.tmp 25) _ rfl in_laws_toFl_m (.agg #[.int .i64 k1, .bool n1, .int .i64 m1, .int .i64 e1]) rfl (toFl_k k1 n1 m1 e1 _) ?_
     rintro e w6 ⟨rfl, k6⟩
     refine ⟨_, rfl, ?_⟩
     replace kw := kw.trans k6
     revert yf0 yf1 yf2 yf3; refine k6.l4 y0 y1 y2 y3 ?_; intro yf0 yf1 yf2 yf3
     revert p0 p1 p2 p3 t0 t1 t2 t3 u0 u1 u2 u3; refine k6.m12 ?_; intro p0 p1 p2 p3 t0 t1 t2 t3 u0 u1 u2 u3
     revert y0 y1 y2 y3; refine k6.m4 ?_; intro y0 y1 y2 y3
     replace K := hide ((unhide K).trans k6)
     have z7 := k6.size
     clear k6
     clear hH
     refine hK.out _ _ ?_ (fun hH => ?_)
     ·exact ⟨p0, p1, p2, p3, t0, t1, t2, t3, u0, u1, u2, u3⟩
     clear hK KK
     try simp only [Act.put, zq1, zq2, zq3, zq4, zq5, zq6]
     refine wR 3 (by kernel_rfl) rfl (fun KK hK => ?_)
     simp only [zq1, zq2, zq3]
     rw [if_pos (by rfl)]
     refine wps1 25 (.tmp 27) _ rfl in_laws_toFl_m (.agg #[.int .i64 k2, .bool n2, .int .i64 m2, .int .i64 e2]) rfl (toFl_k k2 n2 m2 e2 _) ?_
     rintro e w8 ⟨rfl, k8⟩
     refine ⟨_, rfl, ?_⟩
     replace kw := kw.trans k8
     revert yf0 yf1 yf2 yf3; refine k8.l4 y0 y1 y2 y3 ?_; intro yf0 yf1 yf2 yf3
     revert p0 p1 p2 p3 t0 t1 t2 t3 u0 u1 u2 u3; refine k8.m12 ?_; intro p0 p1 p2 p3 t0 t1 t2 t3 u0 u1 u2 u3
     revert y0 y1 y2 y3; refine k8.m4 ?_; intro y0 y1 y2 y3
     replace K := hide ((unhide K).trans k8)
     have z9 := k8.size
     clear k8
     clear hH
     refine hK.out _ _ ?_ (fun hH => ?_)
     ·exact ⟨p0, p1, p2, p3, t0, t1, t2, t3, u0, u1, u2, u3⟩
     clear hK KK
     try simp only [Act.put, zq1, zq2, zq3, zq4, zq5, zq6]
     refine wR 5 (by kernel_rfl) rfl (fun KK hK => ?_)
     simp only [zq1, zq2, zq3]
     rw [if_pos (by rfl)]
     refine wps1 25 (.tmp 29) _ rfl in_laws_toFl_m (.agg #[.int .i64 k3, .bool n3, .int .i64 m3, .int .i64 e3]) rfl (toFl_k k3 n3 m3 e3 _) ?_
     rintro e w10 ⟨rfl, k10⟩
     refine ⟨_, rfl, ?_⟩
     replace kw := kw.trans k10
     revert yf0 yf1 yf2 yf3; refine k10.l4 y0 y1 y2 y3 ?_; intro yf0 yf1 yf2 yf3
     revert p0 p1 p2 p3 t0 t1 t2 t3 u0 u1 u2 u3; refine k10.m12 ?_; intro p0 p1 p2 p3 t0 t1 t2 t3 u0 u1 u2 u3
     revert y0 y1 y2 y3; refine k10.m4 ?_; intro y0 y1 y2 y3
     replace K := hide ((unhide K).trans k10)
     have z11 := k10.size
     clear k10
     clear hH
     refine hK.out _ _ ?_ (fun hH => ?_)
     ·exact ⟨p0, p1, p2, p3, t0, t1, t2, t3, u0, u1, u2, u3⟩
     clear hK KK
     try simp only [Act.put, zq1, zq2, zq3, zq4, zq5, zq6]
     refine wR 7 (by kernel_rfl) rfl (fun KK hK => ?_)
     simp only [zq1, zq2, zq3]
     rw [if_pos (by rfl)]
     refine wps4 8 (.tmp 26) (.tmp 28) (.tmp 30) (.tmp 31) _ rfl in_impl_FlFma_m (.agg #[.int .i64 k1, .bool n1, .int .i64 m1, .int .i64 e1]) (.agg #[.int .i64 k2, .bool n2, .int .i64 m2, .int .i64 e2]) (.agg #[.int .i64 k3, .bool n3, .int .i64 m3, .int .i64 e3]) (.int .i64 mode) rfl rfl rfl rfl (unhide mi _ (T.kept (unhide K))) ?_
     rintro e w12 ⟨rfl, k12⟩
     refine ⟨_, rfl, ?_⟩
     replace kw := kw.trans k12
     revert yf0 yf1 yf2 yf3; refine k12.l4 y0 y1 y2 y3 ?_; intro yf0 yf1 yf2 yf3
     revert p0 p1 p2 p3 t0 t1 t2 t3 u0 u1 u2 u3; refine k12.m12 ?_; intro p0 p1 p2 p3 t0 t1 t2 t3 u0 u1 u2 u3
     revert y0 y1 y2 y3; refine k12.m4 ?_; intro y0 y1 y2 y3
     replace K := hide ((unhide K).trans k12)
     have z13 := k12.size
     clear k12
     clear hH
     refine hK.out _ _ ?_ (fun hH => ?_)
     ·exact ⟨p0, p1, p2, p3, t0, t1, t2, t3, u0, u1, u2, u3⟩
     clear hK KK
     try simp only [Act.put, zq1, zq2, zq3, zq4, zq5, zq6]
     refine wT (i := 8) (v := .tuple #[.agg #[.int .i64 Q.1.1, .bool Q.1.2.1, .int .i64 Q.1.2.2.1, .int .i64 Q.1.2.2.2], .int .i64 Q.2]) rfl (Or.inl ⟨by rfl, ?_⟩) hH ?_
     ·intro wq hSw
      try dsimp only at hSw
      go_simp
     try simp only [Act.put, zq1, zq2, zq3, zq4, zq5, zq6]
     refine wT (i := 9) (v := .agg #[.int .i64 Q.1.1, .bool Q.1.2.1, .int .i64 Q.1.2.2.1, .int .i64 Q.1.2.2.2]) rfl (Or.inl ⟨by rfl, ?_⟩) hH ?_
     ·intro wq hSw
      try dsimp only at hSw
      go_simp
     try simp only [Act.put, zq1, zq2, zq3, zq4, zq5, zq6]
     refine wT (i := 10) (v := .int .i64 Q.2) rfl (Or.inl ⟨by rfl, ?_⟩) hH ?_
     ·intro wq hSw
      try dsimp only at hSw
      go_simp
     try simp only [Act.put, zq1, zq2, zq3, zq4, zq5, zq6]
     refine wR 12 (by kernel_rfl) rfl (fun KK hK => ?_)
     simp only [zq1, zq2, zq3]
     rw [if_pos (by rfl)]
     go_simp
     clear hH
     refine hK.out _ _ ?_ (fun hH => ?_)
     ·have sq := unhide S0; exact ⟨(cell_aside _ (by dsimp only; omega) (cw3 (by dsimp only; omega) p0)), (cell_aside _ (by dsimp only; omega) (cw3 (by dsimp only; omega) p1)), (cell_aside _ (by dsimp only; omega) (cw3 (by dsimp only; omega) p2)), (cell_aside _ (by dsimp only; omega) (cw3 (by dsimp only; omega) p3)), (cell_aside _ (by dsimp only; omega) (cw3 (by dsimp only; omega) t0)), (cell_aside _ (by dsimp only; omega) (cw3 (by dsimp only; omega) t1)), (cell_aside _ (by dsimp only; omega) (cw3 (by dsimp only; omega) t2)), (cell_aside _ (by dsimp only; omega) (cw3 (by dsimp only; omega) t3)), (cell_aside _ (by dsimp only; omega) (cw3 (by dsimp only; omega) u0)), (cell_aside _ (by dsimp only; omega) (cw3 (by dsimp only; omega) u1)), (cell_aside _ (by dsimp only; omega) (cw3 (by dsimp only; omega) u2)), (cell_aside _ (by dsimp only; omega) (cw3 (by dsimp only; omega) u3))⟩
     clear hK KK
     try simp only [Act.put, zq1, zq2, zq3, zq4, zq5, zq6]
     refine wT (i := 13) (v := .int .i64 Q.2) rfl (Or.inl ⟨by rfl, ?_⟩) hH ?_
     ·intro wq hSw
      try dsimp only at hSw
      go_simp
     try simp only [Act.put, zq1, zq2, zq3, zq4, zq5, zq6]
     refine wpAnyH_done (by kernel_rfl) ?_ _
     clear hH
     go_wp2_with fail
     go_meet
     have sq := unhide S0; exact ⟨_, rfl, rfl, FB.set4 _ _ _ _ y0 y1 y2 y3, ((((kw.setNew (p := ⟨wd3.heap.size, 0, none⟩) (by dsimp only; omega) (.int .i64 Q.1.1)).setNew (p := ⟨wd3.heap.size, 1, none⟩) (by dsimp only; omega) (.bool Q.1.2.1)).setNew (p := ⟨wd3.heap.size, 2, none⟩) (by dsimp only; omega) (.int .i64 Q.1.2.2.1)).setNew (p := ⟨wd3.heap.size, 3, none⟩) (by dsimp only; omega) (.int .i64 Q.1.2.2.2))⟩
   case rest =>
    obtain ⟨Xg, rfl, rfl, Fg, kx⟩ := hcut
    replace p0 := kx.cell0 p0
    replace p1 := kx.cell0 p1
    replace p2 := kx.cell0 p2
    replace p3 := kx.cell0 p3
    replace t0 := kx.cell0 t0
    replace t1 := kx.cell0 t1
    replace t2 := kx.cell0 t2
    replace t3 := kx.cell0 t3
    replace u0 := kx.cell0 u0
    replace u1 := kx.cell0 u1
    replace u2 := kx.cell0 u2
    replace u3 := kx.cell0 u3
    replace K := hide ((unhide K).trans kx)
    have z2 := kx.size
    replace Fw := Fw.kept kx
    clear kx
    have c0 := Fw.c0
    have c1 := Fw.c1
    have c2 := Fw.c2
    have c3 := Fw.c3
    have d0 := Fg.c0
    have d1 := Fg.c1
    have d2 := Fg.c2
    have d3 := Fg.c3
    go_wp2_with fail
    refine (eqFl_k2 Q.1.1 Q.1.2.1 Q.1.2.2.1 Q.1.2.2.2 _).mono ?_
    rintro e w3 ⟨rfl, k3⟩
    revert p0 p1 p2 p3 t0 t1 t2 t3 u0 u1 u2 u3; refine k3.m12 ?_; intro p0 p1 p2 p3 t0 t1 t2 t3 u0 u1 u2 u3
    replace K := hide ((unhide K).trans k3)
    have z4 := k3.size
    clear k3
    clear c0 c1 c2 c3 d0 d1 d2 d3 Fw Fg
    go_wp2_with fail
    go_ret
    exact ⟨rfl, (unhide K).toBelow⟩

end Go.Proofs.YtepehpkmejjhiaaGreatDoor

