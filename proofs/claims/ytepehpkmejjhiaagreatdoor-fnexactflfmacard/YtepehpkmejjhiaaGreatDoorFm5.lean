/-
  A product and a sum of floats, rounded once: FlFma of the model.
-/
import Derived.Test.YtepehpkmejjhiaaGreatDoorFmx
import Derived.Deep.RegionHeld3
import Derived.Deep.DeepCutAuto
namespace Go.Proofs.YtepehpkmejjhiaaGreatDoor
open Go.RowKit
set_option linter.unusedVariables false
set_option maxRecDepth 8000
set_option linter.unusedSimpArgs false

theorem in_l5dy_n : ∀ (w : World) (args : Array Value), (callFunc 65 args).run Tryz.prog w = .ok (.enter 65 args) w := enters Tryz.func65 (by decide) (fun h => by cases h)

theorem in_l5round_n : ∀ (w : World) (args : Array Value), (callFunc 62 args).run Tryz.prog w = .ok (.enter 62 args) w := enters Tryz.func62 (by decide) (fun h => by cases h)

theorem in_l4mul_n : ∀ (w : World) (args : Array Value), (callFunc 64 args).run Tryz.prog w = .ok (.enter 64 args) w := enters Tryz.func64 (by decide) (fun h => by cases h)

theorem in_l4add_n : ∀ (w : World) (args : Array Value), (callFunc 63 args).run Tryz.prog w = .ok (.enter 63 args) w := enters Tryz.func63 (by decide) (fun h => by cases h)

set_option maxHeartbeats 8000000 in
theorem fmaS_sp {k1 : Int} {n1 : Bool} {m1 e1 k2 : Int} {n2 : Bool} {m2 e2 k3 : Int} {n3 : Bool} {m3 e3 : Int} (h1 : flok k1 n1 m1 e1 = true) (h2 : flok k2 n2 m2 e2 = true) (h3 : flok k3 n3 m3 e3 = true) (hs : 2 ≤ k1 ∨ 2 ≤ k2) (mode : Int) (hm0 : 0 ≤ mode) (hm4 : mode ≤ 4) (w : World) :
    Calls Tryz.prog 24 #[flv k1 n1 m1 e1, flv k2 n2 m2 e2, flv k3 n3 m3 e3, .int .i64 mode] w fun e' w' => e' = .returned (.tuple #[flq (fmaQ k1 n1 m1 e1 k2 n2 m2 e2 k3 n3 m3 e3 mode).1, .int .i64 (fmaQ k1 n1 m1 e1 k2 n2 m2 e2 k3 n3 m3 e3 mode).2]) ∧ Kept 0 0 w w' := by
  have hsp := mul_sp h1 h2 hs k3 n3 m3 e3 mode
  have mI := fun w => mulS_sp h1 h2 hs mode hm0 hm4 w
  have mN := fun w => addS_nan_any h3 mode hm0 hm4 w
  have mF := fun s w => addS_inf_any s h3 mode hm0 hm4 w
  obtain ⟨Q, hQ⟩ : ∃ q, fmaQ k1 n1 m1 e1 k2 n2 m2 e2 k3 n3 m3 e3 mode = q := ⟨_, rfl⟩
  rw [hQ]
  rw [hQ] at hsp
  clear hQ
  obtain ⟨SG, hSG⟩ : ∃ y, (!(n1 == n2)) = y := ⟨_, rfl⟩
  rw [hSG] at hsp
  clear hSG
  have MI := hide mI
  have MN := hide mN
  have MF := hide mF
  have HSP := hide hsp
  clear mI mN mF hsp
  have hb : ((k1 == 3) = true) ∨ ((k1 == 3) = false ∧ (k2 == 3) = true) ∨ ((k1 == 3) = false ∧ (k2 == 3) = false ∧ (k1 == 2) = true) ∨ ((k1 == 3) = false ∧ (k2 == 3) = false ∧ (k1 == 2) = false ∧ (k2 == 2) = true) := by
   cases b13 : (k1 == 3)
   ·cases b23 : (k2 == 3)
    ·cases b12 : (k1 == 2)
     ·refine .inr (.inr (.inr ⟨rfl, rfl, rfl, ?_⟩))
      have g1 : ¬ k1 = 3 := by simpa using b13
      have g2 : ¬ k2 = 3 := by simpa using b23
      have g3 : ¬ k1 = 2 := by simpa using b12
      have r1 : k1 ≤ 3 := by rcases flok_ways h1 with ⟨g, -⟩ | ⟨g, -⟩ | ⟨g, -⟩ | ⟨g, -⟩ <;> omega
      have r2 : k2 ≤ 3 := by rcases flok_ways h2 with ⟨g, -⟩ | ⟨g, -⟩ | ⟨g, -⟩ | ⟨g, -⟩ <;> omega
      have g4 : k2 = 2 := by omega
      rw [g4]
      rfl
     ·exact .inr (.inr (.inl ⟨rfl, rfl, rfl⟩))
    ·exact .inr (.inl ⟨rfl, rfl⟩)
   ·exact .inl rfl
  clear hs
  rcases hb with b13 | ⟨b13, b23⟩ | ⟨b13, b23, b12⟩ | ⟨b13, b23, b12, b22⟩
  all_goals
   have mo := fun w => l5ok_spec k1 n1 m1 e1 k2 n2 m2 e2 mode w
   have hcc : okM k1 n1 m1 e1 k2 n2 m2 e2 mode = true := by unfold okM modeB; rw [h1, h2, decide_eq_true hm0, decide_eq_true hm4]; rfl
   simp only [hcc] at mo
   have mc := fun w => flok_spec_k h3 w
   replace mo := hide mo
   replace mc := hide mc
   clear hcc
   obtain ⟨Wn, hn0⟩ : ∃ wz, wz = ((((w.alloc (.cells #[.int .i64 k1, .bool n1, .int .i64 m1, .int .i64 e1] 24)).alloc (.cells #[.int .i64 k2, .bool n2, .int .i64 m2, .int .i64 e2] 24)).alloc (.cells #[.int .i64 k3, .bool n3, .int .i64 m3, .int .i64 e3] 24)).alloc (.cells #[.int .i64 0, .bool false, .int .i64 0, .int .i64 0] 24)) := ⟨_, rfl⟩
   have k0 : Kept 0 0 w Wn := by rw [hn0]; exact (((((Kept.refl 0 0 w).alloc _).alloc _).alloc _).alloc _)
   have p0 : Wn.cell? ⟨w.heap.size, 0, none⟩ = some (.int .i64 k1) := by rw [hn0]; exact old_cell _ (old_cell _ (old_cell _ (new_cell2 _ _ _ _ _ _ (by simp) rfl)))
   have p1 : Wn.cell? ⟨w.heap.size, 1, none⟩ = some (.bool n1) := by rw [hn0]; exact old_cell _ (old_cell _ (old_cell _ (new_cell2 _ _ _ _ _ _ (by simp) rfl)))
   have p2 : Wn.cell? ⟨w.heap.size, 2, none⟩ = some (.int .i64 m1) := by rw [hn0]; exact old_cell _ (old_cell _ (old_cell _ (new_cell2 _ _ _ _ _ _ (by simp) rfl)))
   have p3 : Wn.cell? ⟨w.heap.size, 3, none⟩ = some (.int .i64 e1) := by rw [hn0]; exact old_cell _ (old_cell _ (old_cell _ (new_cell2 _ _ _ _ _ _ (by simp) rfl)))
   have t0 : Wn.cell? ⟨w.heap.size + 1, 0, none⟩ = some (.int .i64 k2) := by rw [hn0]; exact old_cell _ (old_cell _ (new_cell2 _ _ _ _ _ _ (by simp) rfl))
   have t1 : Wn.cell? ⟨w.heap.size + 1, 1, none⟩ = some (.bool n2) := by rw [hn0]; exact old_cell _ (old_cell _ (new_cell2 _ _ _ _ _ _ (by simp) rfl))
   have t2 : Wn.cell? ⟨w.heap.size + 1, 2, none⟩ = some (.int .i64 m2) := by rw [hn0]; exact old_cell _ (old_cell _ (new_cell2 _ _ _ _ _ _ (by simp) rfl))
   have t3 : Wn.cell? ⟨w.heap.size + 1, 3, none⟩ = some (.int .i64 e2) := by rw [hn0]; exact old_cell _ (old_cell _ (new_cell2 _ _ _ _ _ _ (by simp) rfl))
   have u0 : Wn.cell? ⟨w.heap.size + 2, 0, none⟩ = some (.int .i64 k3) := by rw [hn0]; exact old_cell _ (new_cell2 _ _ _ _ _ _ (by simp) rfl)
   have u1 : Wn.cell? ⟨w.heap.size + 2, 1, none⟩ = some (.bool n3) := by rw [hn0]; exact old_cell _ (new_cell2 _ _ _ _ _ _ (by simp) rfl)
   have u2 : Wn.cell? ⟨w.heap.size + 2, 2, none⟩ = some (.int .i64 m3) := by rw [hn0]; exact old_cell _ (new_cell2 _ _ _ _ _ _ (by simp) rfl)
   have u3 : Wn.cell? ⟨w.heap.size + 2, 3, none⟩ = some (.int .i64 e3) := by rw [hn0]; exact old_cell _ (new_cell2 _ _ _ _ _ _ (by simp) rfl)
   obtain ⟨q0, q1, q2, q3, qf0, qf1, qf2, qf3⟩ := new4 hn0 (n := w.heap.size + 3) (by simp)
   have s0 : Wn.heap.size = w.heap.size + 4 := by rw [hn0]; exact by simp
   subst hn0
   have K := hide (k0)
   clear k0
   have S0 := hide s0
   clear s0
   go_enter Tryz.func24, Tryz.ntmps24
   go_wp2_with fail
   generalize ((((w.alloc (.cells #[.int .i64 k1, .bool n1, .int .i64 m1, .int .i64 e1] 24)).alloc (.cells #[.int .i64 k2, .bool n2, .int .i64 m2, .int .i64 e2] 24)).alloc (.cells #[.int .i64 k3, .bool n3, .int .i64 m3, .int .i64 e3] 24)).alloc (.cells #[.int .i64 0, .bool false, .int .i64 0, .int .i64 0] 24)) = W at *
   refine (unhide mo _).mono ?_
   rintro e w1 ⟨rfl, k1⟩
   revert qf0 qf1 qf2 qf3; refine k1.l4 q0 q1 q2 q3 ?_; intro qf0 qf1 qf2 qf3
   revert p0 p1 p2 p3 t0 t1 t2 t3 u0 u1 u2 u3; refine k1.m12 ?_; intro p0 p1 p2 p3 t0 t1 t2 t3 u0 u1 u2 u3
   revert q0 q1 q2 q3; refine k1.m4 ?_; intro q0 q1 q2 q3
   replace K := hide ((unhide K).trans k1)
   have z2 := k1.size
   clear k1
   go_wp2_with fail
   refine (unhide mc _).mono ?_
   rintro e w3 ⟨rfl, k3⟩
   revert qf0 qf1 qf2 qf3; refine k3.l4 q0 q1 q2 q3 ?_; intro qf0 qf1 qf2 qf3
   revert p0 p1 p2 p3 t0 t1 t2 t3 u0 u1 u2 u3; refine k3.m12 ?_; intro p0 p1 p2 p3 t0 t1 t2 t3 u0 u1 u2 u3
   revert q0 q1 q2 q3; refine k3.m4 ?_; intro q0 q1 q2 q3
   replace K := hide ((unhide K).trans k3)
   have z4 := k3.size
   clear k3
   clear mo mc
   go_wp2_with fail
   rcases (unhide HSP) with ⟨hm, hQ⟩ | ⟨hm, hQ⟩ | ⟨hm, hQ⟩
   ·have mm : ∀ (w : World), Calls Tryz.prog 60 #[flv k1 n1 m1 e1, flv k2 n2 m2 e2, .int .i64 mode] w fun e' w' => e' = .returned (.tuple #[.agg #[.int .i64 3, .bool false, .int .i64 0, .int .i64 0], .int .i64 0]) ∧ Kept 0 0 w w' := fun w => by
     have := unhide MI w
     rw [hm] at this
     exact this
    have ma := unhide MN
    simp only [← hQ] at ma
    have HQ := hide hQ
    clear MI MN MF HSP hQ hm
    replace mm := hide mm
    replace ma := hide ma
    refine (unhide mm _).mono ?_
    rintro e w5 ⟨rfl, k5⟩
    revert qf0 qf1 qf2 qf3; refine k5.l4 q0 q1 q2 q3 ?_; intro qf0 qf1 qf2 qf3
    revert p0 p1 p2 p3 t0 t1 t2 t3 u0 u1 u2 u3; refine k5.m12 ?_; intro p0 p1 p2 p3 t0 t1 t2 t3 u0 u1 u2 u3
    revert q0 q1 q2 q3; refine k5.m4 ?_; intro q0 q1 q2 q3
    replace K := hide ((unhide K).trans k5)
    have z6 := k5.size
    clear k5 mm
    have kn := (Kept.refl 0 0 w5).alloc (.cells #[.int .i64 3, .bool false, .int .i64 0, .int .i64 0] 24)
    revert qf0 qf1 qf2 qf3; refine kn.l4 q0 q1 q2 q3 ?_; intro qf0 qf1 qf2 qf3
    revert p0 p1 p2 p3 t0 t1 t2 t3 u0 u1 u2 u3; refine kn.m12 ?_; intro p0 p1 p2 p3 t0 t1 t2 t3 u0 u1 u2 u3
    revert q0 q1 q2 q3; refine kn.m4 ?_; intro q0 q1 q2 q3
    replace K := hide ((unhide K).trans kn)
    have z7 := kn.size
    clear kn
    have R0 : (w5.alloc (.cells #[.int .i64 3, .bool false, .int .i64 0, .int .i64 0] 24)).cell? ⟨w5.heap.size, 0, none⟩ = some (.int .i64 3) := new_cell2 _ _ _ _ _ _ rfl rfl
    have R1 : (w5.alloc (.cells #[.int .i64 3, .bool false, .int .i64 0, .int .i64 0] 24)).cell? ⟨w5.heap.size, 1, none⟩ = some (.bool false) := new_cell2 _ _ _ _ _ _ rfl rfl
    have R2 : (w5.alloc (.cells #[.int .i64 3, .bool false, .int .i64 0, .int .i64 0] 24)).cell? ⟨w5.heap.size, 2, none⟩ = some (.int .i64 0) := new_cell2 _ _ _ _ _ _ rfl rfl
    have R3 : (w5.alloc (.cells #[.int .i64 3, .bool false, .int .i64 0, .int .i64 0] 24)).cell? ⟨w5.heap.size, 3, none⟩ = some (.int .i64 0) := new_cell2 _ _ _ _ _ _ rfl rfl
    go_wp2_with fail
    generalize (w5.alloc (.cells #[.int .i64 3, .bool false, .int .i64 0, .int .i64 0] 24)) = WA at *
    refine (unhide ma _).mono ?_
    rintro e w8 ⟨rfl, k8⟩
    revert qf0 qf1 qf2 qf3; refine k8.l4 q0 q1 q2 q3 ?_; intro qf0 qf1 qf2 qf3
    revert p0 p1 p2 p3 t0 t1 t2 t3 u0 u1 u2 u3; refine k8.m12 ?_; intro p0 p1 p2 p3 t0 t1 t2 t3 u0 u1 u2 u3
    revert q0 q1 q2 q3; refine k8.m4 ?_; intro q0 q1 q2 q3
    replace K := hide ((unhide K).trans k8)
    have z9 := k8.size
    clear k8
    have KF := hide (((((unhide K).setNew (p := ⟨w.heap.size + 3, 0, none⟩) (by simp) (.int .i64 Q.1.1)).setNew (p := ⟨w.heap.size + 3, 1, none⟩) (by simp) (.bool Q.1.2.1)).setNew (p := ⟨w.heap.size + 3, 2, none⟩) (by simp) (.int .i64 Q.1.2.2.1)).setNew (p := ⟨w.heap.size + 3, 3, none⟩) (by simp) (.int .i64 Q.1.2.2.2))
    clear K
    try go_wp2_with fail
    exact bodyPost_ret (v := .tuple #[.agg #[.int .i64 Q.1.1, .bool Q.1.2.1, .int .i64 Q.1.2.2.1, .int .i64 Q.1.2.2.2], .int .i64 Q.2]) (by simp [results, Tryz.results24, go_sem, q0, q1, q2, q3]) rfl ⟨rfl, unhide KF⟩
   ·have mm : ∀ (w : World), Calls Tryz.prog 60 #[flv k1 n1 m1 e1, flv k2 n2 m2 e2, .int .i64 mode] w fun e' w' => e' = .returned (.tuple #[.agg #[.int .i64 3, .bool false, .int .i64 0, .int .i64 0], .int .i64 16]) ∧ Kept 0 0 w w' := fun w => by
     have := unhide MI w
     rw [hm] at this
     exact this
    have HQ := hide hQ
    clear MI MN MF HSP hQ hm
    replace mm := hide mm
    refine (unhide mm _).mono ?_
    rintro e w5 ⟨rfl, k5⟩
    replace qf0 := k5.loose0 (zbl q0) qf0
    replace qf1 := k5.loose0 (zbl q1) qf1
    replace qf2 := k5.loose0 (zbl q2) qf2
    replace qf3 := k5.loose0 (zbl q3) qf3
    replace p0 := k5.cell0 p0
    replace p1 := k5.cell0 p1
    replace p2 := k5.cell0 p2
    replace p3 := k5.cell0 p3
    replace t0 := k5.cell0 t0
    replace t1 := k5.cell0 t1
    replace t2 := k5.cell0 t2
    replace t3 := k5.cell0 t3
    replace u0 := k5.cell0 u0
    replace u1 := k5.cell0 u1
    replace u2 := k5.cell0 u2
    replace u3 := k5.cell0 u3
    replace q0 := k5.cell0 q0
    replace q1 := k5.cell0 q1
    replace q2 := k5.cell0 q2
    replace q3 := k5.cell0 q3
    replace K := hide ((unhide K).trans k5)
    have z6 := k5.size
    clear k5 mm
    have kn := (Kept.refl 0 0 w5).alloc (.cells #[.int .i64 3, .bool false, .int .i64 0, .int .i64 0] 24)
    revert qf0 qf1 qf2 qf3; refine kn.l4 q0 q1 q2 q3 ?_; intro qf0 qf1 qf2 qf3
    revert p0 p1 p2 p3 t0 t1 t2 t3 u0 u1 u2 u3; refine kn.m12 ?_; intro p0 p1 p2 p3 t0 t1 t2 t3 u0 u1 u2 u3
    revert q0 q1 q2 q3; refine kn.m4 ?_; intro q0 q1 q2 q3
    replace K := hide ((unhide K).trans kn)
    have z7 := kn.size
    clear kn
    have R0 : (w5.alloc (.cells #[.int .i64 3, .bool false, .int .i64 0, .int .i64 0] 24)).cell? ⟨w5.heap.size, 0, none⟩ = some (.int .i64 3) := new_cell2 _ _ _ _ _ _ rfl rfl
    have R1 : (w5.alloc (.cells #[.int .i64 3, .bool false, .int .i64 0, .int .i64 0] 24)).cell? ⟨w5.heap.size, 1, none⟩ = some (.bool false) := new_cell2 _ _ _ _ _ _ rfl rfl
    have R2 : (w5.alloc (.cells #[.int .i64 3, .bool false, .int .i64 0, .int .i64 0] 24)).cell? ⟨w5.heap.size, 2, none⟩ = some (.int .i64 0) := new_cell2 _ _ _ _ _ _ rfl rfl
    have R3 : (w5.alloc (.cells #[.int .i64 3, .bool false, .int .i64 0, .int .i64 0] 24)).cell? ⟨w5.heap.size, 3, none⟩ = some (.int .i64 0) := new_cell2 _ _ _ _ _ _ rfl rfl
    have FQ : Hid (Q = ((3, false, 0, 0), 16)) := HQ
    have KF := hide (((((unhide K).setNew (p := ⟨w.heap.size + 3, 0, none⟩) (by simp) (.int .i64 3)).setNew (p := ⟨w.heap.size + 3, 1, none⟩) (by simp) (.bool false)).setNew (p := ⟨w.heap.size + 3, 2, none⟩) (by simp) (.int .i64 0)).setNew (p := ⟨w.heap.size + 3, 3, none⟩) (by simp) (.int .i64 0))
    clear K
    try go_wp2_with fail
    exact bodyPost_ret (v := .tuple #[.agg #[.int .i64 3, .bool false, .int .i64 0, .int .i64 0], .int .i64 16]) (by simp [results, Tryz.results24, go_sem, q0, q1, q2, q3]) rfl ⟨by rw [unhide FQ], unhide KF⟩
   ·have mm : ∀ (w : World), Calls Tryz.prog 60 #[flv k1 n1 m1 e1, flv k2 n2 m2 e2, .int .i64 mode] w fun e' w' => e' = .returned (.tuple #[.agg #[.int .i64 2, .bool SG, .int .i64 0, .int .i64 0], .int .i64 0]) ∧ Kept 0 0 w w' := fun w => by
     have := unhide MI w
     rw [hm] at this
     exact this
    have ma := fun w => unhide MF SG w
    simp only [← hQ] at ma
    have HQ := hide hQ
    clear MI MN MF HSP hQ hm
    replace mm := hide mm
    replace ma := hide ma
    refine (unhide mm _).mono ?_
    rintro e w5 ⟨rfl, k5⟩
    replace qf0 := k5.loose0 (zbl q0) qf0
    replace qf1 := k5.loose0 (zbl q1) qf1
    replace qf2 := k5.loose0 (zbl q2) qf2
    replace qf3 := k5.loose0 (zbl q3) qf3
    replace p0 := k5.cell0 p0
    replace p1 := k5.cell0 p1
    replace p2 := k5.cell0 p2
    replace p3 := k5.cell0 p3
    replace t0 := k5.cell0 t0
    replace t1 := k5.cell0 t1
    replace t2 := k5.cell0 t2
    replace t3 := k5.cell0 t3
    replace u0 := k5.cell0 u0
    replace u1 := k5.cell0 u1
    replace u2 := k5.cell0 u2
    replace u3 := k5.cell0 u3
    replace q0 := k5.cell0 q0
    replace q1 := k5.cell0 q1
    replace q2 := k5.cell0 q2
    replace q3 := k5.cell0 q3
    replace K := hide ((unhide K).trans k5)
    have z6 := k5.size
    clear k5 mm
    have kn := (Kept.refl 0 0 w5).alloc (.cells #[.int .i64 2, .bool SG, .int .i64 0, .int .i64 0] 24)
    revert qf0 qf1 qf2 qf3; refine kn.l4 q0 q1 q2 q3 ?_; intro qf0 qf1 qf2 qf3
    revert p0 p1 p2 p3 t0 t1 t2 t3 u0 u1 u2 u3; refine kn.m12 ?_; intro p0 p1 p2 p3 t0 t1 t2 t3 u0 u1 u2 u3
    revert q0 q1 q2 q3; refine kn.m4 ?_; intro q0 q1 q2 q3
    replace K := hide ((unhide K).trans kn)
    have z7 := kn.size
    clear kn
    have R0 : (w5.alloc (.cells #[.int .i64 2, .bool SG, .int .i64 0, .int .i64 0] 24)).cell? ⟨w5.heap.size, 0, none⟩ = some (.int .i64 2) := new_cell2 _ _ _ _ _ _ rfl rfl
    have R1 : (w5.alloc (.cells #[.int .i64 2, .bool SG, .int .i64 0, .int .i64 0] 24)).cell? ⟨w5.heap.size, 1, none⟩ = some (.bool SG) := new_cell2 _ _ _ _ _ _ rfl rfl
    have R2 : (w5.alloc (.cells #[.int .i64 2, .bool SG, .int .i64 0, .int .i64 0] 24)).cell? ⟨w5.heap.size, 2, none⟩ = some (.int .i64 0) := new_cell2 _ _ _ _ _ _ rfl rfl
    have R3 : (w5.alloc (.cells #[.int .i64 2, .bool SG, .int .i64 0, .int .i64 0] 24)).cell? ⟨w5.heap.size, 3, none⟩ = some (.int .i64 0) := new_cell2 _ _ _ _ _ _ rfl rfl
    go_wp2_with fail
    generalize (w5.alloc (.cells #[.int .i64 2, .bool SG, .int .i64 0, .int .i64 0] 24)) = WA at *
    refine (unhide ma _).mono ?_
    rintro e w8 ⟨rfl, k8⟩
    revert qf0 qf1 qf2 qf3; refine k8.l4 q0 q1 q2 q3 ?_; intro qf0 qf1 qf2 qf3
    revert p0 p1 p2 p3 t0 t1 t2 t3 u0 u1 u2 u3; refine k8.m12 ?_; intro p0 p1 p2 p3 t0 t1 t2 t3 u0 u1 u2 u3
    revert q0 q1 q2 q3; refine k8.m4 ?_; intro q0 q1 q2 q3
    replace K := hide ((unhide K).trans k8)
    have z9 := k8.size
    clear k8
    have KF := hide (((((unhide K).setNew (p := ⟨w.heap.size + 3, 0, none⟩) (by simp) (.int .i64 Q.1.1)).setNew (p := ⟨w.heap.size + 3, 1, none⟩) (by simp) (.bool Q.1.2.1)).setNew (p := ⟨w.heap.size + 3, 2, none⟩) (by simp) (.int .i64 Q.1.2.2.1)).setNew (p := ⟨w.heap.size + 3, 3, none⟩) (by simp) (.int .i64 Q.1.2.2.2))
    clear K
    try go_wp2_with fail
    exact bodyPost_ret (v := .tuple #[.agg #[.int .i64 Q.1.1, .bool Q.1.2.1, .int .i64 Q.1.2.2.1, .int .i64 Q.1.2.2.2], .int .i64 Q.2]) (by simp [results, Tryz.results24, go_sem, q0, q1, q2, q3]) rfl ⟨rfl, unhide KF⟩

set_option maxHeartbeats 4000000 in
theorem fmaS_c {k1 : Int} {n1 : Bool} {m1 e1 k2 : Int} {n2 : Bool} {m2 e2 k3 : Int} {n3 : Bool} {m3 e3 : Int} (h1 : flok k1 n1 m1 e1 = true) (h2 : flok k2 n2 m2 e2 = true) (h3 : flok k3 n3 m3 e3 = true) (j1 : k1 ≤ 1) (j2 : k2 ≤ 1) (j3 : 2 ≤ k3) (mode : Int) (hm0 : 0 ≤ mode) (hm4 : mode ≤ 4) (w : World) :
    Calls Tryz.prog 24 #[flv k1 n1 m1 e1, flv k2 n2 m2 e2, flv k3 n3 m3 e3, .int .i64 mode] w fun e' w' => e' = .returned (.tuple #[flq (fmaQ k1 n1 m1 e1 k2 n2 m2 e2 k3 n3 m3 e3 mode).1, .int .i64 (fmaQ k1 n1 m1 e1 k2 n2 m2 e2 k3 n3 m3 e3 mode).2]) ∧ Kept 0 0 w w' := by
  have hsp := mul_fin_ways (n1 := n1) (m1 := m1) (e1 := e1) (n2 := n2) (m2 := m2) (e2 := e2) j1 j2 mode
  have mI := fun w => mulS_fin h1 h2 j1 j2 mode hm0 hm4 w
  have ma := fun w => addS_nought_sp h3 j3 mode hm0 hm4 w
  have hQ : fmaQ k1 n1 m1 e1 k2 n2 m2 e2 k3 n3 m3 e3 mode = ((k3, n3, m3, e3), 0) := by
   unfold fmaQ
   rw [if_neg (show ¬ (2 ≤ k1 ∨ 2 ≤ k2) by omega), if_pos j3]
  obtain ⟨Q, hq⟩ : ∃ q, fmaQ k1 n1 m1 e1 k2 n2 m2 e2 k3 n3 m3 e3 mode = q := ⟨_, rfl⟩
  rw [hq] at hQ
  rw [hq]
  clear hq
  have FQ := hide hQ
  clear hQ
  obtain ⟨⟨⟨kq, sq, mq, eq⟩, gq⟩, hm⟩ : ∃ y, mulQ k1 n1 m1 e1 k2 n2 m2 e2 mode = y := ⟨_, rfl⟩
  rw [hm] at hsp
  simp only [hm] at mI
  clear hm
  have MI := hide mI
  have HSP := hide hsp
  replace ma := hide ma
  clear mI hsp
  have b13 : (k1 == 3) = false := by simp; omega
  have b12 : (k1 == 2) = false := by simp; omega
  have b23 : (k2 == 3) = false := by simp; omega
  have b22 : (k2 == 2) = false := by simp; omega
  have nk3 : ¬ k3 < 2 := by omega
  have mo := fun w => l5ok_spec k1 n1 m1 e1 k2 n2 m2 e2 mode w
  have hcc : okM k1 n1 m1 e1 k2 n2 m2 e2 mode = true := by unfold okM modeB; rw [h1, h2, decide_eq_true hm0, decide_eq_true hm4]; rfl
  simp only [hcc] at mo
  have mc := fun w => flok_spec_k h3 w
  replace mo := hide mo
  replace mc := hide mc
  clear hcc
  obtain ⟨Wn, hn0⟩ : ∃ wz, wz = ((((w.alloc (.cells #[.int .i64 k1, .bool n1, .int .i64 m1, .int .i64 e1] 24)).alloc (.cells #[.int .i64 k2, .bool n2, .int .i64 m2, .int .i64 e2] 24)).alloc (.cells #[.int .i64 k3, .bool n3, .int .i64 m3, .int .i64 e3] 24)).alloc (.cells #[.int .i64 0, .bool false, .int .i64 0, .int .i64 0] 24)) := ⟨_, rfl⟩
  have k0 : Kept 0 0 w Wn := by rw [hn0]; exact (((((Kept.refl 0 0 w).alloc _).alloc _).alloc _).alloc _)
  have p0 : Wn.cell? ⟨w.heap.size, 0, none⟩ = some (.int .i64 k1) := by rw [hn0]; exact old_cell _ (old_cell _ (old_cell _ (new_cell2 _ _ _ _ _ _ (by simp) rfl)))
  have p1 : Wn.cell? ⟨w.heap.size, 1, none⟩ = some (.bool n1) := by rw [hn0]; exact old_cell _ (old_cell _ (old_cell _ (new_cell2 _ _ _ _ _ _ (by simp) rfl)))
  have p2 : Wn.cell? ⟨w.heap.size, 2, none⟩ = some (.int .i64 m1) := by rw [hn0]; exact old_cell _ (old_cell _ (old_cell _ (new_cell2 _ _ _ _ _ _ (by simp) rfl)))
  have p3 : Wn.cell? ⟨w.heap.size, 3, none⟩ = some (.int .i64 e1) := by rw [hn0]; exact old_cell _ (old_cell _ (old_cell _ (new_cell2 _ _ _ _ _ _ (by simp) rfl)))
  have t0 : Wn.cell? ⟨w.heap.size + 1, 0, none⟩ = some (.int .i64 k2) := by rw [hn0]; exact old_cell _ (old_cell _ (new_cell2 _ _ _ _ _ _ (by simp) rfl))
  have t1 : Wn.cell? ⟨w.heap.size + 1, 1, none⟩ = some (.bool n2) := by rw [hn0]; exact old_cell _ (old_cell _ (new_cell2 _ _ _ _ _ _ (by simp) rfl))
  have t2 : Wn.cell? ⟨w.heap.size + 1, 2, none⟩ = some (.int .i64 m2) := by rw [hn0]; exact old_cell _ (old_cell _ (new_cell2 _ _ _ _ _ _ (by simp) rfl))
  have t3 : Wn.cell? ⟨w.heap.size + 1, 3, none⟩ = some (.int .i64 e2) := by rw [hn0]; exact old_cell _ (old_cell _ (new_cell2 _ _ _ _ _ _ (by simp) rfl))
  have u0 : Wn.cell? ⟨w.heap.size + 2, 0, none⟩ = some (.int .i64 k3) := by rw [hn0]; exact old_cell _ (new_cell2 _ _ _ _ _ _ (by simp) rfl)
  have u1 : Wn.cell? ⟨w.heap.size + 2, 1, none⟩ = some (.bool n3) := by rw [hn0]; exact old_cell _ (new_cell2 _ _ _ _ _ _ (by simp) rfl)
  have u2 : Wn.cell? ⟨w.heap.size + 2, 2, none⟩ = some (.int .i64 m3) := by rw [hn0]; exact old_cell _ (new_cell2 _ _ _ _ _ _ (by simp) rfl)
  have u3 : Wn.cell? ⟨w.heap.size + 2, 3, none⟩ = some (.int .i64 e3) := by rw [hn0]; exact old_cell _ (new_cell2 _ _ _ _ _ _ (by simp) rfl)
  obtain ⟨q0, q1, q2, q3, qf0, qf1, qf2, qf3⟩ := new4 hn0 (n := w.heap.size + 3) (by simp)
  have s0 : Wn.heap.size = w.heap.size + 4 := by rw [hn0]; exact by simp
  subst hn0
  have K := hide (k0)
  clear k0
  have S0 := hide s0
  clear s0
  go_enter Tryz.func24, Tryz.ntmps24
  go_wp2_with fail
  generalize ((((w.alloc (.cells #[.int .i64 k1, .bool n1, .int .i64 m1, .int .i64 e1] 24)).alloc (.cells #[.int .i64 k2, .bool n2, .int .i64 m2, .int .i64 e2] 24)).alloc (.cells #[.int .i64 k3, .bool n3, .int .i64 m3, .int .i64 e3] 24)).alloc (.cells #[.int .i64 0, .bool false, .int .i64 0, .int .i64 0] 24)) = W at *
  refine (unhide mo _).mono ?_
  rintro e w1 ⟨rfl, k1⟩
  revert qf0 qf1 qf2 qf3; refine k1.l4 q0 q1 q2 q3 ?_; intro qf0 qf1 qf2 qf3
  revert p0 p1 p2 p3 t0 t1 t2 t3 u0 u1 u2 u3; refine k1.m12 ?_; intro p0 p1 p2 p3 t0 t1 t2 t3 u0 u1 u2 u3
  revert q0 q1 q2 q3; refine k1.m4 ?_; intro q0 q1 q2 q3
  replace K := hide ((unhide K).trans k1)
  have z2 := k1.size
  clear k1
  go_wp2_with fail
  refine (unhide mc _).mono ?_
  rintro e w3 ⟨rfl, k3⟩
  revert qf0 qf1 qf2 qf3; refine k3.l4 q0 q1 q2 q3 ?_; intro qf0 qf1 qf2 qf3
  revert p0 p1 p2 p3 t0 t1 t2 t3 u0 u1 u2 u3; refine k3.m12 ?_; intro p0 p1 p2 p3 t0 t1 t2 t3 u0 u1 u2 u3
  revert q0 q1 q2 q3; refine k3.m4 ?_; intro q0 q1 q2 q3
  replace K := hide ((unhide K).trans k3)
  have z4 := k3.size
  clear k3
  clear mo mc
  go_wp2_with fail
  rcases (unhide HSP) with ⟨g1, g2⟩ | ⟨g1, g2⟩
  ·have mm : ∀ (w : World), Calls Tryz.prog 60 #[flv k1 n1 m1 e1, flv k2 n2 m2 e2, .int .i64 mode] w fun e' w' => e' = .returned (.tuple #[.agg #[.int .i64 kq, .bool sq, .int .i64 mq, .int .i64 eq], .int .i64 gq]) ∧ Kept 0 0 w w' := fun w => unhide MI w
   clear MI HSP
   replace mm := hide mm
   refine (unhide mm _).mono ?_
   rintro e w5 ⟨rfl, k5⟩
   revert qf0 qf1 qf2 qf3; refine k5.l4 q0 q1 q2 q3 ?_; intro qf0 qf1 qf2 qf3
   revert p0 p1 p2 p3 t0 t1 t2 t3 u0 u1 u2 u3; refine k5.m12 ?_; intro p0 p1 p2 p3 t0 t1 t2 t3 u0 u1 u2 u3
   revert q0 q1 q2 q3; refine k5.m4 ?_; intro q0 q1 q2 q3
   replace K := hide ((unhide K).trans k5)
   have z6 := k5.size
   clear k5 mm
   have kn := (Kept.refl 0 0 w5).alloc (.cells #[.int .i64 0, .bool false, .int .i64 0, .int .i64 0] 24)
   revert qf0 qf1 qf2 qf3; refine kn.l4 q0 q1 q2 q3 ?_; intro qf0 qf1 qf2 qf3
   revert p0 p1 p2 p3 t0 t1 t2 t3 u0 u1 u2 u3; refine kn.m12 ?_; intro p0 p1 p2 p3 t0 t1 t2 t3 u0 u1 u2 u3
   revert q0 q1 q2 q3; refine kn.m4 ?_; intro q0 q1 q2 q3
   replace K := hide ((unhide K).trans kn)
   have z7 := kn.size
   clear kn
   have R0 : (w5.alloc (.cells #[.int .i64 kq, .bool sq, .int .i64 mq, .int .i64 eq] 24)).cell? ⟨w5.heap.size, 0, none⟩ = some (.int .i64 kq) := new_cell2 _ _ _ _ _ _ rfl rfl
   have R1 : (w5.alloc (.cells #[.int .i64 kq, .bool sq, .int .i64 mq, .int .i64 eq] 24)).cell? ⟨w5.heap.size, 1, none⟩ = some (.bool sq) := new_cell2 _ _ _ _ _ _ rfl rfl
   have R2 : (w5.alloc (.cells #[.int .i64 kq, .bool sq, .int .i64 mq, .int .i64 eq] 24)).cell? ⟨w5.heap.size, 2, none⟩ = some (.int .i64 mq) := new_cell2 _ _ _ _ _ _ rfl rfl
   have R3 : (w5.alloc (.cells #[.int .i64 kq, .bool sq, .int .i64 mq, .int .i64 eq] 24)).cell? ⟨w5.heap.size, 3, none⟩ = some (.int .i64 eq) := new_cell2 _ _ _ _ _ _ rfl rfl
   have Y0 : (w5.alloc (.cells #[.int .i64 0, .bool false, .int .i64 0, .int .i64 0] 24)).cell? ⟨w5.heap.size, 0, none⟩ = some (.int .i64 0) := new_cell2 _ _ _ _ _ _ rfl rfl
   have Y1 : (w5.alloc (.cells #[.int .i64 0, .bool false, .int .i64 0, .int .i64 0] 24)).cell? ⟨w5.heap.size, 1, none⟩ = some (.bool false) := new_cell2 _ _ _ _ _ _ rfl rfl
   have Y2 : (w5.alloc (.cells #[.int .i64 0, .bool false, .int .i64 0, .int .i64 0] 24)).cell? ⟨w5.heap.size, 2, none⟩ = some (.int .i64 0) := new_cell2 _ _ _ _ _ _ rfl rfl
   have Y3 : (w5.alloc (.cells #[.int .i64 0, .bool false, .int .i64 0, .int .i64 0] 24)).cell? ⟨w5.heap.size, 3, none⟩ = some (.int .i64 0) := new_cell2 _ _ _ _ _ _ rfl rfl
   have gne : (gq == 16) = false := by simp; omega
   clear g2
   go_wp2_with fail
   generalize w5.alloc (.cells #[.int .i64 0, .bool false, .int .i64 0, .int .i64 0] 24) = WB at *
   refine (unhide ma _).mono ?_
   rintro e w8 ⟨rfl, k8⟩
   revert qf0 qf1 qf2 qf3; refine k8.l4 q0 q1 q2 q3 ?_; intro qf0 qf1 qf2 qf3
   revert p0 p1 p2 p3 t0 t1 t2 t3 u0 u1 u2 u3; refine k8.m12 ?_; intro p0 p1 p2 p3 t0 t1 t2 t3 u0 u1 u2 u3
   revert q0 q1 q2 q3; refine k8.m4 ?_; intro q0 q1 q2 q3
   replace K := hide ((unhide K).trans k8)
   have z9 := k8.size
   clear k8
   have KF := hide (((((unhide K).setNew (p := ⟨w.heap.size + 3, 0, none⟩) (by simp) (.int .i64 k3)).setNew (p := ⟨w.heap.size + 3, 1, none⟩) (by simp) (.bool n3)).setNew (p := ⟨w.heap.size + 3, 2, none⟩) (by simp) (.int .i64 m3)).setNew (p := ⟨w.heap.size + 3, 3, none⟩) (by simp) (.int .i64 e3))
   clear K
   try go_wp2_with fail
   exact bodyPost_ret (v := .tuple #[.agg #[.int .i64 k3, .bool n3, .int .i64 m3, .int .i64 e3], .int .i64 0]) (by simp [results, Tryz.results24, go_sem, q0, q1, q2, q3]) rfl ⟨by rw [unhide FQ], unhide KF⟩
  ·subst g1
   subst g2
   have mm : ∀ (w : World), Calls Tryz.prog 60 #[flv k1 n1 m1 e1, flv k2 n2 m2 e2, .int .i64 mode] w fun e' w' => e' = .returned (.tuple #[.agg #[.int .i64 2, .bool sq, .int .i64 mq, .int .i64 eq], .int .i64 3]) ∧ Kept 0 0 w w' := fun w => unhide MI w
   clear MI HSP
   replace mm := hide mm
   refine (unhide mm _).mono ?_
   rintro e w5 ⟨rfl, k5⟩
   replace qf0 := k5.loose0 (zbl q0) qf0
   replace qf1 := k5.loose0 (zbl q1) qf1
   replace qf2 := k5.loose0 (zbl q2) qf2
   replace qf3 := k5.loose0 (zbl q3) qf3
   replace p0 := k5.cell0 p0
   replace p1 := k5.cell0 p1
   replace p2 := k5.cell0 p2
   replace p3 := k5.cell0 p3
   replace t0 := k5.cell0 t0
   replace t1 := k5.cell0 t1
   replace t2 := k5.cell0 t2
   replace t3 := k5.cell0 t3
   replace u0 := k5.cell0 u0
   replace u1 := k5.cell0 u1
   replace u2 := k5.cell0 u2
   replace u3 := k5.cell0 u3
   replace q0 := k5.cell0 q0
   replace q1 := k5.cell0 q1
   replace q2 := k5.cell0 q2
   replace q3 := k5.cell0 q3
   replace K := hide ((unhide K).trans k5)
   have z6 := k5.size
   clear k5 mm
   have kn := (Kept.refl 0 0 w5).alloc (.cells #[.int .i64 0, .bool false, .int .i64 0, .int .i64 0] 24)
   revert qf0 qf1 qf2 qf3; refine kn.l4 q0 q1 q2 q3 ?_; intro qf0 qf1 qf2 qf3
   revert p0 p1 p2 p3 t0 t1 t2 t3 u0 u1 u2 u3; refine kn.m12 ?_; intro p0 p1 p2 p3 t0 t1 t2 t3 u0 u1 u2 u3
   revert q0 q1 q2 q3; refine kn.m4 ?_; intro q0 q1 q2 q3
   replace K := hide ((unhide K).trans kn)
   have z7 := kn.size
   clear kn
   have R0 : (w5.alloc (.cells #[.int .i64 2, .bool sq, .int .i64 mq, .int .i64 eq] 24)).cell? ⟨w5.heap.size, 0, none⟩ = some (.int .i64 2) := new_cell2 _ _ _ _ _ _ rfl rfl
   have R1 : (w5.alloc (.cells #[.int .i64 2, .bool sq, .int .i64 mq, .int .i64 eq] 24)).cell? ⟨w5.heap.size, 1, none⟩ = some (.bool sq) := new_cell2 _ _ _ _ _ _ rfl rfl
   have R2 : (w5.alloc (.cells #[.int .i64 2, .bool sq, .int .i64 mq, .int .i64 eq] 24)).cell? ⟨w5.heap.size, 2, none⟩ = some (.int .i64 mq) := new_cell2 _ _ _ _ _ _ rfl rfl
   have R3 : (w5.alloc (.cells #[.int .i64 2, .bool sq, .int .i64 mq, .int .i64 eq] 24)).cell? ⟨w5.heap.size, 3, none⟩ = some (.int .i64 eq) := new_cell2 _ _ _ _ _ _ rfl rfl
   have Y0 : (w5.alloc (.cells #[.int .i64 0, .bool false, .int .i64 0, .int .i64 0] 24)).cell? ⟨w5.heap.size, 0, none⟩ = some (.int .i64 0) := new_cell2 _ _ _ _ _ _ rfl rfl
   have Y1 : (w5.alloc (.cells #[.int .i64 0, .bool false, .int .i64 0, .int .i64 0] 24)).cell? ⟨w5.heap.size, 1, none⟩ = some (.bool false) := new_cell2 _ _ _ _ _ _ rfl rfl
   have Y2 : (w5.alloc (.cells #[.int .i64 0, .bool false, .int .i64 0, .int .i64 0] 24)).cell? ⟨w5.heap.size, 2, none⟩ = some (.int .i64 0) := new_cell2 _ _ _ _ _ _ rfl rfl
   have Y3 : (w5.alloc (.cells #[.int .i64 0, .bool false, .int .i64 0, .int .i64 0] 24)).cell? ⟨w5.heap.size, 3, none⟩ = some (.int .i64 0) := new_cell2 _ _ _ _ _ _ rfl rfl
   go_wp2_with fail
   generalize w5.alloc (.cells #[.int .i64 0, .bool false, .int .i64 0, .int .i64 0] 24) = WB at *
   refine (unhide ma _).mono ?_
   rintro e w8 ⟨rfl, k8⟩
   revert qf0 qf1 qf2 qf3; refine k8.l4 q0 q1 q2 q3 ?_; intro qf0 qf1 qf2 qf3
   revert p0 p1 p2 p3 t0 t1 t2 t3 u0 u1 u2 u3; refine k8.m12 ?_; intro p0 p1 p2 p3 t0 t1 t2 t3 u0 u1 u2 u3
   revert q0 q1 q2 q3; refine k8.m4 ?_; intro q0 q1 q2 q3
   replace K := hide ((unhide K).trans k8)
   have z9 := k8.size
   clear k8
   have KF := hide (((((unhide K).setNew (p := ⟨w.heap.size + 3, 0, none⟩) (by simp) (.int .i64 k3)).setNew (p := ⟨w.heap.size + 3, 1, none⟩) (by simp) (.bool n3)).setNew (p := ⟨w.heap.size + 3, 2, none⟩) (by simp) (.int .i64 m3)).setNew (p := ⟨w.heap.size + 3, 3, none⟩) (by simp) (.int .i64 e3))
   clear K
   try go_wp2_with fail
   exact bodyPost_ret (v := .tuple #[.agg #[.int .i64 k3, .bool n3, .int .i64 m3, .int .i64 e3], .int .i64 0]) (by simp [results, Tryz.results24, go_sem, q0, q1, q2, q3]) rfl ⟨by rw [unhide FQ], unhide KF⟩

end Go.Proofs.YtepehpkmejjhiaaGreatDoor

