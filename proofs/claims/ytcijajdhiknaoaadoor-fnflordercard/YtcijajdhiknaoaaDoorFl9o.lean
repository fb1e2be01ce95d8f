/-
  FlCmp, the program's.
-/
import Derived.Test.YtcijajdhiknaoaaDoorFl8p
import Derived.Test.YtcijajdhiknaoaaDoorFl12
import Derived.Test.YtcijajdhiknaoaaDoorBE
import Derived.Test.YtcijajdhiknaoaaDoorBC
namespace Go.Proofs.YtcijajdhiknaoaaDoor
open Go.RowKit
set_option linter.unusedVariables false
set_option linter.unusedSimpArgs false
set_option maxRecDepth 8000

/-- What FlCmp tells. -/
def fcmB (k1 : Int) (n1 : Bool) (m1 e1 k2 : Int) (n2 : Bool) (m2 e2 : Int) : Bool := flok k1 n1 m1 e1 && flok k2 n2 m2 e2 && k1 != 3 && k2 != 3
def fcmI (k1 : Int) (n1 : Bool) (m1 e1 k2 : Int) (n2 : Bool) (m2 e2 : Int) : Int := if fcmB k1 n1 m1 e1 k2 n2 m2 e2 = true then cmpI (plc k1 n1 m1 e1) (plc k2 n2 m2 e2) else 0

set_option maxHeartbeats 1000000 in
theorem flcmp_impl_no1 (k1 : Int) (n1 : Bool) (m1 e1 k2 : Int) (n2 : Bool) (m2 e2 : Int) (h1 : flok k1 n1 m1 e1 = false) (w : World) :
    Calls Tryd.prog 5 #[flv k1 n1 m1 e1, flv k2 n2 m2 e2] w fun r w' => r = .returned (.tuple #[.int .i64 0, .bool false]) ∧ Kept 0 0 w w' := by
  go_enter Tryd.func5, Tryd.ntmps5
  go_wp2_with fail
  refine (flok_impl_eq h1 _).mono ?_
  rintro r w1 ⟨rfl, rfl⟩
  go_wp2_with fail
  go_ret2
  exact ⟨rfl, by repeat first | exact Kept.refl 0 0 _ | apply Kept.alloc⟩

set_option maxHeartbeats 1000000 in
theorem flcmp_impl_no2 (k1 : Int) (n1 : Bool) (m1 e1 k2 : Int) (n2 : Bool) (m2 e2 : Int) (h1 : flok k1 n1 m1 e1 = true) (h2 : flok k2 n2 m2 e2 = false) (w : World) :
    Calls Tryd.prog 5 #[flv k1 n1 m1 e1, flv k2 n2 m2 e2] w fun r w' => r = .returned (.tuple #[.int .i64 0, .bool false]) ∧ Kept 0 0 w w' := by
  go_enter Tryd.func5, Tryd.ntmps5
  go_wp2_with fail
  refine (flok_impl_eq h1 _).mono ?_
  rintro r w1 ⟨rfl, rfl⟩
  go_wp2_with fail
  refine (flok_impl_eq h2 _).mono ?_
  rintro r w1 ⟨rfl, rfl⟩
  go_wp2_with fail
  go_ret2
  exact ⟨rfl, by repeat first | exact Kept.refl 0 0 _ | apply Kept.alloc⟩

set_option maxHeartbeats 1000000 in
theorem flcmp_impl_nan1 (k2 : Int) (n2 : Bool) (m2 e2 : Int) (h1 : flok 3 false 0 0 = true) (h2 : flok k2 n2 m2 e2 = true) (w : World) :
    Calls Tryd.prog 5 #[flv 3 false 0 0, flv k2 n2 m2 e2] w fun r w' => r = .returned (.tuple #[.int .i64 0, .bool false]) ∧ Kept 0 0 w w' := by
  go_enter Tryd.func5, Tryd.ntmps5
  go_wp2_with fail
  refine (flok_impl_eq h1 _).mono ?_
  rintro r w1 ⟨rfl, rfl⟩
  go_wp2_with fail
  refine (flok_impl_eq h2 _).mono ?_
  rintro r w1 ⟨rfl, rfl⟩
  go_wp2_with fail
  go_ret2
  exact ⟨rfl, by repeat first | exact Kept.refl 0 0 _ | apply Kept.alloc⟩

set_option maxHeartbeats 1000000 in
theorem flcmp_impl_nan2 (k1 : Int) (n1 : Bool) (m1 e1 : Int) (h1 : flok k1 n1 m1 e1 = true) (h2 : flok 3 false 0 0 = true) (h3 : (k1 == 3) = false) (w : World) :
    Calls Tryd.prog 5 #[flv k1 n1 m1 e1, flv 3 false 0 0] w fun r w' => r = .returned (.tuple #[.int .i64 0, .bool false]) ∧ Kept 0 0 w w' := by
  go_enter Tryd.func5, Tryd.ntmps5
  go_wp2_with fail
  refine (flok_impl_eq h1 _).mono ?_
  rintro r w1 ⟨rfl, rfl⟩
  go_wp2_with fail
  refine (flok_impl_eq h2 _).mono ?_
  rintro r w1 ⟨rfl, rfl⟩
  go_wp2_with fail
  go_ret2
  exact ⟨rfl, by repeat first | exact Kept.refl 0 0 _ | apply Kept.alloc⟩

theorem in_floatOf : ∀ (w : World) (args : Array Value), (callFunc 14 args).run Tryd.prog w = .ok (.enter 14 args) w := enters Tryd.func14 (by decide) (fun h => by cases h)

theorem in_placeOf : ∀ (w : World) (args : Array Value), (callFunc 13 args).run Tryd.prog w = .ok (.enter 13 args) w := enters Tryd.func13 (by decide) (fun h => by cases h)

theorem in_Compare : ∀ (w : World) (args : Array Value), (callFunc 12 args).run Tryd.prog w = .ok (.enter 12 args) w := enters Tryd.func12 (by decide) (fun h => by cases h)

theorem cmp_same {p1 p2 c : Int} (h : ∀ w, Calls Tryd.prog 12 #[.int .i64 p1, .int .i64 p2] w fun e w' => e = .returned (.int .i64 c) ∧ w' = w) (w : World) :
    Calls Tryd.prog 12 #[.int .i64 p1, .int .i64 p2] w fun e w' => e = .returned (.int .i64 c) ∧ Kept 0 0 w w' :=
  (h w).mono fun _ _ q => ⟨q.1, q.2 ▸ Kept.refl 0 0 w⟩

set_option maxHeartbeats 2000000 in
theorem flcmp_impl_good (k1 : Int) (n1 : Bool) (m1 e1 k2 : Int) (n2 : Bool) (m2 e2 : Int) (h1 : flok k1 n1 m1 e1 = true) (h2 : flok k2 n2 m2 e2 = true) (h3 : k1 ≠ 3) (h4 : k2 ≠ 3) (w : World) :
    Calls Tryd.prog 5 #[flv k1 n1 m1 e1, flv k2 n2 m2 e2] w fun r w' => r = .returned (.tuple #[.int .i64 (cmpI (plc k1 n1 m1 e1) (plc k2 n2 m2 e2)), .bool true]) ∧ Kept 0 0 w w' := by
  have q3 : (k1 == 3) = false := by simpa using h3
  have q4 : (k2 == 3) = false := by simpa using h4
  have C1 := fun w => floatOf_any h1 h3 w
  have P1 := fun w => placeOf_any h1 h3 w
  have C2 := fun w => floatOf_any h2 h4 w
  have P2 := fun w => placeOf_any h2 h4 w
  have HH1 := hide h1
  have HH2 := hide h2
  clear h3 h4 h1 h2
  generalize plc k1 n1 m1 e1 = g1 at P1 ⊢
  generalize plc k2 n2 m2 e2 = g2 at P2 ⊢
  generalize ifl k1 n1 m1 e1 = i1 at P1 C1
  generalize ifl k2 n2 m2 e2 = i2 at P2 C2
  generalize hC : cmpI g1 g2 = c
  have HC := hide hC
  clear hC
  replace C1 := hide C1
  replace C2 := hide C2
  replace P1 := hide P1
  replace P2 := hide P2
  have k0 : Kept 0 0 w ((w.alloc (.cells #[.int .i64 k1, .bool n1, .int .i64 m1, .int .i64 e1] 24)).alloc (.cells #[.int .i64 k2, .bool n2, .int .i64 m2, .int .i64 e2] 24)) := (((Kept.refl 0 0 w).alloc (.cells #[.int .i64 k1, .bool n1, .int .i64 m1, .int .i64 e1] 24)).alloc (.cells #[.int .i64 k2, .bool n2, .int .i64 m2, .int .i64 e2] 24))
  have p0 : ((w.alloc (.cells #[.int .i64 k1, .bool n1, .int .i64 m1, .int .i64 e1] 24)).alloc (.cells #[.int .i64 k2, .bool n2, .int .i64 m2, .int .i64 e2] 24)).cell? ⟨w.heap.size, 0, none⟩ = some (.int .i64 k1) := old_cell _ (new_cell2 _ _ _ _ _ _ (by simp) rfl)
  have p1 : ((w.alloc (.cells #[.int .i64 k1, .bool n1, .int .i64 m1, .int .i64 e1] 24)).alloc (.cells #[.int .i64 k2, .bool n2, .int .i64 m2, .int .i64 e2] 24)).cell? ⟨w.heap.size, 1, none⟩ = some (.bool n1) := old_cell _ (new_cell2 _ _ _ _ _ _ (by simp) rfl)
  have p2 : ((w.alloc (.cells #[.int .i64 k1, .bool n1, .int .i64 m1, .int .i64 e1] 24)).alloc (.cells #[.int .i64 k2, .bool n2, .int .i64 m2, .int .i64 e2] 24)).cell? ⟨w.heap.size, 2, none⟩ = some (.int .i64 m1) := old_cell _ (new_cell2 _ _ _ _ _ _ (by simp) rfl)
  have p3 : ((w.alloc (.cells #[.int .i64 k1, .bool n1, .int .i64 m1, .int .i64 e1] 24)).alloc (.cells #[.int .i64 k2, .bool n2, .int .i64 m2, .int .i64 e2] 24)).cell? ⟨w.heap.size, 3, none⟩ = some (.int .i64 e1) := old_cell _ (new_cell2 _ _ _ _ _ _ (by simp) rfl)
  have t0 : ((w.alloc (.cells #[.int .i64 k1, .bool n1, .int .i64 m1, .int .i64 e1] 24)).alloc (.cells #[.int .i64 k2, .bool n2, .int .i64 m2, .int .i64 e2] 24)).cell? ⟨w.heap.size + 1, 0, none⟩ = some (.int .i64 k2) := new_cell2 _ _ _ _ _ _ (by simp) rfl
  have t1 : ((w.alloc (.cells #[.int .i64 k1, .bool n1, .int .i64 m1, .int .i64 e1] 24)).alloc (.cells #[.int .i64 k2, .bool n2, .int .i64 m2, .int .i64 e2] 24)).cell? ⟨w.heap.size + 1, 1, none⟩ = some (.bool n2) := new_cell2 _ _ _ _ _ _ (by simp) rfl
  have t2 : ((w.alloc (.cells #[.int .i64 k1, .bool n1, .int .i64 m1, .int .i64 e1] 24)).alloc (.cells #[.int .i64 k2, .bool n2, .int .i64 m2, .int .i64 e2] 24)).cell? ⟨w.heap.size + 1, 2, none⟩ = some (.int .i64 m2) := new_cell2 _ _ _ _ _ _ (by simp) rfl
  have t3 : ((w.alloc (.cells #[.int .i64 k1, .bool n1, .int .i64 m1, .int .i64 e1] 24)).alloc (.cells #[.int .i64 k2, .bool n2, .int .i64 m2, .int .i64 e2] 24)).cell? ⟨w.heap.size + 1, 3, none⟩ = some (.int .i64 e2) := new_cell2 _ _ _ _ _ _ (by simp) rfl
  have s0 : ((w.alloc (.cells #[.int .i64 k1, .bool n1, .int .i64 m1, .int .i64 e1] 24)).alloc (.cells #[.int .i64 k2, .bool n2, .int .i64 m2, .int .i64 e2] 24)).heap.size = w.heap.size + 2 := by simp
  have K := hide (k0)
  clear k0
  have S0 := hide s0
  clear s0
  go_enter Tryd.func5, Tryd.ntmps5
  go_wp2_with fail
  generalize ((w.alloc (.cells #[.int .i64 k1, .bool n1, .int .i64 m1, .int .i64 e1] 24)).alloc (.cells #[.int .i64 k2, .bool n2, .int .i64 m2, .int .i64 e2] 24)) = W at *
  refine (flok_impl_k (unhide HH1) _).mono ?_
  rintro e w1 ⟨rfl, k1⟩
  replace p0 := k1.cell0 p0
  replace p1 := k1.cell0 p1
  replace p2 := k1.cell0 p2
  replace p3 := k1.cell0 p3
  replace t0 := k1.cell0 t0
  replace t1 := k1.cell0 t1
  replace t2 := k1.cell0 t2
  replace t3 := k1.cell0 t3
  replace K := hide ((unhide K).trans k1)
  have z2 := k1.size
  clear k1
  go_wp2_with fail
  refine (flok_impl_k (unhide HH2) _).mono ?_
  rintro e w3 ⟨rfl, k3⟩
  replace p0 := k3.cell0 p0
  replace p1 := k3.cell0 p1
  replace p2 := k3.cell0 p2
  replace p3 := k3.cell0 p3
  replace t0 := k3.cell0 t0
  replace t1 := k3.cell0 t1
  replace t2 := k3.cell0 t2
  replace t3 := k3.cell0 t3
  replace K := hide ((unhide K).trans k3)
  have z4 := k3.size
  clear k3
  go_wp2_with fail
  have hcm := fun w => cmp_impl g1 g2 w
  rw [unhide HC] at hcm
  have kd := (Kept.refl 0 0 w3).drew
  replace p0 := kd.cell0 p0
  replace p1 := kd.cell0 p1
  replace p2 := kd.cell0 p2
  replace p3 := kd.cell0 p3
  replace t0 := kd.cell0 t0
  replace t1 := kd.cell0 t1
  replace t2 := kd.cell0 t2
  replace t3 := kd.cell0 t3
  replace K := hide ((unhide K).trans kd)
  have z5 := kd.size
  clear kd
  refine wp_region_held_drew (S := (fun w' => w'.cell? ⟨w.heap.size, 0, none⟩ = some (.int .i64 k1) ∧ w'.cell? ⟨w.heap.size, 1, none⟩ = some (.bool n1) ∧ w'.cell? ⟨w.heap.size, 2, none⟩ = some (.int .i64 m1) ∧ w'.cell? ⟨w.heap.size, 3, none⟩ = some (.int .i64 e1) ∧ w'.cell? ⟨w.heap.size + 1, 0, none⟩ = some (.int .i64 k2) ∧ w'.cell? ⟨w.heap.size + 1, 1, none⟩ = some (.bool n2) ∧ w'.cell? ⟨w.heap.size + 1, 2, none⟩ = some (.int .i64 m2) ∧ w'.cell? ⟨w.heap.size + 1, 3, none⟩ = some (.int .i64 e2))) (by kernel_rfl) ?_ (fun hHeld => ?_)
  · exact ⟨p0, p1, p2, p3, t0, t1, t2, t3⟩
  refine wpAnyH_take (i := 0) (oi := _) (v := .agg #[.int .i64 k1, .bool n1, .int .i64 m1, .int .i64 e1]) rfl (by kernel_rfl) (by kernel_rfl) (by kernel_rfl) (fun _ _ _ h => h) (Or.inl ⟨by rfl, ?_⟩) hHeld ?_
  · intro wq hSw
    try dsimp only at hSw
    go_simp
  try simp only [Act.put, List.getElem_toArray, List.getElem_cons_succ, List.getElem_cons_zero, List.setIfInBounds_toArray, List.set_cons_zero, List.set_cons_succ]
  refine wpAnyH_take (i := 3) (oi := _) (v := .agg #[.int .i64 k2, .bool n2, .int .i64 m2, .int .i64 e2]) rfl (by kernel_rfl) (by kernel_rfl) (by kernel_rfl) (fun _ _ _ h => h) (Or.inl ⟨by rfl, ?_⟩) hHeld ?_
  · intro wq hSw
    try dsimp only at hSw
    go_simp
  try simp only [Act.put, List.getElem_toArray, List.getElem_cons_succ, List.getElem_cons_zero, List.setIfInBounds_toArray, List.set_cons_zero, List.set_cons_succ]
  refine wpAnyH_ready (rs := [1]) (by kernel_rfl) (by simp) ?_
  refine AllReadyH.cons rfl (fun KK hK => ?_) AllReadyH.nil
  simp only [List.getElem_toArray, List.getElem_cons_succ, List.getElem_cons_zero]
  rw [if_pos (by rfl)]
  refine wps1 14 (.tmp 24) _ rfl in_floatOf (.agg #[.int .i64 k1, .bool n1, .int .i64 m1, .int .i64 e1]) rfl (unhide C1 _) ?_
  rintro e w6 ⟨rfl, k6⟩
  refine ⟨_, rfl, ?_⟩
  replace p0 := k6.cell0 p0
  replace p1 := k6.cell0 p1
  replace p2 := k6.cell0 p2
  replace p3 := k6.cell0 p3
  replace t0 := k6.cell0 t0
  replace t1 := k6.cell0 t1
  replace t2 := k6.cell0 t2
  replace t3 := k6.cell0 t3
  replace K := hide ((unhide K).trans k6)
  have z7 := k6.size
  clear k6
  clear hHeld
  refine hK.out _ _ ?_ (fun hHeld => ?_)
  · exact ⟨p0, p1, p2, p3, t0, t1, t2, t3⟩
  clear hK KK
  try simp only [Act.put, List.getElem_toArray, List.getElem_cons_succ, List.getElem_cons_zero, List.setIfInBounds_toArray, List.set_cons_zero, List.set_cons_succ]
  refine wpAnyH_ready (rs := [2]) (by kernel_rfl) (by simp) ?_
  refine AllReadyH.cons rfl (fun KK hK => ?_) AllReadyH.nil
  simp only [List.getElem_toArray, List.getElem_cons_succ, List.getElem_cons_zero]
  rw [if_pos (by rfl)]
  refine wps1 13 (.tmp 25) _ rfl in_placeOf i1 rfl (unhide P1 _) ?_
  rintro e w8 ⟨rfl, k8⟩
  refine ⟨_, rfl, ?_⟩
  replace p0 := k8.cell0 p0
  replace p1 := k8.cell0 p1
  replace p2 := k8.cell0 p2
  replace p3 := k8.cell0 p3
  replace t0 := k8.cell0 t0
  replace t1 := k8.cell0 t1
  replace t2 := k8.cell0 t2
  replace t3 := k8.cell0 t3
  replace K := hide ((unhide K).trans k8)
  have z9 := k8.size
  clear k8
  clear hHeld
  refine hK.out _ _ ?_ (fun hHeld => ?_)
  · exact ⟨p0, p1, p2, p3, t0, t1, t2, t3⟩
  clear hK KK
  try simp only [Act.put, List.getElem_toArray, List.getElem_cons_succ, List.getElem_cons_zero, List.setIfInBounds_toArray, List.set_cons_zero, List.set_cons_succ]
  refine wpAnyH_ready (rs := [4]) (by kernel_rfl) (by simp) ?_
  refine AllReadyH.cons rfl (fun KK hK => ?_) AllReadyH.nil
  simp only [List.getElem_toArray, List.getElem_cons_succ, List.getElem_cons_zero]
  rw [if_pos (by rfl)]
  refine wps1 14 (.tmp 27) _ rfl in_floatOf (.agg #[.int .i64 k2, .bool n2, .int .i64 m2, .int .i64 e2]) rfl (unhide C2 _) ?_
  rintro e w10 ⟨rfl, k10⟩
  refine ⟨_, rfl, ?_⟩
  replace p0 := k10.cell0 p0
  replace p1 := k10.cell0 p1
  replace p2 := k10.cell0 p2
  replace p3 := k10.cell0 p3
  replace t0 := k10.cell0 t0
  replace t1 := k10.cell0 t1
  replace t2 := k10.cell0 t2
  replace t3 := k10.cell0 t3
  replace K := hide ((unhide K).trans k10)
  have z11 := k10.size
  clear k10
  clear hHeld
  refine hK.out _ _ ?_ (fun hHeld => ?_)
  · exact ⟨p0, p1, p2, p3, t0, t1, t2, t3⟩
  clear hK KK
  try simp only [Act.put, List.getElem_toArray, List.getElem_cons_succ, List.getElem_cons_zero, List.setIfInBounds_toArray, List.set_cons_zero, List.set_cons_succ]
  refine wpAnyH_ready (rs := [5]) (by kernel_rfl) (by simp) ?_
  refine AllReadyH.cons rfl (fun KK hK => ?_) AllReadyH.nil
  simp only [List.getElem_toArray, List.getElem_cons_succ, List.getElem_cons_zero]
  rw [if_pos (by rfl)]
  refine wps1 13 (.tmp 28) _ rfl in_placeOf i2 rfl (unhide P2 _) ?_
  rintro e w12 ⟨rfl, k12⟩
  refine ⟨_, rfl, ?_⟩
  replace p0 := k12.cell0 p0
  replace p1 := k12.cell0 p1
  replace p2 := k12.cell0 p2
  replace p3 := k12.cell0 p3
  replace t0 := k12.cell0 t0
  replace t1 := k12.cell0 t1
  replace t2 := k12.cell0 t2
  replace t3 := k12.cell0 t3
  replace K := hide ((unhide K).trans k12)
  have z13 := k12.size
  clear k12
  clear hHeld
  refine hK.out _ _ ?_ (fun hHeld => ?_)
  · exact ⟨p0, p1, p2, p3, t0, t1, t2, t3⟩
  clear hK KK
  try simp only [Act.put, List.getElem_toArray, List.getElem_cons_succ, List.getElem_cons_zero, List.setIfInBounds_toArray, List.set_cons_zero, List.set_cons_succ]
  refine wpAnyH_ready (rs := [6]) (by kernel_rfl) (by simp) ?_
  refine AllReadyH.cons rfl (fun KK hK => ?_) AllReadyH.nil
  simp only [List.getElem_toArray, List.getElem_cons_succ, List.getElem_cons_zero]
  rw [if_pos (by rfl)]
  refine wps2 12 (.tmp 26) (.tmp 29) _ rfl in_Compare (.int .i64 g1) (.int .i64 g2) rfl rfl (cmp_same hcm _) ?_
  rintro e w14 ⟨rfl, k14⟩
  refine ⟨_, rfl, ?_⟩
  replace p0 := k14.cell0 p0
  replace p1 := k14.cell0 p1
  replace p2 := k14.cell0 p2
  replace p3 := k14.cell0 p3
  replace t0 := k14.cell0 t0
  replace t1 := k14.cell0 t1
  replace t2 := k14.cell0 t2
  replace t3 := k14.cell0 t3
  replace K := hide ((unhide K).trans k14)
  have z15 := k14.size
  clear k14
  clear hHeld
  refine hK.out _ _ ?_ (fun hHeld => ?_)
  · exact ⟨p0, p1, p2, p3, t0, t1, t2, t3⟩
  clear hK KK
  try simp only [Act.put, List.getElem_toArray, List.getElem_cons_succ, List.getElem_cons_zero, List.setIfInBounds_toArray, List.set_cons_zero, List.set_cons_succ]
  refine wpAnyH_take (i := 7) (oi := _) (v := .int .i64 c) rfl (by kernel_rfl) (by kernel_rfl) (by kernel_rfl) (fun _ _ _ h => h) (Or.inl ⟨by rfl, ?_⟩) hHeld ?_
  · intro wq hSw
    try dsimp only at hSw
    go_simp
  try simp only [Act.put, List.getElem_toArray, List.getElem_cons_succ, List.getElem_cons_zero, List.setIfInBounds_toArray, List.set_cons_zero, List.set_cons_succ]
  refine wpAnyH_take (i := 8) (oi := _) (v := .bool true) rfl (by kernel_rfl) (by kernel_rfl) (by kernel_rfl) (fun _ _ _ h => h) (Or.inl ⟨by rfl, ?_⟩) hHeld ?_
  · intro wq hSw
    try dsimp only at hSw
    go_simp
  try simp only [Act.put, List.getElem_toArray, List.getElem_cons_succ, List.getElem_cons_zero, List.setIfInBounds_toArray, List.set_cons_zero, List.set_cons_succ]
  refine wpAnyH_done (by kernel_rfl) ?_ _
  clear hHeld
  go_wp2_with fail
  go_ret2
  exact ⟨rfl, unhide K⟩

theorem flcmp_impl (k1 : Int) (n1 : Bool) (m1 e1 k2 : Int) (n2 : Bool) (m2 e2 : Int) (w : World) :
    Calls Tryd.prog 5 #[flv k1 n1 m1 e1, flv k2 n2 m2 e2] w fun r w' => r = .returned (.tuple #[.int .i64 (fcmI k1 n1 m1 e1 k2 n2 m2 e2), .bool (fcmB k1 n1 m1 e1 k2 n2 m2 e2)]) ∧ Kept 0 0 w w' := by
  by_cases hg : fcmB k1 n1 m1 e1 k2 n2 m2 e2 = true
  · have hg' := hg
    unfold fcmB at hg'
    simp only [Bool.and_eq_true, bne_iff_ne, ne_eq] at hg'
    obtain ⟨⟨⟨h1, h2⟩, h3⟩, h4⟩ := hg'
    unfold fcmI
    rw [if_pos hg, hg]
    exact flcmp_impl_good k1 n1 m1 e1 k2 n2 m2 e2 h1 h2 h3 h4 w
  · unfold fcmI
    rw [if_neg hg, show fcmB k1 n1 m1 e1 k2 n2 m2 e2 = false by simpa using hg]
    by_cases h1 : flok k1 n1 m1 e1 = true
    · by_cases h2 : flok k2 n2 m2 e2 = true
      · by_cases h3 : k1 = 3
        · subst h3
          rcases flok_ways h1 with ⟨h9, -⟩ | ⟨h9, -⟩ | ⟨h9, -⟩ | ⟨-, rfl, rfl, rfl⟩
          · omega
          · omega
          · omega
          · exact flcmp_impl_nan1 k2 n2 m2 e2 h1 h2 w
        · by_cases h4 : k2 = 3
          · subst h4
            rcases flok_ways h2 with ⟨h9, -⟩ | ⟨h9, -⟩ | ⟨h9, -⟩ | ⟨-, rfl, rfl, rfl⟩
            · omega
            · omega
            · omega
            · exact flcmp_impl_nan2 k1 n1 m1 e1 h1 h2 (by simp [h3]) w
          · exact absurd (by unfold fcmB; simp [h1, h2, h3, h4]) hg
      · exact flcmp_impl_no2 k1 n1 m1 e1 k2 n2 m2 e2 h1 (by simpa using h2) w
    · exact flcmp_impl_no1 k1 n1 m1 e1 k2 n2 m2 e2 (by simpa using h1) w

end Go.Proofs.YtcijajdhiknaoaaDoor
