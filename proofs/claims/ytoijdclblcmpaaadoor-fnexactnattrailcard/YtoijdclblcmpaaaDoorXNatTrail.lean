/-
  The walk of the law FnExactNatTrail: it returns true at every argument.
-/
import Derived.Test.YtoijdclblcmpaaaDoorNTrail
import Derived.Test.YtoijdclblcmpaaaDoorLawW
import Derived.Deep.DeepCutAuto
namespace Go.Proofs.YtoijdclblcmpaaaDoor
open Go.RowKit
set_option linter.unusedVariables false
set_option maxRecDepth 8000
set_option linter.unusedSimpArgs false

set_option maxHeartbeats 16000000 in
theorem law_NatTrail {u0 : Value} {z0 : List Int} {w : World} (r0 : Row .i64 false 0 w.heap.size w u0 z0) (T : TabB w) :
    Calls Tryd.prog 8 #[.agg #[u0]] w fun e w' => e = .returned (.bool true) ∧ Below w.heap.size w w' := by
  obtain ⟨B0, hB0⟩ : ∃ B, trailN z0 = B := ⟨_, rfl⟩
  skip
  have hm0 := r0.len
  unfold maxLen at hm0
  have k0 : Kept 0 0 w (w.alloc (.cells #[u0] 70)) := ((Kept.refl 0 0 w).alloc (.cells #[u0] 70))
  have A0_0 : (w.alloc (.cells #[u0] 70)).cell? ⟨w.heap.size, 0, none⟩ = some (u0) := new_cell2 _ _ _ _ _ _ (by simp) rfl
  replace r0 := r0.kept k0 (by omega)
  have s0 : (w.alloc (.cells #[u0] 70)).heap.size = w.heap.size + 1 := by simp
  obtain ⟨a0, c0, hv⟩ := Row.form' r0
  subst hv
  have K := hide (k0)
  clear k0
  have S0 := hide s0
  clear s0
  have EB0 := hide hB0
  clear hB0
  go_enter Tryd.func8, Tryd.ntmps8
  skip
  go_wp2_with fail
  generalize (w.alloc (.cells #[.slice a0 z0.length c0] 70)) = W at *
  refine (szNat_any _ (1048576) (by omega) (by omega) r0).mono ?_
  rintro e w1 ⟨rfl, k1⟩
  replace r0 := r0.kept k1 (by omega)
  replace A0_0 := k1.cell0 A0_0
  replace K := hide ((unhide K).trans k1)
  have z2 := k1.size
  clear k1
  by_cases big0 : (z0.length : Int) ≤ 1048576
  rotate_left
  · rw [if_neg big0]
    go_wp2_with fail
    go_ret
    exact ⟨rfl, (unhide K).toBelow⟩
  rw [if_pos big0]
  have nb0 : ¬ (1048576 - (z0.length : Int)) < 0 := by omega
  have hn0 : z0.length ≤ 1099511627776 := by omega
  go_wp2_with fail
  refine (toNat_any _ hn0 r0).mono ?_
  rintro e w3 ⟨vyw0, rfl, ryw0, k3⟩
  replace r0 := r0.kept k3 (by omega)
  replace A0_0 := k3.cell0 A0_0
  replace K := hide ((unhide K).trans k3)
  have z4 := k3.size
  clear k3
  go_wp2_with fail
  have mk := ntrail_spec w3 ryw0
  simp only [unhide EB0] at mk
  refine (mk).mono ?_
  rintro e w5 ⟨rfl, k5⟩
  replace r0 := r0.kept k5 (by omega)
  replace ryw0 := ryw0.kept k5 (by omega)
  replace A0_0 := k5.cell0 A0_0
  replace K := hide ((unhide K).trans k5)
  have z6 := k5.size
  clear k5
  clear mk
  clear ryw0
  go_wp2_with fail
  refine (toNat_any _ hn0 r0).mono ?_
  rintro e w7 ⟨vx0, rfl, rx0, k7⟩
  replace r0 := r0.kept k7 (by omega)
  replace A0_0 := k7.cell0 A0_0
  replace K := hide ((unhide K).trans k7)
  have z8 := k7.size
  clear k7
  obtain ⟨ax0, dx0, hv⟩ := Row.form' rx0
  subst hv
  have kn := (Kept.refl 0 0 w7).alloc (.cells #[.slice ax0 z0.length dx0] 26)
  have cx0_0 : (w7.alloc (.cells #[.slice ax0 z0.length dx0] 26)).cell? ⟨w7.heap.size, 0, none⟩ = some (.slice ax0 z0.length dx0) := new_cell2 _ _ _ _ _ _ rfl rfl
  have t9 : w7.heap.size + 1 ≤ (w7.alloc (.cells #[.slice ax0 z0.length dx0] 26)).heap.size := by simp
  replace r0 := r0.kept kn (by omega)
  replace rx0 := rx0.kept kn (by omega)
  replace A0_0 := kn.cell0 A0_0
  replace K := hide ((unhide K).trans kn)
  have z10 := kn.size
  clear kn
  go_wp2_with fail
  generalize w7.alloc (.cells #[.slice ax0 z0.length dx0] 26) = wm9 at *
  have mk := ntrail_impl wm9 rx0 (T.kept (unhide K))
  simp only [unhide EB0] at mk
  refine (mk).mono ?_
  rintro e w11 ⟨rfl, k11⟩
  replace r0 := r0.kept k11 (by omega)
  replace rx0 := rx0.kept k11 (by omega)
  replace A0_0 := k11.cell0 A0_0
  replace cx0_0 := k11.cell0 cx0_0
  replace K := hide ((unhide K).trans k11)
  have z12 := k11.size
  clear k11
  clear mk
  go_wp2_with fail
  have kd := (Kept.refl 0 0 w11).drew
  replace r0 := r0.kept kd (by omega)
  replace rx0 := rx0.kept kd (by omega)
  replace A0_0 := kd.cell0 A0_0
  replace cx0_0 := kd.cell0 cx0_0
  replace K := hide ((unhide K).trans kd)
  have z13 := kd.size
  clear kd
  refine wp_region_held_drew (S := (fun w' => w'.cell? ⟨w.heap.size, 0, none⟩ = some (.slice a0 z0.length c0) ∧ w'.cell? ⟨w7.heap.size, 0, none⟩ = some (.slice ax0 z0.length dx0))) (by kernel_rfl) ?_ (fun hHeld => ?_)
  · exact ⟨A0_0, cx0_0⟩
  refine wpAnyH_take (i := 0) (oi := _) (v := .agg #[.slice ax0 z0.length dx0]) rfl (by kernel_rfl) (by kernel_rfl) (by kernel_rfl) (fun _ _ _ h => h) (Or.inl ⟨by rfl, ?_⟩) hHeld ?_
  · intro wq hSw
    try dsimp only at hSw
    go_simp
  try simp only [Act.put, List.getElem_toArray, List.getElem_cons_succ, List.getElem_cons_zero, List.setIfInBounds_toArray, List.set_cons_zero, List.set_cons_succ]
  refine wpAnyH_take (i := 1) (oi := _) (v := .agg #[.slice a0 z0.length c0]) rfl (by kernel_rfl) (by kernel_rfl) (by kernel_rfl) (fun _ _ _ h => h) (Or.inl ⟨by rfl, ?_⟩) hHeld ?_
  · intro wq hSw
    try dsimp only at hSw
    go_simp
  try simp only [Act.put, List.getElem_toArray, List.getElem_cons_succ, List.getElem_cons_zero, List.setIfInBounds_toArray, List.set_cons_zero, List.set_cons_succ]
  refine wpAnyH_ready (rs := [2]) (by kernel_rfl) (by simp) ?_
  refine AllReadyH.cons rfl (fun KK hK => ?_) AllReadyH.nil
  simp only [List.getElem_toArray, List.getElem_cons_succ, List.getElem_cons_zero]
  rw [if_pos (by rfl)]
  refine wps1 64 (.tmp 23) _ rfl in_toN (.agg #[.slice a0 z0.length c0]) rfl (toNat_any _ hn0 r0) ?_
  rintro e w14 ⟨v7, rfl, r7, k14⟩
  refine ⟨_, rfl, ?_⟩
  replace r0 := r0.kept k14 (by omega)
  replace rx0 := rx0.kept k14 (by omega)
  replace A0_0 := k14.cell0 A0_0
  replace cx0_0 := k14.cell0 cx0_0
  replace K := hide ((unhide K).trans k14)
  have z15 := k14.size
  clear k14
  clear hHeld
  refine hK.out _ _ ?_ (fun hHeld => ?_)
  · exact ⟨A0_0, cx0_0⟩
  clear hK KK
  try simp only [Act.put, List.getElem_toArray, List.getElem_cons_succ, List.getElem_cons_zero, List.setIfInBounds_toArray, List.set_cons_zero, List.set_cons_succ]
  refine wpAnyH_ready (rs := [3]) (by kernel_rfl) (by simp) ?_
  refine AllReadyH.cons rfl (fun KK hK => ?_) AllReadyH.nil
  simp only [List.getElem_toArray, List.getElem_cons_succ, List.getElem_cons_zero]
  rw [if_pos (by rfl)]
  refine wps2 65 (.tmp 22) (.tmp 24) _ rfl in_eqN (.agg #[.slice ax0 z0.length dx0]) (.agg #[v7]) rfl rfl (eqNat_same _ rx0 r7) ?_
  rintro e w16 ⟨rfl, k16⟩
  refine ⟨_, rfl, ?_⟩
  replace r0 := r0.kept k16 (by omega)
  replace rx0 := rx0.kept k16 (by omega)
  replace r7 := r7.kept k16 (by omega)
  replace A0_0 := k16.cell0 A0_0
  replace cx0_0 := k16.cell0 cx0_0
  replace K := hide ((unhide K).trans k16)
  have z17 := k16.size
  clear k16
  clear hHeld
  refine hK.out _ _ ?_ (fun hHeld => ?_)
  · exact ⟨A0_0, cx0_0⟩
  clear hK KK
  try simp only [Act.put, List.getElem_toArray, List.getElem_cons_succ, List.getElem_cons_zero, List.setIfInBounds_toArray, List.set_cons_zero, List.set_cons_succ]
  refine wpAnyH_take (i := 4) (oi := _) (v := .bool false) rfl (by kernel_rfl) (by kernel_rfl) (by kernel_rfl) (fun _ _ _ h => h) (Or.inl ⟨by rfl, ?_⟩) hHeld ?_
  · intro wq hSw
    try dsimp only at hSw
    go_simp
  try simp only [Act.put, List.getElem_toArray, List.getElem_cons_succ, List.getElem_cons_zero, List.setIfInBounds_toArray, List.set_cons_zero, List.set_cons_succ]
  refine wpAnyH_done (by kernel_rfl) ?_ _
  clear hHeld
  clear r7
  have S0' := unhide S0
  go_wp2_with fail
  go_ret
  exact ⟨rfl, (unhide K).toBelow⟩

end Go.Proofs.YtoijdclblcmpaaaDoor
