/-
  The contract of the program's DyMul.
-/
import Derived.Test.YtagaofpkfpfilaaDoorDy11
import Derived.Deep.DeepCutAuto
namespace Go.Proofs.YtagaofpkfpfilaaDoor
open Go.RowKit
set_option linter.unusedVariables false
set_option maxRecDepth 8000
set_option linter.unusedSimpArgs false

set_option maxHeartbeats 8000000 in
theorem dmul_impl {b1 b2 : Bool} {l1 h1 l2 h2 : Nat} {v1 v2 : Value} {xs ys : List Int} (s1 s2 : Bool) (x1 x2 : Int) (hx1 : x1 ≤ 9223372036854775807) (hx0 : -9223372036854775808 ≤ x1) (hy1 : x2 ≤ 9223372036854775807) (hy0 : -9223372036854775808 ≤ x2) (w : World) (r1 : Row .i64 b1 l1 h1 w v1 xs) (r2 : Row .i64 b2 l2 h2 w v2 ys) (T : TabB w) :
    Calls Tryd.prog 55 #[.agg #[.bool s1, v1, .int .i64 x1], .agg #[.bool s2, v2, .int .i64 x2]] w fun e w' => ∃ v', e = .returned (.tuple #[.agg #[.bool (ansDS (dokB s1 xs x1 && dokB s2 ys x2) (wval s1 xs * wval s2 ys) (x1 + x2)), v', .int .i64 (ansDE (dokB s1 xs x1 && dokB s2 ys x2) (wval s1 xs * wval s2 ys) (x1 + x2))], .bool (ansDB (dokB s1 xs x1 && dokB s2 ys x2) (wval s1 xs * wval s2 ys) (x1 + x2))]) ∧ Row .i64 true w.heap.size w'.heap.size w' v' (ansDL (dokB s1 xs x1 && dokB s2 ys x2) (wval s1 xs * wval s2 ys) (x1 + x2)) ∧ Kept 0 0 w w' := by
  obtain ⟨GS, hGS⟩ : ∃ y, ansDS (dokB s1 xs x1 && dokB s2 ys x2) (wval s1 xs * wval s2 ys) (x1 + x2) = y := ⟨_, rfl⟩
  obtain ⟨GL, hGL⟩ : ∃ y, ansDL (dokB s1 xs x1 && dokB s2 ys x2) (wval s1 xs * wval s2 ys) (x1 + x2) = y := ⟨_, rfl⟩
  obtain ⟨GE, hGE⟩ : ∃ y, ansDE (dokB s1 xs x1 && dokB s2 ys x2) (wval s1 xs * wval s2 ys) (x1 + x2) = y := ⟨_, rfl⟩
  obtain ⟨GB, hGB⟩ : ∃ y, ansDB (dokB s1 xs x1 && dokB s2 ys x2) (wval s1 xs * wval s2 ys) (x1 + x2) = y := ⟨_, rfl⟩
  try rw [hGS]
  try rw [hGL]
  try rw [hGE]
  try rw [hGB]
  have HGS := hide hGS
  have HGL := hide hGL
  have HGE := hide hGE
  have HGB := hide hGB
  clear hGS hGL hGE hGB
  have k0 : Kept 0 0 w (((w.alloc (.cells #[.bool s1, v1, .int .i64 x1] 32)).alloc (.cells #[.bool s2, v2, .int .i64 x2] 32)).alloc (.cells #[.bool false, .slice none 0 0, .int .i64 0] 32)) := ((((Kept.refl 0 0 w).alloc (.cells #[.bool s1, v1, .int .i64 x1] 32)).alloc (.cells #[.bool s2, v2, .int .i64 x2] 32)).alloc (.cells #[.bool false, .slice none 0 0, .int .i64 0] 32))
  have p0 : (((w.alloc (.cells #[.bool s1, v1, .int .i64 x1] 32)).alloc (.cells #[.bool s2, v2, .int .i64 x2] 32)).alloc (.cells #[.bool false, .slice none 0 0, .int .i64 0] 32)).cell? ⟨w.heap.size, 0, none⟩ = some (.bool s1) := old_cell _ (old_cell _ (new_cell2 _ _ _ _ _ _ (by simp) rfl))
  have p1 : (((w.alloc (.cells #[.bool s1, v1, .int .i64 x1] 32)).alloc (.cells #[.bool s2, v2, .int .i64 x2] 32)).alloc (.cells #[.bool false, .slice none 0 0, .int .i64 0] 32)).cell? ⟨w.heap.size, 1, none⟩ = some (v1) := old_cell _ (old_cell _ (new_cell2 _ _ _ _ _ _ (by simp) rfl))
  have p2 : (((w.alloc (.cells #[.bool s1, v1, .int .i64 x1] 32)).alloc (.cells #[.bool s2, v2, .int .i64 x2] 32)).alloc (.cells #[.bool false, .slice none 0 0, .int .i64 0] 32)).cell? ⟨w.heap.size, 2, none⟩ = some (.int .i64 x1) := old_cell _ (old_cell _ (new_cell2 _ _ _ _ _ _ (by simp) rfl))
  have t0 : (((w.alloc (.cells #[.bool s1, v1, .int .i64 x1] 32)).alloc (.cells #[.bool s2, v2, .int .i64 x2] 32)).alloc (.cells #[.bool false, .slice none 0 0, .int .i64 0] 32)).cell? ⟨w.heap.size + 1, 0, none⟩ = some (.bool s2) := old_cell _ (new_cell2 _ _ _ _ _ _ (by simp) rfl)
  have t1 : (((w.alloc (.cells #[.bool s1, v1, .int .i64 x1] 32)).alloc (.cells #[.bool s2, v2, .int .i64 x2] 32)).alloc (.cells #[.bool false, .slice none 0 0, .int .i64 0] 32)).cell? ⟨w.heap.size + 1, 1, none⟩ = some (v2) := old_cell _ (new_cell2 _ _ _ _ _ _ (by simp) rfl)
  have t2 : (((w.alloc (.cells #[.bool s1, v1, .int .i64 x1] 32)).alloc (.cells #[.bool s2, v2, .int .i64 x2] 32)).alloc (.cells #[.bool false, .slice none 0 0, .int .i64 0] 32)).cell? ⟨w.heap.size + 1, 2, none⟩ = some (.int .i64 x2) := old_cell _ (new_cell2 _ _ _ _ _ _ (by simp) rfl)
  have q0 : (((w.alloc (.cells #[.bool s1, v1, .int .i64 x1] 32)).alloc (.cells #[.bool s2, v2, .int .i64 x2] 32)).alloc (.cells #[.bool false, .slice none 0 0, .int .i64 0] 32)).cell? ⟨w.heap.size + 2, 0, none⟩ = some (.bool false) := new_cell2 _ _ _ _ _ _ (by simp) rfl
  have qf0 : (((w.alloc (.cells #[.bool s1, v1, .int .i64 x1] 32)).alloc (.cells #[.bool s2, v2, .int .i64 x2] 32)).alloc (.cells #[.bool false, .slice none 0 0, .int .i64 0] 32)).frozen? ⟨w.heap.size + 2, 0, none⟩ = false := new_loose2 _ _ _ _ _ (by simp)
  have q1 : (((w.alloc (.cells #[.bool s1, v1, .int .i64 x1] 32)).alloc (.cells #[.bool s2, v2, .int .i64 x2] 32)).alloc (.cells #[.bool false, .slice none 0 0, .int .i64 0] 32)).cell? ⟨w.heap.size + 2, 1, none⟩ = some (.slice none 0 0) := new_cell2 _ _ _ _ _ _ (by simp) rfl
  have qf1 : (((w.alloc (.cells #[.bool s1, v1, .int .i64 x1] 32)).alloc (.cells #[.bool s2, v2, .int .i64 x2] 32)).alloc (.cells #[.bool false, .slice none 0 0, .int .i64 0] 32)).frozen? ⟨w.heap.size + 2, 1, none⟩ = false := new_loose2 _ _ _ _ _ (by simp)
  have q2 : (((w.alloc (.cells #[.bool s1, v1, .int .i64 x1] 32)).alloc (.cells #[.bool s2, v2, .int .i64 x2] 32)).alloc (.cells #[.bool false, .slice none 0 0, .int .i64 0] 32)).cell? ⟨w.heap.size + 2, 2, none⟩ = some (.int .i64 0) := new_cell2 _ _ _ _ _ _ (by simp) rfl
  have qf2 : (((w.alloc (.cells #[.bool s1, v1, .int .i64 x1] 32)).alloc (.cells #[.bool s2, v2, .int .i64 x2] 32)).alloc (.cells #[.bool false, .slice none 0 0, .int .i64 0] 32)).frozen? ⟨w.heap.size + 2, 2, none⟩ = false := new_loose2 _ _ _ _ _ (by simp)
  replace r1 := r1.kept k0 (by omega)
  replace r2 := r2.kept k0 (by omega)
  have s0 : (((w.alloc (.cells #[.bool s1, v1, .int .i64 x1] 32)).alloc (.cells #[.bool s2, v2, .int .i64 x2] 32)).alloc (.cells #[.bool false, .slice none 0 0, .int .i64 0] 32)).heap.size = w.heap.size + 3 := by simp
  obtain ⟨a1, c1, hv⟩ := Row.form' r1
  subst hv
  obtain ⟨a2, c2, hv⟩ := Row.form' r2
  subst hv
  have K := hide (k0)
  clear k0
  have S0 := hide s0
  clear s0
  go_enter Tryd.func55, Tryd.ntmps55
  go_wp2_with fail
  generalize (((w.alloc (.cells #[.bool s1, .slice a1 xs.length c1, .int .i64 x1] 32)).alloc (.cells #[.bool s2, .slice a2 ys.length c2, .int .i64 x2] 32)).alloc (.cells #[.bool false, .slice none 0 0, .int .i64 0] 32)) = W at *
  refine (dok_impl s1 x1 hx1 hx0 _ r1).mono ?_
  rintro e w1 ⟨rfl, k1⟩
  replace r1 := r1.kept k1 (by omega)
  replace r2 := r2.kept k1 (by omega)
  replace qf0 := k1.loose0 (World.block_lt_of_cell? _ _ q0) qf0
  replace qf1 := k1.loose0 (World.block_lt_of_cell? _ _ q1) qf1
  replace qf2 := k1.loose0 (World.block_lt_of_cell? _ _ q2) qf2
  replace p0 := k1.cell0 p0
  replace p1 := k1.cell0 p1
  replace p2 := k1.cell0 p2
  replace t0 := k1.cell0 t0
  replace t1 := k1.cell0 t1
  replace t2 := k1.cell0 t2
  replace q0 := k1.cell0 q0
  replace q1 := k1.cell0 q1
  replace q2 := k1.cell0 q2
  replace K := hide ((unhide K).trans k1)
  have z2 := k1.size
  clear k1
  cases ho1 : dokB s1 xs x1
  · have HO := hide ho1
    clear ho1
    have HF : Hid (GS = false ∧ GL = [] ∧ GE = 0 ∧ GB = false) := by
      have hno : GB = false := by rw [← unhide HGB]; exact ansDB_no (by rw [unhide HO]; simp)
      have hno' := hno
      rw [← unhide HGB] at hno'
      obtain ⟨b1, b2, b3⟩ := ansD_no hno'
      exact ⟨by rw [← unhide HGS, b1], by rw [← unhide HGL, b2], by rw [← unhide HGE, b3], hno⟩
    have KF := hide ((((unhide K).setNew (p := ⟨w.heap.size + 2, 0, none⟩) (by simp) (.bool false)).setNew (p := ⟨w.heap.size + 2, 1, none⟩) (by simp) (.slice none 0 0)).setNew (p := ⟨w.heap.size + 2, 2, none⟩) (by simp) (.int .i64 0))
    clear r1 r2 K
    go_wp2_with fail
    exact bodyPost_ret (v := .tuple #[.agg #[.bool false, .slice none 0 0, .int .i64 0], .bool false]) (by simp [results, Tryd.results55, go_sem, q0, q1, q2]) rfl ⟨_, by rw [(unhide HF).1, (unhide HF).2.2.1, (unhide HF).2.2.2], by rw [(unhide HF).2.1]; exact Row.nil _ _ _ _ _, unhide KF⟩
  have HO1 := hide ho1
  clear ho1
  go_wp2_with fail
  refine (dok_impl s2 x2 hy1 hy0 _ r2).mono ?_
  rintro e w3 ⟨rfl, k3⟩
  replace r1 := r1.kept k3 (by omega)
  replace r2 := r2.kept k3 (by omega)
  replace qf0 := k3.loose0 (World.block_lt_of_cell? _ _ q0) qf0
  replace qf1 := k3.loose0 (World.block_lt_of_cell? _ _ q1) qf1
  replace qf2 := k3.loose0 (World.block_lt_of_cell? _ _ q2) qf2
  replace p0 := k3.cell0 p0
  replace p1 := k3.cell0 p1
  replace p2 := k3.cell0 p2
  replace t0 := k3.cell0 t0
  replace t1 := k3.cell0 t1
  replace t2 := k3.cell0 t2
  replace q0 := k3.cell0 q0
  replace q1 := k3.cell0 q1
  replace q2 := k3.cell0 q2
  replace K := hide ((unhide K).trans k3)
  have z4 := k3.size
  clear k3
  cases ho2 : dokB s2 ys x2
  · have HO := hide ho2
    clear ho2
    have HF : Hid (GS = false ∧ GL = [] ∧ GE = 0 ∧ GB = false) := by
      have hno : GB = false := by rw [← unhide HGB]; exact ansDB_no (by rw [unhide HO]; simp)
      have hno' := hno
      rw [← unhide HGB] at hno'
      obtain ⟨b1, b2, b3⟩ := ansD_no hno'
      exact ⟨by rw [← unhide HGS, b1], by rw [← unhide HGL, b2], by rw [← unhide HGE, b3], hno⟩
    have KF := hide ((((unhide K).setNew (p := ⟨w.heap.size + 2, 0, none⟩) (by simp) (.bool false)).setNew (p := ⟨w.heap.size + 2, 1, none⟩) (by simp) (.slice none 0 0)).setNew (p := ⟨w.heap.size + 2, 2, none⟩) (by simp) (.int .i64 0))
    clear r1 r2 K
    go_wp2_with fail
    exact bodyPost_ret (v := .tuple #[.agg #[.bool false, .slice none 0 0, .int .i64 0], .bool false]) (by simp [results, Tryd.results55, go_sem, q0, q1, q2]) rfl ⟨_, by rw [(unhide HF).1, (unhide HF).2.2.1, (unhide HF).2.2.2], by rw [(unhide HF).2.1]; exact Row.nil _ _ _ _ _, unhide KF⟩
  have HO2 := hide ho2
  clear ho2
  obtain ⟨w1', e1, e2, -, -⟩ := dok_parts (unhide HO1)
  obtain ⟨w2', e3, e4, -, -⟩ := dok_parts (unhide HO2)
  have n1 := wok_wn w1'
  have n2 := wok_wn w2'
  obtain ⟨-, -, lx, hx⟩ := wok_int w1'
  obtain ⟨-, -, ly, hy⟩ := wok_int w2'
  clear w1' w2'
  have mx : xs.length ≤ 1000000 := by omega
  have my : ys.length ≤ 1000000 := by omega
  go_upto_region 3 with fail
  go_cut [6, 7] (fun p q wx => ∃ X Y, p = .pointer (some ⟨X, 0, none⟩) ∧ q = .pointer (some ⟨Y, 0, none⟩) ∧ Dya2 w3 wx X Y s1 xs x1 s2 ys x2)
  case first =>
    have kw := Kept.refl 0 0 w3
    have kd := (Kept.refl 0 0 w3).drew
    replace r1 := r1.kept kd (by omega)
    replace r2 := r2.kept kd (by omega)
    replace kw := kw.trans kd
    replace qf0 := kd.loose0 (World.block_lt_of_cell? _ _ q0) qf0
    replace qf1 := kd.loose0 (World.block_lt_of_cell? _ _ q1) qf1
    replace qf2 := kd.loose0 (World.block_lt_of_cell? _ _ q2) qf2
    replace p0 := kd.cell0 p0
    replace p1 := kd.cell0 p1
    replace p2 := kd.cell0 p2
    replace t0 := kd.cell0 t0
    replace t1 := kd.cell0 t1
    replace t2 := kd.cell0 t2
    replace q0 := kd.cell0 q0
    replace q1 := kd.cell0 q1
    replace q2 := kd.cell0 q2
    replace K := hide ((unhide K).trans kd)
    have z5 := kd.size
    clear kd
    refine wp_region_held_drew (S := (fun w' => w'.cell? ⟨w.heap.size, 0, none⟩ = some (.bool s1) ∧ w'.cell? ⟨w.heap.size, 1, none⟩ = some (.slice a1 xs.length c1) ∧ w'.cell? ⟨w.heap.size, 2, none⟩ = some (.int .i64 x1) ∧ w'.cell? ⟨w.heap.size + 1, 0, none⟩ = some (.bool s2) ∧ w'.cell? ⟨w.heap.size + 1, 1, none⟩ = some (.slice a2 ys.length c2) ∧ w'.cell? ⟨w.heap.size + 1, 2, none⟩ = some (.int .i64 x2))) (by kernel_rfl) ?_ (fun hHeld => ?_)
    · exact ⟨p0, p1, p2, t0, t1, t2⟩
    generalize w3.drew = wd at *
    refine wpAnyH_take (i := 0) (oi := _) (v := .agg #[.bool s1, .slice a1 xs.length c1, .int .i64 x1]) rfl (by kernel_rfl) (by kernel_rfl) (by kernel_rfl) (fun _ _ _ h => h) (Or.inl ⟨by rfl, ?_⟩) hHeld ?_
    · intro wq hSw
      try dsimp only at hSw
      go_simp
    try simp only [Act.put, List.getElem_toArray, List.getElem_cons_succ, List.getElem_cons_zero, List.setIfInBounds_toArray, List.set_cons_zero, List.set_cons_succ]
    refine wpAnyH_take (i := 2) (oi := _) (v := .agg #[.bool s2, .slice a2 ys.length c2, .int .i64 x2]) rfl (by kernel_rfl) (by kernel_rfl) (by kernel_rfl) (fun _ _ _ h => h) (Or.inl ⟨by rfl, ?_⟩) hHeld ?_
    · intro wq hSw
      try dsimp only at hSw
      go_simp
    try simp only [Act.put, List.getElem_toArray, List.getElem_cons_succ, List.getElem_cons_zero, List.setIfInBounds_toArray, List.set_cons_zero, List.set_cons_succ]
    refine wpAnyH_ready (rs := [1, 4, 5]) (by kernel_rfl) (by simp) ?_
    refine AllReadyH.cons rfl (fun KK hK => ?_) (AllReadyH.cons rfl (fun KK hK => ?_) (AllReadyH.cons rfl (fun KK hK => ?_) AllReadyH.nil))
    · simp only [List.getElem_toArray, List.getElem_cons_succ, List.getElem_cons_zero]
      rw [if_pos (by rfl)]
      refine wps1 85 (.tmp 17) _ rfl in_dyadicOf (.agg #[.bool s1, .slice a1 xs.length c1, .int .i64 x1]) rfl (dyadicOf_impl s1 x1 _ r1 mx) ?_
      rintro e w6 ⟨v3, rfl, o3, k6⟩
      refine ⟨_, rfl, ?_⟩
      replace r1 := r1.kept k6 (by omega)
      replace r2 := r2.kept k6 (by omega)
      replace kw := kw.trans k6
      replace qf0 := k6.loose0 (World.block_lt_of_cell? _ _ q0) qf0
      replace qf1 := k6.loose0 (World.block_lt_of_cell? _ _ q1) qf1
      replace qf2 := k6.loose0 (World.block_lt_of_cell? _ _ q2) qf2
      replace p0 := k6.cell0 p0
      replace p1 := k6.cell0 p1
      replace p2 := k6.cell0 p2
      replace t0 := k6.cell0 t0
      replace t1 := k6.cell0 t1
      replace t2 := k6.cell0 t2
      replace q0 := k6.cell0 q0
      replace q1 := k6.cell0 q1
      replace q2 := k6.cell0 q2
      replace K := hide ((unhide K).trans k6)
      have z7 := k6.size
      clear k6
      have l3 := o3.lt
      obtain ⟨a3, c3, hv⟩ := own_slice o3
      subst hv
      clear hHeld
      refine hK.out _ _ ?_ (fun hHeld => ?_)
      · exact ⟨p0, p1, p2, t0, t1, t2⟩
      clear hK KK
      try simp only [Act.put, List.getElem_toArray, List.getElem_cons_succ, List.getElem_cons_zero, List.setIfInBounds_toArray, List.set_cons_zero, List.set_cons_succ]
      refine wpAnyH_ready (rs := [3, 4, 5]) (by kernel_rfl) (by simp) ?_
      refine AllReadyH.cons rfl (fun KK hK => ?_) (AllReadyH.cons rfl (fun KK hK => ?_) (AllReadyH.cons rfl (fun KK hK => ?_) AllReadyH.nil))
      · simp only [List.getElem_toArray, List.getElem_cons_succ, List.getElem_cons_zero]
        rw [if_pos (by rfl)]
        refine wps1 85 (.tmp 19) _ rfl in_dyadicOf (.agg #[.bool s2, .slice a2 ys.length c2, .int .i64 x2]) rfl (dyadicOf_impl s2 x2 _ r2 my) ?_
        rintro e w8 ⟨v4, rfl, o4, k8⟩
        refine ⟨_, rfl, ?_⟩
        replace r1 := r1.kept k8 (by omega)
        replace r2 := r2.kept k8 (by omega)
        replace kw := kw.trans k8
        replace o3 := own_kept o3 k8
        replace qf0 := k8.loose0 (World.block_lt_of_cell? _ _ q0) qf0
        replace qf1 := k8.loose0 (World.block_lt_of_cell? _ _ q1) qf1
        replace qf2 := k8.loose0 (World.block_lt_of_cell? _ _ q2) qf2
        replace p0 := k8.cell0 p0
        replace p1 := k8.cell0 p1
        replace p2 := k8.cell0 p2
        replace t0 := k8.cell0 t0
        replace t1 := k8.cell0 t1
        replace t2 := k8.cell0 t2
        replace q0 := k8.cell0 q0
        replace q1 := k8.cell0 q1
        replace q2 := k8.cell0 q2
        replace K := hide ((unhide K).trans k8)
        have z9 := k8.size
        clear k8
        have l4 := o4.lt
        obtain ⟨a4, c4, hv⟩ := own_slice o4
        subst hv
        clear hHeld
        refine hK.out _ _ ?_ (fun hHeld => ?_)
        · exact ⟨p0, p1, p2, t0, t1, t2⟩
        clear hK KK
        try simp only [Act.put, List.getElem_toArray, List.getElem_cons_succ, List.getElem_cons_zero, List.setIfInBounds_toArray, List.set_cons_zero, List.set_cons_succ]
        refine wpAnyH_ready (rs := [4, 5]) (by kernel_rfl) (by simp) ?_
        refine AllReadyH.cons rfl (fun KK hK => ?_) (AllReadyH.cons rfl (fun KK hK => ?_) AllReadyH.nil)
        · simp only [List.getElem_toArray, List.getElem_cons_succ, List.getElem_cons_zero]
          rw [if_pos (by rfl)]
          go_simp
          have kn := (Kept.refl 0 0 w8).alloc (.cells #[.slice none 0 0, .bool false, .int .i64 0] 85)
          replace r1 := r1.kept kn (by omega)
          replace r2 := r2.kept kn (by omega)
          replace kw := kw.trans kn
          replace o3 := own_kept o3 kn
          replace o4 := own_kept o4 kn
          replace qf0 := kn.loose0 (World.block_lt_of_cell? _ _ q0) qf0
          replace qf1 := kn.loose0 (World.block_lt_of_cell? _ _ q1) qf1
          replace qf2 := kn.loose0 (World.block_lt_of_cell? _ _ q2) qf2
          replace p0 := kn.cell0 p0
          replace p1 := kn.cell0 p1
          replace p2 := kn.cell0 p2
          replace t0 := kn.cell0 t0
          replace t1 := kn.cell0 t1
          replace t2 := kn.cell0 t2
          replace q0 := kn.cell0 q0
          replace q1 := kn.cell0 q1
          replace q2 := kn.cell0 q2
          replace K := hide ((unhide K).trans kn)
          have z11 := kn.size
          clear kn
          have szX_ : w8.heap.size < (w8.alloc (.cells #[.slice none 0 0, .bool false, .int .i64 0] 85)).heap.size := by simp
          have X_0 : (w8.alloc (.cells #[.slice none 0 0, .bool false, .int .i64 0] 85)).cell? ⟨w8.heap.size, 0, none⟩ = some (.slice none 0 0) := new_cell2 _ _ _ _ _ _ rfl rfl
          have X_f0 : (w8.alloc (.cells #[.slice none 0 0, .bool false, .int .i64 0] 85)).frozen? ⟨w8.heap.size, 0, none⟩ = false := new_loose2 _ _ _ _ _ rfl
          have X_1 : (w8.alloc (.cells #[.slice none 0 0, .bool false, .int .i64 0] 85)).cell? ⟨w8.heap.size, 1, none⟩ = some (.bool false) := new_cell2 _ _ _ _ _ _ rfl rfl
          have X_f1 : (w8.alloc (.cells #[.slice none 0 0, .bool false, .int .i64 0] 85)).frozen? ⟨w8.heap.size, 1, none⟩ = false := new_loose2 _ _ _ _ _ rfl
          have X_2 : (w8.alloc (.cells #[.slice none 0 0, .bool false, .int .i64 0] 85)).cell? ⟨w8.heap.size, 2, none⟩ = some (.int .i64 0) := new_cell2 _ _ _ _ _ _ rfl rfl
          have X_f2 : (w8.alloc (.cells #[.slice none 0 0, .bool false, .int .i64 0] 85)).frozen? ⟨w8.heap.size, 2, none⟩ = false := new_loose2 _ _ _ _ _ rfl
          clear hHeld
          refine hK.out _ _ ?_ (fun hHeld => ?_)
          · exact ⟨p0, p1, p2, t0, t1, t2⟩
          clear hK KK
          try simp only [Act.put, List.getElem_toArray, List.getElem_cons_succ, List.getElem_cons_zero, List.setIfInBounds_toArray, List.set_cons_zero, List.set_cons_succ]
          generalize w8.alloc (.cells #[.slice none 0 0, .bool false, .int .i64 0] 85) = w10 at *
          refine wpAnyH_ready (rs := [5]) (by kernel_rfl) (by simp) ?_
          refine AllReadyH.cons rfl (fun KK hK => ?_) AllReadyH.nil
          · simp only [List.getElem_toArray, List.getElem_cons_succ, List.getElem_cons_zero]
            rw [if_pos (by rfl)]
            go_simp
            have kn := (Kept.refl 0 0 w10).alloc (.cells #[.slice none 0 0, .bool false, .int .i64 0] 85)
            replace r1 := r1.kept kn (by omega)
            replace r2 := r2.kept kn (by omega)
            replace kw := kw.trans kn
            replace o3 := own_kept o3 kn
            replace o4 := own_kept o4 kn
            replace qf0 := kn.loose0 (World.block_lt_of_cell? _ _ q0) qf0
            replace qf1 := kn.loose0 (World.block_lt_of_cell? _ _ q1) qf1
            replace qf2 := kn.loose0 (World.block_lt_of_cell? _ _ q2) qf2
            replace X_f0 := kn.loose0 (World.block_lt_of_cell? _ _ X_0) X_f0
            replace X_f1 := kn.loose0 (World.block_lt_of_cell? _ _ X_1) X_f1
            replace X_f2 := kn.loose0 (World.block_lt_of_cell? _ _ X_2) X_f2
            replace p0 := kn.cell0 p0
            replace p1 := kn.cell0 p1
            replace p2 := kn.cell0 p2
            replace t0 := kn.cell0 t0
            replace t1 := kn.cell0 t1
            replace t2 := kn.cell0 t2
            replace q0 := kn.cell0 q0
            replace q1 := kn.cell0 q1
            replace q2 := kn.cell0 q2
            replace X_0 := kn.cell0 X_0
            replace X_1 := kn.cell0 X_1
            replace X_2 := kn.cell0 X_2
            replace K := hide ((unhide K).trans kn)
            have z13 := kn.size
            clear kn
            have szY_ : w10.heap.size < (w10.alloc (.cells #[.slice none 0 0, .bool false, .int .i64 0] 85)).heap.size := by simp
            have Y_0 : (w10.alloc (.cells #[.slice none 0 0, .bool false, .int .i64 0] 85)).cell? ⟨w10.heap.size, 0, none⟩ = some (.slice none 0 0) := new_cell2 _ _ _ _ _ _ rfl rfl
            have Y_f0 : (w10.alloc (.cells #[.slice none 0 0, .bool false, .int .i64 0] 85)).frozen? ⟨w10.heap.size, 0, none⟩ = false := new_loose2 _ _ _ _ _ rfl
            have Y_1 : (w10.alloc (.cells #[.slice none 0 0, .bool false, .int .i64 0] 85)).cell? ⟨w10.heap.size, 1, none⟩ = some (.bool false) := new_cell2 _ _ _ _ _ _ rfl rfl
            have Y_f1 : (w10.alloc (.cells #[.slice none 0 0, .bool false, .int .i64 0] 85)).frozen? ⟨w10.heap.size, 1, none⟩ = false := new_loose2 _ _ _ _ _ rfl
            have Y_2 : (w10.alloc (.cells #[.slice none 0 0, .bool false, .int .i64 0] 85)).cell? ⟨w10.heap.size, 2, none⟩ = some (.int .i64 0) := new_cell2 _ _ _ _ _ _ rfl rfl
            have Y_f2 : (w10.alloc (.cells #[.slice none 0 0, .bool false, .int .i64 0] 85)).frozen? ⟨w10.heap.size, 2, none⟩ = false := new_loose2 _ _ _ _ _ rfl
            clear hHeld
            refine hK.out _ _ ?_ (fun hHeld => ?_)
            · exact ⟨p0, p1, p2, t0, t1, t2⟩
            clear hK KK
            try simp only [Act.put, List.getElem_toArray, List.getElem_cons_succ, List.getElem_cons_zero, List.setIfInBounds_toArray, List.set_cons_zero, List.set_cons_succ]
            generalize w10.alloc (.cells #[.slice none 0 0, .bool false, .int .i64 0] 85) = w12 at *
            refine wpAnyH_ready (rs := [6]) (by kernel_rfl) (by simp) ?_
            refine AllReadyH.cons rfl (fun KK hK => ?_) AllReadyH.nil
            simp only [List.getElem_toArray, List.getElem_cons_succ, List.getElem_cons_zero]
            rw [if_pos (by rfl)]
            go_simp
            clear hHeld
            refine hK.out _ _ ?_ (fun hHeld => ?_)
            · exact ⟨(cell_aside _ (by have := unhide S0; dsimp only; omega) (cell_aside _ (by have := unhide S0; dsimp only; omega) (cell_aside _ (by have := unhide S0; dsimp only; omega) p0))), (cell_aside _ (by have := unhide S0; dsimp only; omega) (cell_aside _ (by have := unhide S0; dsimp only; omega) (cell_aside _ (by have := unhide S0; dsimp only; omega) p1))), (cell_aside _ (by have := unhide S0; dsimp only; omega) (cell_aside _ (by have := unhide S0; dsimp only; omega) (cell_aside _ (by have := unhide S0; dsimp only; omega) p2))), (cell_aside _ (by have := unhide S0; dsimp only; omega) (cell_aside _ (by have := unhide S0; dsimp only; omega) (cell_aside _ (by have := unhide S0; dsimp only; omega) t0))), (cell_aside _ (by have := unhide S0; dsimp only; omega) (cell_aside _ (by have := unhide S0; dsimp only; omega) (cell_aside _ (by have := unhide S0; dsimp only; omega) t1))), (cell_aside _ (by have := unhide S0; dsimp only; omega) (cell_aside _ (by have := unhide S0; dsimp only; omega) (cell_aside _ (by have := unhide S0; dsimp only; omega) t2)))⟩
            clear hK KK
            try simp only [Act.put, List.getElem_toArray, List.getElem_cons_succ, List.getElem_cons_zero, List.setIfInBounds_toArray, List.set_cons_zero, List.set_cons_succ]
            refine wpAnyH_ready (rs := [7]) (by kernel_rfl) (by simp) ?_
            refine AllReadyH.cons rfl (fun KK hK => ?_) AllReadyH.nil
            simp only [List.getElem_toArray, List.getElem_cons_succ, List.getElem_cons_zero]
            rw [if_pos (by rfl)]
            go_simp
            clear hHeld
            refine hK.out _ _ ?_ (fun hHeld => ?_)
            · exact ⟨(cell_aside _ (by have := unhide S0; dsimp only; omega) (cell_aside _ (by have := unhide S0; dsimp only; omega) (cell_aside _ (by have := unhide S0; dsimp only; omega) (cell_aside _ (by have := unhide S0; dsimp only; omega) (cell_aside _ (by have := unhide S0; dsimp only; omega) (cell_aside _ (by have := unhide S0; dsimp only; omega) p0)))))), (cell_aside _ (by have := unhide S0; dsimp only; omega) (cell_aside _ (by have := unhide S0; dsimp only; omega) (cell_aside _ (by have := unhide S0; dsimp only; omega) (cell_aside _ (by have := unhide S0; dsimp only; omega) (cell_aside _ (by have := unhide S0; dsimp only; omega) (cell_aside _ (by have := unhide S0; dsimp only; omega) p1)))))), (cell_aside _ (by have := unhide S0; dsimp only; omega) (cell_aside _ (by have := unhide S0; dsimp only; omega) (cell_aside _ (by have := unhide S0; dsimp only; omega) (cell_aside _ (by have := unhide S0; dsimp only; omega) (cell_aside _ (by have := unhide S0; dsimp only; omega) (cell_aside _ (by have := unhide S0; dsimp only; omega) p2)))))), (cell_aside _ (by have := unhide S0; dsimp only; omega) (cell_aside _ (by have := unhide S0; dsimp only; omega) (cell_aside _ (by have := unhide S0; dsimp only; omega) (cell_aside _ (by have := unhide S0; dsimp only; omega) (cell_aside _ (by have := unhide S0; dsimp only; omega) (cell_aside _ (by have := unhide S0; dsimp only; omega) t0)))))), (cell_aside _ (by have := unhide S0; dsimp only; omega) (cell_aside _ (by have := unhide S0; dsimp only; omega) (cell_aside _ (by have := unhide S0; dsimp only; omega) (cell_aside _ (by have := unhide S0; dsimp only; omega) (cell_aside _ (by have := unhide S0; dsimp only; omega) (cell_aside _ (by have := unhide S0; dsimp only; omega) t1)))))), (cell_aside _ (by have := unhide S0; dsimp only; omega) (cell_aside _ (by have := unhide S0; dsimp only; omega) (cell_aside _ (by have := unhide S0; dsimp only; omega) (cell_aside _ (by have := unhide S0; dsimp only; omega) (cell_aside _ (by have := unhide S0; dsimp only; omega) (cell_aside _ (by have := unhide S0; dsimp only; omega) t2))))))⟩
            clear hK KK
            try simp only [Act.put, List.getElem_toArray, List.getElem_cons_succ, List.getElem_cons_zero, List.setIfInBounds_toArray, List.set_cons_zero, List.set_cons_succ]
            refine wpAnyH_done (by kernel_rfl) ?_ _
            clear hHeld
            go_wp2_with fail
            go_meet
            exact ⟨_, _, rfl, rfl, dya_pair s1 s2 x1 x2 kw o3 o4 X_0 X_1 X_2 X_f0 X_f1 X_f2 Y_0 Y_1 Y_2 Y_f0 Y_f1 Y_f2 (by omega) (by omega) (by omega) (by omega) (by omega) (fun e => by have := l3 _ e; omega) (fun e => by have := l3 _ e; omega) (fun e => by have := l4 _ e; omega) (fun e => by have := l4 _ e; omega) (fun k e1 e2 => by have := l3 _ e1; have := l4 _ e2; omega)⟩
        · simp only [List.getElem_toArray, List.getElem_cons_succ, List.getElem_cons_zero]
          rw [if_pos (by rfl)]
          go_simp
          have kn := (Kept.refl 0 0 w8).alloc (.cells #[.slice none 0 0, .bool false, .int .i64 0] 85)
          replace r1 := r1.kept kn (by omega)
          replace r2 := r2.kept kn (by omega)
          replace kw := kw.trans kn
          replace o3 := own_kept o3 kn
          replace o4 := own_kept o4 kn
          replace qf0 := kn.loose0 (World.block_lt_of_cell? _ _ q0) qf0
          replace qf1 := kn.loose0 (World.block_lt_of_cell? _ _ q1) qf1
          replace qf2 := kn.loose0 (World.block_lt_of_cell? _ _ q2) qf2
          replace p0 := kn.cell0 p0
          replace p1 := kn.cell0 p1
          replace p2 := kn.cell0 p2
          replace t0 := kn.cell0 t0
          replace t1 := kn.cell0 t1
          replace t2 := kn.cell0 t2
          replace q0 := kn.cell0 q0
          replace q1 := kn.cell0 q1
          replace q2 := kn.cell0 q2
          replace K := hide ((unhide K).trans kn)
          have z11 := kn.size
          clear kn
          have szY_ : w8.heap.size < (w8.alloc (.cells #[.slice none 0 0, .bool false, .int .i64 0] 85)).heap.size := by simp
          have Y_0 : (w8.alloc (.cells #[.slice none 0 0, .bool false, .int .i64 0] 85)).cell? ⟨w8.heap.size, 0, none⟩ = some (.slice none 0 0) := new_cell2 _ _ _ _ _ _ rfl rfl
          have Y_f0 : (w8.alloc (.cells #[.slice none 0 0, .bool false, .int .i64 0] 85)).frozen? ⟨w8.heap.size, 0, none⟩ = false := new_loose2 _ _ _ _ _ rfl
          have Y_1 : (w8.alloc (.cells #[.slice none 0 0, .bool false, .int .i64 0] 85)).cell? ⟨w8.heap.size, 1, none⟩ = some (.bool false) := new_cell2 _ _ _ _ _ _ rfl rfl
          have Y_f1 : (w8.alloc (.cells #[.slice none 0 0, .bool false, .int .i64 0] 85)).frozen? ⟨w8.heap.size, 1, none⟩ = false := new_loose2 _ _ _ _ _ rfl
          have Y_2 : (w8.alloc (.cells #[.slice none 0 0, .bool false, .int .i64 0] 85)).cell? ⟨w8.heap.size, 2, none⟩ = some (.int .i64 0) := new_cell2 _ _ _ _ _ _ rfl rfl
          have Y_f2 : (w8.alloc (.cells #[.slice none 0 0, .bool false, .int .i64 0] 85)).frozen? ⟨w8.heap.size, 2, none⟩ = false := new_loose2 _ _ _ _ _ rfl
          clear hHeld
          refine hK.out _ _ ?_ (fun hHeld => ?_)
          · exact ⟨p0, p1, p2, t0, t1, t2⟩
          clear hK KK
          try simp only [Act.put, List.getElem_toArray, List.getElem_cons_succ, List.getElem_cons_zero, List.setIfInBounds_toArray, List.set_cons_zero, List.set_cons_succ]
          generalize w8.alloc (.cells #[.slice none 0 0, .bool false, .int .i64 0] 85) = w10 at *
          refine wpAnyH_ready (rs := [4]) (by kernel_rfl) (by simp) ?_
          refine AllReadyH.cons rfl (fun KK hK => ?_) AllReadyH.nil
          · simp only [List.getElem_toArray, List.getElem_cons_succ, List.getElem_cons_zero]
            rw [if_pos (by rfl)]
            go_simp
            have kn := (Kept.refl 0 0 w10).alloc (.cells #[.slice none 0 0, .bool false, .int .i64 0] 85)
            replace r1 := r1.kept kn (by omega)
            replace r2 := r2.kept kn (by omega)
            replace kw := kw.trans kn
            replace o3 := own_kept o3 kn
            replace o4 := own_kept o4 kn
            replace qf0 := kn.loose0 (World.block_lt_of_cell? _ _ q0) qf0
            replace qf1 := kn.loose0 (World.block_lt_of_cell? _ _ q1) qf1
            replace qf2 := kn.loose0 (World.block_lt_of_cell? _ _ q2) qf2
            replace Y_f0 := kn.loose0 (World.block_lt_of_cell? _ _ Y_0) Y_f0
            replace Y_f1 := kn.loose0 (World.block_lt_of_cell? _ _ Y_1) Y_f1
            replace Y_f2 := kn.loose0 (World.block_lt_of_cell? _ _ Y_2) Y_f2
            replace p0 := kn.cell0 p0
            replace p1 := kn.cell0 p1
            replace p2 := kn.cell0 p2
            replace t0 := kn.cell0 t0
            replace t1 := kn.cell0 t1
            replace t2 := kn.cell0 t2
            replace q0 := kn.cell0 q0
            replace q1 := kn.cell0 q1
            replace q2 := kn.cell0 q2
            replace Y_0 := kn.cell0 Y_0
            replace Y_1 := kn.cell0 Y_1
            replace Y_2 := kn.cell0 Y_2
            replace K := hide ((unhide K).trans kn)
            have z13 := kn.size
            clear kn
            have szX_ : w10.heap.size < (w10.alloc (.cells #[.slice none 0 0, .bool false, .int .i64 0] 85)).heap.size := by simp
            have X_0 : (w10.alloc (.cells #[.slice none 0 0, .bool false, .int .i64 0] 85)).cell? ⟨w10.heap.size, 0, none⟩ = some (.slice none 0 0) := new_cell2 _ _ _ _ _ _ rfl rfl
            have X_f0 : (w10.alloc (.cells #[.slice none 0 0, .bool false, .int .i64 0] 85)).frozen? ⟨w10.heap.size, 0, none⟩ = false := new_loose2 _ _ _ _ _ rfl
            have X_1 : (w10.alloc (.cells #[.slice none 0 0, .bool false, .int .i64 0] 85)).cell? ⟨w10.heap.size, 1, none⟩ = some (.bool false) := new_cell2 _ _ _ _ _ _ rfl rfl
            have X_f1 : (w10.alloc (.cells #[.slice none 0 0, .bool false, .int .i64 0] 85)).frozen? ⟨w10.heap.size, 1, none⟩ = false := new_loose2 _ _ _ _ _ rfl
            have X_2 : (w10.alloc (.cells #[.slice none 0 0, .bool false, .int .i64 0] 85)).cell? ⟨w10.heap.size, 2, none⟩ = some (.int .i64 0) := new_cell2 _ _ _ _ _ _ rfl rfl
            have X_f2 : (w10.alloc (.cells #[.slice none 0 0, .bool false, .int .i64 0] 85)).frozen? ⟨w10.heap.size, 2, none⟩ = false := new_loose2 _ _ _ _ _ rfl
            clear hHeld
            refine hK.out _ _ ?_ (fun hHeld => ?_)
            · exact ⟨p0, p1, p2, t0, t1, t2⟩
            clear hK KK
            try simp only [Act.put, List.getElem_toArray, List.getElem_cons_succ, List.getElem_cons_zero, List.setIfInBounds_toArray, List.set_cons_zero, List.set_cons_succ]
            generalize w10.alloc (.cells #[.slice none 0 0, .bool false, .int .i64 0] 85) = w12 at *
            refine wpAnyH_ready (rs := [6]) (by kernel_rfl) (by simp) ?_
            refine AllReadyH.cons rfl (fun KK hK => ?_) AllReadyH.nil
            simp only [List.getElem_toArray, List.getElem_cons_succ, List.getElem_cons_zero]
            rw [if_pos (by rfl)]
            go_simp
            clear hHeld
            refine hK.out _ _ ?_ (fun hHeld => ?_)
            · exact ⟨(cell_aside _ (by have := unhide S0; dsimp only; omega) (cell_aside _ (by have := unhide S0; dsimp only; omega) (cell_aside _ (by have := unhide S0; dsimp only; omega) p0))), (cell_aside _ (by have := unhide S0; dsimp only; omega) (cell_aside _ (by have := unhide S0; dsimp only; omega) (cell_aside _ (by have := unhide S0; dsimp only; omega) p1))), (cell_aside _ (by have := unhide S0; dsimp only; omega) (cell_aside _ (by have := unhide S0; dsimp only; omega) (cell_aside _ (by have := unhide S0; dsimp only; omega) p2))), (cell_aside _ (by have := unhide S0; dsimp only; omega) (cell_aside _ (by have := unhide S0; dsimp only; omega) (cell_aside _ (by have := unhide S0; dsimp only; omega) t0))), (cell_aside _ (by have := unhide S0; dsimp only; omega) (cell_aside _ (by have := unhide S0; dsimp only; omega) (cell_aside _ (by have := unhide S0; dsimp only; omega) t1))), (cell_aside _ (by have := unhide S0; dsimp only; omega) (cell_aside _ (by have := unhide S0; dsimp only; omega) (cell_aside _ (by have := unhide S0; dsimp only; omega) t2)))⟩
            clear hK KK
            try simp only [Act.put, List.getElem_toArray, List.getElem_cons_succ, List.getElem_cons_zero, List.setIfInBounds_toArray, List.set_cons_zero, List.set_cons_succ]
            refine wpAnyH_ready (rs := [7]) (by kernel_rfl) (by simp) ?_
            refine AllReadyH.cons rfl (fun KK hK => ?_) AllReadyH.nil
            simp only [List.getElem_toArray, List.getElem_cons_succ, List.getElem_cons_zero]
            rw [if_pos (by rfl)]
            go_simp
            clear hHeld
            refine hK.out _ _ ?_ (fun hHeld => ?_)
            · exact ⟨(cell_aside _ (by have := unhide S0; dsimp only; omega) (cell_aside _ (by have := unhide S0; dsimp only; omega) (cell_aside _ (by have := unhide S0; dsimp only; omega) (cell_aside _ (by have := unhide S0; dsimp only; omega) (cell_aside _ (by have := unhide S0; dsimp only; omega) (cell_aside _ (by have := unhide S0; dsimp only; omega) p0)))))), (cell_aside _ (by have := unhide S0; dsimp only; omega) (cell_aside _ (by have := unhide S0; dsimp only; omega) (cell_aside _ (by have := unhide S0; dsimp only; omega) (cell_aside _ (by have := unhide S0; dsimp only; omega) (cell_aside _ (by have := unhide S0; dsimp only; omega) (cell_aside _ (by have := unhide S0; dsimp only; omega) p1)))))), (cell_aside _ (by have := unhide S0; dsimp only; omega) (cell_aside _ (by have := unhide S0; dsimp only; omega) (cell_aside _ (by have := unhide S0; dsimp only; omega) (cell_aside _ (by have := unhide S0; dsimp only; omega) (cell_aside _ (by have := unhide S0; dsimp only; omega) (cell_aside _ (by have := unhide S0; dsimp only; omega) p2)))))), (cell_aside _ (by have := unhide S0; dsimp only; omega) (cell_aside _ (by have := unhide S0; dsimp only; omega) (cell_aside _ (by have := unhide S0; dsimp only; omega) (cell_aside _ (by have := unhide S0; dsimp only; omega) (cell_aside _ (by have := unhide S0; dsimp only; omega) (cell_aside _ (by have := unhide S0; dsimp only; omega) t0)))))), (cell_aside _ (by have := unhide S0; dsimp only; omega) (cell_aside _ (by have := unhide S0; dsimp only; omega) (cell_aside _ (by have := unhide S0; dsimp only; omega) (cell_aside _ (by have := unhide S0; dsimp only; omega) (cell_aside _ (by have := unhide S0; dsimp only; omega) (cell_aside _ (by have := unhide S0; dsimp only; omega) t1)))))), (cell_aside _ (by have := unhide S0; dsimp only; omega) (cell_aside _ (by have := unhide S0; dsimp only; omega) (cell_aside _ (by have := unhide S0; dsimp only; omega) (cell_aside _ (by have := unhide S0; dsimp only; omega) (cell_aside _ (by have := unhide S0; dsimp only; omega) (cell_aside _ (by have := unhide S0; dsimp only; omega) t2))))))⟩
            clear hK KK
            try simp only [Act.put, List.getElem_toArray, List.getElem_cons_succ, List.getElem_cons_zero, List.setIfInBounds_toArray, List.set_cons_zero, List.set_cons_succ]
            refine wpAnyH_done (by kernel_rfl) ?_ _
            clear hHeld
            go_wp2_with fail
            go_meet
            exact ⟨_, _, rfl, rfl, dya_pair s1 s2 x1 x2 kw o3 o4 X_0 X_1 X_2 X_f0 X_f1 X_f2 Y_0 Y_1 Y_2 Y_f0 Y_f1 Y_f2 (by omega) (by omega) (by omega) (by omega) (by omega) (fun e => by have := l3 _ e; omega) (fun e => by have := l3 _ e; omega) (fun e => by have := l4 _ e; omega) (fun e => by have := l4 _ e; omega) (fun k e1 e2 => by have := l3 _ e1; have := l4 _ e2; omega)⟩
      · simp only [List.getElem_toArray, List.getElem_cons_succ, List.getElem_cons_zero]
        rw [if_pos (by rfl)]
        go_simp
        have kn := (Kept.refl 0 0 w6).alloc (.cells #[.slice none 0 0, .bool false, .int .i64 0] 85)
        replace r1 := r1.kept kn (by omega)
        replace r2 := r2.kept kn (by omega)
        replace kw := kw.trans kn
        replace o3 := own_kept o3 kn
        replace qf0 := kn.loose0 (World.block_lt_of_cell? _ _ q0) qf0
        replace qf1 := kn.loose0 (World.block_lt_of_cell? _ _ q1) qf1
        replace qf2 := kn.loose0 (World.block_lt_of_cell? _ _ q2) qf2
        replace p0 := kn.cell0 p0
        replace p1 := kn.cell0 p1
        replace p2 := kn.cell0 p2
        replace t0 := kn.cell0 t0
        replace t1 := kn.cell0 t1
        replace t2 := kn.cell0 t2
        replace q0 := kn.cell0 q0
        replace q1 := kn.cell0 q1
        replace q2 := kn.cell0 q2
        replace K := hide ((unhide K).trans kn)
        have z9 := kn.size
        clear kn
        have szX_ : w6.heap.size < (w6.alloc (.cells #[.slice none 0 0, .bool false, .int .i64 0] 85)).heap.size := by simp
        have X_0 : (w6.alloc (.cells #[.slice none 0 0, .bool false, .int .i64 0] 85)).cell? ⟨w6.heap.size, 0, none⟩ = some (.slice none 0 0) := new_cell2 _ _ _ _ _ _ rfl rfl
        have X_f0 : (w6.alloc (.cells #[.slice none 0 0, .bool false, .int .i64 0] 85)).frozen? ⟨w6.heap.size, 0, none⟩ = false := new_loose2 _ _ _ _ _ rfl
        have X_1 : (w6.alloc (.cells #[.slice none 0 0, .bool false, .int .i64 0] 85)).cell? ⟨w6.heap.size, 1, none⟩ = some (.bool false) := new_cell2 _ _ _ _ _ _ rfl rfl
        have X_f1 : (w6.alloc (.cells #[.slice none 0 0, .bool false, .int .i64 0] 85)).frozen? ⟨w6.heap.size, 1, none⟩ = false := new_loose2 _ _ _ _ _ rfl
        have X_2 : (w6.alloc (.cells #[.slice none 0 0, .bool false, .int .i64 0] 85)).cell? ⟨w6.heap.size, 2, none⟩ = some (.int .i64 0) := new_cell2 _ _ _ _ _ _ rfl rfl
        have X_f2 : (w6.alloc (.cells #[.slice none 0 0, .bool false, .int .i64 0] 85)).frozen? ⟨w6.heap.size, 2, none⟩ = false := new_loose2 _ _ _ _ _ rfl
        clear hHeld
        refine hK.out _ _ ?_ (fun hHeld => ?_)
        · exact ⟨p0, p1, p2, t0, t1, t2⟩
        clear hK KK
        try simp only [Act.put, List.getElem_toArray, List.getElem_cons_succ, List.getElem_cons_zero, List.setIfInBounds_toArray, List.set_cons_zero, List.set_cons_succ]
        generalize w6.alloc (.cells #[.slice none 0 0, .bool false, .int .i64 0] 85) = w8 at *
        refine wpAnyH_ready (rs := [3, 5]) (by kernel_rfl) (by simp) ?_
        refine AllReadyH.cons rfl (fun KK hK => ?_) (AllReadyH.cons rfl (fun KK hK => ?_) AllReadyH.nil)
        · simp only [List.getElem_toArray, List.getElem_cons_succ, List.getElem_cons_zero]
          rw [if_pos (by rfl)]
          refine wps1 85 (.tmp 19) _ rfl in_dyadicOf (.agg #[.bool s2, .slice a2 ys.length c2, .int .i64 x2]) rfl (dyadicOf_impl s2 x2 _ r2 my) ?_
          rintro e w10 ⟨v4, rfl, o4, k10⟩
          refine ⟨_, rfl, ?_⟩
          replace r1 := r1.kept k10 (by omega)
          replace r2 := r2.kept k10 (by omega)
          replace kw := kw.trans k10
          replace o3 := own_kept o3 k10
          replace qf0 := k10.loose0 (World.block_lt_of_cell? _ _ q0) qf0
          replace qf1 := k10.loose0 (World.block_lt_of_cell? _ _ q1) qf1
          replace qf2 := k10.loose0 (World.block_lt_of_cell? _ _ q2) qf2
          replace X_f0 := k10.loose0 (World.block_lt_of_cell? _ _ X_0) X_f0
          replace X_f1 := k10.loose0 (World.block_lt_of_cell? _ _ X_1) X_f1
          replace X_f2 := k10.loose0 (World.block_lt_of_cell? _ _ X_2) X_f2
          replace p0 := k10.cell0 p0
          replace p1 := k10.cell0 p1
          replace p2 := k10.cell0 p2
          replace t0 := k10.cell0 t0
          replace t1 := k10.cell0 t1
          replace t2 := k10.cell0 t2
          replace q0 := k10.cell0 q0
          replace q1 := k10.cell0 q1
          replace q2 := k10.cell0 q2
          replace X_0 := k10.cell0 X_0
          replace X_1 := k10.cell0 X_1
          replace X_2 := k10.cell0 X_2
          replace K := hide ((unhide K).trans k10)
          have z11 := k10.size
          clear k10
          have l4 := o4.lt
          obtain ⟨a4, c4, hv⟩ := own_slice o4
          subst hv
          clear hHeld
          refine hK.out _ _ ?_ (fun hHeld => ?_)
          · exact ⟨p0, p1, p2, t0, t1, t2⟩
          clear hK KK
          try simp only [Act.put, List.getElem_toArray, List.getElem_cons_succ, List.getElem_cons_zero, List.setIfInBounds_toArray, List.set_cons_zero, List.set_cons_succ]
          refine wpAnyH_ready (rs := [5]) (by kernel_rfl) (by simp) ?_
          refine AllReadyH.cons rfl (fun KK hK => ?_) AllReadyH.nil
          · simp only [List.getElem_toArray, List.getElem_cons_succ, List.getElem_cons_zero]
            rw [if_pos (by rfl)]
            go_simp
            have kn := (Kept.refl 0 0 w10).alloc (.cells #[.slice none 0 0, .bool false, .int .i64 0] 85)
            replace r1 := r1.kept kn (by omega)
            replace r2 := r2.kept kn (by omega)
            replace kw := kw.trans kn
            replace o3 := own_kept o3 kn
            replace o4 := own_kept o4 kn
            replace qf0 := kn.loose0 (World.block_lt_of_cell? _ _ q0) qf0
            replace qf1 := kn.loose0 (World.block_lt_of_cell? _ _ q1) qf1
            replace qf2 := kn.loose0 (World.block_lt_of_cell? _ _ q2) qf2
            replace X_f0 := kn.loose0 (World.block_lt_of_cell? _ _ X_0) X_f0
            replace X_f1 := kn.loose0 (World.block_lt_of_cell? _ _ X_1) X_f1
            replace X_f2 := kn.loose0 (World.block_lt_of_cell? _ _ X_2) X_f2
            replace p0 := kn.cell0 p0
            replace p1 := kn.cell0 p1
            replace p2 := kn.cell0 p2
            replace t0 := kn.cell0 t0
            replace t1 := kn.cell0 t1
            replace t2 := kn.cell0 t2
            replace q0 := kn.cell0 q0
            replace q1 := kn.cell0 q1
            replace q2 := kn.cell0 q2
            replace X_0 := kn.cell0 X_0
            replace X_1 := kn.cell0 X_1
            replace X_2 := kn.cell0 X_2
            replace K := hide ((unhide K).trans kn)
            have z13 := kn.size
            clear kn
            have szY_ : w10.heap.size < (w10.alloc (.cells #[.slice none 0 0, .bool false, .int .i64 0] 85)).heap.size := by simp
            have Y_0 : (w10.alloc (.cells #[.slice none 0 0, .bool false, .int .i64 0] 85)).cell? ⟨w10.heap.size, 0, none⟩ = some (.slice none 0 0) := new_cell2 _ _ _ _ _ _ rfl rfl
            have Y_f0 : (w10.alloc (.cells #[.slice none 0 0, .bool false, .int .i64 0] 85)).frozen? ⟨w10.heap.size, 0, none⟩ = false := new_loose2 _ _ _ _ _ rfl
            have Y_1 : (w10.alloc (.cells #[.slice none 0 0, .bool false, .int .i64 0] 85)).cell? ⟨w10.heap.size, 1, none⟩ = some (.bool false) := new_cell2 _ _ _ _ _ _ rfl rfl
            have Y_f1 : (w10.alloc (.cells #[.slice none 0 0, .bool false, .int .i64 0] 85)).frozen? ⟨w10.heap.size, 1, none⟩ = false := new_loose2 _ _ _ _ _ rfl
            have Y_2 : (w10.alloc (.cells #[.slice none 0 0, .bool false, .int .i64 0] 85)).cell? ⟨w10.heap.size, 2, none⟩ = some (.int .i64 0) := new_cell2 _ _ _ _ _ _ rfl rfl
            have Y_f2 : (w10.alloc (.cells #[.slice none 0 0, .bool false, .int .i64 0] 85)).frozen? ⟨w10.heap.size, 2, none⟩ = false := new_loose2 _ _ _ _ _ rfl
            clear hHeld
            refine hK.out _ _ ?_ (fun hHeld => ?_)
            · exact ⟨p0, p1, p2, t0, t1, t2⟩
            clear hK KK
            try simp only [Act.put, List.getElem_toArray, List.getElem_cons_succ, List.getElem_cons_zero, List.setIfInBounds_toArray, List.set_cons_zero, List.set_cons_succ]
            generalize w10.alloc (.cells #[.slice none 0 0, .bool false, .int .i64 0] 85) = w12 at *
            refine wpAnyH_ready (rs := [6]) (by kernel_rfl) (by simp) ?_
            refine AllReadyH.cons rfl (fun KK hK => ?_) AllReadyH.nil
            simp only [List.getElem_toArray, List.getElem_cons_succ, List.getElem_cons_zero]
            rw [if_pos (by rfl)]
            go_simp
            clear hHeld
            refine hK.out _ _ ?_ (fun hHeld => ?_)
            · exact ⟨(cell_aside _ (by have := unhide S0; dsimp only; omega) (cell_aside _ (by have := unhide S0; dsimp only; omega) (cell_aside _ (by have := unhide S0; dsimp only; omega) p0))), (cell_aside _ (by have := unhide S0; dsimp only; omega) (cell_aside _ (by have := unhide S0; dsimp only; omega) (cell_aside _ (by have := unhide S0; dsimp only; omega) p1))), (cell_aside _ (by have := unhide S0; dsimp only; omega) (cell_aside _ (by have := unhide S0; dsimp only; omega) (cell_aside _ (by have := unhide S0; dsimp only; omega) p2))), (cell_aside _ (by have := unhide S0; dsimp only; omega) (cell_aside _ (by have := unhide S0; dsimp only; omega) (cell_aside _ (by have := unhide S0; dsimp only; omega) t0))), (cell_aside _ (by have := unhide S0; dsimp only; omega) (cell_aside _ (by have := unhide S0; dsimp only; omega) (cell_aside _ (by have := unhide S0; dsimp only; omega) t1))), (cell_aside _ (by have := unhide S0; dsimp only; omega) (cell_aside _ (by have := unhide S0; dsimp only; omega) (cell_aside _ (by have := unhide S0; dsimp only; omega) t2)))⟩
            clear hK KK
            try simp only [Act.put, List.getElem_toArray, List.getElem_cons_succ, List.getElem_cons_zero, List.setIfInBounds_toArray, List.set_cons_zero, List.set_cons_succ]
            refine wpAnyH_ready (rs := [7]) (by kernel_rfl) (by simp) ?_
            refine AllReadyH.cons rfl (fun KK hK => ?_) AllReadyH.nil
            simp only [List.getElem_toArray, List.getElem_cons_succ, List.getElem_cons_zero]
            rw [if_pos (by rfl)]
            go_simp
            clear hHeld
            refine hK.out _ _ ?_ (fun hHeld => ?_)
            · exact ⟨(cell_aside _ (by have := unhide S0; dsimp only; omega) (cell_aside _ (by have := unhide S0; dsimp only; omega) (cell_aside _ (by have := unhide S0; dsimp only; omega) (cell_aside _ (by have := unhide S0; dsimp only; omega) (cell_aside _ (by have := unhide S0; dsimp only; omega) (cell_aside _ (by have := unhide S0; dsimp only; omega) p0)))))), (cell_aside _ (by have := unhide S0; dsimp only; omega) (cell_aside _ (by have := unhide S0; dsimp only; omega) (cell_aside _ (by have := unhide S0; dsimp only; omega) (cell_aside _ (by have := unhide S0; dsimp only; omega) (cell_aside _ (by have := unhide S0; dsimp only; omega) (cell_aside _ (by have := unhide S0; dsimp only; omega) p1)))))), (cell_aside _ (by have := unhide S0; dsimp only; omega) (cell_aside _ (by have := unhide S0; dsimp only; omega) (cell_aside _ (by have := unhide S0; dsimp only; omega) (cell_aside _ (by have := unhide S0; dsimp only; omega) (cell_aside _ (by have := unhide S0; dsimp only; omega) (cell_aside _ (by have := unhide S0; dsimp only; omega) p2)))))), (cell_aside _ (by have := unhide S0; dsimp only; omega) (cell_aside _ (by have := unhide S0; dsimp only; omega) (cell_aside _ (by have := unhide S0; dsimp only; omega) (cell_aside _ (by have := unhide S0; dsimp only; omega) (cell_aside _ (by have := unhide S0; dsimp only; omega) (cell_aside _ (by have := unhide S0; dsimp only; omega) t0)))))), (cell_aside _ (by have := unhide S0; dsimp only; omega) (cell_aside _ (by have := unhide S0; dsimp only; omega) (cell_aside _ (by have := unhide S0; dsimp only; omega) (cell_aside _ (by have := unhide S0; dsimp only; omega) (cell_aside _ (by have := unhide S0; dsimp only; omega) (cell_aside _ (by have := unhide S0; dsimp only; omega) t1)))))), (cell_aside _ (by have := unhide S0; dsimp only; omega) (cell_aside _ (by have := unhide S0; dsimp only; omega) (cell_aside _ (by have := unhide S0; dsimp only; omega) (cell_aside _ (by have := unhide S0; dsimp only; omega) (cell_aside _ (by have := unhide S0; dsimp only; omega) (cell_aside _ (by have := unhide S0; dsimp only; omega) t2))))))⟩
            clear hK KK
            try simp only [Act.put, List.getElem_toArray, List.getElem_cons_succ, List.getElem_cons_zero, List.setIfInBounds_toArray, List.set_cons_zero, List.set_cons_succ]
            refine wpAnyH_done (by kernel_rfl) ?_ _
            clear hHeld
            go_wp2_with fail
            go_meet
            exact ⟨_, _, rfl, rfl, dya_pair s1 s2 x1 x2 kw o3 o4 X_0 X_1 X_2 X_f0 X_f1 X_f2 Y_0 Y_1 Y_2 Y_f0 Y_f1 Y_f2 (by omega) (by omega) (by omega) (by omega) (by omega) (fun e => by have := l3 _ e; omega) (fun e => by have := l3 _ e; omega) (fun e => by have := l4 _ e; omega) (fun e => by have := l4 _ e; omega) (fun k e1 e2 => by have := l3 _ e1; have := l4 _ e2; omega)⟩
        · simp only [List.getElem_toArray, List.getElem_cons_succ, List.getElem_cons_zero]
          rw [if_pos (by rfl)]
          go_simp
          have kn := (Kept.refl 0 0 w8).alloc (.cells #[.slice none 0 0, .bool false, .int .i64 0] 85)
          replace r1 := r1.kept kn (by omega)
          replace r2 := r2.kept kn (by omega)
          replace kw := kw.trans kn
          replace o3 := own_kept o3 kn
          replace qf0 := kn.loose0 (World.block_lt_of_cell? _ _ q0) qf0
          replace qf1 := kn.loose0 (World.block_lt_of_cell? _ _ q1) qf1
          replace qf2 := kn.loose0 (World.block_lt_of_cell? _ _ q2) qf2
          replace X_f0 := kn.loose0 (World.block_lt_of_cell? _ _ X_0) X_f0
          replace X_f1 := kn.loose0 (World.block_lt_of_cell? _ _ X_1) X_f1
          replace X_f2 := kn.loose0 (World.block_lt_of_cell? _ _ X_2) X_f2
          replace p0 := kn.cell0 p0
          replace p1 := kn.cell0 p1
          replace p2 := kn.cell0 p2
          replace t0 := kn.cell0 t0
          replace t1 := kn.cell0 t1
          replace t2 := kn.cell0 t2
          replace q0 := kn.cell0 q0
          replace q1 := kn.cell0 q1
          replace q2 := kn.cell0 q2
          replace X_0 := kn.cell0 X_0
          replace X_1 := kn.cell0 X_1
          replace X_2 := kn.cell0 X_2
          replace K := hide ((unhide K).trans kn)
          have z11 := kn.size
          clear kn
          have szY_ : w8.heap.size < (w8.alloc (.cells #[.slice none 0 0, .bool false, .int .i64 0] 85)).heap.size := by simp
          have Y_0 : (w8.alloc (.cells #[.slice none 0 0, .bool false, .int .i64 0] 85)).cell? ⟨w8.heap.size, 0, none⟩ = some (.slice none 0 0) := new_cell2 _ _ _ _ _ _ rfl rfl
          have Y_f0 : (w8.alloc (.cells #[.slice none 0 0, .bool false, .int .i64 0] 85)).frozen? ⟨w8.heap.size, 0, none⟩ = false := new_loose2 _ _ _ _ _ rfl
          have Y_1 : (w8.alloc (.cells #[.slice none 0 0, .bool false, .int .i64 0] 85)).cell? ⟨w8.heap.size, 1, none⟩ = some (.bool false) := new_cell2 _ _ _ _ _ _ rfl rfl
          have Y_f1 : (w8.alloc (.cells #[.slice none 0 0, .bool false, .int .i64 0] 85)).frozen? ⟨w8.heap.size, 1, none⟩ = false := new_loose2 _ _ _ _ _ rfl
          have Y_2 : (w8.alloc (.cells #[.slice none 0 0, .bool false, .int .i64 0] 85)).cell? ⟨w8.heap.size, 2, none⟩ = some (.int .i64 0) := new_cell2 _ _ _ _ _ _ rfl rfl
          have Y_f2 : (w8.alloc (.cells #[.slice none 0 0, .bool false, .int .i64 0] 85)).frozen? ⟨w8.heap.size, 2, none⟩ = false := new_loose2 _ _ _ _ _ rfl
          clear hHeld
          refine hK.out _ _ ?_ (fun hHeld => ?_)
          · exact ⟨p0, p1, p2, t0, t1, t2⟩
          clear hK KK
          try simp only [Act.put, List.getElem_toArray, List.getElem_cons_succ, List.getElem_cons_zero, List.setIfInBounds_toArray, List.set_cons_zero, List.set_cons_succ]
          generalize w8.alloc (.cells #[.slice none 0 0, .bool false, .int .i64 0] 85) = w10 at *
          refine wpAnyH_ready (rs := [3]) (by kernel_rfl) (by simp) ?_
          refine AllReadyH.cons rfl (fun KK hK => ?_) AllReadyH.nil
          · simp only [List.getElem_toArray, List.getElem_cons_succ, List.getElem_cons_zero]
            rw [if_pos (by rfl)]
            refine wps1 85 (.tmp 19) _ rfl in_dyadicOf (.agg #[.bool s2, .slice a2 ys.length c2, .int .i64 x2]) rfl (dyadicOf_impl s2 x2 _ r2 my) ?_
            rintro e w12 ⟨v4, rfl, o4, k12⟩
            refine ⟨_, rfl, ?_⟩
            replace r1 := r1.kept k12 (by omega)
            replace r2 := r2.kept k12 (by omega)
            replace kw := kw.trans k12
            replace o3 := own_kept o3 k12
            replace qf0 := k12.loose0 (World.block_lt_of_cell? _ _ q0) qf0
            replace qf1 := k12.loose0 (World.block_lt_of_cell? _ _ q1) qf1
            replace qf2 := k12.loose0 (World.block_lt_of_cell? _ _ q2) qf2
            replace X_f0 := k12.loose0 (World.block_lt_of_cell? _ _ X_0) X_f0
            replace X_f1 := k12.loose0 (World.block_lt_of_cell? _ _ X_1) X_f1
            replace X_f2 := k12.loose0 (World.block_lt_of_cell? _ _ X_2) X_f2
            replace Y_f0 := k12.loose0 (World.block_lt_of_cell? _ _ Y_0) Y_f0
            replace Y_f1 := k12.loose0 (World.block_lt_of_cell? _ _ Y_1) Y_f1
            replace Y_f2 := k12.loose0 (World.block_lt_of_cell? _ _ Y_2) Y_f2
            replace p0 := k12.cell0 p0
            replace p1 := k12.cell0 p1
            replace p2 := k12.cell0 p2
            replace t0 := k12.cell0 t0
            replace t1 := k12.cell0 t1
            replace t2 := k12.cell0 t2
            replace q0 := k12.cell0 q0
            replace q1 := k12.cell0 q1
            replace q2 := k12.cell0 q2
            replace X_0 := k12.cell0 X_0
            replace X_1 := k12.cell0 X_1
            replace X_2 := k12.cell0 X_2
            replace Y_0 := k12.cell0 Y_0
            replace Y_1 := k12.cell0 Y_1
            replace Y_2 := k12.cell0 Y_2
            replace K := hide ((unhide K).trans k12)
            have z13 := k12.size
            clear k12
            have l4 := o4.lt
            obtain ⟨a4, c4, hv⟩ := own_slice o4
            subst hv
            clear hHeld
            refine hK.out _ _ ?_ (fun hHeld => ?_)
            · exact ⟨p0, p1, p2, t0, t1, t2⟩
            clear hK KK
            try simp only [Act.put, List.getElem_toArray, List.getElem_cons_succ, List.getElem_cons_zero, List.setIfInBounds_toArray, List.set_cons_zero, List.set_cons_succ]
            refine wpAnyH_ready (rs := [6]) (by kernel_rfl) (by simp) ?_
            refine AllReadyH.cons rfl (fun KK hK => ?_) AllReadyH.nil
            simp only [List.getElem_toArray, List.getElem_cons_succ, List.getElem_cons_zero]
            rw [if_pos (by rfl)]
            go_simp
            clear hHeld
            refine hK.out _ _ ?_ (fun hHeld => ?_)
            · exact ⟨(cell_aside _ (by have := unhide S0; dsimp only; omega) (cell_aside _ (by have := unhide S0; dsimp only; omega) (cell_aside _ (by have := unhide S0; dsimp only; omega) p0))), (cell_aside _ (by have := unhide S0; dsimp only; omega) (cell_aside _ (by have := unhide S0; dsimp only; omega) (cell_aside _ (by have := unhide S0; dsimp only; omega) p1))), (cell_aside _ (by have := unhide S0; dsimp only; omega) (cell_aside _ (by have := unhide S0; dsimp only; omega) (cell_aside _ (by have := unhide S0; dsimp only; omega) p2))), (cell_aside _ (by have := unhide S0; dsimp only; omega) (cell_aside _ (by have := unhide S0; dsimp only; omega) (cell_aside _ (by have := unhide S0; dsimp only; omega) t0))), (cell_aside _ (by have := unhide S0; dsimp only; omega) (cell_aside _ (by have := unhide S0; dsimp only; omega) (cell_aside _ (by have := unhide S0; dsimp only; omega) t1))), (cell_aside _ (by have := unhide S0; dsimp only; omega) (cell_aside _ (by have := unhide S0; dsimp only; omega) (cell_aside _ (by have := unhide S0; dsimp only; omega) t2)))⟩
            clear hK KK
            try simp only [Act.put, List.getElem_toArray, List.getElem_cons_succ, List.getElem_cons_zero, List.setIfInBounds_toArray, List.set_cons_zero, List.set_cons_succ]
            refine wpAnyH_ready (rs := [7]) (by kernel_rfl) (by simp) ?_
            refine AllReadyH.cons rfl (fun KK hK => ?_) AllReadyH.nil
            simp only [List.getElem_toArray, List.getElem_cons_succ, List.getElem_cons_zero]
            rw [if_pos (by rfl)]
            go_simp
            clear hHeld
            refine hK.out _ _ ?_ (fun hHeld => ?_)
            · exact ⟨(cell_aside _ (by have := unhide S0; dsimp only; omega) (cell_aside _ (by have := unhide S0; dsimp only; omega) (cell_aside _ (by have := unhide S0; dsimp only; omega) (cell_aside _ (by have := unhide S0; dsimp only; omega) (cell_aside _ (by have := unhide S0; dsimp only; omega) (cell_aside _ (by have := unhide S0; dsimp only; omega) p0)))))), (cell_aside _ (by have := unhide S0; dsimp only; omega) (cell_aside _ (by have := unhide S0; dsimp only; omega) (cell_aside _ (by have := unhide S0; dsimp only; omega) (cell_aside _ (by have := unhide S0; dsimp only; omega) (cell_aside _ (by have := unhide S0; dsimp only; omega) (cell_aside _ (by have := unhide S0; dsimp only; omega) p1)))))), (cell_aside _ (by have := unhide S0; dsimp only; omega) (cell_aside _ (by have := unhide S0; dsimp only; omega) (cell_aside _ (by have := unhide S0; dsimp only; omega) (cell_aside _ (by have := unhide S0; dsimp only; omega) (cell_aside _ (by have := unhide S0; dsimp only; omega) (cell_aside _ (by have := unhide S0; dsimp only; omega) p2)))))), (cell_aside _ (by have := unhide S0; dsimp only; omega) (cell_aside _ (by have := unhide S0; dsimp only; omega) (cell_aside _ (by have := unhide S0; dsimp only; omega) (cell_aside _ (by have := unhide S0; dsimp only; omega) (cell_aside _ (by have := unhide S0; dsimp only; omega) (cell_aside _ (by have := unhide S0; dsimp only; omega) t0)))))), (cell_aside _ (by have := unhide S0; dsimp only; omega) (cell_aside _ (by have := unhide S0; dsimp only; omega) (cell_aside _ (by have := unhide S0; dsimp only; omega) (cell_aside _ (by have := unhide S0; dsimp only; omega) (cell_aside _ (by have := unhide S0; dsimp only; omega) (cell_aside _ (by have := unhide S0; dsimp only; omega) t1)))))), (cell_aside _ (by have := unhide S0; dsimp only; omega) (cell_aside _ (by have := unhide S0; dsimp only; omega) (cell_aside _ (by have := unhide S0; dsimp only; omega) (cell_aside _ (by have := unhide S0; dsimp only; omega) (cell_aside _ (by have := unhide S0; dsimp only; omega) (cell_aside _ (by have := unhide S0; dsimp only; omega) t2))))))⟩
            clear hK KK
            try simp only [Act.put, List.getElem_toArray, List.getElem_cons_succ, List.getElem_cons_zero, List.setIfInBounds_toArray, List.set_cons_zero, List.set_cons_succ]
            refine wpAnyH_done (by kernel_rfl) ?_ _
            clear hHeld
            go_wp2_with fail
            go_meet
            exact ⟨_, _, rfl, rfl, dya_pair s1 s2 x1 x2 kw o3 o4 X_0 X_1 X_2 X_f0 X_f1 X_f2 Y_0 Y_1 Y_2 Y_f0 Y_f1 Y_f2 (by omega) (by omega) (by omega) (by omega) (by omega) (fun e => by have := l3 _ e; omega) (fun e => by have := l3 _ e; omega) (fun e => by have := l4 _ e; omega) (fun e => by have := l4 _ e; omega) (fun k e1 e2 => by have := l3 _ e1; have := l4 _ e2; omega)⟩
      · simp only [List.getElem_toArray, List.getElem_cons_succ, List.getElem_cons_zero]
        rw [if_pos (by rfl)]
        go_simp
        have kn := (Kept.refl 0 0 w6).alloc (.cells #[.slice none 0 0, .bool false, .int .i64 0] 85)
        replace r1 := r1.kept kn (by omega)
        replace r2 := r2.kept kn (by omega)
        replace kw := kw.trans kn
        replace o3 := own_kept o3 kn
        replace qf0 := kn.loose0 (World.block_lt_of_cell? _ _ q0) qf0
        replace qf1 := kn.loose0 (World.block_lt_of_cell? _ _ q1) qf1
        replace qf2 := kn.loose0 (World.block_lt_of_cell? _ _ q2) qf2
        replace p0 := kn.cell0 p0
        replace p1 := kn.cell0 p1
        replace p2 := kn.cell0 p2
        replace t0 := kn.cell0 t0
        replace t1 := kn.cell0 t1
        replace t2 := kn.cell0 t2
        replace q0 := kn.cell0 q0
        replace q1 := kn.cell0 q1
        replace q2 := kn.cell0 q2
        replace K := hide ((unhide K).trans kn)
        have z9 := kn.size
        clear kn
        have szY_ : w6.heap.size < (w6.alloc (.cells #[.slice none 0 0, .bool false, .int .i64 0] 85)).heap.size := by simp
        have Y_0 : (w6.alloc (.cells #[.slice none 0 0, .bool false, .int .i64 0] 85)).cell? ⟨w6.heap.size, 0, none⟩ = some (.slice none 0 0) := new_cell2 _ _ _ _ _ _ rfl rfl
        have Y_f0 : (w6.alloc (.cells #[.slice none 0 0, .bool false, .int .i64 0] 85)).frozen? ⟨w6.heap.size, 0, none⟩ = false := new_loose2 _ _ _ _ _ rfl
        have Y_1 : (w6.alloc (.cells #[.slice none 0 0, .bool false, .int .i64 0] 85)).cell? ⟨w6.heap.size, 1, none⟩ = some (.bool false) := new_cell2 _ _ _ _ _ _ rfl rfl
        have Y_f1 : (w6.alloc (.cells #[.slice none 0 0, .bool false, .int .i64 0] 85)).frozen? ⟨w6.heap.size, 1, none⟩ = false := new_loose2 _ _ _ _ _ rfl
        have Y_2 : (w6.alloc (.cells #[.slice none 0 0, .bool false, .int .i64 0] 85)).cell? ⟨w6.heap.size, 2, none⟩ = some (.int .i64 0) := new_cell2 _ _ _ _ _ _ rfl rfl
        have Y_f2 : (w6.alloc (.cells #[.slice none 0 0, .bool false, .int .i64 0] 85)).frozen? ⟨w6.heap.size, 2, none⟩ = false := new_loose2 _ _ _ _ _ rfl
        clear hHeld
        refine hK.out _ _ ?_ (fun hHeld => ?_)
        · exact ⟨p0, p1, p2, t0, t1, t2⟩
        clear hK KK
        try simp only [Act.put, List.getElem_toArray, List.getElem_cons_succ, List.getElem_cons_zero, List.setIfInBounds_toArray, List.set_cons_zero, List.set_cons_succ]
        generalize w6.alloc (.cells #[.slice none 0 0, .bool false, .int .i64 0] 85) = w8 at *
        refine wpAnyH_ready (rs := [3, 4]) (by kernel_rfl) (by simp) ?_
        refine AllReadyH.cons rfl (fun KK hK => ?_) (AllReadyH.cons rfl (fun KK hK => ?_) AllReadyH.nil)
        · simp only [List.getElem_toArray, List.getElem_cons_succ, List.getElem_cons_zero]
          rw [if_pos (by rfl)]
          refine wps1 85 (.tmp 19) _ rfl in_dyadicOf (.agg #[.bool s2, .slice a2 ys.length c2, .int .i64 x2]) rfl (dyadicOf_impl s2 x2 _ r2 my) ?_
          rintro e w10 ⟨v4, rfl, o4, k10⟩
          refine ⟨_, rfl, ?_⟩
          replace r1 := r1.kept k10 (by omega)
          replace r2 := r2.kept k10 (by omega)
          replace kw := kw.trans k10
          replace o3 := own_kept o3 k10
          replace qf0 := k10.loose0 (World.block_lt_of_cell? _ _ q0) qf0
          replace qf1 := k10.loose0 (World.block_lt_of_cell? _ _ q1) qf1
          replace qf2 := k10.loose0 (World.block_lt_of_cell? _ _ q2) qf2
          replace Y_f0 := k10.loose0 (World.block_lt_of_cell? _ _ Y_0) Y_f0
          replace Y_f1 := k10.loose0 (World.block_lt_of_cell? _ _ Y_1) Y_f1
          replace Y_f2 := k10.loose0 (World.block_lt_of_cell? _ _ Y_2) Y_f2
          replace p0 := k10.cell0 p0
          replace p1 := k10.cell0 p1
          replace p2 := k10.cell0 p2
          replace t0 := k10.cell0 t0
          replace t1 := k10.cell0 t1
          replace t2 := k10.cell0 t2
          replace q0 := k10.cell0 q0
          replace q1 := k10.cell0 q1
          replace q2 := k10.cell0 q2
          replace Y_0 := k10.cell0 Y_0
          replace Y_1 := k10.cell0 Y_1
          replace Y_2 := k10.cell0 Y_2
          replace K := hide ((unhide K).trans k10)
          have z11 := k10.size
          clear k10
          have l4 := o4.lt
          obtain ⟨a4, c4, hv⟩ := own_slice o4
          subst hv
          clear hHeld
          refine hK.out _ _ ?_ (fun hHeld => ?_)
          · exact ⟨p0, p1, p2, t0, t1, t2⟩
          clear hK KK
          try simp only [Act.put, List.getElem_toArray, List.getElem_cons_succ, List.getElem_cons_zero, List.setIfInBounds_toArray, List.set_cons_zero, List.set_cons_succ]
          refine wpAnyH_ready (rs := [4]) (by kernel_rfl) (by simp) ?_
          refine AllReadyH.cons rfl (fun KK hK => ?_) AllReadyH.nil
          · simp only [List.getElem_toArray, List.getElem_cons_succ, List.getElem_cons_zero]
            rw [if_pos (by rfl)]
            go_simp
            have kn := (Kept.refl 0 0 w10).alloc (.cells #[.slice none 0 0, .bool false, .int .i64 0] 85)
            replace r1 := r1.kept kn (by omega)
            replace r2 := r2.kept kn (by omega)
            replace kw := kw.trans kn
            replace o3 := own_kept o3 kn
            replace o4 := own_kept o4 kn
            replace qf0 := kn.loose0 (World.block_lt_of_cell? _ _ q0) qf0
            replace qf1 := kn.loose0 (World.block_lt_of_cell? _ _ q1) qf1
            replace qf2 := kn.loose0 (World.block_lt_of_cell? _ _ q2) qf2
            replace Y_f0 := kn.loose0 (World.block_lt_of_cell? _ _ Y_0) Y_f0
            replace Y_f1 := kn.loose0 (World.block_lt_of_cell? _ _ Y_1) Y_f1
            replace Y_f2 := kn.loose0 (World.block_lt_of_cell? _ _ Y_2) Y_f2
            replace p0 := kn.cell0 p0
            replace p1 := kn.cell0 p1
            replace p2 := kn.cell0 p2
            replace t0 := kn.cell0 t0
            replace t1 := kn.cell0 t1
            replace t2 := kn.cell0 t2
            replace q0 := kn.cell0 q0
            replace q1 := kn.cell0 q1
            replace q2 := kn.cell0 q2
            replace Y_0 := kn.cell0 Y_0
            replace Y_1 := kn.cell0 Y_1
            replace Y_2 := kn.cell0 Y_2
            replace K := hide ((unhide K).trans kn)
            have z13 := kn.size
            clear kn
            have szX_ : w10.heap.size < (w10.alloc (.cells #[.slice none 0 0, .bool false, .int .i64 0] 85)).heap.size := by simp
            have X_0 : (w10.alloc (.cells #[.slice none 0 0, .bool false, .int .i64 0] 85)).cell? ⟨w10.heap.size, 0, none⟩ = some (.slice none 0 0) := new_cell2 _ _ _ _ _ _ rfl rfl
            have X_f0 : (w10.alloc (.cells #[.slice none 0 0, .bool false, .int .i64 0] 85)).frozen? ⟨w10.heap.size, 0, none⟩ = false := new_loose2 _ _ _ _ _ rfl
            have X_1 : (w10.alloc (.cells #[.slice none 0 0, .bool false, .int .i64 0] 85)).cell? ⟨w10.heap.size, 1, none⟩ = some (.bool false) := new_cell2 _ _ _ _ _ _ rfl rfl
            have X_f1 : (w10.alloc (.cells #[.slice none 0 0, .bool false, .int .i64 0] 85)).frozen? ⟨w10.heap.size, 1, none⟩ = false := new_loose2 _ _ _ _ _ rfl
            have X_2 : (w10.alloc (.cells #[.slice none 0 0, .bool false, .int .i64 0] 85)).cell? ⟨w10.heap.size, 2, none⟩ = some (.int .i64 0) := new_cell2 _ _ _ _ _ _ rfl rfl
            have X_f2 : (w10.alloc (.cells #[.slice none 0 0, .bool false, .int .i64 0] 85)).frozen? ⟨w10.heap.size, 2, none⟩ = false := new_loose2 _ _ _ _ _ rfl
            clear hHeld
            refine hK.out _ _ ?_ (fun hHeld => ?_)
            · exact ⟨p0, p1, p2, t0, t1, t2⟩
            clear hK KK
            try simp only [Act.put, List.getElem_toArray, List.getElem_cons_succ, List.getElem_cons_zero, List.setIfInBounds_toArray, List.set_cons_zero, List.set_cons_succ]
            generalize w10.alloc (.cells #[.slice none 0 0, .bool false, .int .i64 0] 85) = w12 at *
            refine wpAnyH_ready (rs := [6]) (by kernel_rfl) (by simp) ?_
            refine AllReadyH.cons rfl (fun KK hK => ?_) AllReadyH.nil
            simp only [List.getElem_toArray, List.getElem_cons_succ, List.getElem_cons_zero]
            rw [if_pos (by rfl)]
            go_simp
            clear hHeld
            refine hK.out _ _ ?_ (fun hHeld => ?_)
            · exact ⟨(cell_aside _ (by have := unhide S0; dsimp only; omega) (cell_aside _ (by have := unhide S0; dsimp only; omega) (cell_aside _ (by have := unhide S0; dsimp only; omega) p0))), (cell_aside _ (by have := unhide S0; dsimp only; omega) (cell_aside _ (by have := unhide S0; dsimp only; omega) (cell_aside _ (by have := unhide S0; dsimp only; omega) p1))), (cell_aside _ (by have := unhide S0; dsimp only; omega) (cell_aside _ (by have := unhide S0; dsimp only; omega) (cell_aside _ (by have := unhide S0; dsimp only; omega) p2))), (cell_aside _ (by have := unhide S0; dsimp only; omega) (cell_aside _ (by have := unhide S0; dsimp only; omega) (cell_aside _ (by have := unhide S0; dsimp only; omega) t0))), (cell_aside _ (by have := unhide S0; dsimp only; omega) (cell_aside _ (by have := unhide S0; dsimp only; omega) (cell_aside _ (by have := unhide S0; dsimp only; omega) t1))), (cell_aside _ (by have := unhide S0; dsimp only; omega) (cell_aside _ (by have := unhide S0; dsimp only; omega) (cell_aside _ (by have := unhide S0; dsimp only; omega) t2)))⟩
            clear hK KK
            try simp only [Act.put, List.getElem_toArray, List.getElem_cons_succ, List.getElem_cons_zero, List.setIfInBounds_toArray, List.set_cons_zero, List.set_cons_succ]
            refine wpAnyH_ready (rs := [7]) (by kernel_rfl) (by simp) ?_
            refine AllReadyH.cons rfl (fun KK hK => ?_) AllReadyH.nil
            simp only [List.getElem_toArray, List.getElem_cons_succ, List.getElem_cons_zero]
            rw [if_pos (by rfl)]
            go_simp
            clear hHeld
            refine hK.out _ _ ?_ (fun hHeld => ?_)
            · exact ⟨(cell_aside _ (by have := unhide S0; dsimp only; omega) (cell_aside _ (by have := unhide S0; dsimp only; omega) (cell_aside _ (by have := unhide S0; dsimp only; omega) (cell_aside _ (by have := unhide S0; dsimp only; omega) (cell_aside _ (by have := unhide S0; dsimp only; omega) (cell_aside _ (by have := unhide S0; dsimp only; omega) p0)))))), (cell_aside _ (by have := unhide S0; dsimp only; omega) (cell_aside _ (by have := unhide S0; dsimp only; omega) (cell_aside _ (by have := unhide S0; dsimp only; omega) (cell_aside _ (by have := unhide S0; dsimp only; omega) (cell_aside _ (by have := unhide S0; dsimp only; omega) (cell_aside _ (by have := unhide S0; dsimp only; omega) p1)))))), (cell_aside _ (by have := unhide S0; dsimp only; omega) (cell_aside _ (by have := unhide S0; dsimp only; omega) (cell_aside _ (by have := unhide S0; dsimp only; omega) (cell_aside _ (by have := unhide S0; dsimp only; omega) (cell_aside _ (by have := unhide S0; dsimp only; omega) (cell_aside _ (by have := unhide S0; dsimp only; omega) p2)))))), (cell_aside _ (by have := unhide S0; dsimp only; omega) (cell_aside _ (by have := unhide S0; dsimp only; omega) (cell_aside _ (by have := unhide S0; dsimp only; omega) (cell_aside _ (by have := unhide S0; dsimp only; omega) (cell_aside _ (by have := unhide S0; dsimp only; omega) (cell_aside _ (by have := unhide S0; dsimp only; omega) t0)))))), (cell_aside _ (by have := unhide S0; dsimp only; omega) (cell_aside _ (by have := unhide S0; dsimp only; omega) (cell_aside _ (by have := unhide S0; dsimp only; omega) (cell_aside _ (by have := unhide S0; dsimp only; omega) (cell_aside _ (by have := unhide S0; dsimp only; omega) (cell_aside _ (by have := unhide S0; dsimp only; omega) t1)))))), (cell_aside _ (by have := unhide S0; dsimp only; omega) (cell_aside _ (by have := unhide S0; dsimp only; omega) (cell_aside _ (by have := unhide S0; dsimp only; omega) (cell_aside _ (by have := unhide S0; dsimp only; omega) (cell_aside _ (by have := unhide S0; dsimp only; omega) (cell_aside _ (by have := unhide S0; dsimp only; omega) t2))))))⟩
            clear hK KK
            try simp only [Act.put, List.getElem_toArray, List.getElem_cons_succ, List.getElem_cons_zero, List.setIfInBounds_toArray, List.set_cons_zero, List.set_cons_succ]
            refine wpAnyH_done (by kernel_rfl) ?_ _
            clear hHeld
            go_wp2_with fail
            go_meet
            exact ⟨_, _, rfl, rfl, dya_pair s1 s2 x1 x2 kw o3 o4 X_0 X_1 X_2 X_f0 X_f1 X_f2 Y_0 Y_1 Y_2 Y_f0 Y_f1 Y_f2 (by omega) (by omega) (by omega) (by omega) (by omega) (fun e => by have := l3 _ e; omega) (fun e => by have := l3 _ e; omega) (fun e => by have := l4 _ e; omega) (fun e => by have := l4 _ e; omega) (fun k e1 e2 => by have := l3 _ e1; have := l4 _ e2; omega)⟩
        · simp only [List.getElem_toArray, List.getElem_cons_succ, List.getElem_cons_zero]
          rw [if_pos (by rfl)]
          go_simp
          have kn := (Kept.refl 0 0 w8).alloc (.cells #[.slice none 0 0, .bool false, .int .i64 0] 85)
          replace r1 := r1.kept kn (by omega)
          replace r2 := r2.kept kn (by omega)
          replace kw := kw.trans kn
          replace o3 := own_kept o3 kn
          replace qf0 := kn.loose0 (World.block_lt_of_cell? _ _ q0) qf0
          replace qf1 := kn.loose0 (World.block_lt_of_cell? _ _ q1) qf1
          replace qf2 := kn.loose0 (World.block_lt_of_cell? _ _ q2) qf2
          replace Y_f0 := kn.loose0 (World.block_lt_of_cell? _ _ Y_0) Y_f0
          replace Y_f1 := kn.loose0 (World.block_lt_of_cell? _ _ Y_1) Y_f1
          replace Y_f2 := kn.loose0 (World.block_lt_of_cell? _ _ Y_2) Y_f2
          replace p0 := kn.cell0 p0
          replace p1 := kn.cell0 p1
          replace p2 := kn.cell0 p2
          replace t0 := kn.cell0 t0
          replace t1 := kn.cell0 t1
          replace t2 := kn.cell0 t2
          replace q0 := kn.cell0 q0
          replace q1 := kn.cell0 q1
          replace q2 := kn.cell0 q2
          replace Y_0 := kn.cell0 Y_0
          replace Y_1 := kn.cell0 Y_1
          replace Y_2 := kn.cell0 Y_2
          replace K := hide ((unhide K).trans kn)
          have z11 := kn.size
          clear kn
          have szX_ : w8.heap.size < (w8.alloc (.cells #[.slice none 0 0, .bool false, .int .i64 0] 85)).heap.size := by simp
          have X_0 : (w8.alloc (.cells #[.slice none 0 0, .bool false, .int .i64 0] 85)).cell? ⟨w8.heap.size, 0, none⟩ = some (.slice none 0 0) := new_cell2 _ _ _ _ _ _ rfl rfl
          have X_f0 : (w8.alloc (.cells #[.slice none 0 0, .bool false, .int .i64 0] 85)).frozen? ⟨w8.heap.size, 0, none⟩ = false := new_loose2 _ _ _ _ _ rfl
          have X_1 : (w8.alloc (.cells #[.slice none 0 0, .bool false, .int .i64 0] 85)).cell? ⟨w8.heap.size, 1, none⟩ = some (.bool false) := new_cell2 _ _ _ _ _ _ rfl rfl
          have X_f1 : (w8.alloc (.cells #[.slice none 0 0, .bool false, .int .i64 0] 85)).frozen? ⟨w8.heap.size, 1, none⟩ = false := new_loose2 _ _ _ _ _ rfl
          have X_2 : (w8.alloc (.cells #[.slice none 0 0, .bool false, .int .i64 0] 85)).cell? ⟨w8.heap.size, 2, none⟩ = some (.int .i64 0) := new_cell2 _ _ _ _ _ _ rfl rfl
          have X_f2 : (w8.alloc (.cells #[.slice none 0 0, .bool false, .int .i64 0] 85)).frozen? ⟨w8.heap.size, 2, none⟩ = false := new_loose2 _ _ _ _ _ rfl
          clear hHeld
          refine hK.out _ _ ?_ (fun hHeld => ?_)
          · exact ⟨p0, p1, p2, t0, t1, t2⟩
          clear hK KK
          try simp only [Act.put, List.getElem_toArray, List.getElem_cons_succ, List.getElem_cons_zero, List.setIfInBounds_toArray, List.set_cons_zero, List.set_cons_succ]
          generalize w8.alloc (.cells #[.slice none 0 0, .bool false, .int .i64 0] 85) = w10 at *
          refine wpAnyH_ready (rs := [3]) (by kernel_rfl) (by simp) ?_
          refine AllReadyH.cons rfl (fun KK hK => ?_) AllReadyH.nil
          · simp only [List.getElem_toArray, List.getElem_cons_succ, List.getElem_cons_zero]
            rw [if_pos (by rfl)]
            refine wps1 85 (.tmp 19) _ rfl in_dyadicOf (.agg #[.bool s2, .slice a2 ys.length c2, .int .i64 x2]) rfl (dyadicOf_impl s2 x2 _ r2 my) ?_
            rintro e w12 ⟨v4, rfl, o4, k12⟩
            refine ⟨_, rfl, ?_⟩
            replace r1 := r1.kept k12 (by omega)
            replace r2 := r2.kept k12 (by omega)
            replace kw := kw.trans k12
            replace o3 := own_kept o3 k12
            replace qf0 := k12.loose0 (World.block_lt_of_cell? _ _ q0) qf0
            replace qf1 := k12.loose0 (World.block_lt_of_cell? _ _ q1) qf1
            replace qf2 := k12.loose0 (World.block_lt_of_cell? _ _ q2) qf2
            replace Y_f0 := k12.loose0 (World.block_lt_of_cell? _ _ Y_0) Y_f0
            replace Y_f1 := k12.loose0 (World.block_lt_of_cell? _ _ Y_1) Y_f1
            replace Y_f2 := k12.loose0 (World.block_lt_of_cell? _ _ Y_2) Y_f2
            replace X_f0 := k12.loose0 (World.block_lt_of_cell? _ _ X_0) X_f0
            replace X_f1 := k12.loose0 (World.block_lt_of_cell? _ _ X_1) X_f1
            replace X_f2 := k12.loose0 (World.block_lt_of_cell? _ _ X_2) X_f2
            replace p0 := k12.cell0 p0
            replace p1 := k12.cell0 p1
            replace p2 := k12.cell0 p2
            replace t0 := k12.cell0 t0
            replace t1 := k12.cell0 t1
            replace t2 := k12.cell0 t2
            replace q0 := k12.cell0 q0
            replace q1 := k12.cell0 q1
            replace q2 := k12.cell0 q2
            replace Y_0 := k12.cell0 Y_0
            replace Y_1 := k12.cell0 Y_1
            replace Y_2 := k12.cell0 Y_2
            replace X_0 := k12.cell0 X_0
            replace X_1 := k12.cell0 X_1
            replace X_2 := k12.cell0 X_2
            replace K := hide ((unhide K).trans k12)
            have z13 := k12.size
            clear k12
            have l4 := o4.lt
            obtain ⟨a4, c4, hv⟩ := own_slice o4
            subst hv
            clear hHeld
            refine hK.out _ _ ?_ (fun hHeld => ?_)
            · exact ⟨p0, p1, p2, t0, t1, t2⟩
            clear hK KK
            try simp only [Act.put, List.getElem_toArray, List.getElem_cons_succ, List.getElem_cons_zero, List.setIfInBounds_toArray, List.set_cons_zero, List.set_cons_succ]
            refine wpAnyH_ready (rs := [6]) (by kernel_rfl) (by simp) ?_
            refine AllReadyH.cons rfl (fun KK hK => ?_) AllReadyH.nil
            simp only [List.getElem_toArray, List.getElem_cons_succ, List.getElem_cons_zero]
            rw [if_pos (by rfl)]
            go_simp
            clear hHeld
            refine hK.out _ _ ?_ (fun hHeld => ?_)
            · exact ⟨(cell_aside _ (by have := unhide S0; dsimp only; omega) (cell_aside _ (by have := unhide S0; dsimp only; omega) (cell_aside _ (by have := unhide S0; dsimp only; omega) p0))), (cell_aside _ (by have := unhide S0; dsimp only; omega) (cell_aside _ (by have := unhide S0; dsimp only; omega) (cell_aside _ (by have := unhide S0; dsimp only; omega) p1))), (cell_aside _ (by have := unhide S0; dsimp only; omega) (cell_aside _ (by have := unhide S0; dsimp only; omega) (cell_aside _ (by have := unhide S0; dsimp only; omega) p2))), (cell_aside _ (by have := unhide S0; dsimp only; omega) (cell_aside _ (by have := unhide S0; dsimp only; omega) (cell_aside _ (by have := unhide S0; dsimp only; omega) t0))), (cell_aside _ (by have := unhide S0; dsimp only; omega) (cell_aside _ (by have := unhide S0; dsimp only; omega) (cell_aside _ (by have := unhide S0; dsimp only; omega) t1))), (cell_aside _ (by have := unhide S0; dsimp only; omega) (cell_aside _ (by have := unhide S0; dsimp only; omega) (cell_aside _ (by have := unhide S0; dsimp only; omega) t2)))⟩
            clear hK KK
            try simp only [Act.put, List.getElem_toArray, List.getElem_cons_succ, List.getElem_cons_zero, List.setIfInBounds_toArray, List.set_cons_zero, List.set_cons_succ]
            refine wpAnyH_ready (rs := [7]) (by kernel_rfl) (by simp) ?_
            refine AllReadyH.cons rfl (fun KK hK => ?_) AllReadyH.nil
            simp only [List.getElem_toArray, List.getElem_cons_succ, List.getElem_cons_zero]
            rw [if_pos (by rfl)]
            go_simp
            clear hHeld
            refine hK.out _ _ ?_ (fun hHeld => ?_)
            · exact ⟨(cell_aside _ (by have := unhide S0; dsimp only; omega) (cell_aside _ (by have := unhide S0; dsimp only; omega) (cell_aside _ (by have := unhide S0; dsimp only; omega) (cell_aside _ (by have := unhide S0; dsimp only; omega) (cell_aside _ (by have := unhide S0; dsimp only; omega) (cell_aside _ (by have := unhide S0; dsimp only; omega) p0)))))), (cell_aside _ (by have := unhide S0; dsimp only; omega) (cell_aside _ (by have := unhide S0; dsimp only; omega) (cell_aside _ (by have := unhide S0; dsimp only; omega) (cell_aside _ (by have := unhide S0; dsimp only; omega) (cell_aside _ (by have := unhide S0; dsimp only; omega) (cell_aside _ (by have := unhide S0; dsimp only; omega) p1)))))), (cell_aside _ (by have := unhide S0; dsimp only; omega) (cell_aside _ (by have := unhide S0; dsimp only; omega) (cell_aside _ (by have := unhide S0; dsimp only; omega) (cell_aside _ (by have := unhide S0; dsimp only; omega) (cell_aside _ (by have := unhide S0; dsimp only; omega) (cell_aside _ (by have := unhide S0; dsimp only; omega) p2)))))), (cell_aside _ (by have := unhide S0; dsimp only; omega) (cell_aside _ (by have := unhide S0; dsimp only; omega) (cell_aside _ (by have := unhide S0; dsimp only; omega) (cell_aside _ (by have := unhide S0; dsimp only; omega) (cell_aside _ (by have := unhide S0; dsimp only; omega) (cell_aside _ (by have := unhide S0; dsimp only; omega) t0)))))), (cell_aside _ (by have := unhide S0; dsimp only; omega) (cell_aside _ (by have := unhide S0; dsimp only; omega) (cell_aside _ (by have := unhide S0; dsimp only; omega) (cell_aside _ (by have := unhide S0; dsimp only; omega) (cell_aside _ (by have := unhide S0; dsimp only; omega) (cell_aside _ (by have := unhide S0; dsimp only; omega) t1)))))), (cell_aside _ (by have := unhide S0; dsimp only; omega) (cell_aside _ (by have := unhide S0; dsimp only; omega) (cell_aside _ (by have := unhide S0; dsimp only; omega) (cell_aside _ (by have := unhide S0; dsimp only; omega) (cell_aside _ (by have := unhide S0; dsimp only; omega) (cell_aside _ (by have := unhide S0; dsimp only; omega) t2))))))⟩
            clear hK KK
            try simp only [Act.put, List.getElem_toArray, List.getElem_cons_succ, List.getElem_cons_zero, List.setIfInBounds_toArray, List.set_cons_zero, List.set_cons_succ]
            refine wpAnyH_done (by kernel_rfl) ?_ _
            clear hHeld
            go_wp2_with fail
            go_meet
            exact ⟨_, _, rfl, rfl, dya_pair s1 s2 x1 x2 kw o3 o4 X_0 X_1 X_2 X_f0 X_f1 X_f2 Y_0 Y_1 Y_2 Y_f0 Y_f1 Y_f2 (by omega) (by omega) (by omega) (by omega) (by omega) (fun e => by have := l3 _ e; omega) (fun e => by have := l3 _ e; omega) (fun e => by have := l4 _ e; omega) (fun e => by have := l4 _ e; omega) (fun k e1 e2 => by have := l3 _ e1; have := l4 _ e2; omega)⟩
    · simp only [List.getElem_toArray, List.getElem_cons_succ, List.getElem_cons_zero]
      rw [if_pos (by rfl)]
      go_simp
      have kn := (Kept.refl 0 0 wd).alloc (.cells #[.slice none 0 0, .bool false, .int .i64 0] 85)
      replace r1 := r1.kept kn (by omega)
      replace r2 := r2.kept kn (by omega)
      replace kw := kw.trans kn
      replace qf0 := kn.loose0 (World.block_lt_of_cell? _ _ q0) qf0
      replace qf1 := kn.loose0 (World.block_lt_of_cell? _ _ q1) qf1
      replace qf2 := kn.loose0 (World.block_lt_of_cell? _ _ q2) qf2
      replace p0 := kn.cell0 p0
      replace p1 := kn.cell0 p1
      replace p2 := kn.cell0 p2
      replace t0 := kn.cell0 t0
      replace t1 := kn.cell0 t1
      replace t2 := kn.cell0 t2
      replace q0 := kn.cell0 q0
      replace q1 := kn.cell0 q1
      replace q2 := kn.cell0 q2
      replace K := hide ((unhide K).trans kn)
      have z7 := kn.size
      clear kn
      have szX_ : wd.heap.size < (wd.alloc (.cells #[.slice none 0 0, .bool false, .int .i64 0] 85)).heap.size := by simp
      have X_0 : (wd.alloc (.cells #[.slice none 0 0, .bool false, .int .i64 0] 85)).cell? ⟨wd.heap.size, 0, none⟩ = some (.slice none 0 0) := new_cell2 _ _ _ _ _ _ rfl rfl
      have X_f0 : (wd.alloc (.cells #[.slice none 0 0, .bool false, .int .i64 0] 85)).frozen? ⟨wd.heap.size, 0, none⟩ = false := new_loose2 _ _ _ _ _ rfl
      have X_1 : (wd.alloc (.cells #[.slice none 0 0, .bool false, .int .i64 0] 85)).cell? ⟨wd.heap.size, 1, none⟩ = some (.bool false) := new_cell2 _ _ _ _ _ _ rfl rfl
      have X_f1 : (wd.alloc (.cells #[.slice none 0 0, .bool false, .int .i64 0] 85)).frozen? ⟨wd.heap.size, 1, none⟩ = false := new_loose2 _ _ _ _ _ rfl
      have X_2 : (wd.alloc (.cells #[.slice none 0 0, .bool false, .int .i64 0] 85)).cell? ⟨wd.heap.size, 2, none⟩ = some (.int .i64 0) := new_cell2 _ _ _ _ _ _ rfl rfl
      have X_f2 : (wd.alloc (.cells #[.slice none 0 0, .bool false, .int .i64 0] 85)).frozen? ⟨wd.heap.size, 2, none⟩ = false := new_loose2 _ _ _ _ _ rfl
      clear hHeld
      refine hK.out _ _ ?_ (fun hHeld => ?_)
      · exact ⟨p0, p1, p2, t0, t1, t2⟩
      clear hK KK
      try simp only [Act.put, List.getElem_toArray, List.getElem_cons_succ, List.getElem_cons_zero, List.setIfInBounds_toArray, List.set_cons_zero, List.set_cons_succ]
      generalize wd.alloc (.cells #[.slice none 0 0, .bool false, .int .i64 0] 85) = w6 at *
      refine wpAnyH_ready (rs := [1, 5]) (by kernel_rfl) (by simp) ?_
      refine AllReadyH.cons rfl (fun KK hK => ?_) (AllReadyH.cons rfl (fun KK hK => ?_) AllReadyH.nil)
      · simp only [List.getElem_toArray, List.getElem_cons_succ, List.getElem_cons_zero]
        rw [if_pos (by rfl)]
        refine wps1 85 (.tmp 17) _ rfl in_dyadicOf (.agg #[.bool s1, .slice a1 xs.length c1, .int .i64 x1]) rfl (dyadicOf_impl s1 x1 _ r1 mx) ?_
        rintro e w8 ⟨v3, rfl, o3, k8⟩
        refine ⟨_, rfl, ?_⟩
        replace r1 := r1.kept k8 (by omega)
        replace r2 := r2.kept k8 (by omega)
        replace kw := kw.trans k8
        replace qf0 := k8.loose0 (World.block_lt_of_cell? _ _ q0) qf0
        replace qf1 := k8.loose0 (World.block_lt_of_cell? _ _ q1) qf1
        replace qf2 := k8.loose0 (World.block_lt_of_cell? _ _ q2) qf2
        replace X_f0 := k8.loose0 (World.block_lt_of_cell? _ _ X_0) X_f0
        replace X_f1 := k8.loose0 (World.block_lt_of_cell? _ _ X_1) X_f1
        replace X_f2 := k8.loose0 (World.block_lt_of_cell? _ _ X_2) X_f2
        replace p0 := k8.cell0 p0
        replace p1 := k8.cell0 p1
        replace p2 := k8.cell0 p2
        replace t0 := k8.cell0 t0
        replace t1 := k8.cell0 t1
        replace t2 := k8.cell0 t2
        replace q0 := k8.cell0 q0
        replace q1 := k8.cell0 q1
        replace q2 := k8.cell0 q2
        replace X_0 := k8.cell0 X_0
        replace X_1 := k8.cell0 X_1
        replace X_2 := k8.cell0 X_2
        replace K := hide ((unhide K).trans k8)
        have z9 := k8.size
        clear k8
        have l3 := o3.lt
        obtain ⟨a3, c3, hv⟩ := own_slice o3
        subst hv
        clear hHeld
        refine hK.out _ _ ?_ (fun hHeld => ?_)
        · exact ⟨p0, p1, p2, t0, t1, t2⟩
        clear hK KK
        try simp only [Act.put, List.getElem_toArray, List.getElem_cons_succ, List.getElem_cons_zero, List.setIfInBounds_toArray, List.set_cons_zero, List.set_cons_succ]
        refine wpAnyH_ready (rs := [3, 5]) (by kernel_rfl) (by simp) ?_
        refine AllReadyH.cons rfl (fun KK hK => ?_) (AllReadyH.cons rfl (fun KK hK => ?_) AllReadyH.nil)
        · simp only [List.getElem_toArray, List.getElem_cons_succ, List.getElem_cons_zero]
          rw [if_pos (by rfl)]
          refine wps1 85 (.tmp 19) _ rfl in_dyadicOf (.agg #[.bool s2, .slice a2 ys.length c2, .int .i64 x2]) rfl (dyadicOf_impl s2 x2 _ r2 my) ?_
          rintro e w10 ⟨v4, rfl, o4, k10⟩
          refine ⟨_, rfl, ?_⟩
          replace r1 := r1.kept k10 (by omega)
          replace r2 := r2.kept k10 (by omega)
          replace kw := kw.trans k10
          replace o3 := own_kept o3 k10
          replace qf0 := k10.loose0 (World.block_lt_of_cell? _ _ q0) qf0
          replace qf1 := k10.loose0 (World.block_lt_of_cell? _ _ q1) qf1
          replace qf2 := k10.loose0 (World.block_lt_of_cell? _ _ q2) qf2
          replace X_f0 := k10.loose0 (World.block_lt_of_cell? _ _ X_0) X_f0
          replace X_f1 := k10.loose0 (World.block_lt_of_cell? _ _ X_1) X_f1
          replace X_f2 := k10.loose0 (World.block_lt_of_cell? _ _ X_2) X_f2
          replace p0 := k10.cell0 p0
          replace p1 := k10.cell0 p1
          replace p2 := k10.cell0 p2
          replace t0 := k10.cell0 t0
          replace t1 := k10.cell0 t1
          replace t2 := k10.cell0 t2
          replace q0 := k10.cell0 q0
          replace q1 := k10.cell0 q1
          replace q2 := k10.cell0 q2
          replace X_0 := k10.cell0 X_0
          replace X_1 := k10.cell0 X_1
          replace X_2 := k10.cell0 X_2
          replace K := hide ((unhide K).trans k10)
          have z11 := k10.size
          clear k10
          have l4 := o4.lt
          obtain ⟨a4, c4, hv⟩ := own_slice o4
          subst hv
          clear hHeld
          refine hK.out _ _ ?_ (fun hHeld => ?_)
          · exact ⟨p0, p1, p2, t0, t1, t2⟩
          clear hK KK
          try simp only [Act.put, List.getElem_toArray, List.getElem_cons_succ, List.getElem_cons_zero, List.setIfInBounds_toArray, List.set_cons_zero, List.set_cons_succ]
          refine wpAnyH_ready (rs := [5]) (by kernel_rfl) (by simp) ?_
          refine AllReadyH.cons rfl (fun KK hK => ?_) AllReadyH.nil
          · simp only [List.getElem_toArray, List.getElem_cons_succ, List.getElem_cons_zero]
            rw [if_pos (by rfl)]
            go_simp
            have kn := (Kept.refl 0 0 w10).alloc (.cells #[.slice none 0 0, .bool false, .int .i64 0] 85)
            replace r1 := r1.kept kn (by omega)
            replace r2 := r2.kept kn (by omega)
            replace kw := kw.trans kn
            replace o3 := own_kept o3 kn
            replace o4 := own_kept o4 kn
            replace qf0 := kn.loose0 (World.block_lt_of_cell? _ _ q0) qf0
            replace qf1 := kn.loose0 (World.block_lt_of_cell? _ _ q1) qf1
            replace qf2 := kn.loose0 (World.block_lt_of_cell? _ _ q2) qf2
            replace X_f0 := kn.loose0 (World.block_lt_of_cell? _ _ X_0) X_f0
            replace X_f1 := kn.loose0 (World.block_lt_of_cell? _ _ X_1) X_f1
            replace X_f2 := kn.loose0 (World.block_lt_of_cell? _ _ X_2) X_f2
            replace p0 := kn.cell0 p0
            replace p1 := kn.cell0 p1
            replace p2 := kn.cell0 p2
            replace t0 := kn.cell0 t0
            replace t1 := kn.cell0 t1
            replace t2 := kn.cell0 t2
            replace q0 := kn.cell0 q0
            replace q1 := kn.cell0 q1
            replace q2 := kn.cell0 q2
            replace X_0 := kn.cell0 X_0
            replace X_1 := kn.cell0 X_1
            replace X_2 := kn.cell0 X_2
            replace K := hide ((unhide K).trans kn)
            have z13 := kn.size
            clear kn
            have szY_ : w10.heap.size < (w10.alloc (.cells #[.slice none 0 0, .bool false, .int .i64 0] 85)).heap.size := by simp
            have Y_0 : (w10.alloc (.cells #[.slice none 0 0, .bool false, .int .i64 0] 85)).cell? ⟨w10.heap.size, 0, none⟩ = some (.slice none 0 0) := new_cell2 _ _ _ _ _ _ rfl rfl
            have Y_f0 : (w10.alloc (.cells #[.slice none 0 0, .bool false, .int .i64 0] 85)).frozen? ⟨w10.heap.size, 0, none⟩ = false := new_loose2 _ _ _ _ _ rfl
            have Y_1 : (w10.alloc (.cells #[.slice none 0 0, .bool false, .int .i64 0] 85)).cell? ⟨w10.heap.size, 1, none⟩ = some (.bool false) := new_cell2 _ _ _ _ _ _ rfl rfl
            have Y_f1 : (w10.alloc (.cells #[.slice none 0 0, .bool false, .int .i64 0] 85)).frozen? ⟨w10.heap.size, 1, none⟩ = false := new_loose2 _ _ _ _ _ rfl
            have Y_2 : (w10.alloc (.cells #[.slice none 0 0, .bool false, .int .i64 0] 85)).cell? ⟨w10.heap.size, 2, none⟩ = some (.int .i64 0) := new_cell2 _ _ _ _ _ _ rfl rfl
            have Y_f2 : (w10.alloc (.cells #[.slice none 0 0, .bool false, .int .i64 0] 85)).frozen? ⟨w10.heap.size, 2, none⟩ = false := new_loose2 _ _ _ _ _ rfl
            clear hHeld
            refine hK.out _ _ ?_ (fun hHeld => ?_)
            · exact ⟨p0, p1, p2, t0, t1, t2⟩
            clear hK KK
            try simp only [Act.put, List.getElem_toArray, List.getElem_cons_succ, List.getElem_cons_zero, List.setIfInBounds_toArray, List.set_cons_zero, List.set_cons_succ]
            generalize w10.alloc (.cells #[.slice none 0 0, .bool false, .int .i64 0] 85) = w12 at *
            refine wpAnyH_ready (rs := [6]) (by kernel_rfl) (by simp) ?_
            refine AllReadyH.cons rfl (fun KK hK => ?_) AllReadyH.nil
            simp only [List.getElem_toArray, List.getElem_cons_succ, List.getElem_cons_zero]
            rw [if_pos (by rfl)]
            go_simp
            clear hHeld
            refine hK.out _ _ ?_ (fun hHeld => ?_)
            · exact ⟨(cell_aside _ (by have := unhide S0; dsimp only; omega) (cell_aside _ (by have := unhide S0; dsimp only; omega) (cell_aside _ (by have := unhide S0; dsimp only; omega) p0))), (cell_aside _ (by have := unhide S0; dsimp only; omega) (cell_aside _ (by have := unhide S0; dsimp only; omega) (cell_aside _ (by have := unhide S0; dsimp only; omega) p1))), (cell_aside _ (by have := unhide S0; dsimp only; omega) (cell_aside _ (by have := unhide S0; dsimp only; omega) (cell_aside _ (by have := unhide S0; dsimp only; omega) p2))), (cell_aside _ (by have := unhide S0; dsimp only; omega) (cell_aside _ (by have := unhide S0; dsimp only; omega) (cell_aside _ (by have := unhide S0; dsimp only; omega) t0))), (cell_aside _ (by have := unhide S0; dsimp only; omega) (cell_aside _ (by have := unhide S0; dsimp only; omega) (cell_aside _ (by have := unhide S0; dsimp only; omega) t1))), (cell_aside _ (by have := unhide S0; dsimp only; omega) (cell_aside _ (by have := unhide S0; dsimp only; omega) (cell_aside _ (by have := unhide S0; dsimp only; omega) t2)))⟩
            clear hK KK
            try simp only [Act.put, List.getElem_toArray, List.getElem_cons_succ, List.getElem_cons_zero, List.setIfInBounds_toArray, List.set_cons_zero, List.set_cons_succ]
            refine wpAnyH_ready (rs := [7]) (by kernel_rfl) (by simp) ?_
            refine AllReadyH.cons rfl (fun KK hK => ?_) AllReadyH.nil
            simp only [List.getElem_toArray, List.getElem_cons_succ, List.getElem_cons_zero]
            rw [if_pos (by rfl)]
            go_simp
            clear hHeld
            refine hK.out _ _ ?_ (fun hHeld => ?_)
            · exact ⟨(cell_aside _ (by have := unhide S0; dsimp only; omega) (cell_aside _ (by have := unhide S0; dsimp only; omega) (cell_aside _ (by have := unhide S0; dsimp only; omega) (cell_aside _ (by have := unhide S0; dsimp only; omega) (cell_aside _ (by have := unhide S0; dsimp only; omega) (cell_aside _ (by have := unhide S0; dsimp only; omega) p0)))))), (cell_aside _ (by have := unhide S0; dsimp only; omega) (cell_aside _ (by have := unhide S0; dsimp only; omega) (cell_aside _ (by have := unhide S0; dsimp only; omega) (cell_aside _ (by have := unhide S0; dsimp only; omega) (cell_aside _ (by have := unhide S0; dsimp only; omega) (cell_aside _ (by have := unhide S0; dsimp only; omega) p1)))))), (cell_aside _ (by have := unhide S0; dsimp only; omega) (cell_aside _ (by have := unhide S0; dsimp only; omega) (cell_aside _ (by have := unhide S0; dsimp only; omega) (cell_aside _ (by have := unhide S0; dsimp only; omega) (cell_aside _ (by have := unhide S0; dsimp only; omega) (cell_aside _ (by have := unhide S0; dsimp only; omega) p2)))))), (cell_aside _ (by have := unhide S0; dsimp only; omega) (cell_aside _ (by have := unhide S0; dsimp only; omega) (cell_aside _ (by have := unhide S0; dsimp only; omega) (cell_aside _ (by have := unhide S0; dsimp only; omega) (cell_aside _ (by have := unhide S0; dsimp only; omega) (cell_aside _ (by have := unhide S0; dsimp only; omega) t0)))))), (cell_aside _ (by have := unhide S0; dsimp only; omega) (cell_aside _ (by have := unhide S0; dsimp only; omega) (cell_aside _ (by have := unhide S0; dsimp only; omega) (cell_aside _ (by have := unhide S0; dsimp only; omega) (cell_aside _ (by have := unhide S0; dsimp only; omega) (cell_aside _ (by have := unhide S0; dsimp only; omega) t1)))))), (cell_aside _ (by have := unhide S0; dsimp only; omega) (cell_aside _ (by have := unhide S0; dsimp only; omega) (cell_aside _ (by have := unhide S0; dsimp only; omega) (cell_aside _ (by have := unhide S0; dsimp only; omega) (cell_aside _ (by have := unhide S0; dsimp only; omega) (cell_aside _ (by have := unhide S0; dsimp only; omega) t2))))))⟩
            clear hK KK
            try simp only [Act.put, List.getElem_toArray, List.getElem_cons_succ, List.getElem_cons_zero, List.setIfInBounds_toArray, List.set_cons_zero, List.set_cons_succ]
            refine wpAnyH_done (by kernel_rfl) ?_ _
            clear hHeld
            go_wp2_with fail
            go_meet
            exact ⟨_, _, rfl, rfl, dya_pair s1 s2 x1 x2 kw o3 o4 X_0 X_1 X_2 X_f0 X_f1 X_f2 Y_0 Y_1 Y_2 Y_f0 Y_f1 Y_f2 (by omega) (by omega) (by omega) (by omega) (by omega) (fun e => by have := l3 _ e; omega) (fun e => by have := l3 _ e; omega) (fun e => by have := l4 _ e; omega) (fun e => by have := l4 _ e; omega) (fun k e1 e2 => by have := l3 _ e1; have := l4 _ e2; omega)⟩
        · simp only [List.getElem_toArray, List.getElem_cons_succ, List.getElem_cons_zero]
          rw [if_pos (by rfl)]
          go_simp
          have kn := (Kept.refl 0 0 w8).alloc (.cells #[.slice none 0 0, .bool false, .int .i64 0] 85)
          replace r1 := r1.kept kn (by omega)
          replace r2 := r2.kept kn (by omega)
          replace kw := kw.trans kn
          replace o3 := own_kept o3 kn
          replace qf0 := kn.loose0 (World.block_lt_of_cell? _ _ q0) qf0
          replace qf1 := kn.loose0 (World.block_lt_of_cell? _ _ q1) qf1
          replace qf2 := kn.loose0 (World.block_lt_of_cell? _ _ q2) qf2
          replace X_f0 := kn.loose0 (World.block_lt_of_cell? _ _ X_0) X_f0
          replace X_f1 := kn.loose0 (World.block_lt_of_cell? _ _ X_1) X_f1
          replace X_f2 := kn.loose0 (World.block_lt_of_cell? _ _ X_2) X_f2
          replace p0 := kn.cell0 p0
          replace p1 := kn.cell0 p1
          replace p2 := kn.cell0 p2
          replace t0 := kn.cell0 t0
          replace t1 := kn.cell0 t1
          replace t2 := kn.cell0 t2
          replace q0 := kn.cell0 q0
          replace q1 := kn.cell0 q1
          replace q2 := kn.cell0 q2
          replace X_0 := kn.cell0 X_0
          replace X_1 := kn.cell0 X_1
          replace X_2 := kn.cell0 X_2
          replace K := hide ((unhide K).trans kn)
          have z11 := kn.size
          clear kn
          have szY_ : w8.heap.size < (w8.alloc (.cells #[.slice none 0 0, .bool false, .int .i64 0] 85)).heap.size := by simp
          have Y_0 : (w8.alloc (.cells #[.slice none 0 0, .bool false, .int .i64 0] 85)).cell? ⟨w8.heap.size, 0, none⟩ = some (.slice none 0 0) := new_cell2 _ _ _ _ _ _ rfl rfl
          have Y_f0 : (w8.alloc (.cells #[.slice none 0 0, .bool false, .int .i64 0] 85)).frozen? ⟨w8.heap.size, 0, none⟩ = false := new_loose2 _ _ _ _ _ rfl
          have Y_1 : (w8.alloc (.cells #[.slice none 0 0, .bool false, .int .i64 0] 85)).cell? ⟨w8.heap.size, 1, none⟩ = some (.bool false) := new_cell2 _ _ _ _ _ _ rfl rfl
          have Y_f1 : (w8.alloc (.cells #[.slice none 0 0, .bool false, .int .i64 0] 85)).frozen? ⟨w8.heap.size, 1, none⟩ = false := new_loose2 _ _ _ _ _ rfl
          have Y_2 : (w8.alloc (.cells #[.slice none 0 0, .bool false, .int .i64 0] 85)).cell? ⟨w8.heap.size, 2, none⟩ = some (.int .i64 0) := new_cell2 _ _ _ _ _ _ rfl rfl
          have Y_f2 : (w8.alloc (.cells #[.slice none 0 0, .bool false, .int .i64 0] 85)).frozen? ⟨w8.heap.size, 2, none⟩ = false := new_loose2 _ _ _ _ _ rfl
          clear hHeld
          refine hK.out _ _ ?_ (fun hHeld => ?_)
          · exact ⟨p0, p1, p2, t0, t1, t2⟩
          clear hK KK
          try simp only [Act.put, List.getElem_toArray, List.getElem_cons_succ, List.getElem_cons_zero, List.setIfInBounds_toArray, List.set_cons_zero, List.set_cons_succ]
          generalize w8.alloc (.cells #[.slice none 0 0, .bool false, .int .i64 0] 85) = w10 at *
          refine wpAnyH_ready (rs := [3]) (by kernel_rfl) (by simp) ?_
          refine AllReadyH.cons rfl (fun KK hK => ?_) AllReadyH.nil
          · simp only [List.getElem_toArray, List.getElem_cons_succ, List.getElem_cons_zero]
            rw [if_pos (by rfl)]
            refine wps1 85 (.tmp 19) _ rfl in_dyadicOf (.agg #[.bool s2, .slice a2 ys.length c2, .int .i64 x2]) rfl (dyadicOf_impl s2 x2 _ r2 my) ?_
            rintro e w12 ⟨v4, rfl, o4, k12⟩
            refine ⟨_, rfl, ?_⟩
            replace r1 := r1.kept k12 (by omega)
            replace r2 := r2.kept k12 (by omega)
            replace kw := kw.trans k12
            replace o3 := own_kept o3 k12
            replace qf0 := k12.loose0 (World.block_lt_of_cell? _ _ q0) qf0
            replace qf1 := k12.loose0 (World.block_lt_of_cell? _ _ q1) qf1
            replace qf2 := k12.loose0 (World.block_lt_of_cell? _ _ q2) qf2
            replace X_f0 := k12.loose0 (World.block_lt_of_cell? _ _ X_0) X_f0
            replace X_f1 := k12.loose0 (World.block_lt_of_cell? _ _ X_1) X_f1
            replace X_f2 := k12.loose0 (World.block_lt_of_cell? _ _ X_2) X_f2
            replace Y_f0 := k12.loose0 (World.block_lt_of_cell? _ _ Y_0) Y_f0
            replace Y_f1 := k12.loose0 (World.block_lt_of_cell? _ _ Y_1) Y_f1
            replace Y_f2 := k12.loose0 (World.block_lt_of_cell? _ _ Y_2) Y_f2
            replace p0 := k12.cell0 p0
            replace p1 := k12.cell0 p1
            replace p2 := k12.cell0 p2
            replace t0 := k12.cell0 t0
            replace t1 := k12.cell0 t1
            replace t2 := k12.cell0 t2
            replace q0 := k12.cell0 q0
            replace q1 := k12.cell0 q1
            replace q2 := k12.cell0 q2
            replace X_0 := k12.cell0 X_0
            replace X_1 := k12.cell0 X_1
            replace X_2 := k12.cell0 X_2
            replace Y_0 := k12.cell0 Y_0
            replace Y_1 := k12.cell0 Y_1
            replace Y_2 := k12.cell0 Y_2
            replace K := hide ((unhide K).trans k12)
            have z13 := k12.size
            clear k12
            have l4 := o4.lt
            obtain ⟨a4, c4, hv⟩ := own_slice o4
            subst hv
            clear hHeld
            refine hK.out _ _ ?_ (fun hHeld => ?_)
            · exact ⟨p0, p1, p2, t0, t1, t2⟩
            clear hK KK
            try simp only [Act.put, List.getElem_toArray, List.getElem_cons_succ, List.getElem_cons_zero, List.setIfInBounds_toArray, List.set_cons_zero, List.set_cons_succ]
            refine wpAnyH_ready (rs := [6]) (by kernel_rfl) (by simp) ?_
            refine AllReadyH.cons rfl (fun KK hK => ?_) AllReadyH.nil
            simp only [List.getElem_toArray, List.getElem_cons_succ, List.getElem_cons_zero]
            rw [if_pos (by rfl)]
            go_simp
            clear hHeld
            refine hK.out _ _ ?_ (fun hHeld => ?_)
            · exact ⟨(cell_aside _ (by have := unhide S0; dsimp only; omega) (cell_aside _ (by have := unhide S0; dsimp only; omega) (cell_aside _ (by have := unhide S0; dsimp only; omega) p0))), (cell_aside _ (by have := unhide S0; dsimp only; omega) (cell_aside _ (by have := unhide S0; dsimp only; omega) (cell_aside _ (by have := unhide S0; dsimp only; omega) p1))), (cell_aside _ (by have := unhide S0; dsimp only; omega) (cell_aside _ (by have := unhide S0; dsimp only; omega) (cell_aside _ (by have := unhide S0; dsimp only; omega) p2))), (cell_aside _ (by have := unhide S0; dsimp only; omega) (cell_aside _ (by have := unhide S0; dsimp only; omega) (cell_aside _ (by have := unhide S0; dsimp only; omega) t0))), (cell_aside _ (by have := unhide S0; dsimp only; omega) (cell_aside _ (by have := unhide S0; dsimp only; omega) (cell_aside _ (by have := unhide S0; dsimp only; omega) t1))), (cell_aside _ (by have := unhide S0; dsimp only; omega) (cell_aside _ (by have := unhide S0; dsimp only; omega) (cell_aside _ (by have := unhide S0; dsimp only; omega) t2)))⟩
            clear hK KK
            try simp only [Act.put, List.getElem_toArray, List.getElem_cons_succ, List.getElem_cons_zero, List.setIfInBounds_toArray, List.set_cons_zero, List.set_cons_succ]
            refine wpAnyH_ready (rs := [7]) (by kernel_rfl) (by simp) ?_
            refine AllReadyH.cons rfl (fun KK hK => ?_) AllReadyH.nil
            simp only [List.getElem_toArray, List.getElem_cons_succ, List.getElem_cons_zero]
            rw [if_pos (by rfl)]
            go_simp
            clear hHeld
            refine hK.out _ _ ?_ (fun hHeld => ?_)
            · exact ⟨(cell_aside _ (by have := unhide S0; dsimp only; omega) (cell_aside _ (by have := unhide S0; dsimp only; omega) (cell_aside _ (by have := unhide S0; dsimp only; omega) (cell_aside _ (by have := unhide S0; dsimp only; omega) (cell_aside _ (by have := unhide S0; dsimp only; omega) (cell_aside _ (by have := unhide S0; dsimp only; omega) p0)))))), (cell_aside _ (by have := unhide S0; dsimp only; omega) (cell_aside _ (by have := unhide S0; dsimp only; omega) (cell_aside _ (by have := unhide S0; dsimp only; omega) (cell_aside _ (by have := unhide S0; dsimp only; omega) (cell_aside _ (by have := unhide S0; dsimp only; omega) (cell_aside _ (by have := unhide S0; dsimp only; omega) p1)))))), (cell_aside _ (by have := unhide S0; dsimp only; omega) (cell_aside _ (by have := unhide S0; dsimp only; omega) (cell_aside _ (by have := unhide S0; dsimp only; omega) (cell_aside _ (by have := unhide S0; dsimp only; omega) (cell_aside _ (by have := unhide S0; dsimp only; omega) (cell_aside _ (by have := unhide S0; dsimp only; omega) p2)))))), (cell_aside _ (by have := unhide S0; dsimp only; omega) (cell_aside _ (by have := unhide S0; dsimp only; omega) (cell_aside _ (by have := unhide S0; dsimp only; omega) (cell_aside _ (by have := unhide S0; dsimp only; omega) (cell_aside _ (by have := unhide S0; dsimp only; omega) (cell_aside _ (by have := unhide S0; dsimp only; omega) t0)))))), (cell_aside _ (by have := unhide S0; dsimp only; omega) (cell_aside _ (by have := unhide S0; dsimp only; omega) (cell_aside _ (by have := unhide S0; dsimp only; omega) (cell_aside _ (by have := unhide S0; dsimp only; omega) (cell_aside _ (by have := unhide S0; dsimp only; omega) (cell_aside _ (by have := unhide S0; dsimp only; omega) t1)))))), (cell_aside _ (by have := unhide S0; dsimp only; omega) (cell_aside _ (by have := unhide S0; dsimp only; omega) (cell_aside _ (by have := unhide S0; dsimp only; omega) (cell_aside _ (by have := unhide S0; dsimp only; omega) (cell_aside _ (by have := unhide S0; dsimp only; omega) (cell_aside _ (by have := unhide S0; dsimp only; omega) t2))))))⟩
            clear hK KK
            try simp only [Act.put, List.getElem_toArray, List.getElem_cons_succ, List.getElem_cons_zero, List.setIfInBounds_toArray, List.set_cons_zero, List.set_cons_succ]
            refine wpAnyH_done (by kernel_rfl) ?_ _
            clear hHeld
            go_wp2_with fail
            go_meet
            exact ⟨_, _, rfl, rfl, dya_pair s1 s2 x1 x2 kw o3 o4 X_0 X_1 X_2 X_f0 X_f1 X_f2 Y_0 Y_1 Y_2 Y_f0 Y_f1 Y_f2 (by omega) (by omega) (by omega) (by omega) (by omega) (fun e => by have := l3 _ e; omega) (fun e => by have := l3 _ e; omega) (fun e => by have := l4 _ e; omega) (fun e => by have := l4 _ e; omega) (fun k e1 e2 => by have := l3 _ e1; have := l4 _ e2; omega)⟩
      · simp only [List.getElem_toArray, List.getElem_cons_succ, List.getElem_cons_zero]
        rw [if_pos (by rfl)]
        go_simp
        have kn := (Kept.refl 0 0 w6).alloc (.cells #[.slice none 0 0, .bool false, .int .i64 0] 85)
        replace r1 := r1.kept kn (by omega)
        replace r2 := r2.kept kn (by omega)
        replace kw := kw.trans kn
        replace qf0 := kn.loose0 (World.block_lt_of_cell? _ _ q0) qf0
        replace qf1 := kn.loose0 (World.block_lt_of_cell? _ _ q1) qf1
        replace qf2 := kn.loose0 (World.block_lt_of_cell? _ _ q2) qf2
        replace X_f0 := kn.loose0 (World.block_lt_of_cell? _ _ X_0) X_f0
        replace X_f1 := kn.loose0 (World.block_lt_of_cell? _ _ X_1) X_f1
        replace X_f2 := kn.loose0 (World.block_lt_of_cell? _ _ X_2) X_f2
        replace p0 := kn.cell0 p0
        replace p1 := kn.cell0 p1
        replace p2 := kn.cell0 p2
        replace t0 := kn.cell0 t0
        replace t1 := kn.cell0 t1
        replace t2 := kn.cell0 t2
        replace q0 := kn.cell0 q0
        replace q1 := kn.cell0 q1
        replace q2 := kn.cell0 q2
        replace X_0 := kn.cell0 X_0
        replace X_1 := kn.cell0 X_1
        replace X_2 := kn.cell0 X_2
        replace K := hide ((unhide K).trans kn)
        have z9 := kn.size
        clear kn
        have szY_ : w6.heap.size < (w6.alloc (.cells #[.slice none 0 0, .bool false, .int .i64 0] 85)).heap.size := by simp
        have Y_0 : (w6.alloc (.cells #[.slice none 0 0, .bool false, .int .i64 0] 85)).cell? ⟨w6.heap.size, 0, none⟩ = some (.slice none 0 0) := new_cell2 _ _ _ _ _ _ rfl rfl
        have Y_f0 : (w6.alloc (.cells #[.slice none 0 0, .bool false, .int .i64 0] 85)).frozen? ⟨w6.heap.size, 0, none⟩ = false := new_loose2 _ _ _ _ _ rfl
        have Y_1 : (w6.alloc (.cells #[.slice none 0 0, .bool false, .int .i64 0] 85)).cell? ⟨w6.heap.size, 1, none⟩ = some (.bool false) := new_cell2 _ _ _ _ _ _ rfl rfl
        have Y_f1 : (w6.alloc (.cells #[.slice none 0 0, .bool false, .int .i64 0] 85)).frozen? ⟨w6.heap.size, 1, none⟩ = false := new_loose2 _ _ _ _ _ rfl
        have Y_2 : (w6.alloc (.cells #[.slice none 0 0, .bool false, .int .i64 0] 85)).cell? ⟨w6.heap.size, 2, none⟩ = some (.int .i64 0) := new_cell2 _ _ _ _ _ _ rfl rfl
        have Y_f2 : (w6.alloc (.cells #[.slice none 0 0, .bool false, .int .i64 0] 85)).frozen? ⟨w6.heap.size, 2, none⟩ = false := new_loose2 _ _ _ _ _ rfl
        clear hHeld
        refine hK.out _ _ ?_ (fun hHeld => ?_)
        · exact ⟨p0, p1, p2, t0, t1, t2⟩
        clear hK KK
        try simp only [Act.put, List.getElem_toArray, List.getElem_cons_succ, List.getElem_cons_zero, List.setIfInBounds_toArray, List.set_cons_zero, List.set_cons_succ]
        generalize w6.alloc (.cells #[.slice none 0 0, .bool false, .int .i64 0] 85) = w8 at *
        refine wpAnyH_ready (rs := [1]) (by kernel_rfl) (by simp) ?_
        refine AllReadyH.cons rfl (fun KK hK => ?_) AllReadyH.nil
        · simp only [List.getElem_toArray, List.getElem_cons_succ, List.getElem_cons_zero]
          rw [if_pos (by rfl)]
          refine wps1 85 (.tmp 17) _ rfl in_dyadicOf (.agg #[.bool s1, .slice a1 xs.length c1, .int .i64 x1]) rfl (dyadicOf_impl s1 x1 _ r1 mx) ?_
          rintro e w10 ⟨v3, rfl, o3, k10⟩
          refine ⟨_, rfl, ?_⟩
          replace r1 := r1.kept k10 (by omega)
          replace r2 := r2.kept k10 (by omega)
          replace kw := kw.trans k10
          replace qf0 := k10.loose0 (World.block_lt_of_cell? _ _ q0) qf0
          replace qf1 := k10.loose0 (World.block_lt_of_cell? _ _ q1) qf1
          replace qf2 := k10.loose0 (World.block_lt_of_cell? _ _ q2) qf2
          replace X_f0 := k10.loose0 (World.block_lt_of_cell? _ _ X_0) X_f0
          replace X_f1 := k10.loose0 (World.block_lt_of_cell? _ _ X_1) X_f1
          replace X_f2 := k10.loose0 (World.block_lt_of_cell? _ _ X_2) X_f2
          replace Y_f0 := k10.loose0 (World.block_lt_of_cell? _ _ Y_0) Y_f0
          replace Y_f1 := k10.loose0 (World.block_lt_of_cell? _ _ Y_1) Y_f1
          replace Y_f2 := k10.loose0 (World.block_lt_of_cell? _ _ Y_2) Y_f2
          replace p0 := k10.cell0 p0
          replace p1 := k10.cell0 p1
          replace p2 := k10.cell0 p2
          replace t0 := k10.cell0 t0
          replace t1 := k10.cell0 t1
          replace t2 := k10.cell0 t2
          replace q0 := k10.cell0 q0
          replace q1 := k10.cell0 q1
          replace q2 := k10.cell0 q2
          replace X_0 := k10.cell0 X_0
          replace X_1 := k10.cell0 X_1
          replace X_2 := k10.cell0 X_2
          replace Y_0 := k10.cell0 Y_0
          replace Y_1 := k10.cell0 Y_1
          replace Y_2 := k10.cell0 Y_2
          replace K := hide ((unhide K).trans k10)
          have z11 := k10.size
          clear k10
          have l3 := o3.lt
          obtain ⟨a3, c3, hv⟩ := own_slice o3
          subst hv
          clear hHeld
          refine hK.out _ _ ?_ (fun hHeld => ?_)
          · exact ⟨p0, p1, p2, t0, t1, t2⟩
          clear hK KK
          try simp only [Act.put, List.getElem_toArray, List.getElem_cons_succ, List.getElem_cons_zero, List.setIfInBounds_toArray, List.set_cons_zero, List.set_cons_succ]
          refine wpAnyH_ready (rs := [3]) (by kernel_rfl) (by simp) ?_
          refine AllReadyH.cons rfl (fun KK hK => ?_) AllReadyH.nil
          · simp only [List.getElem_toArray, List.getElem_cons_succ, List.getElem_cons_zero]
            rw [if_pos (by rfl)]
            refine wps1 85 (.tmp 19) _ rfl in_dyadicOf (.agg #[.bool s2, .slice a2 ys.length c2, .int .i64 x2]) rfl (dyadicOf_impl s2 x2 _ r2 my) ?_
            rintro e w12 ⟨v4, rfl, o4, k12⟩
            refine ⟨_, rfl, ?_⟩
            replace r1 := r1.kept k12 (by omega)
            replace r2 := r2.kept k12 (by omega)
            replace kw := kw.trans k12
            replace o3 := own_kept o3 k12
            replace qf0 := k12.loose0 (World.block_lt_of_cell? _ _ q0) qf0
            replace qf1 := k12.loose0 (World.block_lt_of_cell? _ _ q1) qf1
            replace qf2 := k12.loose0 (World.block_lt_of_cell? _ _ q2) qf2
            replace X_f0 := k12.loose0 (World.block_lt_of_cell? _ _ X_0) X_f0
            replace X_f1 := k12.loose0 (World.block_lt_of_cell? _ _ X_1) X_f1
            replace X_f2 := k12.loose0 (World.block_lt_of_cell? _ _ X_2) X_f2
            replace Y_f0 := k12.loose0 (World.block_lt_of_cell? _ _ Y_0) Y_f0
            replace Y_f1 := k12.loose0 (World.block_lt_of_cell? _ _ Y_1) Y_f1
            replace Y_f2 := k12.loose0 (World.block_lt_of_cell? _ _ Y_2) Y_f2
            replace p0 := k12.cell0 p0
            replace p1 := k12.cell0 p1
            replace p2 := k12.cell0 p2
            replace t0 := k12.cell0 t0
            replace t1 := k12.cell0 t1
            replace t2 := k12.cell0 t2
            replace q0 := k12.cell0 q0
            replace q1 := k12.cell0 q1
            replace q2 := k12.cell0 q2
            replace X_0 := k12.cell0 X_0
            replace X_1 := k12.cell0 X_1
            replace X_2 := k12.cell0 X_2
            replace Y_0 := k12.cell0 Y_0
            replace Y_1 := k12.cell0 Y_1
            replace Y_2 := k12.cell0 Y_2
            replace K := hide ((unhide K).trans k12)
            have z13 := k12.size
            clear k12
            have l4 := o4.lt
            obtain ⟨a4, c4, hv⟩ := own_slice o4
            subst hv
            clear hHeld
            refine hK.out _ _ ?_ (fun hHeld => ?_)
            · exact ⟨p0, p1, p2, t0, t1, t2⟩
            clear hK KK
            try simp only [Act.put, List.getElem_toArray, List.getElem_cons_succ, List.getElem_cons_zero, List.setIfInBounds_toArray, List.set_cons_zero, List.set_cons_succ]
            refine wpAnyH_ready (rs := [6]) (by kernel_rfl) (by simp) ?_
            refine AllReadyH.cons rfl (fun KK hK => ?_) AllReadyH.nil
            simp only [List.getElem_toArray, List.getElem_cons_succ, List.getElem_cons_zero]
            rw [if_pos (by rfl)]
            go_simp
            clear hHeld
            refine hK.out _ _ ?_ (fun hHeld => ?_)
            · exact ⟨(cell_aside _ (by have := unhide S0; dsimp only; omega) (cell_aside _ (by have := unhide S0; dsimp only; omega) (cell_aside _ (by have := unhide S0; dsimp only; omega) p0))), (cell_aside _ (by have := unhide S0; dsimp only; omega) (cell_aside _ (by have := unhide S0; dsimp only; omega) (cell_aside _ (by have := unhide S0; dsimp only; omega) p1))), (cell_aside _ (by have := unhide S0; dsimp only; omega) (cell_aside _ (by have := unhide S0; dsimp only; omega) (cell_aside _ (by have := unhide S0; dsimp only; omega) p2))), (cell_aside _ (by have := unhide S0; dsimp only; omega) (cell_aside _ (by have := unhide S0; dsimp only; omega) (cell_aside _ (by have := unhide S0; dsimp only; omega) t0))), (cell_aside _ (by have := unhide S0; dsimp only; omega) (cell_aside _ (by have := unhide S0; dsimp only; omega) (cell_aside _ (by have := unhide S0; dsimp only; omega) t1))), (cell_aside _ (by have := unhide S0; dsimp only; omega) (cell_aside _ (by have := unhide S0; dsimp only; omega) (cell_aside _ (by have := unhide S0; dsimp only; omega) t2)))⟩
            clear hK KK
            try simp only [Act.put, List.getElem_toArray, List.getElem_cons_succ, List.getElem_cons_zero, List.setIfInBounds_toArray, List.set_cons_zero, List.set_cons_succ]
            refine wpAnyH_ready (rs := [7]) (by kernel_rfl) (by simp) ?_
            refine AllReadyH.cons rfl (fun KK hK => ?_) AllReadyH.nil
            simp only [List.getElem_toArray, List.getElem_cons_succ, List.getElem_cons_zero]
            rw [if_pos (by rfl)]
            go_simp
            clear hHeld
            refine hK.out _ _ ?_ (fun hHeld => ?_)
            · exact ⟨(cell_aside _ (by have := unhide S0; dsimp only; omega) (cell_aside _ (by have := unhide S0; dsimp only; omega) (cell_aside _ (by have := unhide S0; dsimp only; omega) (cell_aside _ (by have := unhide S0; dsimp only; omega) (cell_aside _ (by have := unhide S0; dsimp only; omega) (cell_aside _ (by have := unhide S0; dsimp only; omega) p0)))))), (cell_aside _ (by have := unhide S0; dsimp only; omega) (cell_aside _ (by have := unhide S0; dsimp only; omega) (cell_aside _ (by have := unhide S0; dsimp only; omega) (cell_aside _ (by have := unhide S0; dsimp only; omega) (cell_aside _ (by have := unhide S0; dsimp only; omega) (cell_aside _ (by have := unhide S0; dsimp only; omega) p1)))))), (cell_aside _ (by have := unhide S0; dsimp only; omega) (cell_aside _ (by have := unhide S0; dsimp only; omega) (cell_aside _ (by have := unhide S0; dsimp only; omega) (cell_aside _ (by have := unhide S0; dsimp only; omega) (cell_aside _ (by have := unhide S0; dsimp only; omega) (cell_aside _ (by have := unhide S0; dsimp only; omega) p2)))))), (cell_aside _ (by have := unhide S0; dsimp only; omega) (cell_aside _ (by have := unhide S0; dsimp only; omega) (cell_aside _ (by have := unhide S0; dsimp only; omega) (cell_aside _ (by have := unhide S0; dsimp only; omega) (cell_aside _ (by have := unhide S0; dsimp only; omega) (cell_aside _ (by have := unhide S0; dsimp only; omega) t0)))))), (cell_aside _ (by have := unhide S0; dsimp only; omega) (cell_aside _ (by have := unhide S0; dsimp only; omega) (cell_aside _ (by have := unhide S0; dsimp only; omega) (cell_aside _ (by have := unhide S0; dsimp only; omega) (cell_aside _ (by have := unhide S0; dsimp only; omega) (cell_aside _ (by have := unhide S0; dsimp only; omega) t1)))))), (cell_aside _ (by have := unhide S0; dsimp only; omega) (cell_aside _ (by have := unhide S0; dsimp only; omega) (cell_aside _ (by have := unhide S0; dsimp only; omega) (cell_aside _ (by have := unhide S0; dsimp only; omega) (cell_aside _ (by have := unhide S0; dsimp only; omega) (cell_aside _ (by have := unhide S0; dsimp only; omega) t2))))))⟩
            clear hK KK
            try simp only [Act.put, List.getElem_toArray, List.getElem_cons_succ, List.getElem_cons_zero, List.setIfInBounds_toArray, List.set_cons_zero, List.set_cons_succ]
            refine wpAnyH_done (by kernel_rfl) ?_ _
            clear hHeld
            go_wp2_with fail
            go_meet
            exact ⟨_, _, rfl, rfl, dya_pair s1 s2 x1 x2 kw o3 o4 X_0 X_1 X_2 X_f0 X_f1 X_f2 Y_0 Y_1 Y_2 Y_f0 Y_f1 Y_f2 (by omega) (by omega) (by omega) (by omega) (by omega) (fun e => by have := l3 _ e; omega) (fun e => by have := l3 _ e; omega) (fun e => by have := l4 _ e; omega) (fun e => by have := l4 _ e; omega) (fun k e1 e2 => by have := l3 _ e1; have := l4 _ e2; omega)⟩
    · simp only [List.getElem_toArray, List.getElem_cons_succ, List.getElem_cons_zero]
      rw [if_pos (by rfl)]
      go_simp
      have kn := (Kept.refl 0 0 wd).alloc (.cells #[.slice none 0 0, .bool false, .int .i64 0] 85)
      replace r1 := r1.kept kn (by omega)
      replace r2 := r2.kept kn (by omega)
      replace kw := kw.trans kn
      replace qf0 := kn.loose0 (World.block_lt_of_cell? _ _ q0) qf0
      replace qf1 := kn.loose0 (World.block_lt_of_cell? _ _ q1) qf1
      replace qf2 := kn.loose0 (World.block_lt_of_cell? _ _ q2) qf2
      replace p0 := kn.cell0 p0
      replace p1 := kn.cell0 p1
      replace p2 := kn.cell0 p2
      replace t0 := kn.cell0 t0
      replace t1 := kn.cell0 t1
      replace t2 := kn.cell0 t2
      replace q0 := kn.cell0 q0
      replace q1 := kn.cell0 q1
      replace q2 := kn.cell0 q2
      replace K := hide ((unhide K).trans kn)
      have z7 := kn.size
      clear kn
      have szY_ : wd.heap.size < (wd.alloc (.cells #[.slice none 0 0, .bool false, .int .i64 0] 85)).heap.size := by simp
      have Y_0 : (wd.alloc (.cells #[.slice none 0 0, .bool false, .int .i64 0] 85)).cell? ⟨wd.heap.size, 0, none⟩ = some (.slice none 0 0) := new_cell2 _ _ _ _ _ _ rfl rfl
      have Y_f0 : (wd.alloc (.cells #[.slice none 0 0, .bool false, .int .i64 0] 85)).frozen? ⟨wd.heap.size, 0, none⟩ = false := new_loose2 _ _ _ _ _ rfl
      have Y_1 : (wd.alloc (.cells #[.slice none 0 0, .bool false, .int .i64 0] 85)).cell? ⟨wd.heap.size, 1, none⟩ = some (.bool false) := new_cell2 _ _ _ _ _ _ rfl rfl
      have Y_f1 : (wd.alloc (.cells #[.slice none 0 0, .bool false, .int .i64 0] 85)).frozen? ⟨wd.heap.size, 1, none⟩ = false := new_loose2 _ _ _ _ _ rfl
      have Y_2 : (wd.alloc (.cells #[.slice none 0 0, .bool false, .int .i64 0] 85)).cell? ⟨wd.heap.size, 2, none⟩ = some (.int .i64 0) := new_cell2 _ _ _ _ _ _ rfl rfl
      have Y_f2 : (wd.alloc (.cells #[.slice none 0 0, .bool false, .int .i64 0] 85)).frozen? ⟨wd.heap.size, 2, none⟩ = false := new_loose2 _ _ _ _ _ rfl
      clear hHeld
      refine hK.out _ _ ?_ (fun hHeld => ?_)
      · exact ⟨p0, p1, p2, t0, t1, t2⟩
      clear hK KK
      try simp only [Act.put, List.getElem_toArray, List.getElem_cons_succ, List.getElem_cons_zero, List.setIfInBounds_toArray, List.set_cons_zero, List.set_cons_succ]
      generalize wd.alloc (.cells #[.slice none 0 0, .bool false, .int .i64 0] 85) = w6 at *
      refine wpAnyH_ready (rs := [1, 4]) (by kernel_rfl) (by simp) ?_
      refine AllReadyH.cons rfl (fun KK hK => ?_) (AllReadyH.cons rfl (fun KK hK => ?_) AllReadyH.nil)
      · simp only [List.getElem_toArray, List.getElem_cons_succ, List.getElem_cons_zero]
        rw [if_pos (by rfl)]
        refine wps1 85 (.tmp 17) _ rfl in_dyadicOf (.agg #[.bool s1, .slice a1 xs.length c1, .int .i64 x1]) rfl (dyadicOf_impl s1 x1 _ r1 mx) ?_
        rintro e w8 ⟨v3, rfl, o3, k8⟩
        refine ⟨_, rfl, ?_⟩
        replace r1 := r1.kept k8 (by omega)
        replace r2 := r2.kept k8 (by omega)
        replace kw := kw.trans k8
        replace qf0 := k8.loose0 (World.block_lt_of_cell? _ _ q0) qf0
        replace qf1 := k8.loose0 (World.block_lt_of_cell? _ _ q1) qf1
        replace qf2 := k8.loose0 (World.block_lt_of_cell? _ _ q2) qf2
        replace Y_f0 := k8.loose0 (World.block_lt_of_cell? _ _ Y_0) Y_f0
        replace Y_f1 := k8.loose0 (World.block_lt_of_cell? _ _ Y_1) Y_f1
        replace Y_f2 := k8.loose0 (World.block_lt_of_cell? _ _ Y_2) Y_f2
        replace p0 := k8.cell0 p0
        replace p1 := k8.cell0 p1
        replace p2 := k8.cell0 p2
        replace t0 := k8.cell0 t0
        replace t1 := k8.cell0 t1
        replace t2 := k8.cell0 t2
        replace q0 := k8.cell0 q0
        replace q1 := k8.cell0 q1
        replace q2 := k8.cell0 q2
        replace Y_0 := k8.cell0 Y_0
        replace Y_1 := k8.cell0 Y_1
        replace Y_2 := k8.cell0 Y_2
        replace K := hide ((unhide K).trans k8)
        have z9 := k8.size
        clear k8
        have l3 := o3.lt
        obtain ⟨a3, c3, hv⟩ := own_slice o3
        subst hv
        clear hHeld
        refine hK.out _ _ ?_ (fun hHeld => ?_)
        · exact ⟨p0, p1, p2, t0, t1, t2⟩
        clear hK KK
        try simp only [Act.put, List.getElem_toArray, List.getElem_cons_succ, List.getElem_cons_zero, List.setIfInBounds_toArray, List.set_cons_zero, List.set_cons_succ]
        refine wpAnyH_ready (rs := [3, 4]) (by kernel_rfl) (by simp) ?_
        refine AllReadyH.cons rfl (fun KK hK => ?_) (AllReadyH.cons rfl (fun KK hK => ?_) AllReadyH.nil)
        · simp only [List.getElem_toArray, List.getElem_cons_succ, List.getElem_cons_zero]
          rw [if_pos (by rfl)]
          refine wps1 85 (.tmp 19) _ rfl in_dyadicOf (.agg #[.bool s2, .slice a2 ys.length c2, .int .i64 x2]) rfl (dyadicOf_impl s2 x2 _ r2 my) ?_
          rintro e w10 ⟨v4, rfl, o4, k10⟩
          refine ⟨_, rfl, ?_⟩
          replace r1 := r1.kept k10 (by omega)
          replace r2 := r2.kept k10 (by omega)
          replace kw := kw.trans k10
          replace o3 := own_kept o3 k10
          replace qf0 := k10.loose0 (World.block_lt_of_cell? _ _ q0) qf0
          replace qf1 := k10.loose0 (World.block_lt_of_cell? _ _ q1) qf1
          replace qf2 := k10.loose0 (World.block_lt_of_cell? _ _ q2) qf2
          replace Y_f0 := k10.loose0 (World.block_lt_of_cell? _ _ Y_0) Y_f0
          replace Y_f1 := k10.loose0 (World.block_lt_of_cell? _ _ Y_1) Y_f1
          replace Y_f2 := k10.loose0 (World.block_lt_of_cell? _ _ Y_2) Y_f2
          replace p0 := k10.cell0 p0
          replace p1 := k10.cell0 p1
          replace p2 := k10.cell0 p2
          replace t0 := k10.cell0 t0
          replace t1 := k10.cell0 t1
          replace t2 := k10.cell0 t2
          replace q0 := k10.cell0 q0
          replace q1 := k10.cell0 q1
          replace q2 := k10.cell0 q2
          replace Y_0 := k10.cell0 Y_0
          replace Y_1 := k10.cell0 Y_1
          replace Y_2 := k10.cell0 Y_2
          replace K := hide ((unhide K).trans k10)
          have z11 := k10.size
          clear k10
          have l4 := o4.lt
          obtain ⟨a4, c4, hv⟩ := own_slice o4
          subst hv
          clear hHeld
          refine hK.out _ _ ?_ (fun hHeld => ?_)
          · exact ⟨p0, p1, p2, t0, t1, t2⟩
          clear hK KK
          try simp only [Act.put, List.getElem_toArray, List.getElem_cons_succ, List.getElem_cons_zero, List.setIfInBounds_toArray, List.set_cons_zero, List.set_cons_succ]
          refine wpAnyH_ready (rs := [4]) (by kernel_rfl) (by simp) ?_
          refine AllReadyH.cons rfl (fun KK hK => ?_) AllReadyH.nil
          · simp only [List.getElem_toArray, List.getElem_cons_succ, List.getElem_cons_zero]
            rw [if_pos (by rfl)]
            go_simp
            have kn := (Kept.refl 0 0 w10).alloc (.cells #[.slice none 0 0, .bool false, .int .i64 0] 85)
            replace r1 := r1.kept kn (by omega)
            replace r2 := r2.kept kn (by omega)
            replace kw := kw.trans kn
            replace o3 := own_kept o3 kn
            replace o4 := own_kept o4 kn
            replace qf0 := kn.loose0 (World.block_lt_of_cell? _ _ q0) qf0
            replace qf1 := kn.loose0 (World.block_lt_of_cell? _ _ q1) qf1
            replace qf2 := kn.loose0 (World.block_lt_of_cell? _ _ q2) qf2
            replace Y_f0 := kn.loose0 (World.block_lt_of_cell? _ _ Y_0) Y_f0
            replace Y_f1 := kn.loose0 (World.block_lt_of_cell? _ _ Y_1) Y_f1
            replace Y_f2 := kn.loose0 (World.block_lt_of_cell? _ _ Y_2) Y_f2
            replace p0 := kn.cell0 p0
            replace p1 := kn.cell0 p1
            replace p2 := kn.cell0 p2
            replace t0 := kn.cell0 t0
            replace t1 := kn.cell0 t1
            replace t2 := kn.cell0 t2
            replace q0 := kn.cell0 q0
            replace q1 := kn.cell0 q1
            replace q2 := kn.cell0 q2
            replace Y_0 := kn.cell0 Y_0
            replace Y_1 := kn.cell0 Y_1
            replace Y_2 := kn.cell0 Y_2
            replace K := hide ((unhide K).trans kn)
            have z13 := kn.size
            clear kn
            have szX_ : w10.heap.size < (w10.alloc (.cells #[.slice none 0 0, .bool false, .int .i64 0] 85)).heap.size := by simp
            have X_0 : (w10.alloc (.cells #[.slice none 0 0, .bool false, .int .i64 0] 85)).cell? ⟨w10.heap.size, 0, none⟩ = some (.slice none 0 0) := new_cell2 _ _ _ _ _ _ rfl rfl
            have X_f0 : (w10.alloc (.cells #[.slice none 0 0, .bool false, .int .i64 0] 85)).frozen? ⟨w10.heap.size, 0, none⟩ = false := new_loose2 _ _ _ _ _ rfl
            have X_1 : (w10.alloc (.cells #[.slice none 0 0, .bool false, .int .i64 0] 85)).cell? ⟨w10.heap.size, 1, none⟩ = some (.bool false) := new_cell2 _ _ _ _ _ _ rfl rfl
            have X_f1 : (w10.alloc (.cells #[.slice none 0 0, .bool false, .int .i64 0] 85)).frozen? ⟨w10.heap.size, 1, none⟩ = false := new_loose2 _ _ _ _ _ rfl
            have X_2 : (w10.alloc (.cells #[.slice none 0 0, .bool false, .int .i64 0] 85)).cell? ⟨w10.heap.size, 2, none⟩ = some (.int .i64 0) := new_cell2 _ _ _ _ _ _ rfl rfl
            have X_f2 : (w10.alloc (.cells #[.slice none 0 0, .bool false, .int .i64 0] 85)).frozen? ⟨w10.heap.size, 2, none⟩ = false := new_loose2 _ _ _ _ _ rfl
            clear hHeld
            refine hK.out _ _ ?_ (fun hHeld => ?_)
            · exact ⟨p0, p1, p2, t0, t1, t2⟩
            clear hK KK
            try simp only [Act.put, List.getElem_toArray, List.getElem_cons_succ, List.getElem_cons_zero, List.setIfInBounds_toArray, List.set_cons_zero, List.set_cons_succ]
            generalize w10.alloc (.cells #[.slice none 0 0, .bool false, .int .i64 0] 85) = w12 at *
            refine wpAnyH_ready (rs := [6]) (by kernel_rfl) (by simp) ?_
            refine AllReadyH.cons rfl (fun KK hK => ?_) AllReadyH.nil
            simp only [List.getElem_toArray, List.getElem_cons_succ, List.getElem_cons_zero]
            rw [if_pos (by rfl)]
            go_simp
            clear hHeld
            refine hK.out _ _ ?_ (fun hHeld => ?_)
            · exact ⟨(cell_aside _ (by have := unhide S0; dsimp only; omega) (cell_aside _ (by have := unhide S0; dsimp only; omega) (cell_aside _ (by have := unhide S0; dsimp only; omega) p0))), (cell_aside _ (by have := unhide S0; dsimp only; omega) (cell_aside _ (by have := unhide S0; dsimp only; omega) (cell_aside _ (by have := unhide S0; dsimp only; omega) p1))), (cell_aside _ (by have := unhide S0; dsimp only; omega) (cell_aside _ (by have := unhide S0; dsimp only; omega) (cell_aside _ (by have := unhide S0; dsimp only; omega) p2))), (cell_aside _ (by have := unhide S0; dsimp only; omega) (cell_aside _ (by have := unhide S0; dsimp only; omega) (cell_aside _ (by have := unhide S0; dsimp only; omega) t0))), (cell_aside _ (by have := unhide S0; dsimp only; omega) (cell_aside _ (by have := unhide S0; dsimp only; omega) (cell_aside _ (by have := unhide S0; dsimp only; omega) t1))), (cell_aside _ (by have := unhide S0; dsimp only; omega) (cell_aside _ (by have := unhide S0; dsimp only; omega) (cell_aside _ (by have := unhide S0; dsimp only; omega) t2)))⟩
            clear hK KK
            try simp only [Act.put, List.getElem_toArray, List.getElem_cons_succ, List.getElem_cons_zero, List.setIfInBounds_toArray, List.set_cons_zero, List.set_cons_succ]
            refine wpAnyH_ready (rs := [7]) (by kernel_rfl) (by simp) ?_
            refine AllReadyH.cons rfl (fun KK hK => ?_) AllReadyH.nil
            simp only [List.getElem_toArray, List.getElem_cons_succ, List.getElem_cons_zero]
            rw [if_pos (by rfl)]
            go_simp
            clear hHeld
            refine hK.out _ _ ?_ (fun hHeld => ?_)
            · exact ⟨(cell_aside _ (by have := unhide S0; dsimp only; omega) (cell_aside _ (by have := unhide S0; dsimp only; omega) (cell_aside _ (by have := unhide S0; dsimp only; omega) (cell_aside _ (by have := unhide S0; dsimp only; omega) (cell_aside _ (by have := unhide S0; dsimp only; omega) (cell_aside _ (by have := unhide S0; dsimp only; omega) p0)))))), (cell_aside _ (by have := unhide S0; dsimp only; omega) (cell_aside _ (by have := unhide S0; dsimp only; omega) (cell_aside _ (by have := unhide S0; dsimp only; omega) (cell_aside _ (by have := unhide S0; dsimp only; omega) (cell_aside _ (by have := unhide S0; dsimp only; omega) (cell_aside _ (by have := unhide S0; dsimp only; omega) p1)))))), (cell_aside _ (by have := unhide S0; dsimp only; omega) (cell_aside _ (by have := unhide S0; dsimp only; omega) (cell_aside _ (by have := unhide S0; dsimp only; omega) (cell_aside _ (by have := unhide S0; dsimp only; omega) (cell_aside _ (by have := unhide S0; dsimp only; omega) (cell_aside _ (by have := unhide S0; dsimp only; omega) p2)))))), (cell_aside _ (by have := unhide S0; dsimp only; omega) (cell_aside _ (by have := unhide S0; dsimp only; omega) (cell_aside _ (by have := unhide S0; dsimp only; omega) (cell_aside _ (by have := unhide S0; dsimp only; omega) (cell_aside _ (by have := unhide S0; dsimp only; omega) (cell_aside _ (by have := unhide S0; dsimp only; omega) t0)))))), (cell_aside _ (by have := unhide S0; dsimp only; omega) (cell_aside _ (by have := unhide S0; dsimp only; omega) (cell_aside _ (by have := unhide S0; dsimp only; omega) (cell_aside _ (by have := unhide S0; dsimp only; omega) (cell_aside _ (by have := unhide S0; dsimp only; omega) (cell_aside _ (by have := unhide S0; dsimp only; omega) t1)))))), (cell_aside _ (by have := unhide S0; dsimp only; omega) (cell_aside _ (by have := unhide S0; dsimp only; omega) (cell_aside _ (by have := unhide S0; dsimp only; omega) (cell_aside _ (by have := unhide S0; dsimp only; omega) (cell_aside _ (by have := unhide S0; dsimp only; omega) (cell_aside _ (by have := unhide S0; dsimp only; omega) t2))))))⟩
            clear hK KK
            try simp only [Act.put, List.getElem_toArray, List.getElem_cons_succ, List.getElem_cons_zero, List.setIfInBounds_toArray, List.set_cons_zero, List.set_cons_succ]
            refine wpAnyH_done (by kernel_rfl) ?_ _
            clear hHeld
            go_wp2_with fail
            go_meet
            exact ⟨_, _, rfl, rfl, dya_pair s1 s2 x1 x2 kw o3 o4 X_0 X_1 X_2 X_f0 X_f1 X_f2 Y_0 Y_1 Y_2 Y_f0 Y_f1 Y_f2 (by omega) (by omega) (by omega) (by omega) (by omega) (fun e => by have := l3 _ e; omega) (fun e => by have := l3 _ e; omega) (fun e => by have := l4 _ e; omega) (fun e => by have := l4 _ e; omega) (fun k e1 e2 => by have := l3 _ e1; have := l4 _ e2; omega)⟩
        · simp only [List.getElem_toArray, List.getElem_cons_succ, List.getElem_cons_zero]
          rw [if_pos (by rfl)]
          go_simp
          have kn := (Kept.refl 0 0 w8).alloc (.cells #[.slice none 0 0, .bool false, .int .i64 0] 85)
          replace r1 := r1.kept kn (by omega)
          replace r2 := r2.kept kn (by omega)
          replace kw := kw.trans kn
          replace o3 := own_kept o3 kn
          replace qf0 := kn.loose0 (World.block_lt_of_cell? _ _ q0) qf0
          replace qf1 := kn.loose0 (World.block_lt_of_cell? _ _ q1) qf1
          replace qf2 := kn.loose0 (World.block_lt_of_cell? _ _ q2) qf2
          replace Y_f0 := kn.loose0 (World.block_lt_of_cell? _ _ Y_0) Y_f0
          replace Y_f1 := kn.loose0 (World.block_lt_of_cell? _ _ Y_1) Y_f1
          replace Y_f2 := kn.loose0 (World.block_lt_of_cell? _ _ Y_2) Y_f2
          replace p0 := kn.cell0 p0
          replace p1 := kn.cell0 p1
          replace p2 := kn.cell0 p2
          replace t0 := kn.cell0 t0
          replace t1 := kn.cell0 t1
          replace t2 := kn.cell0 t2
          replace q0 := kn.cell0 q0
          replace q1 := kn.cell0 q1
          replace q2 := kn.cell0 q2
          replace Y_0 := kn.cell0 Y_0
          replace Y_1 := kn.cell0 Y_1
          replace Y_2 := kn.cell0 Y_2
          replace K := hide ((unhide K).trans kn)
          have z11 := kn.size
          clear kn
          have szX_ : w8.heap.size < (w8.alloc (.cells #[.slice none 0 0, .bool false, .int .i64 0] 85)).heap.size := by simp
          have X_0 : (w8.alloc (.cells #[.slice none 0 0, .bool false, .int .i64 0] 85)).cell? ⟨w8.heap.size, 0, none⟩ = some (.slice none 0 0) := new_cell2 _ _ _ _ _ _ rfl rfl
          have X_f0 : (w8.alloc (.cells #[.slice none 0 0, .bool false, .int .i64 0] 85)).frozen? ⟨w8.heap.size, 0, none⟩ = false := new_loose2 _ _ _ _ _ rfl
          have X_1 : (w8.alloc (.cells #[.slice none 0 0, .bool false, .int .i64 0] 85)).cell? ⟨w8.heap.size, 1, none⟩ = some (.bool false) := new_cell2 _ _ _ _ _ _ rfl rfl
          have X_f1 : (w8.alloc (.cells #[.slice none 0 0, .bool false, .int .i64 0] 85)).frozen? ⟨w8.heap.size, 1, none⟩ = false := new_loose2 _ _ _ _ _ rfl
          have X_2 : (w8.alloc (.cells #[.slice none 0 0, .bool false, .int .i64 0] 85)).cell? ⟨w8.heap.size, 2, none⟩ = some (.int .i64 0) := new_cell2 _ _ _ _ _ _ rfl rfl
          have X_f2 : (w8.alloc (.cells #[.slice none 0 0, .bool false, .int .i64 0] 85)).frozen? ⟨w8.heap.size, 2, none⟩ = false := new_loose2 _ _ _ _ _ rfl
          clear hHeld
          refine hK.out _ _ ?_ (fun hHeld => ?_)
          · exact ⟨p0, p1, p2, t0, t1, t2⟩
          clear hK KK
          try simp only [Act.put, List.getElem_toArray, List.getElem_cons_succ, List.getElem_cons_zero, List.setIfInBounds_toArray, List.set_cons_zero, List.set_cons_succ]
          generalize w8.alloc (.cells #[.slice none 0 0, .bool false, .int .i64 0] 85) = w10 at *
          refine wpAnyH_ready (rs := [3]) (by kernel_rfl) (by simp) ?_
          refine AllReadyH.cons rfl (fun KK hK => ?_) AllReadyH.nil
          · simp only [List.getElem_toArray, List.getElem_cons_succ, List.getElem_cons_zero]
            rw [if_pos (by rfl)]
            refine wps1 85 (.tmp 19) _ rfl in_dyadicOf (.agg #[.bool s2, .slice a2 ys.length c2, .int .i64 x2]) rfl (dyadicOf_impl s2 x2 _ r2 my) ?_
            rintro e w12 ⟨v4, rfl, o4, k12⟩
            refine ⟨_, rfl, ?_⟩
            replace r1 := r1.kept k12 (by omega)
            replace r2 := r2.kept k12 (by omega)
            replace kw := kw.trans k12
            replace o3 := own_kept o3 k12
            replace qf0 := k12.loose0 (World.block_lt_of_cell? _ _ q0) qf0
            replace qf1 := k12.loose0 (World.block_lt_of_cell? _ _ q1) qf1
            replace qf2 := k12.loose0 (World.block_lt_of_cell? _ _ q2) qf2
            replace Y_f0 := k12.loose0 (World.block_lt_of_cell? _ _ Y_0) Y_f0
            replace Y_f1 := k12.loose0 (World.block_lt_of_cell? _ _ Y_1) Y_f1
            replace Y_f2 := k12.loose0 (World.block_lt_of_cell? _ _ Y_2) Y_f2
            replace X_f0 := k12.loose0 (World.block_lt_of_cell? _ _ X_0) X_f0
            replace X_f1 := k12.loose0 (World.block_lt_of_cell? _ _ X_1) X_f1
            replace X_f2 := k12.loose0 (World.block_lt_of_cell? _ _ X_2) X_f2
            replace p0 := k12.cell0 p0
            replace p1 := k12.cell0 p1
            replace p2 := k12.cell0 p2
            replace t0 := k12.cell0 t0
            replace t1 := k12.cell0 t1
            replace t2 := k12.cell0 t2
            replace q0 := k12.cell0 q0
            replace q1 := k12.cell0 q1
            replace q2 := k12.cell0 q2
            replace Y_0 := k12.cell0 Y_0
            replace Y_1 := k12.cell0 Y_1
            replace Y_2 := k12.cell0 Y_2
            replace X_0 := k12.cell0 X_0
            replace X_1 := k12.cell0 X_1
            replace X_2 := k12.cell0 X_2
            replace K := hide ((unhide K).trans k12)
            have z13 := k12.size
            clear k12
            have l4 := o4.lt
            obtain ⟨a4, c4, hv⟩ := own_slice o4
            subst hv
            clear hHeld
            refine hK.out _ _ ?_ (fun hHeld => ?_)
            · exact ⟨p0, p1, p2, t0, t1, t2⟩
            clear hK KK
            try simp only [Act.put, List.getElem_toArray, List.getElem_cons_succ, List.getElem_cons_zero, List.setIfInBounds_toArray, List.set_cons_zero, List.set_cons_succ]
            refine wpAnyH_ready (rs := [6]) (by kernel_rfl) (by simp) ?_
            refine AllReadyH.cons rfl (fun KK hK => ?_) AllReadyH.nil
            simp only [List.getElem_toArray, List.getElem_cons_succ, List.getElem_cons_zero]
            rw [if_pos (by rfl)]
            go_simp
            clear hHeld
            refine hK.out _ _ ?_ (fun hHeld => ?_)
            · exact ⟨(cell_aside _ (by have := unhide S0; dsimp only; omega) (cell_aside _ (by have := unhide S0; dsimp only; omega) (cell_aside _ (by have := unhide S0; dsimp only; omega) p0))), (cell_aside _ (by have := unhide S0; dsimp only; omega) (cell_aside _ (by have := unhide S0; dsimp only; omega) (cell_aside _ (by have := unhide S0; dsimp only; omega) p1))), (cell_aside _ (by have := unhide S0; dsimp only; omega) (cell_aside _ (by have := unhide S0; dsimp only; omega) (cell_aside _ (by have := unhide S0; dsimp only; omega) p2))), (cell_aside _ (by have := unhide S0; dsimp only; omega) (cell_aside _ (by have := unhide S0; dsimp only; omega) (cell_aside _ (by have := unhide S0; dsimp only; omega) t0))), (cell_aside _ (by have := unhide S0; dsimp only; omega) (cell_aside _ (by have := unhide S0; dsimp only; omega) (cell_aside _ (by have := unhide S0; dsimp only; omega) t1))), (cell_aside _ (by have := unhide S0; dsimp only; omega) (cell_aside _ (by have := unhide S0; dsimp only; omega) (cell_aside _ (by have := unhide S0; dsimp only; omega) t2)))⟩
            clear hK KK
            try simp only [Act.put, List.getElem_toArray, List.getElem_cons_succ, List.getElem_cons_zero, List.setIfInBounds_toArray, List.set_cons_zero, List.set_cons_succ]
            refine wpAnyH_ready (rs := [7]) (by kernel_rfl) (by simp) ?_
            refine AllReadyH.cons rfl (fun KK hK => ?_) AllReadyH.nil
            simp only [List.getElem_toArray, List.getElem_cons_succ, List.getElem_cons_zero]
            rw [if_pos (by rfl)]
            go_simp
            clear hHeld
            refine hK.out _ _ ?_ (fun hHeld => ?_)
            · exact ⟨(cell_aside _ (by have := unhide S0; dsimp only; omega) (cell_aside _ (by have := unhide S0; dsimp only; omega) (cell_aside _ (by have := unhide S0; dsimp only; omega) (cell_aside _ (by have := unhide S0; dsimp only; omega) (cell_aside _ (by have := unhide S0; dsimp only; omega) (cell_aside _ (by have := unhide S0; dsimp only; omega) p0)))))), (cell_aside _ (by have := unhide S0; dsimp only; omega) (cell_aside _ (by have := unhide S0; dsimp only; omega) (cell_aside _ (by have := unhide S0; dsimp only; omega) (cell_aside _ (by have := unhide S0; dsimp only; omega) (cell_aside _ (by have := unhide S0; dsimp only; omega) (cell_aside _ (by have := unhide S0; dsimp only; omega) p1)))))), (cell_aside _ (by have := unhide S0; dsimp only; omega) (cell_aside _ (by have := unhide S0; dsimp only; omega) (cell_aside _ (by have := unhide S0; dsimp only; omega) (cell_aside _ (by have := unhide S0; dsimp only; omega) (cell_aside _ (by have := unhide S0; dsimp only; omega) (cell_aside _ (by have := unhide S0; dsimp only; omega) p2)))))), (cell_aside _ (by have := unhide S0; dsimp only; omega) (cell_aside _ (by have := unhide S0; dsimp only; omega) (cell_aside _ (by have := unhide S0; dsimp only; omega) (cell_aside _ (by have := unhide S0; dsimp only; omega) (cell_aside _ (by have := unhide S0; dsimp only; omega) (cell_aside _ (by have := unhide S0; dsimp only; omega) t0)))))), (cell_aside _ (by have := unhide S0; dsimp only; omega) (cell_aside _ (by have := unhide S0; dsimp only; omega) (cell_aside _ (by have := unhide S0; dsimp only; omega) (cell_aside _ (by have := unhide S0; dsimp only; omega) (cell_aside _ (by have := unhide S0; dsimp only; omega) (cell_aside _ (by have := unhide S0; dsimp only; omega) t1)))))), (cell_aside _ (by have := unhide S0; dsimp only; omega) (cell_aside _ (by have := unhide S0; dsimp only; omega) (cell_aside _ (by have := unhide S0; dsimp only; omega) (cell_aside _ (by have := unhide S0; dsimp only; omega) (cell_aside _ (by have := unhide S0; dsimp only; omega) (cell_aside _ (by have := unhide S0; dsimp only; omega) t2))))))⟩
            clear hK KK
            try simp only [Act.put, List.getElem_toArray, List.getElem_cons_succ, List.getElem_cons_zero, List.setIfInBounds_toArray, List.set_cons_zero, List.set_cons_succ]
            refine wpAnyH_done (by kernel_rfl) ?_ _
            clear hHeld
            go_wp2_with fail
            go_meet
            exact ⟨_, _, rfl, rfl, dya_pair s1 s2 x1 x2 kw o3 o4 X_0 X_1 X_2 X_f0 X_f1 X_f2 Y_0 Y_1 Y_2 Y_f0 Y_f1 Y_f2 (by omega) (by omega) (by omega) (by omega) (by omega) (fun e => by have := l3 _ e; omega) (fun e => by have := l3 _ e; omega) (fun e => by have := l4 _ e; omega) (fun e => by have := l4 _ e; omega) (fun k e1 e2 => by have := l3 _ e1; have := l4 _ e2; omega)⟩
      · simp only [List.getElem_toArray, List.getElem_cons_succ, List.getElem_cons_zero]
        rw [if_pos (by rfl)]
        go_simp
        have kn := (Kept.refl 0 0 w6).alloc (.cells #[.slice none 0 0, .bool false, .int .i64 0] 85)
        replace r1 := r1.kept kn (by omega)
        replace r2 := r2.kept kn (by omega)
        replace kw := kw.trans kn
        replace qf0 := kn.loose0 (World.block_lt_of_cell? _ _ q0) qf0
        replace qf1 := kn.loose0 (World.block_lt_of_cell? _ _ q1) qf1
        replace qf2 := kn.loose0 (World.block_lt_of_cell? _ _ q2) qf2
        replace Y_f0 := kn.loose0 (World.block_lt_of_cell? _ _ Y_0) Y_f0
        replace Y_f1 := kn.loose0 (World.block_lt_of_cell? _ _ Y_1) Y_f1
        replace Y_f2 := kn.loose0 (World.block_lt_of_cell? _ _ Y_2) Y_f2
        replace p0 := kn.cell0 p0
        replace p1 := kn.cell0 p1
        replace p2 := kn.cell0 p2
        replace t0 := kn.cell0 t0
        replace t1 := kn.cell0 t1
        replace t2 := kn.cell0 t2
        replace q0 := kn.cell0 q0
        replace q1 := kn.cell0 q1
        replace q2 := kn.cell0 q2
        replace Y_0 := kn.cell0 Y_0
        replace Y_1 := kn.cell0 Y_1
        replace Y_2 := kn.cell0 Y_2
        replace K := hide ((unhide K).trans kn)
        have z9 := kn.size
        clear kn
        have szX_ : w6.heap.size < (w6.alloc (.cells #[.slice none 0 0, .bool false, .int .i64 0] 85)).heap.size := by simp
        have X_0 : (w6.alloc (.cells #[.slice none 0 0, .bool false, .int .i64 0] 85)).cell? ⟨w6.heap.size, 0, none⟩ = some (.slice none 0 0) := new_cell2 _ _ _ _ _ _ rfl rfl
        have X_f0 : (w6.alloc (.cells #[.slice none 0 0, .bool false, .int .i64 0] 85)).frozen? ⟨w6.heap.size, 0, none⟩ = false := new_loose2 _ _ _ _ _ rfl
        have X_1 : (w6.alloc (.cells #[.slice none 0 0, .bool false, .int .i64 0] 85)).cell? ⟨w6.heap.size, 1, none⟩ = some (.bool false) := new_cell2 _ _ _ _ _ _ rfl rfl
        have X_f1 : (w6.alloc (.cells #[.slice none 0 0, .bool false, .int .i64 0] 85)).frozen? ⟨w6.heap.size, 1, none⟩ = false := new_loose2 _ _ _ _ _ rfl
        have X_2 : (w6.alloc (.cells #[.slice none 0 0, .bool false, .int .i64 0] 85)).cell? ⟨w6.heap.size, 2, none⟩ = some (.int .i64 0) := new_cell2 _ _ _ _ _ _ rfl rfl
        have X_f2 : (w6.alloc (.cells #[.slice none 0 0, .bool false, .int .i64 0] 85)).frozen? ⟨w6.heap.size, 2, none⟩ = false := new_loose2 _ _ _ _ _ rfl
        clear hHeld
        refine hK.out _ _ ?_ (fun hHeld => ?_)
        · exact ⟨p0, p1, p2, t0, t1, t2⟩
        clear hK KK
        try simp only [Act.put, List.getElem_toArray, List.getElem_cons_succ, List.getElem_cons_zero, List.setIfInBounds_toArray, List.set_cons_zero, List.set_cons_succ]
        generalize w6.alloc (.cells #[.slice none 0 0, .bool false, .int .i64 0] 85) = w8 at *
        refine wpAnyH_ready (rs := [1]) (by kernel_rfl) (by simp) ?_
        refine AllReadyH.cons rfl (fun KK hK => ?_) AllReadyH.nil
        · simp only [List.getElem_toArray, List.getElem_cons_succ, List.getElem_cons_zero]
          rw [if_pos (by rfl)]
          refine wps1 85 (.tmp 17) _ rfl in_dyadicOf (.agg #[.bool s1, .slice a1 xs.length c1, .int .i64 x1]) rfl (dyadicOf_impl s1 x1 _ r1 mx) ?_
          rintro e w10 ⟨v3, rfl, o3, k10⟩
          refine ⟨_, rfl, ?_⟩
          replace r1 := r1.kept k10 (by omega)
          replace r2 := r2.kept k10 (by omega)
          replace kw := kw.trans k10
          replace qf0 := k10.loose0 (World.block_lt_of_cell? _ _ q0) qf0
          replace qf1 := k10.loose0 (World.block_lt_of_cell? _ _ q1) qf1
          replace qf2 := k10.loose0 (World.block_lt_of_cell? _ _ q2) qf2
          replace Y_f0 := k10.loose0 (World.block_lt_of_cell? _ _ Y_0) Y_f0
          replace Y_f1 := k10.loose0 (World.block_lt_of_cell? _ _ Y_1) Y_f1
          replace Y_f2 := k10.loose0 (World.block_lt_of_cell? _ _ Y_2) Y_f2
          replace X_f0 := k10.loose0 (World.block_lt_of_cell? _ _ X_0) X_f0
          replace X_f1 := k10.loose0 (World.block_lt_of_cell? _ _ X_1) X_f1
          replace X_f2 := k10.loose0 (World.block_lt_of_cell? _ _ X_2) X_f2
          replace p0 := k10.cell0 p0
          replace p1 := k10.cell0 p1
          replace p2 := k10.cell0 p2
          replace t0 := k10.cell0 t0
          replace t1 := k10.cell0 t1
          replace t2 := k10.cell0 t2
          replace q0 := k10.cell0 q0
          replace q1 := k10.cell0 q1
          replace q2 := k10.cell0 q2
          replace Y_0 := k10.cell0 Y_0
          replace Y_1 := k10.cell0 Y_1
          replace Y_2 := k10.cell0 Y_2
          replace X_0 := k10.cell0 X_0
          replace X_1 := k10.cell0 X_1
          replace X_2 := k10.cell0 X_2
          replace K := hide ((unhide K).trans k10)
          have z11 := k10.size
          clear k10
          have l3 := o3.lt
          obtain ⟨a3, c3, hv⟩ := own_slice o3
          subst hv
          clear hHeld
          refine hK.out _ _ ?_ (fun hHeld => ?_)
          · exact ⟨p0, p1, p2, t0, t1, t2⟩
          clear hK KK
          try simp only [Act.put, List.getElem_toArray, List.getElem_cons_succ, List.getElem_cons_zero, List.setIfInBounds_toArray, List.set_cons_zero, List.set_cons_succ]
          refine wpAnyH_ready (rs := [3]) (by kernel_rfl) (by simp) ?_
          refine AllReadyH.cons rfl (fun KK hK => ?_) AllReadyH.nil
          · simp only [List.getElem_toArray, List.getElem_cons_succ, List.getElem_cons_zero]
            rw [if_pos (by rfl)]
            refine wps1 85 (.tmp 19) _ rfl in_dyadicOf (.agg #[.bool s2, .slice a2 ys.length c2, .int .i64 x2]) rfl (dyadicOf_impl s2 x2 _ r2 my) ?_
            rintro e w12 ⟨v4, rfl, o4, k12⟩
            refine ⟨_, rfl, ?_⟩
            replace r1 := r1.kept k12 (by omega)
            replace r2 := r2.kept k12 (by omega)
            replace kw := kw.trans k12
            replace o3 := own_kept o3 k12
            replace qf0 := k12.loose0 (World.block_lt_of_cell? _ _ q0) qf0
            replace qf1 := k12.loose0 (World.block_lt_of_cell? _ _ q1) qf1
            replace qf2 := k12.loose0 (World.block_lt_of_cell? _ _ q2) qf2
            replace Y_f0 := k12.loose0 (World.block_lt_of_cell? _ _ Y_0) Y_f0
            replace Y_f1 := k12.loose0 (World.block_lt_of_cell? _ _ Y_1) Y_f1
            replace Y_f2 := k12.loose0 (World.block_lt_of_cell? _ _ Y_2) Y_f2
            replace X_f0 := k12.loose0 (World.block_lt_of_cell? _ _ X_0) X_f0
            replace X_f1 := k12.loose0 (World.block_lt_of_cell? _ _ X_1) X_f1
            replace X_f2 := k12.loose0 (World.block_lt_of_cell? _ _ X_2) X_f2
            replace p0 := k12.cell0 p0
            replace p1 := k12.cell0 p1
            replace p2 := k12.cell0 p2
            replace t0 := k12.cell0 t0
            replace t1 := k12.cell0 t1
            replace t2 := k12.cell0 t2
            replace q0 := k12.cell0 q0
            replace q1 := k12.cell0 q1
            replace q2 := k12.cell0 q2
            replace Y_0 := k12.cell0 Y_0
            replace Y_1 := k12.cell0 Y_1
            replace Y_2 := k12.cell0 Y_2
            replace X_0 := k12.cell0 X_0
            replace X_1 := k12.cell0 X_1
            replace X_2 := k12.cell0 X_2
            replace K := hide ((unhide K).trans k12)
            have z13 := k12.size
            clear k12
            have l4 := o4.lt
            obtain ⟨a4, c4, hv⟩ := own_slice o4
            subst hv
            clear hHeld
            refine hK.out _ _ ?_ (fun hHeld => ?_)
            · exact ⟨p0, p1, p2, t0, t1, t2⟩
            clear hK KK
            try simp only [Act.put, List.getElem_toArray, List.getElem_cons_succ, List.getElem_cons_zero, List.setIfInBounds_toArray, List.set_cons_zero, List.set_cons_succ]
            refine wpAnyH_ready (rs := [6]) (by kernel_rfl) (by simp) ?_
            refine AllReadyH.cons rfl (fun KK hK => ?_) AllReadyH.nil
            simp only [List.getElem_toArray, List.getElem_cons_succ, List.getElem_cons_zero]
            rw [if_pos (by rfl)]
            go_simp
            clear hHeld
            refine hK.out _ _ ?_ (fun hHeld => ?_)
            · exact ⟨(cell_aside _ (by have := unhide S0; dsimp only; omega) (cell_aside _ (by have := unhide S0; dsimp only; omega) (cell_aside _ (by have := unhide S0; dsimp only; omega) p0))), (cell_aside _ (by have := unhide S0; dsimp only; omega) (cell_aside _ (by have := unhide S0; dsimp only; omega) (cell_aside _ (by have := unhide S0; dsimp only; omega) p1))), (cell_aside _ (by have := unhide S0; dsimp only; omega) (cell_aside _ (by have := unhide S0; dsimp only; omega) (cell_aside _ (by have := unhide S0; dsimp only; omega) p2))), (cell_aside _ (by have := unhide S0; dsimp only; omega) (cell_aside _ (by have := unhide S0; dsimp only; omega) (cell_aside _ (by have := unhide S0; dsimp only; omega) t0))), (cell_aside _ (by have := unhide S0; dsimp only; omega) (cell_aside _ (by have := unhide S0; dsimp only; omega) (cell_aside _ (by have := unhide S0; dsimp only; omega) t1))), (cell_aside _ (by have := unhide S0; dsimp only; omega) (cell_aside _ (by have := unhide S0; dsimp only; omega) (cell_aside _ (by have := unhide S0; dsimp only; omega) t2)))⟩
            clear hK KK
            try simp only [Act.put, List.getElem_toArray, List.getElem_cons_succ, List.getElem_cons_zero, List.setIfInBounds_toArray, List.set_cons_zero, List.set_cons_succ]
            refine wpAnyH_ready (rs := [7]) (by kernel_rfl) (by simp) ?_
            refine AllReadyH.cons rfl (fun KK hK => ?_) AllReadyH.nil
            simp only [List.getElem_toArray, List.getElem_cons_succ, List.getElem_cons_zero]
            rw [if_pos (by rfl)]
            go_simp
            clear hHeld
            refine hK.out _ _ ?_ (fun hHeld => ?_)
            · exact ⟨(cell_aside _ (by have := unhide S0; dsimp only; omega) (cell_aside _ (by have := unhide S0; dsimp only; omega) (cell_aside _ (by have := unhide S0; dsimp only; omega) (cell_aside _ (by have := unhide S0; dsimp only; omega) (cell_aside _ (by have := unhide S0; dsimp only; omega) (cell_aside _ (by have := unhide S0; dsimp only; omega) p0)))))), (cell_aside _ (by have := unhide S0; dsimp only; omega) (cell_aside _ (by have := unhide S0; dsimp only; omega) (cell_aside _ (by have := unhide S0; dsimp only; omega) (cell_aside _ (by have := unhide S0; dsimp only; omega) (cell_aside _ (by have := unhide S0; dsimp only; omega) (cell_aside _ (by have := unhide S0; dsimp only; omega) p1)))))), (cell_aside _ (by have := unhide S0; dsimp only; omega) (cell_aside _ (by have := unhide S0; dsimp only; omega) (cell_aside _ (by have := unhide S0; dsimp only; omega) (cell_aside _ (by have := unhide S0; dsimp only; omega) (cell_aside _ (by have := unhide S0; dsimp only; omega) (cell_aside _ (by have := unhide S0; dsimp only; omega) p2)))))), (cell_aside _ (by have := unhide S0; dsimp only; omega) (cell_aside _ (by have := unhide S0; dsimp only; omega) (cell_aside _ (by have := unhide S0; dsimp only; omega) (cell_aside _ (by have := unhide S0; dsimp only; omega) (cell_aside _ (by have := unhide S0; dsimp only; omega) (cell_aside _ (by have := unhide S0; dsimp only; omega) t0)))))), (cell_aside _ (by have := unhide S0; dsimp only; omega) (cell_aside _ (by have := unhide S0; dsimp only; omega) (cell_aside _ (by have := unhide S0; dsimp only; omega) (cell_aside _ (by have := unhide S0; dsimp only; omega) (cell_aside _ (by have := unhide S0; dsimp only; omega) (cell_aside _ (by have := unhide S0; dsimp only; omega) t1)))))), (cell_aside _ (by have := unhide S0; dsimp only; omega) (cell_aside _ (by have := unhide S0; dsimp only; omega) (cell_aside _ (by have := unhide S0; dsimp only; omega) (cell_aside _ (by have := unhide S0; dsimp only; omega) (cell_aside _ (by have := unhide S0; dsimp only; omega) (cell_aside _ (by have := unhide S0; dsimp only; omega) t2))))))⟩
            clear hK KK
            try simp only [Act.put, List.getElem_toArray, List.getElem_cons_succ, List.getElem_cons_zero, List.setIfInBounds_toArray, List.set_cons_zero, List.set_cons_succ]
            refine wpAnyH_done (by kernel_rfl) ?_ _
            clear hHeld
            go_wp2_with fail
            go_meet
            exact ⟨_, _, rfl, rfl, dya_pair s1 s2 x1 x2 kw o3 o4 X_0 X_1 X_2 X_f0 X_f1 X_f2 Y_0 Y_1 Y_2 Y_f0 Y_f1 Y_f2 (by omega) (by omega) (by omega) (by omega) (by omega) (fun e => by have := l3 _ e; omega) (fun e => by have := l3 _ e; omega) (fun e => by have := l4 _ e; omega) (fun e => by have := l4 _ e; omega) (fun k e1 e2 => by have := l3 _ e1; have := l4 _ e2; omega)⟩
  case rest =>
    obtain ⟨X, Y, rfl, rfl, sg⟩ := hcut
    have HC : Hid ((dokB s1 xs x1 && dokB s2 ys x2) = true) := by show _ = _; rw [unhide HO1, unhide HO2]; rfl
    have zW : w.heap.size + 3 ≤ w3.heap.size := by have := unhide S0; omega
    have bX : w3.heap.size ≤ X := by obtain ⟨u1, u2, t⟩ := sg.sg.two; exact t.b1
    go_wp2_with fail
    refine (multiplyDyadic_impl sg hx hy (by omega) (by omega) e1 e2 e3 e4).mono ?_
    rintro e w6 ⟨⟨r6, rfl⟩, u6, n6, d6, x6, k6⟩
    have he : wval (!(s1 == s2)) (limbs (val xs * val ys).toNat) = wval s1 xs * wval s2 ys := mul_sgn s1 s2 hx.1 hy.1
    have hz := limbs_nrm (val xs * val ys).toNat
    generalize limbs (val xs * val ys).toNat = zs at *
    generalize (!(s1 == s2)) = sx at *
    have hl : zs.length ≤ 50000 := nrm_len (s := sx) hz (by rw [he]; exact mul_lt (wval_lt hx.1) (wval_lt hy.1)) (by omega)
    clear sg
    have own := n6.own.lt
    replace r1 := r1.kept k6 (by omega)
    replace r2 := r2.kept k6 (by omega)
    replace qf0 := k6.loose0 (World.block_lt_of_cell? _ _ q0) qf0
    replace qf1 := k6.loose0 (World.block_lt_of_cell? _ _ q1) qf1
    replace qf2 := k6.loose0 (World.block_lt_of_cell? _ _ q2) qf2
    replace p0 := k6.cell0 p0
    replace p1 := k6.cell0 p1
    replace p2 := k6.cell0 p2
    replace t0 := k6.cell0 t0
    replace t1 := k6.cell0 t1
    replace t2 := k6.cell0 t2
    replace q0 := k6.cell0 q0
    replace q1 := k6.cell0 q1
    replace q2 := k6.cell0 q2
    replace K := hide ((unhide K).trans k6)
    have z5 := k6.size
    clear k6
    go_wp2_with fail
    have hS : ∀ i, Own1 X u6 i → w3.heap.size ≤ i := fun i e => e.elim (fun e => by omega) (fun e => (own i e).1)
    have nS : ¬ Own1 X u6 (w.heap.size + 2) := fun e => by have := hS _ e; omega
    refine (toldDyadic_impl (wval s1 xs * wval s2 ys) he _ n6 d6 x6 hz hl (by omega) (by omega) (T.kept (unhide K))).mono ?_
    rintro e w7 ⟨v7, rfl, r7, m7⟩
    replace qf0 := m7.loose (a := ⟨w.heap.size + 2, 0, none⟩) nS (World.block_lt_of_cell? _ _ q0) qf0
    replace qf1 := m7.loose (a := ⟨w.heap.size + 2, 1, none⟩) nS (World.block_lt_of_cell? _ _ q1) qf1
    replace qf2 := m7.loose (a := ⟨w.heap.size + 2, 2, none⟩) nS (World.block_lt_of_cell? _ _ q2) qf2
    replace q0 := m7.cell (a := ⟨w.heap.size + 2, 0, none⟩) nS q0
    replace q1 := m7.cell (a := ⟨w.heap.size + 2, 1, none⟩) nS q1
    replace q2 := m7.cell (a := ⟨w.heap.size + 2, 2, none⟩) nS q2
    replace K := hide ((unhide K).mod m7 (fun i e => by have := hS i e; omega))
    have z77 := m7.size
    have j1 := unhide HGS
    have j2 := unhide HGL
    have j3 := unhide HGE
    have j4 := unhide HGB
    rw [unhide HC] at j1 j2 j3 j4
    rw [j1, j3, j4]
    rw [j2] at r7
    clear j1 j2 j3 j4 m7 hS nS n6 d6 x6 hz he own r1 r2
    obtain ⟨a7, c7, hv⟩ := Row.form' r7
    subst hv
    have R := hide ((((r7.set_other (p := ⟨w.heap.size + 2, 0, none⟩) (.inl (by have := unhide S0; dsimp only; omega)) (.bool GS)).set_other (p := ⟨w.heap.size + 2, 1, none⟩) (.inl (by have := unhide S0; dsimp only; omega)) (.slice a7 GL.length c7)).set_other (p := ⟨w.heap.size + 2, 2, none⟩) (.inl (by have := unhide S0; dsimp only; omega)) (.int .i64 GE)).tight.wider (lo' := w.heap.size) (by have := unhide S0; omega) (Nat.le_refl _))
    have K7 := hide ((((unhide K).setNew (p := ⟨w.heap.size + 2, 0, none⟩) (by simp) (.bool GS)).setNew (p := ⟨w.heap.size + 2, 1, none⟩) (by simp) (.slice a7 GL.length c7)).setNew (p := ⟨w.heap.size + 2, 2, none⟩) (by simp) (.int .i64 GE))
    clear r7 K 
    go_wp2_with fail
    exact bodyPost_ret (v := .tuple #[.agg #[.bool GS, .slice a7 GL.length c7, .int .i64 GE], .bool GB]) (by simp [results, Tryd.results55, go_sem, q0, q1, q2]) rfl ⟨_, rfl, unhide R, unhide K7⟩

end Go.Proofs.YtagaofpkfpfilaaDoor
