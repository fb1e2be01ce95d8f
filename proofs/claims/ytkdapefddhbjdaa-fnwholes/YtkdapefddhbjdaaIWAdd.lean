/-
  The contract of the program's WholeAdd.
-/
import Derived.Test.YtkdapefddhbjdaaBI
import Derived.Deep.DeepCutAuto
namespace Go.Proofs.Ytkdapefddhbjdaa
open Go.RowKit
set_option linter.unusedVariables false
set_option maxRecDepth 8000
set_option linter.unusedSimpArgs false

set_option maxHeartbeats 8000000 in
theorem wAdd_impl {b1 b2 : Bool} {l1 h1 l2 h2 : Nat} {v1 v2 : Value} {xs ys : List Int} (s1 s2 : Bool) (w : World) (r1 : Row .i64 b1 l1 h1 w v1 xs) (r2 : Row .i64 b2 l2 h2 w v2 ys) :
    Calls Try.prog 15 #[.agg #[.bool s1, v1], .agg #[.bool s2, v2]] w fun e w' => ∃ v', e = .returned (.tuple #[.agg #[.bool (ansWS (wokB s1 xs && wokB s2 ys) (wval s1 xs + wval s2 ys)), v'], .bool (ansWB (wokB s1 xs && wokB s2 ys) (wval s1 xs + wval s2 ys))]) ∧ Row .i64 true w.heap.size w'.heap.size w' v' (ansWL (wokB s1 xs && wokB s2 ys) (wval s1 xs + wval s2 ys)) ∧ Kept 0 0 w w' := by
  have k0 : Kept 0 0 w (((w.alloc (.cells #[.bool s1, v1] 36)).alloc (.cells #[.bool s2, v2] 36)).alloc (.cells #[.bool false, .slice none 0 0] 36)) := ((((Kept.refl 0 0 w).alloc (.cells #[.bool s1, v1] 36)).alloc (.cells #[.bool s2, v2] 36)).alloc (.cells #[.bool false, .slice none 0 0] 36))
  have p0 : (((w.alloc (.cells #[.bool s1, v1] 36)).alloc (.cells #[.bool s2, v2] 36)).alloc (.cells #[.bool false, .slice none 0 0] 36)).cell? ⟨w.heap.size, 0, none⟩ = some (.bool s1) := old_cell _ (old_cell _ (new_cell2 _ _ _ _ _ _ (by simp) rfl))
  have p1 : (((w.alloc (.cells #[.bool s1, v1] 36)).alloc (.cells #[.bool s2, v2] 36)).alloc (.cells #[.bool false, .slice none 0 0] 36)).cell? ⟨w.heap.size, 1, none⟩ = some (v1) := old_cell _ (old_cell _ (new_cell2 _ _ _ _ _ _ (by simp) rfl))
  have t0 : (((w.alloc (.cells #[.bool s1, v1] 36)).alloc (.cells #[.bool s2, v2] 36)).alloc (.cells #[.bool false, .slice none 0 0] 36)).cell? ⟨w.heap.size + 1, 0, none⟩ = some (.bool s2) := old_cell _ (new_cell2 _ _ _ _ _ _ (by simp) rfl)
  have t1 : (((w.alloc (.cells #[.bool s1, v1] 36)).alloc (.cells #[.bool s2, v2] 36)).alloc (.cells #[.bool false, .slice none 0 0] 36)).cell? ⟨w.heap.size + 1, 1, none⟩ = some (v2) := old_cell _ (new_cell2 _ _ _ _ _ _ (by simp) rfl)
  have q0 : (((w.alloc (.cells #[.bool s1, v1] 36)).alloc (.cells #[.bool s2, v2] 36)).alloc (.cells #[.bool false, .slice none 0 0] 36)).cell? ⟨w.heap.size + 2, 0, none⟩ = some (.bool false) := new_cell2 _ _ _ _ _ _ (by simp) rfl
  have qf0 : (((w.alloc (.cells #[.bool s1, v1] 36)).alloc (.cells #[.bool s2, v2] 36)).alloc (.cells #[.bool false, .slice none 0 0] 36)).frozen? ⟨w.heap.size + 2, 0, none⟩ = false := new_loose2 _ _ _ _ _ (by simp)
  have q1 : (((w.alloc (.cells #[.bool s1, v1] 36)).alloc (.cells #[.bool s2, v2] 36)).alloc (.cells #[.bool false, .slice none 0 0] 36)).cell? ⟨w.heap.size + 2, 1, none⟩ = some (.slice none 0 0) := new_cell2 _ _ _ _ _ _ (by simp) rfl
  have qf1 : (((w.alloc (.cells #[.bool s1, v1] 36)).alloc (.cells #[.bool s2, v2] 36)).alloc (.cells #[.bool false, .slice none 0 0] 36)).frozen? ⟨w.heap.size + 2, 1, none⟩ = false := new_loose2 _ _ _ _ _ (by simp)
  replace r1 := r1.kept k0 (by omega)
  replace r2 := r2.kept k0 (by omega)
  have s0 : (((w.alloc (.cells #[.bool s1, v1] 36)).alloc (.cells #[.bool s2, v2] 36)).alloc (.cells #[.bool false, .slice none 0 0] 36)).heap.size = w.heap.size + 3 := by simp
  obtain ⟨a1, c1, hv⟩ := Row.form' r1
  subst hv
  obtain ⟨a2, c2, hv⟩ := Row.form' r2
  subst hv
  have K := hide (k0)
  clear k0
  have S0 := hide s0
  clear s0
  go_enter Try.func15, Try.ntmps15
  go_wp2_with fail
  generalize (((w.alloc (.cells #[.bool s1, .slice a1 xs.length c1] 36)).alloc (.cells #[.bool s2, .slice a2 ys.length c2] 36)).alloc (.cells #[.bool false, .slice none 0 0] 36)) = W at *
  refine (wok_impl s1 _ r1).mono ?_
  rintro e w1 ⟨rfl, k1⟩
  replace r1 := r1.kept k1 (by omega)
  replace r2 := r2.kept k1 (by omega)
  replace qf0 := k1.loose0 (World.block_lt_of_cell? _ _ q0) qf0
  replace qf1 := k1.loose0 (World.block_lt_of_cell? _ _ q1) qf1
  replace p0 := k1.cell0 p0
  replace p1 := k1.cell0 p1
  replace t0 := k1.cell0 t0
  replace t1 := k1.cell0 t1
  replace q0 := k1.cell0 q0
  replace q1 := k1.cell0 q1
  replace K := hide ((unhide K).trans k1)
  have z2 := k1.size
  clear k1
  cases ho1 : wokB s1 xs
  · have HO := hide ho1
    clear ho1
    have K' := hide (((unhide K).setNew (p := ⟨w.heap.size + 2, 0, none⟩) (by simp) (.bool false)).setNew (p := ⟨w.heap.size + 2, 1, none⟩) (by simp) (.slice none 0 0))
    have e0 : Hid ((wokB s1 xs && wokB s2 ys) = false) := by show _ = _; simp [unhide HO]
    clear r1 r2 K
    go_wp2_with fail
    exact bodyPost_ret (v := .tuple #[.agg #[.bool false, .slice none 0 0], .bool false]) (by simp [results, Try.results15, go_sem, q0, q1]) rfl ⟨_, by rw [ansWB_no (unhide e0), ansWS_no (unhide e0)], by rw [ansWL_no (unhide e0)]; exact Row.nil _ _ _ _ _, unhide K'⟩
  have HO1 := hide ho1
  clear ho1
  go_wp2_with fail
  refine (wok_impl s2 _ r2).mono ?_
  rintro e w3 ⟨rfl, k3⟩
  replace r1 := r1.kept k3 (by omega)
  replace r2 := r2.kept k3 (by omega)
  replace qf0 := k3.loose0 (World.block_lt_of_cell? _ _ q0) qf0
  replace qf1 := k3.loose0 (World.block_lt_of_cell? _ _ q1) qf1
  replace p0 := k3.cell0 p0
  replace p1 := k3.cell0 p1
  replace t0 := k3.cell0 t0
  replace t1 := k3.cell0 t1
  replace q0 := k3.cell0 q0
  replace q1 := k3.cell0 q1
  replace K := hide ((unhide K).trans k3)
  have z4 := k3.size
  clear k3
  cases ho2 : wokB s2 ys
  · have HO := hide ho2
    clear ho2
    have K' := hide (((unhide K).setNew (p := ⟨w.heap.size + 2, 0, none⟩) (by simp) (.bool false)).setNew (p := ⟨w.heap.size + 2, 1, none⟩) (by simp) (.slice none 0 0))
    have e0 : Hid ((wokB s1 xs && wokB s2 ys) = false) := by show _ = _; simp [unhide HO]
    clear r1 r2 K
    go_wp2_with fail
    exact bodyPost_ret (v := .tuple #[.agg #[.bool false, .slice none 0 0], .bool false]) (by simp [results, Try.results15, go_sem, q0, q1]) rfl ⟨_, by rw [ansWB_no (unhide e0), ansWS_no (unhide e0)], by rw [ansWL_no (unhide e0)]; exact Row.nil _ _ _ _ _, unhide K'⟩
  have HO2 := hide ho2
  clear ho2
  obtain ⟨-, -, lx, hx⟩ := wok_int (unhide HO1)
  obtain ⟨-, -, ly, hy⟩ := wok_int (unhide HO2)
  have nx : xs.length ≤ 100000 := by omega
  have ny : ys.length ≤ 100000 := by omega
  have mx : xs.length ≤ 1000000 := by omega
  have my : ys.length ≤ 1000000 := by omega
  go_upto_region 3 with fail
  go_cut [6, 7] (fun p q wx => ∃ X Y, p = .pointer (some ⟨X, 0, none⟩) ∧ q = .pointer (some ⟨Y, 0, none⟩) ∧ Sig2 w3 wx X Y s1 xs s2 ys)
  case first =>
    have kw := Kept.refl 0 0 w3
    have own1 : True := trivial
    have own2 : True := trivial
    have kd := (Kept.refl 0 0 w3).drew
    replace r1 := r1.kept kd (by omega)
    replace r2 := r2.kept kd (by omega)
    replace kw := kw.trans kd
    replace qf0 := kd.loose0 (World.block_lt_of_cell? _ _ q0) qf0
    replace qf1 := kd.loose0 (World.block_lt_of_cell? _ _ q1) qf1
    replace p0 := kd.cell0 p0
    replace p1 := kd.cell0 p1
    replace t0 := kd.cell0 t0
    replace t1 := kd.cell0 t1
    replace q0 := kd.cell0 q0
    replace q1 := kd.cell0 q1
    replace K := hide ((unhide K).trans kd)
    have z5 := kd.size
    clear kd
    refine wp_region_held_drew (S := (fun w' => w'.cell? ⟨w.heap.size, 0, none⟩ = some (.bool s1) ∧ w'.cell? ⟨w.heap.size, 1, none⟩ = some (.slice a1 xs.length c1) ∧ w'.cell? ⟨w.heap.size + 1, 0, none⟩ = some (.bool s2) ∧ w'.cell? ⟨w.heap.size + 1, 1, none⟩ = some (.slice a2 ys.length c2))) (by kernel_rfl) ?_ (fun hHeld => ?_)
    · exact ⟨p0, p1, t0, t1⟩
    generalize w3.drew = wd at *
    refine wpAnyH_take (i := 0) (oi := _) (v := .agg #[.bool s1, .slice a1 xs.length c1]) rfl (by kernel_rfl) (by kernel_rfl) (by kernel_rfl) (fun _ _ _ h => h) (Or.inl ⟨by rfl, ?_⟩) hHeld ?_
    · intro wq hSw
      try dsimp only at hSw
      go_simp
    try simp only [Act.put, List.getElem_toArray, List.getElem_cons_succ, List.getElem_cons_zero, List.setIfInBounds_toArray, List.set_cons_zero, List.set_cons_succ]
    refine wpAnyH_take (i := 2) (oi := _) (v := .agg #[.bool s2, .slice a2 ys.length c2]) rfl (by kernel_rfl) (by kernel_rfl) (by kernel_rfl) (fun _ _ _ h => h) (Or.inl ⟨by rfl, ?_⟩) hHeld ?_
    · intro wq hSw
      try dsimp only at hSw
      go_simp
    try simp only [Act.put, List.getElem_toArray, List.getElem_cons_succ, List.getElem_cons_zero, List.setIfInBounds_toArray, List.set_cons_zero, List.set_cons_succ]
    refine wpAnyH_ready (rs := [1, 4, 5]) (by kernel_rfl) (by simp) ?_
    refine AllReadyH.cons rfl (fun KK hK => ?_) (AllReadyH.cons rfl (fun KK hK => ?_) (AllReadyH.cons rfl (fun KK hK => ?_) AllReadyH.nil))
    · simp only [List.getElem_toArray, List.getElem_cons_succ, List.getElem_cons_zero]
      rw [if_pos (by rfl)]
      refine wps1 33 (.tmp 17) _ rfl in_signedOf (.agg #[.bool s1, .slice a1 xs.length c1]) rfl (signedOf_impl s1 _ r1 mx) ?_
      rintro e w6 ⟨v3, rfl, o3, k6⟩
      refine ⟨_, rfl, ?_⟩
      replace r1 := r1.kept k6 (by omega)
      replace r2 := r2.kept k6 (by omega)
      replace kw := kw.trans k6
      replace qf0 := k6.loose0 (World.block_lt_of_cell? _ _ q0) qf0
      replace qf1 := k6.loose0 (World.block_lt_of_cell? _ _ q1) qf1
      replace p0 := k6.cell0 p0
      replace p1 := k6.cell0 p1
      replace t0 := k6.cell0 t0
      replace t1 := k6.cell0 t1
      replace q0 := k6.cell0 q0
      replace q1 := k6.cell0 q1
      replace K := hide ((unhide K).trans k6)
      have z7 := k6.size
      clear k6
      have l3 := o3.lt
      obtain ⟨a3, c3, hv⟩ := own_slice o3
      subst hv
      clear hHeld
      refine hK.out _ _ ?_ (fun hHeld => ?_)
      · exact ⟨p0, p1, t0, t1⟩
      clear hK KK
      try simp only [Act.put, List.getElem_toArray, List.getElem_cons_succ, List.getElem_cons_zero, List.setIfInBounds_toArray, List.set_cons_zero, List.set_cons_succ]
      refine wpAnyH_ready (rs := [3, 4, 5]) (by kernel_rfl) (by simp) ?_
      refine AllReadyH.cons rfl (fun KK hK => ?_) (AllReadyH.cons rfl (fun KK hK => ?_) (AllReadyH.cons rfl (fun KK hK => ?_) AllReadyH.nil))
      · simp only [List.getElem_toArray, List.getElem_cons_succ, List.getElem_cons_zero]
        rw [if_pos (by rfl)]
        refine wps1 33 (.tmp 19) _ rfl in_signedOf (.agg #[.bool s2, .slice a2 ys.length c2]) rfl (signedOf_impl s2 _ r2 my) ?_
        rintro e w8 ⟨v4, rfl, o4, k8⟩
        refine ⟨_, rfl, ?_⟩
        replace r1 := r1.kept k8 (by omega)
        replace r2 := r2.kept k8 (by omega)
        replace kw := kw.trans k8
        replace o3 := own_kept o3 k8
        replace qf0 := k8.loose0 (World.block_lt_of_cell? _ _ q0) qf0
        replace qf1 := k8.loose0 (World.block_lt_of_cell? _ _ q1) qf1
        replace p0 := k8.cell0 p0
        replace p1 := k8.cell0 p1
        replace t0 := k8.cell0 t0
        replace t1 := k8.cell0 t1
        replace q0 := k8.cell0 q0
        replace q1 := k8.cell0 q1
        replace K := hide ((unhide K).trans k8)
        have z9 := k8.size
        clear k8
        have l4 := o4.lt
        obtain ⟨a4, c4, hv⟩ := own_slice o4
        subst hv
        clear hHeld
        refine hK.out _ _ ?_ (fun hHeld => ?_)
        · exact ⟨p0, p1, t0, t1⟩
        clear hK KK
        try simp only [Act.put, List.getElem_toArray, List.getElem_cons_succ, List.getElem_cons_zero, List.setIfInBounds_toArray, List.set_cons_zero, List.set_cons_succ]
        refine wpAnyH_ready (rs := [4, 5]) (by kernel_rfl) (by simp) ?_
        refine AllReadyH.cons rfl (fun KK hK => ?_) (AllReadyH.cons rfl (fun KK hK => ?_) AllReadyH.nil)
        · simp only [List.getElem_toArray, List.getElem_cons_succ, List.getElem_cons_zero]
          rw [if_pos (by rfl)]
          go_simp
          have kn := (Kept.refl 0 0 w8).alloc (.cells #[.slice none 0 0, .bool false] 55)
          replace r1 := r1.kept kn (by omega)
          replace r2 := r2.kept kn (by omega)
          replace kw := kw.trans kn
          replace o3 := own_kept o3 kn
          replace o4 := own_kept o4 kn
          replace qf0 := kn.loose0 (World.block_lt_of_cell? _ _ q0) qf0
          replace qf1 := kn.loose0 (World.block_lt_of_cell? _ _ q1) qf1
          replace p0 := kn.cell0 p0
          replace p1 := kn.cell0 p1
          replace t0 := kn.cell0 t0
          replace t1 := kn.cell0 t1
          replace q0 := kn.cell0 q0
          replace q1 := kn.cell0 q1
          replace K := hide ((unhide K).trans kn)
          have z11 := kn.size
          clear kn
          have szx : w8.heap.size < (w8.alloc (.cells #[.slice none 0 0, .bool false] 55)).heap.size := by simp
          have x0 : (w8.alloc (.cells #[.slice none 0 0, .bool false] 55)).cell? ⟨w8.heap.size, 0, none⟩ = some (.slice none 0 0) := new_cell2 _ _ _ _ _ _ rfl rfl
          have xf0 : (w8.alloc (.cells #[.slice none 0 0, .bool false] 55)).frozen? ⟨w8.heap.size, 0, none⟩ = false := new_loose2 _ _ _ _ _ rfl
          have x1 : (w8.alloc (.cells #[.slice none 0 0, .bool false] 55)).cell? ⟨w8.heap.size, 1, none⟩ = some (.bool false) := new_cell2 _ _ _ _ _ _ rfl rfl
          have xf1 : (w8.alloc (.cells #[.slice none 0 0, .bool false] 55)).frozen? ⟨w8.heap.size, 1, none⟩ = false := new_loose2 _ _ _ _ _ rfl
          clear hHeld
          refine hK.out _ _ ?_ (fun hHeld => ?_)
          · exact ⟨p0, p1, t0, t1⟩
          clear hK KK
          try simp only [Act.put, List.getElem_toArray, List.getElem_cons_succ, List.getElem_cons_zero, List.setIfInBounds_toArray, List.set_cons_zero, List.set_cons_succ]
          generalize w8.alloc (.cells #[.slice none 0 0, .bool false] 55) = w10 at *
          refine wpAnyH_ready (rs := [5]) (by kernel_rfl) (by simp) ?_
          refine AllReadyH.cons rfl (fun KK hK => ?_) AllReadyH.nil
          · simp only [List.getElem_toArray, List.getElem_cons_succ, List.getElem_cons_zero]
            rw [if_pos (by rfl)]
            go_simp
            have kn := (Kept.refl 0 0 w10).alloc (.cells #[.slice none 0 0, .bool false] 55)
            replace r1 := r1.kept kn (by omega)
            replace r2 := r2.kept kn (by omega)
            replace kw := kw.trans kn
            replace o3 := own_kept o3 kn
            replace o4 := own_kept o4 kn
            replace qf0 := kn.loose0 (World.block_lt_of_cell? _ _ q0) qf0
            replace qf1 := kn.loose0 (World.block_lt_of_cell? _ _ q1) qf1
            replace xf0 := kn.loose0 (World.block_lt_of_cell? _ _ x0) xf0
            replace xf1 := kn.loose0 (World.block_lt_of_cell? _ _ x1) xf1
            replace p0 := kn.cell0 p0
            replace p1 := kn.cell0 p1
            replace t0 := kn.cell0 t0
            replace t1 := kn.cell0 t1
            replace q0 := kn.cell0 q0
            replace q1 := kn.cell0 q1
            replace x0 := kn.cell0 x0
            replace x1 := kn.cell0 x1
            replace K := hide ((unhide K).trans kn)
            have z13 := kn.size
            clear kn
            have szy : w10.heap.size < (w10.alloc (.cells #[.slice none 0 0, .bool false] 55)).heap.size := by simp
            have y0 : (w10.alloc (.cells #[.slice none 0 0, .bool false] 55)).cell? ⟨w10.heap.size, 0, none⟩ = some (.slice none 0 0) := new_cell2 _ _ _ _ _ _ rfl rfl
            have yf0 : (w10.alloc (.cells #[.slice none 0 0, .bool false] 55)).frozen? ⟨w10.heap.size, 0, none⟩ = false := new_loose2 _ _ _ _ _ rfl
            have y1 : (w10.alloc (.cells #[.slice none 0 0, .bool false] 55)).cell? ⟨w10.heap.size, 1, none⟩ = some (.bool false) := new_cell2 _ _ _ _ _ _ rfl rfl
            have yf1 : (w10.alloc (.cells #[.slice none 0 0, .bool false] 55)).frozen? ⟨w10.heap.size, 1, none⟩ = false := new_loose2 _ _ _ _ _ rfl
            clear hHeld
            refine hK.out _ _ ?_ (fun hHeld => ?_)
            · exact ⟨p0, p1, t0, t1⟩
            clear hK KK
            try simp only [Act.put, List.getElem_toArray, List.getElem_cons_succ, List.getElem_cons_zero, List.setIfInBounds_toArray, List.set_cons_zero, List.set_cons_succ]
            generalize w10.alloc (.cells #[.slice none 0 0, .bool false] 55) = w12 at *
            refine wpAnyH_ready (rs := [6]) (by kernel_rfl) (by simp) ?_
            refine AllReadyH.cons rfl (fun KK hK => ?_) AllReadyH.nil
            simp only [List.getElem_toArray, List.getElem_cons_succ, List.getElem_cons_zero]
            rw [if_pos (by rfl)]
            go_simp
            clear hHeld
            refine hK.out _ _ ?_ (fun hHeld => ?_)
            · exact ⟨(cell_aside _ (by have := unhide S0; dsimp only; omega) (cell_aside _ (by have := unhide S0; dsimp only; omega) p0)), (cell_aside _ (by have := unhide S0; dsimp only; omega) (cell_aside _ (by have := unhide S0; dsimp only; omega) p1)), (cell_aside _ (by have := unhide S0; dsimp only; omega) (cell_aside _ (by have := unhide S0; dsimp only; omega) t0)), (cell_aside _ (by have := unhide S0; dsimp only; omega) (cell_aside _ (by have := unhide S0; dsimp only; omega) t1))⟩
            clear hK KK
            try simp only [Act.put, List.getElem_toArray, List.getElem_cons_succ, List.getElem_cons_zero, List.setIfInBounds_toArray, List.set_cons_zero, List.set_cons_succ]
            refine wpAnyH_ready (rs := [7]) (by kernel_rfl) (by simp) ?_
            refine AllReadyH.cons rfl (fun KK hK => ?_) AllReadyH.nil
            simp only [List.getElem_toArray, List.getElem_cons_succ, List.getElem_cons_zero]
            rw [if_pos (by rfl)]
            go_simp
            clear hHeld
            refine hK.out _ _ ?_ (fun hHeld => ?_)
            · exact ⟨(cell_aside _ (by have := unhide S0; dsimp only; omega) (cell_aside _ (by have := unhide S0; dsimp only; omega) (cell_aside _ (by have := unhide S0; dsimp only; omega) (cell_aside _ (by have := unhide S0; dsimp only; omega) p0)))), (cell_aside _ (by have := unhide S0; dsimp only; omega) (cell_aside _ (by have := unhide S0; dsimp only; omega) (cell_aside _ (by have := unhide S0; dsimp only; omega) (cell_aside _ (by have := unhide S0; dsimp only; omega) p1)))), (cell_aside _ (by have := unhide S0; dsimp only; omega) (cell_aside _ (by have := unhide S0; dsimp only; omega) (cell_aside _ (by have := unhide S0; dsimp only; omega) (cell_aside _ (by have := unhide S0; dsimp only; omega) t0)))), (cell_aside _ (by have := unhide S0; dsimp only; omega) (cell_aside _ (by have := unhide S0; dsimp only; omega) (cell_aside _ (by have := unhide S0; dsimp only; omega) (cell_aside _ (by have := unhide S0; dsimp only; omega) t1))))⟩
            clear hK KK
            try simp only [Act.put, List.getElem_toArray, List.getElem_cons_succ, List.getElem_cons_zero, List.setIfInBounds_toArray, List.set_cons_zero, List.set_cons_succ]
            refine wpAnyH_done (by kernel_rfl) ?_ _
            clear hHeld
            go_wp2_with fail
            go_meet
            exact ⟨_, _, rfl, rfl, sig_pair s1 s2 kw o3 o4 x0 x1 xf0 xf1 y0 y1 yf0 yf1 (by omega) (by omega) (by omega) (by omega) (by omega) (fun e => by have := l3 _ e; omega) (fun e => by have := l3 _ e; omega) (fun e => by have := l4 _ e; omega) (fun e => by have := l4 _ e; omega) (fun k e1 e2 => by have := l3 _ e1; have := l4 _ e2; omega)⟩
        · simp only [List.getElem_toArray, List.getElem_cons_succ, List.getElem_cons_zero]
          rw [if_pos (by rfl)]
          go_simp
          have kn := (Kept.refl 0 0 w8).alloc (.cells #[.slice none 0 0, .bool false] 55)
          replace r1 := r1.kept kn (by omega)
          replace r2 := r2.kept kn (by omega)
          replace kw := kw.trans kn
          replace o3 := own_kept o3 kn
          replace o4 := own_kept o4 kn
          replace qf0 := kn.loose0 (World.block_lt_of_cell? _ _ q0) qf0
          replace qf1 := kn.loose0 (World.block_lt_of_cell? _ _ q1) qf1
          replace p0 := kn.cell0 p0
          replace p1 := kn.cell0 p1
          replace t0 := kn.cell0 t0
          replace t1 := kn.cell0 t1
          replace q0 := kn.cell0 q0
          replace q1 := kn.cell0 q1
          replace K := hide ((unhide K).trans kn)
          have z11 := kn.size
          clear kn
          have szy : w8.heap.size < (w8.alloc (.cells #[.slice none 0 0, .bool false] 55)).heap.size := by simp
          have y0 : (w8.alloc (.cells #[.slice none 0 0, .bool false] 55)).cell? ⟨w8.heap.size, 0, none⟩ = some (.slice none 0 0) := new_cell2 _ _ _ _ _ _ rfl rfl
          have yf0 : (w8.alloc (.cells #[.slice none 0 0, .bool false] 55)).frozen? ⟨w8.heap.size, 0, none⟩ = false := new_loose2 _ _ _ _ _ rfl
          have y1 : (w8.alloc (.cells #[.slice none 0 0, .bool false] 55)).cell? ⟨w8.heap.size, 1, none⟩ = some (.bool false) := new_cell2 _ _ _ _ _ _ rfl rfl
          have yf1 : (w8.alloc (.cells #[.slice none 0 0, .bool false] 55)).frozen? ⟨w8.heap.size, 1, none⟩ = false := new_loose2 _ _ _ _ _ rfl
          clear hHeld
          refine hK.out _ _ ?_ (fun hHeld => ?_)
          · exact ⟨p0, p1, t0, t1⟩
          clear hK KK
          try simp only [Act.put, List.getElem_toArray, List.getElem_cons_succ, List.getElem_cons_zero, List.setIfInBounds_toArray, List.set_cons_zero, List.set_cons_succ]
          generalize w8.alloc (.cells #[.slice none 0 0, .bool false] 55) = w10 at *
          refine wpAnyH_ready (rs := [4]) (by kernel_rfl) (by simp) ?_
          refine AllReadyH.cons rfl (fun KK hK => ?_) AllReadyH.nil
          · simp only [List.getElem_toArray, List.getElem_cons_succ, List.getElem_cons_zero]
            rw [if_pos (by rfl)]
            go_simp
            have kn := (Kept.refl 0 0 w10).alloc (.cells #[.slice none 0 0, .bool false] 55)
            replace r1 := r1.kept kn (by omega)
            replace r2 := r2.kept kn (by omega)
            replace kw := kw.trans kn
            replace o3 := own_kept o3 kn
            replace o4 := own_kept o4 kn
            replace qf0 := kn.loose0 (World.block_lt_of_cell? _ _ q0) qf0
            replace qf1 := kn.loose0 (World.block_lt_of_cell? _ _ q1) qf1
            replace yf0 := kn.loose0 (World.block_lt_of_cell? _ _ y0) yf0
            replace yf1 := kn.loose0 (World.block_lt_of_cell? _ _ y1) yf1
            replace p0 := kn.cell0 p0
            replace p1 := kn.cell0 p1
            replace t0 := kn.cell0 t0
            replace t1 := kn.cell0 t1
            replace q0 := kn.cell0 q0
            replace q1 := kn.cell0 q1
            replace y0 := kn.cell0 y0
            replace y1 := kn.cell0 y1
            replace K := hide ((unhide K).trans kn)
            have z13 := kn.size
            clear kn
            have szx : w10.heap.size < (w10.alloc (.cells #[.slice none 0 0, .bool false] 55)).heap.size := by simp
            have x0 : (w10.alloc (.cells #[.slice none 0 0, .bool false] 55)).cell? ⟨w10.heap.size, 0, none⟩ = some (.slice none 0 0) := new_cell2 _ _ _ _ _ _ rfl rfl
            have xf0 : (w10.alloc (.cells #[.slice none 0 0, .bool false] 55)).frozen? ⟨w10.heap.size, 0, none⟩ = false := new_loose2 _ _ _ _ _ rfl
            have x1 : (w10.alloc (.cells #[.slice none 0 0, .bool false] 55)).cell? ⟨w10.heap.size, 1, none⟩ = some (.bool false) := new_cell2 _ _ _ _ _ _ rfl rfl
            have xf1 : (w10.alloc (.cells #[.slice none 0 0, .bool false] 55)).frozen? ⟨w10.heap.size, 1, none⟩ = false := new_loose2 _ _ _ _ _ rfl
            clear hHeld
            refine hK.out _ _ ?_ (fun hHeld => ?_)
            · exact ⟨p0, p1, t0, t1⟩
            clear hK KK
            try simp only [Act.put, List.getElem_toArray, List.getElem_cons_succ, List.getElem_cons_zero, List.setIfInBounds_toArray, List.set_cons_zero, List.set_cons_succ]
            generalize w10.alloc (.cells #[.slice none 0 0, .bool false] 55) = w12 at *
            refine wpAnyH_ready (rs := [6]) (by kernel_rfl) (by simp) ?_
            refine AllReadyH.cons rfl (fun KK hK => ?_) AllReadyH.nil
            simp only [List.getElem_toArray, List.getElem_cons_succ, List.getElem_cons_zero]
            rw [if_pos (by rfl)]
            go_simp
            clear hHeld
            refine hK.out _ _ ?_ (fun hHeld => ?_)
            · exact ⟨(cell_aside _ (by have := unhide S0; dsimp only; omega) (cell_aside _ (by have := unhide S0; dsimp only; omega) p0)), (cell_aside _ (by have := unhide S0; dsimp only; omega) (cell_aside _ (by have := unhide S0; dsimp only; omega) p1)), (cell_aside _ (by have := unhide S0; dsimp only; omega) (cell_aside _ (by have := unhide S0; dsimp only; omega) t0)), (cell_aside _ (by have := unhide S0; dsimp only; omega) (cell_aside _ (by have := unhide S0; dsimp only; omega) t1))⟩
            clear hK KK
            try simp only [Act.put, List.getElem_toArray, List.getElem_cons_succ, List.getElem_cons_zero, List.setIfInBounds_toArray, List.set_cons_zero, List.set_cons_succ]
            refine wpAnyH_ready (rs := [7]) (by kernel_rfl) (by simp) ?_
            refine AllReadyH.cons rfl (fun KK hK => ?_) AllReadyH.nil
            simp only [List.getElem_toArray, List.getElem_cons_succ, List.getElem_cons_zero]
            rw [if_pos (by rfl)]
            go_simp
            clear hHeld
            refine hK.out _ _ ?_ (fun hHeld => ?_)
            · exact ⟨(cell_aside _ (by have := unhide S0; dsimp only; omega) (cell_aside _ (by have := unhide S0; dsimp only; omega) (cell_aside _ (by have := unhide S0; dsimp only; omega) (cell_aside _ (by have := unhide S0; dsimp only; omega) p0)))), (cell_aside _ (by have := unhide S0; dsimp only; omega) (cell_aside _ (by have := unhide S0; dsimp only; omega) (cell_aside _ (by have := unhide S0; dsimp only; omega) (cell_aside _ (by have := unhide S0; dsimp only; omega) p1)))), (cell_aside _ (by have := unhide S0; dsimp only; omega) (cell_aside _ (by have := unhide S0; dsimp only; omega) (cell_aside _ (by have := unhide S0; dsimp only; omega) (cell_aside _ (by have := unhide S0; dsimp only; omega) t0)))), (cell_aside _ (by have := unhide S0; dsimp only; omega) (cell_aside _ (by have := unhide S0; dsimp only; omega) (cell_aside _ (by have := unhide S0; dsimp only; omega) (cell_aside _ (by have := unhide S0; dsimp only; omega) t1))))⟩
            clear hK KK
            try simp only [Act.put, List.getElem_toArray, List.getElem_cons_succ, List.getElem_cons_zero, List.setIfInBounds_toArray, List.set_cons_zero, List.set_cons_succ]
            refine wpAnyH_done (by kernel_rfl) ?_ _
            clear hHeld
            go_wp2_with fail
            go_meet
            exact ⟨_, _, rfl, rfl, sig_pair s1 s2 kw o3 o4 x0 x1 xf0 xf1 y0 y1 yf0 yf1 (by omega) (by omega) (by omega) (by omega) (by omega) (fun e => by have := l3 _ e; omega) (fun e => by have := l3 _ e; omega) (fun e => by have := l4 _ e; omega) (fun e => by have := l4 _ e; omega) (fun k e1 e2 => by have := l3 _ e1; have := l4 _ e2; omega)⟩
      · simp only [List.getElem_toArray, List.getElem_cons_succ, List.getElem_cons_zero]
        rw [if_pos (by rfl)]
        go_simp
        have kn := (Kept.refl 0 0 w6).alloc (.cells #[.slice none 0 0, .bool false] 55)
        replace r1 := r1.kept kn (by omega)
        replace r2 := r2.kept kn (by omega)
        replace kw := kw.trans kn
        replace o3 := own_kept o3 kn
        replace qf0 := kn.loose0 (World.block_lt_of_cell? _ _ q0) qf0
        replace qf1 := kn.loose0 (World.block_lt_of_cell? _ _ q1) qf1
        replace p0 := kn.cell0 p0
        replace p1 := kn.cell0 p1
        replace t0 := kn.cell0 t0
        replace t1 := kn.cell0 t1
        replace q0 := kn.cell0 q0
        replace q1 := kn.cell0 q1
        replace K := hide ((unhide K).trans kn)
        have z9 := kn.size
        clear kn
        have szx : w6.heap.size < (w6.alloc (.cells #[.slice none 0 0, .bool false] 55)).heap.size := by simp
        have x0 : (w6.alloc (.cells #[.slice none 0 0, .bool false] 55)).cell? ⟨w6.heap.size, 0, none⟩ = some (.slice none 0 0) := new_cell2 _ _ _ _ _ _ rfl rfl
        have xf0 : (w6.alloc (.cells #[.slice none 0 0, .bool false] 55)).frozen? ⟨w6.heap.size, 0, none⟩ = false := new_loose2 _ _ _ _ _ rfl
        have x1 : (w6.alloc (.cells #[.slice none 0 0, .bool false] 55)).cell? ⟨w6.heap.size, 1, none⟩ = some (.bool false) := new_cell2 _ _ _ _ _ _ rfl rfl
        have xf1 : (w6.alloc (.cells #[.slice none 0 0, .bool false] 55)).frozen? ⟨w6.heap.size, 1, none⟩ = false := new_loose2 _ _ _ _ _ rfl
        clear hHeld
        refine hK.out _ _ ?_ (fun hHeld => ?_)
        · exact ⟨p0, p1, t0, t1⟩
        clear hK KK
        try simp only [Act.put, List.getElem_toArray, List.getElem_cons_succ, List.getElem_cons_zero, List.setIfInBounds_toArray, List.set_cons_zero, List.set_cons_succ]
        generalize w6.alloc (.cells #[.slice none 0 0, .bool false] 55) = w8 at *
        refine wpAnyH_ready (rs := [3, 5]) (by kernel_rfl) (by simp) ?_
        refine AllReadyH.cons rfl (fun KK hK => ?_) (AllReadyH.cons rfl (fun KK hK => ?_) AllReadyH.nil)
        · simp only [List.getElem_toArray, List.getElem_cons_succ, List.getElem_cons_zero]
          rw [if_pos (by rfl)]
          refine wps1 33 (.tmp 19) _ rfl in_signedOf (.agg #[.bool s2, .slice a2 ys.length c2]) rfl (signedOf_impl s2 _ r2 my) ?_
          rintro e w10 ⟨v4, rfl, o4, k10⟩
          refine ⟨_, rfl, ?_⟩
          replace r1 := r1.kept k10 (by omega)
          replace r2 := r2.kept k10 (by omega)
          replace kw := kw.trans k10
          replace o3 := own_kept o3 k10
          replace qf0 := k10.loose0 (World.block_lt_of_cell? _ _ q0) qf0
          replace qf1 := k10.loose0 (World.block_lt_of_cell? _ _ q1) qf1
          replace xf0 := k10.loose0 (World.block_lt_of_cell? _ _ x0) xf0
          replace xf1 := k10.loose0 (World.block_lt_of_cell? _ _ x1) xf1
          replace p0 := k10.cell0 p0
          replace p1 := k10.cell0 p1
          replace t0 := k10.cell0 t0
          replace t1 := k10.cell0 t1
          replace q0 := k10.cell0 q0
          replace q1 := k10.cell0 q1
          replace x0 := k10.cell0 x0
          replace x1 := k10.cell0 x1
          replace K := hide ((unhide K).trans k10)
          have z11 := k10.size
          clear k10
          have l4 := o4.lt
          obtain ⟨a4, c4, hv⟩ := own_slice o4
          subst hv
          clear hHeld
          refine hK.out _ _ ?_ (fun hHeld => ?_)
          · exact ⟨p0, p1, t0, t1⟩
          clear hK KK
          try simp only [Act.put, List.getElem_toArray, List.getElem_cons_succ, List.getElem_cons_zero, List.setIfInBounds_toArray, List.set_cons_zero, List.set_cons_succ]
          refine wpAnyH_ready (rs := [5]) (by kernel_rfl) (by simp) ?_
          refine AllReadyH.cons rfl (fun KK hK => ?_) AllReadyH.nil
          · simp only [List.getElem_toArray, List.getElem_cons_succ, List.getElem_cons_zero]
            rw [if_pos (by rfl)]
            go_simp
            have kn := (Kept.refl 0 0 w10).alloc (.cells #[.slice none 0 0, .bool false] 55)
            replace r1 := r1.kept kn (by omega)
            replace r2 := r2.kept kn (by omega)
            replace kw := kw.trans kn
            replace o3 := own_kept o3 kn
            replace o4 := own_kept o4 kn
            replace qf0 := kn.loose0 (World.block_lt_of_cell? _ _ q0) qf0
            replace qf1 := kn.loose0 (World.block_lt_of_cell? _ _ q1) qf1
            replace xf0 := kn.loose0 (World.block_lt_of_cell? _ _ x0) xf0
            replace xf1 := kn.loose0 (World.block_lt_of_cell? _ _ x1) xf1
            replace p0 := kn.cell0 p0
            replace p1 := kn.cell0 p1
            replace t0 := kn.cell0 t0
            replace t1 := kn.cell0 t1
            replace q0 := kn.cell0 q0
            replace q1 := kn.cell0 q1
            replace x0 := kn.cell0 x0
            replace x1 := kn.cell0 x1
            replace K := hide ((unhide K).trans kn)
            have z13 := kn.size
            clear kn
            have szy : w10.heap.size < (w10.alloc (.cells #[.slice none 0 0, .bool false] 55)).heap.size := by simp
            have y0 : (w10.alloc (.cells #[.slice none 0 0, .bool false] 55)).cell? ⟨w10.heap.size, 0, none⟩ = some (.slice none 0 0) := new_cell2 _ _ _ _ _ _ rfl rfl
            have yf0 : (w10.alloc (.cells #[.slice none 0 0, .bool false] 55)).frozen? ⟨w10.heap.size, 0, none⟩ = false := new_loose2 _ _ _ _ _ rfl
            have y1 : (w10.alloc (.cells #[.slice none 0 0, .bool false] 55)).cell? ⟨w10.heap.size, 1, none⟩ = some (.bool false) := new_cell2 _ _ _ _ _ _ rfl rfl
            have yf1 : (w10.alloc (.cells #[.slice none 0 0, .bool false] 55)).frozen? ⟨w10.heap.size, 1, none⟩ = false := new_loose2 _ _ _ _ _ rfl
            clear hHeld
            refine hK.out _ _ ?_ (fun hHeld => ?_)
            · exact ⟨p0, p1, t0, t1⟩
            clear hK KK
            try simp only [Act.put, List.getElem_toArray, List.getElem_cons_succ, List.getElem_cons_zero, List.setIfInBounds_toArray, List.set_cons_zero, List.set_cons_succ]
            generalize w10.alloc (.cells #[.slice none 0 0, .bool false] 55) = w12 at *
            refine wpAnyH_ready (rs := [6]) (by kernel_rfl) (by simp) ?_
            refine AllReadyH.cons rfl (fun KK hK => ?_) AllReadyH.nil
            simp only [List.getElem_toArray, List.getElem_cons_succ, List.getElem_cons_zero]
            rw [if_pos (by rfl)]
            go_simp
            clear hHeld
            refine hK.out _ _ ?_ (fun hHeld => ?_)
            · exact ⟨(cell_aside _ (by have := unhide S0; dsimp only; omega) (cell_aside _ (by have := unhide S0; dsimp only; omega) p0)), (cell_aside _ (by have := unhide S0; dsimp only; omega) (cell_aside _ (by have := unhide S0; dsimp only; omega) p1)), (cell_aside _ (by have := unhide S0; dsimp only; omega) (cell_aside _ (by have := unhide S0; dsimp only; omega) t0)), (cell_aside _ (by have := unhide S0; dsimp only; omega) (cell_aside _ (by have := unhide S0; dsimp only; omega) t1))⟩
            clear hK KK
            try simp only [Act.put, List.getElem_toArray, List.getElem_cons_succ, List.getElem_cons_zero, List.setIfInBounds_toArray, List.set_cons_zero, List.set_cons_succ]
            refine wpAnyH_ready (rs := [7]) (by kernel_rfl) (by simp) ?_
            refine AllReadyH.cons rfl (fun KK hK => ?_) AllReadyH.nil
            simp only [List.getElem_toArray, List.getElem_cons_succ, List.getElem_cons_zero]
            rw [if_pos (by rfl)]
            go_simp
            clear hHeld
            refine hK.out _ _ ?_ (fun hHeld => ?_)
            · exact ⟨(cell_aside _ (by have := unhide S0; dsimp only; omega) (cell_aside _ (by have := unhide S0; dsimp only; omega) (cell_aside _ (by have := unhide S0; dsimp only; omega) (cell_aside _ (by have := unhide S0; dsimp only; omega) p0)))), (cell_aside _ (by have := unhide S0; dsimp only; omega) (cell_aside _ (by have := unhide S0; dsimp only; omega) (cell_aside _ (by have := unhide S0; dsimp only; omega) (cell_aside _ (by have := unhide S0; dsimp only; omega) p1)))), (cell_aside _ (by have := unhide S0; dsimp only; omega) (cell_aside _ (by have := unhide S0; dsimp only; omega) (cell_aside _ (by have := unhide S0; dsimp only; omega) (cell_aside _ (by have := unhide S0; dsimp only; omega) t0)))), (cell_aside _ (by have := unhide S0; dsimp only; omega) (cell_aside _ (by have := unhide S0; dsimp only; omega) (cell_aside _ (by have := unhide S0; dsimp only; omega) (cell_aside _ (by have := unhide S0; dsimp only; omega) t1))))⟩
            clear hK KK
            try simp only [Act.put, List.getElem_toArray, List.getElem_cons_succ, List.getElem_cons_zero, List.setIfInBounds_toArray, List.set_cons_zero, List.set_cons_succ]
            refine wpAnyH_done (by kernel_rfl) ?_ _
            clear hHeld
            go_wp2_with fail
            go_meet
            exact ⟨_, _, rfl, rfl, sig_pair s1 s2 kw o3 o4 x0 x1 xf0 xf1 y0 y1 yf0 yf1 (by omega) (by omega) (by omega) (by omega) (by omega) (fun e => by have := l3 _ e; omega) (fun e => by have := l3 _ e; omega) (fun e => by have := l4 _ e; omega) (fun e => by have := l4 _ e; omega) (fun k e1 e2 => by have := l3 _ e1; have := l4 _ e2; omega)⟩
        · simp only [List.getElem_toArray, List.getElem_cons_succ, List.getElem_cons_zero]
          rw [if_pos (by rfl)]
          go_simp
          have kn := (Kept.refl 0 0 w8).alloc (.cells #[.slice none 0 0, .bool false] 55)
          replace r1 := r1.kept kn (by omega)
          replace r2 := r2.kept kn (by omega)
          replace kw := kw.trans kn
          replace o3 := own_kept o3 kn
          replace qf0 := kn.loose0 (World.block_lt_of_cell? _ _ q0) qf0
          replace qf1 := kn.loose0 (World.block_lt_of_cell? _ _ q1) qf1
          replace xf0 := kn.loose0 (World.block_lt_of_cell? _ _ x0) xf0
          replace xf1 := kn.loose0 (World.block_lt_of_cell? _ _ x1) xf1
          replace p0 := kn.cell0 p0
          replace p1 := kn.cell0 p1
          replace t0 := kn.cell0 t0
          replace t1 := kn.cell0 t1
          replace q0 := kn.cell0 q0
          replace q1 := kn.cell0 q1
          replace x0 := kn.cell0 x0
          replace x1 := kn.cell0 x1
          replace K := hide ((unhide K).trans kn)
          have z11 := kn.size
          clear kn
          have szy : w8.heap.size < (w8.alloc (.cells #[.slice none 0 0, .bool false] 55)).heap.size := by simp
          have y0 : (w8.alloc (.cells #[.slice none 0 0, .bool false] 55)).cell? ⟨w8.heap.size, 0, none⟩ = some (.slice none 0 0) := new_cell2 _ _ _ _ _ _ rfl rfl
          have yf0 : (w8.alloc (.cells #[.slice none 0 0, .bool false] 55)).frozen? ⟨w8.heap.size, 0, none⟩ = false := new_loose2 _ _ _ _ _ rfl
          have y1 : (w8.alloc (.cells #[.slice none 0 0, .bool false] 55)).cell? ⟨w8.heap.size, 1, none⟩ = some (.bool false) := new_cell2 _ _ _ _ _ _ rfl rfl
          have yf1 : (w8.alloc (.cells #[.slice none 0 0, .bool false] 55)).frozen? ⟨w8.heap.size, 1, none⟩ = false := new_loose2 _ _ _ _ _ rfl
          clear hHeld
          refine hK.out _ _ ?_ (fun hHeld => ?_)
          · exact ⟨p0, p1, t0, t1⟩
          clear hK KK
          try simp only [Act.put, List.getElem_toArray, List.getElem_cons_succ, List.getElem_cons_zero, List.setIfInBounds_toArray, List.set_cons_zero, List.set_cons_succ]
          generalize w8.alloc (.cells #[.slice none 0 0, .bool false] 55) = w10 at *
          refine wpAnyH_ready (rs := [3]) (by kernel_rfl) (by simp) ?_
          refine AllReadyH.cons rfl (fun KK hK => ?_) AllReadyH.nil
          · simp only [List.getElem_toArray, List.getElem_cons_succ, List.getElem_cons_zero]
            rw [if_pos (by rfl)]
            refine wps1 33 (.tmp 19) _ rfl in_signedOf (.agg #[.bool s2, .slice a2 ys.length c2]) rfl (signedOf_impl s2 _ r2 my) ?_
            rintro e w12 ⟨v4, rfl, o4, k12⟩
            refine ⟨_, rfl, ?_⟩
            replace r1 := r1.kept k12 (by omega)
            replace r2 := r2.kept k12 (by omega)
            replace kw := kw.trans k12
            replace o3 := own_kept o3 k12
            replace qf0 := k12.loose0 (World.block_lt_of_cell? _ _ q0) qf0
            replace qf1 := k12.loose0 (World.block_lt_of_cell? _ _ q1) qf1
            replace xf0 := k12.loose0 (World.block_lt_of_cell? _ _ x0) xf0
            replace xf1 := k12.loose0 (World.block_lt_of_cell? _ _ x1) xf1
            replace yf0 := k12.loose0 (World.block_lt_of_cell? _ _ y0) yf0
            replace yf1 := k12.loose0 (World.block_lt_of_cell? _ _ y1) yf1
            replace p0 := k12.cell0 p0
            replace p1 := k12.cell0 p1
            replace t0 := k12.cell0 t0
            replace t1 := k12.cell0 t1
            replace q0 := k12.cell0 q0
            replace q1 := k12.cell0 q1
            replace x0 := k12.cell0 x0
            replace x1 := k12.cell0 x1
            replace y0 := k12.cell0 y0
            replace y1 := k12.cell0 y1
            replace K := hide ((unhide K).trans k12)
            have z13 := k12.size
            clear k12
            have l4 := o4.lt
            obtain ⟨a4, c4, hv⟩ := own_slice o4
            subst hv
            clear hHeld
            refine hK.out _ _ ?_ (fun hHeld => ?_)
            · exact ⟨p0, p1, t0, t1⟩
            clear hK KK
            try simp only [Act.put, List.getElem_toArray, List.getElem_cons_succ, List.getElem_cons_zero, List.setIfInBounds_toArray, List.set_cons_zero, List.set_cons_succ]
            refine wpAnyH_ready (rs := [6]) (by kernel_rfl) (by simp) ?_
            refine AllReadyH.cons rfl (fun KK hK => ?_) AllReadyH.nil
            simp only [List.getElem_toArray, List.getElem_cons_succ, List.getElem_cons_zero]
            rw [if_pos (by rfl)]
            go_simp
            clear hHeld
            refine hK.out _ _ ?_ (fun hHeld => ?_)
            · exact ⟨(cell_aside _ (by have := unhide S0; dsimp only; omega) (cell_aside _ (by have := unhide S0; dsimp only; omega) p0)), (cell_aside _ (by have := unhide S0; dsimp only; omega) (cell_aside _ (by have := unhide S0; dsimp only; omega) p1)), (cell_aside _ (by have := unhide S0; dsimp only; omega) (cell_aside _ (by have := unhide S0; dsimp only; omega) t0)), (cell_aside _ (by have := unhide S0; dsimp only; omega) (cell_aside _ (by have := unhide S0; dsimp only; omega) t1))⟩
            clear hK KK
            try simp only [Act.put, List.getElem_toArray, List.getElem_cons_succ, List.getElem_cons_zero, List.setIfInBounds_toArray, List.set_cons_zero, List.set_cons_succ]
            refine wpAnyH_ready (rs := [7]) (by kernel_rfl) (by simp) ?_
            refine AllReadyH.cons rfl (fun KK hK => ?_) AllReadyH.nil
            simp only [List.getElem_toArray, List.getElem_cons_succ, List.getElem_cons_zero]
            rw [if_pos (by rfl)]
            go_simp
            clear hHeld
            refine hK.out _ _ ?_ (fun hHeld => ?_)
            · exact ⟨(cell_aside _ (by have := unhide S0; dsimp only; omega) (cell_aside _ (by have := unhide S0; dsimp only; omega) (cell_aside _ (by have := unhide S0; dsimp only; omega) (cell_aside _ (by have := unhide S0; dsimp only; omega) p0)))), (cell_aside _ (by have := unhide S0; dsimp only; omega) (cell_aside _ (by have := unhide S0; dsimp only; omega) (cell_aside _ (by have := unhide S0; dsimp only; omega) (cell_aside _ (by have := unhide S0; dsimp only; omega) p1)))), (cell_aside _ (by have := unhide S0; dsimp only; omega) (cell_aside _ (by have := unhide S0; dsimp only; omega) (cell_aside _ (by have := unhide S0; dsimp only; omega) (cell_aside _ (by have := unhide S0; dsimp only; omega) t0)))), (cell_aside _ (by have := unhide S0; dsimp only; omega) (cell_aside _ (by have := unhide S0; dsimp only; omega) (cell_aside _ (by have := unhide S0; dsimp only; omega) (cell_aside _ (by have := unhide S0; dsimp only; omega) t1))))⟩
            clear hK KK
            try simp only [Act.put, List.getElem_toArray, List.getElem_cons_succ, List.getElem_cons_zero, List.setIfInBounds_toArray, List.set_cons_zero, List.set_cons_succ]
            refine wpAnyH_done (by kernel_rfl) ?_ _
            clear hHeld
            go_wp2_with fail
            go_meet
            exact ⟨_, _, rfl, rfl, sig_pair s1 s2 kw o3 o4 x0 x1 xf0 xf1 y0 y1 yf0 yf1 (by omega) (by omega) (by omega) (by omega) (by omega) (fun e => by have := l3 _ e; omega) (fun e => by have := l3 _ e; omega) (fun e => by have := l4 _ e; omega) (fun e => by have := l4 _ e; omega) (fun k e1 e2 => by have := l3 _ e1; have := l4 _ e2; omega)⟩
      · simp only [List.getElem_toArray, List.getElem_cons_succ, List.getElem_cons_zero]
        rw [if_pos (by rfl)]
        go_simp
        have kn := (Kept.refl 0 0 w6).alloc (.cells #[.slice none 0 0, .bool false] 55)
        replace r1 := r1.kept kn (by omega)
        replace r2 := r2.kept kn (by omega)
        replace kw := kw.trans kn
        replace o3 := own_kept o3 kn
        replace qf0 := kn.loose0 (World.block_lt_of_cell? _ _ q0) qf0
        replace qf1 := kn.loose0 (World.block_lt_of_cell? _ _ q1) qf1
        replace p0 := kn.cell0 p0
        replace p1 := kn.cell0 p1
        replace t0 := kn.cell0 t0
        replace t1 := kn.cell0 t1
        replace q0 := kn.cell0 q0
        replace q1 := kn.cell0 q1
        replace K := hide ((unhide K).trans kn)
        have z9 := kn.size
        clear kn
        have szy : w6.heap.size < (w6.alloc (.cells #[.slice none 0 0, .bool false] 55)).heap.size := by simp
        have y0 : (w6.alloc (.cells #[.slice none 0 0, .bool false] 55)).cell? ⟨w6.heap.size, 0, none⟩ = some (.slice none 0 0) := new_cell2 _ _ _ _ _ _ rfl rfl
        have yf0 : (w6.alloc (.cells #[.slice none 0 0, .bool false] 55)).frozen? ⟨w6.heap.size, 0, none⟩ = false := new_loose2 _ _ _ _ _ rfl
        have y1 : (w6.alloc (.cells #[.slice none 0 0, .bool false] 55)).cell? ⟨w6.heap.size, 1, none⟩ = some (.bool false) := new_cell2 _ _ _ _ _ _ rfl rfl
        have yf1 : (w6.alloc (.cells #[.slice none 0 0, .bool false] 55)).frozen? ⟨w6.heap.size, 1, none⟩ = false := new_loose2 _ _ _ _ _ rfl
        clear hHeld
        refine hK.out _ _ ?_ (fun hHeld => ?_)
        · exact ⟨p0, p1, t0, t1⟩
        clear hK KK
        try simp only [Act.put, List.getElem_toArray, List.getElem_cons_succ, List.getElem_cons_zero, List.setIfInBounds_toArray, List.set_cons_zero, List.set_cons_succ]
        generalize w6.alloc (.cells #[.slice none 0 0, .bool false] 55) = w8 at *
        refine wpAnyH_ready (rs := [3, 4]) (by kernel_rfl) (by simp) ?_
        refine AllReadyH.cons rfl (fun KK hK => ?_) (AllReadyH.cons rfl (fun KK hK => ?_) AllReadyH.nil)
        · simp only [List.getElem_toArray, List.getElem_cons_succ, List.getElem_cons_zero]
          rw [if_pos (by rfl)]
          refine wps1 33 (.tmp 19) _ rfl in_signedOf (.agg #[.bool s2, .slice a2 ys.length c2]) rfl (signedOf_impl s2 _ r2 my) ?_
          rintro e w10 ⟨v4, rfl, o4, k10⟩
          refine ⟨_, rfl, ?_⟩
          replace r1 := r1.kept k10 (by omega)
          replace r2 := r2.kept k10 (by omega)
          replace kw := kw.trans k10
          replace o3 := own_kept o3 k10
          replace qf0 := k10.loose0 (World.block_lt_of_cell? _ _ q0) qf0
          replace qf1 := k10.loose0 (World.block_lt_of_cell? _ _ q1) qf1
          replace yf0 := k10.loose0 (World.block_lt_of_cell? _ _ y0) yf0
          replace yf1 := k10.loose0 (World.block_lt_of_cell? _ _ y1) yf1
          replace p0 := k10.cell0 p0
          replace p1 := k10.cell0 p1
          replace t0 := k10.cell0 t0
          replace t1 := k10.cell0 t1
          replace q0 := k10.cell0 q0
          replace q1 := k10.cell0 q1
          replace y0 := k10.cell0 y0
          replace y1 := k10.cell0 y1
          replace K := hide ((unhide K).trans k10)
          have z11 := k10.size
          clear k10
          have l4 := o4.lt
          obtain ⟨a4, c4, hv⟩ := own_slice o4
          subst hv
          clear hHeld
          refine hK.out _ _ ?_ (fun hHeld => ?_)
          · exact ⟨p0, p1, t0, t1⟩
          clear hK KK
          try simp only [Act.put, List.getElem_toArray, List.getElem_cons_succ, List.getElem_cons_zero, List.setIfInBounds_toArray, List.set_cons_zero, List.set_cons_succ]
          refine wpAnyH_ready (rs := [4]) (by kernel_rfl) (by simp) ?_
          refine AllReadyH.cons rfl (fun KK hK => ?_) AllReadyH.nil
          · simp only [List.getElem_toArray, List.getElem_cons_succ, List.getElem_cons_zero]
            rw [if_pos (by rfl)]
            go_simp
            have kn := (Kept.refl 0 0 w10).alloc (.cells #[.slice none 0 0, .bool false] 55)
            replace r1 := r1.kept kn (by omega)
            replace r2 := r2.kept kn (by omega)
            replace kw := kw.trans kn
            replace o3 := own_kept o3 kn
            replace o4 := own_kept o4 kn
            replace qf0 := kn.loose0 (World.block_lt_of_cell? _ _ q0) qf0
            replace qf1 := kn.loose0 (World.block_lt_of_cell? _ _ q1) qf1
            replace yf0 := kn.loose0 (World.block_lt_of_cell? _ _ y0) yf0
            replace yf1 := kn.loose0 (World.block_lt_of_cell? _ _ y1) yf1
            replace p0 := kn.cell0 p0
            replace p1 := kn.cell0 p1
            replace t0 := kn.cell0 t0
            replace t1 := kn.cell0 t1
            replace q0 := kn.cell0 q0
            replace q1 := kn.cell0 q1
            replace y0 := kn.cell0 y0
            replace y1 := kn.cell0 y1
            replace K := hide ((unhide K).trans kn)
            have z13 := kn.size
            clear kn
            have szx : w10.heap.size < (w10.alloc (.cells #[.slice none 0 0, .bool false] 55)).heap.size := by simp
            have x0 : (w10.alloc (.cells #[.slice none 0 0, .bool false] 55)).cell? ⟨w10.heap.size, 0, none⟩ = some (.slice none 0 0) := new_cell2 _ _ _ _ _ _ rfl rfl
            have xf0 : (w10.alloc (.cells #[.slice none 0 0, .bool false] 55)).frozen? ⟨w10.heap.size, 0, none⟩ = false := new_loose2 _ _ _ _ _ rfl
            have x1 : (w10.alloc (.cells #[.slice none 0 0, .bool false] 55)).cell? ⟨w10.heap.size, 1, none⟩ = some (.bool false) := new_cell2 _ _ _ _ _ _ rfl rfl
            have xf1 : (w10.alloc (.cells #[.slice none 0 0, .bool false] 55)).frozen? ⟨w10.heap.size, 1, none⟩ = false := new_loose2 _ _ _ _ _ rfl
            clear hHeld
            refine hK.out _ _ ?_ (fun hHeld => ?_)
            · exact ⟨p0, p1, t0, t1⟩
            clear hK KK
            try simp only [Act.put, List.getElem_toArray, List.getElem_cons_succ, List.getElem_cons_zero, List.setIfInBounds_toArray, List.set_cons_zero, List.set_cons_succ]
            generalize w10.alloc (.cells #[.slice none 0 0, .bool false] 55) = w12 at *
            refine wpAnyH_ready (rs := [6]) (by kernel_rfl) (by simp) ?_
            refine AllReadyH.cons rfl (fun KK hK => ?_) AllReadyH.nil
            simp only [List.getElem_toArray, List.getElem_cons_succ, List.getElem_cons_zero]
            rw [if_pos (by rfl)]
            go_simp
            clear hHeld
            refine hK.out _ _ ?_ (fun hHeld => ?_)
            · exact ⟨(cell_aside _ (by have := unhide S0; dsimp only; omega) (cell_aside _ (by have := unhide S0; dsimp only; omega) p0)), (cell_aside _ (by have := unhide S0; dsimp only; omega) (cell_aside _ (by have := unhide S0; dsimp only; omega) p1)), (cell_aside _ (by have := unhide S0; dsimp only; omega) (cell_aside _ (by have := unhide S0; dsimp only; omega) t0)), (cell_aside _ (by have := unhide S0; dsimp only; omega) (cell_aside _ (by have := unhide S0; dsimp only; omega) t1))⟩
            clear hK KK
            try simp only [Act.put, List.getElem_toArray, List.getElem_cons_succ, List.getElem_cons_zero, List.setIfInBounds_toArray, List.set_cons_zero, List.set_cons_succ]
            refine wpAnyH_ready (rs := [7]) (by kernel_rfl) (by simp) ?_
            refine AllReadyH.cons rfl (fun KK hK => ?_) AllReadyH.nil
            simp only [List.getElem_toArray, List.getElem_cons_succ, List.getElem_cons_zero]
            rw [if_pos (by rfl)]
            go_simp
            clear hHeld
            refine hK.out _ _ ?_ (fun hHeld => ?_)
            · exact ⟨(cell_aside _ (by have := unhide S0; dsimp only; omega) (cell_aside _ (by have := unhide S0; dsimp only; omega) (cell_aside _ (by have := unhide S0; dsimp only; omega) (cell_aside _ (by have := unhide S0; dsimp only; omega) p0)))), (cell_aside _ (by have := unhide S0; dsimp only; omega) (cell_aside _ (by have := unhide S0; dsimp only; omega) (cell_aside _ (by have := unhide S0; dsimp only; omega) (cell_aside _ (by have := unhide S0; dsimp only; omega) p1)))), (cell_aside _ (by have := unhide S0; dsimp only; omega) (cell_aside _ (by have := unhide S0; dsimp only; omega) (cell_aside _ (by have := unhide S0; dsimp only; omega) (cell_aside _ (by have := unhide S0; dsimp only; omega) t0)))), (cell_aside _ (by have := unhide S0; dsimp only; omega) (cell_aside _ (by have := unhide S0; dsimp only; omega) (cell_aside _ (by have := unhide S0; dsimp only; omega) (cell_aside _ (by have := unhide S0; dsimp only; omega) t1))))⟩
            clear hK KK
            try simp only [Act.put, List.getElem_toArray, List.getElem_cons_succ, List.getElem_cons_zero, List.setIfInBounds_toArray, List.set_cons_zero, List.set_cons_succ]
            refine wpAnyH_done (by kernel_rfl) ?_ _
            clear hHeld
            go_wp2_with fail
            go_meet
            exact ⟨_, _, rfl, rfl, sig_pair s1 s2 kw o3 o4 x0 x1 xf0 xf1 y0 y1 yf0 yf1 (by omega) (by omega) (by omega) (by omega) (by omega) (fun e => by have := l3 _ e; omega) (fun e => by have := l3 _ e; omega) (fun e => by have := l4 _ e; omega) (fun e => by have := l4 _ e; omega) (fun k e1 e2 => by have := l3 _ e1; have := l4 _ e2; omega)⟩
        · simp only [List.getElem_toArray, List.getElem_cons_succ, List.getElem_cons_zero]
          rw [if_pos (by rfl)]
          go_simp
          have kn := (Kept.refl 0 0 w8).alloc (.cells #[.slice none 0 0, .bool false] 55)
          replace r1 := r1.kept kn (by omega)
          replace r2 := r2.kept kn (by omega)
          replace kw := kw.trans kn
          replace o3 := own_kept o3 kn
          replace qf0 := kn.loose0 (World.block_lt_of_cell? _ _ q0) qf0
          replace qf1 := kn.loose0 (World.block_lt_of_cell? _ _ q1) qf1
          replace yf0 := kn.loose0 (World.block_lt_of_cell? _ _ y0) yf0
          replace yf1 := kn.loose0 (World.block_lt_of_cell? _ _ y1) yf1
          replace p0 := kn.cell0 p0
          replace p1 := kn.cell0 p1
          replace t0 := kn.cell0 t0
          replace t1 := kn.cell0 t1
          replace q0 := kn.cell0 q0
          replace q1 := kn.cell0 q1
          replace y0 := kn.cell0 y0
          replace y1 := kn.cell0 y1
          replace K := hide ((unhide K).trans kn)
          have z11 := kn.size
          clear kn
          have szx : w8.heap.size < (w8.alloc (.cells #[.slice none 0 0, .bool false] 55)).heap.size := by simp
          have x0 : (w8.alloc (.cells #[.slice none 0 0, .bool false] 55)).cell? ⟨w8.heap.size, 0, none⟩ = some (.slice none 0 0) := new_cell2 _ _ _ _ _ _ rfl rfl
          have xf0 : (w8.alloc (.cells #[.slice none 0 0, .bool false] 55)).frozen? ⟨w8.heap.size, 0, none⟩ = false := new_loose2 _ _ _ _ _ rfl
          have x1 : (w8.alloc (.cells #[.slice none 0 0, .bool false] 55)).cell? ⟨w8.heap.size, 1, none⟩ = some (.bool false) := new_cell2 _ _ _ _ _ _ rfl rfl
          have xf1 : (w8.alloc (.cells #[.slice none 0 0, .bool false] 55)).frozen? ⟨w8.heap.size, 1, none⟩ = false := new_loose2 _ _ _ _ _ rfl
          clear hHeld
          refine hK.out _ _ ?_ (fun hHeld => ?_)
          · exact ⟨p0, p1, t0, t1⟩
          clear hK KK
          try simp only [Act.put, List.getElem_toArray, List.getElem_cons_succ, List.getElem_cons_zero, List.setIfInBounds_toArray, List.set_cons_zero, List.set_cons_succ]
          generalize w8.alloc (.cells #[.slice none 0 0, .bool false] 55) = w10 at *
          refine wpAnyH_ready (rs := [3]) (by kernel_rfl) (by simp) ?_
          refine AllReadyH.cons rfl (fun KK hK => ?_) AllReadyH.nil
          · simp only [List.getElem_toArray, List.getElem_cons_succ, List.getElem_cons_zero]
            rw [if_pos (by rfl)]
            refine wps1 33 (.tmp 19) _ rfl in_signedOf (.agg #[.bool s2, .slice a2 ys.length c2]) rfl (signedOf_impl s2 _ r2 my) ?_
            rintro e w12 ⟨v4, rfl, o4, k12⟩
            refine ⟨_, rfl, ?_⟩
            replace r1 := r1.kept k12 (by omega)
            replace r2 := r2.kept k12 (by omega)
            replace kw := kw.trans k12
            replace o3 := own_kept o3 k12
            replace qf0 := k12.loose0 (World.block_lt_of_cell? _ _ q0) qf0
            replace qf1 := k12.loose0 (World.block_lt_of_cell? _ _ q1) qf1
            replace yf0 := k12.loose0 (World.block_lt_of_cell? _ _ y0) yf0
            replace yf1 := k12.loose0 (World.block_lt_of_cell? _ _ y1) yf1
            replace xf0 := k12.loose0 (World.block_lt_of_cell? _ _ x0) xf0
            replace xf1 := k12.loose0 (World.block_lt_of_cell? _ _ x1) xf1
            replace p0 := k12.cell0 p0
            replace p1 := k12.cell0 p1
            replace t0 := k12.cell0 t0
            replace t1 := k12.cell0 t1
            replace q0 := k12.cell0 q0
            replace q1 := k12.cell0 q1
            replace y0 := k12.cell0 y0
            replace y1 := k12.cell0 y1
            replace x0 := k12.cell0 x0
            replace x1 := k12.cell0 x1
            replace K := hide ((unhide K).trans k12)
            have z13 := k12.size
            clear k12
            have l4 := o4.lt
            obtain ⟨a4, c4, hv⟩ := own_slice o4
            subst hv
            clear hHeld
            refine hK.out _ _ ?_ (fun hHeld => ?_)
            · exact ⟨p0, p1, t0, t1⟩
            clear hK KK
            try simp only [Act.put, List.getElem_toArray, List.getElem_cons_succ, List.getElem_cons_zero, List.setIfInBounds_toArray, List.set_cons_zero, List.set_cons_succ]
            refine wpAnyH_ready (rs := [6]) (by kernel_rfl) (by simp) ?_
            refine AllReadyH.cons rfl (fun KK hK => ?_) AllReadyH.nil
            simp only [List.getElem_toArray, List.getElem_cons_succ, List.getElem_cons_zero]
            rw [if_pos (by rfl)]
            go_simp
            clear hHeld
            refine hK.out _ _ ?_ (fun hHeld => ?_)
            · exact ⟨(cell_aside _ (by have := unhide S0; dsimp only; omega) (cell_aside _ (by have := unhide S0; dsimp only; omega) p0)), (cell_aside _ (by have := unhide S0; dsimp only; omega) (cell_aside _ (by have := unhide S0; dsimp only; omega) p1)), (cell_aside _ (by have := unhide S0; dsimp only; omega) (cell_aside _ (by have := unhide S0; dsimp only; omega) t0)), (cell_aside _ (by have := unhide S0; dsimp only; omega) (cell_aside _ (by have := unhide S0; dsimp only; omega) t1))⟩
            clear hK KK
            try simp only [Act.put, List.getElem_toArray, List.getElem_cons_succ, List.getElem_cons_zero, List.setIfInBounds_toArray, List.set_cons_zero, List.set_cons_succ]
            refine wpAnyH_ready (rs := [7]) (by kernel_rfl) (by simp) ?_
            refine AllReadyH.cons rfl (fun KK hK => ?_) AllReadyH.nil
            simp only [List.getElem_toArray, List.getElem_cons_succ, List.getElem_cons_zero]
            rw [if_pos (by rfl)]
            go_simp
            clear hHeld
            refine hK.out _ _ ?_ (fun hHeld => ?_)
            · exact ⟨(cell_aside _ (by have := unhide S0; dsimp only; omega) (cell_aside _ (by have := unhide S0; dsimp only; omega) (cell_aside _ (by have := unhide S0; dsimp only; omega) (cell_aside _ (by have := unhide S0; dsimp only; omega) p0)))), (cell_aside _ (by have := unhide S0; dsimp only; omega) (cell_aside _ (by have := unhide S0; dsimp only; omega) (cell_aside _ (by have := unhide S0; dsimp only; omega) (cell_aside _ (by have := unhide S0; dsimp only; omega) p1)))), (cell_aside _ (by have := unhide S0; dsimp only; omega) (cell_aside _ (by have := unhide S0; dsimp only; omega) (cell_aside _ (by have := unhide S0; dsimp only; omega) (cell_aside _ (by have := unhide S0; dsimp only; omega) t0)))), (cell_aside _ (by have := unhide S0; dsimp only; omega) (cell_aside _ (by have := unhide S0; dsimp only; omega) (cell_aside _ (by have := unhide S0; dsimp only; omega) (cell_aside _ (by have := unhide S0; dsimp only; omega) t1))))⟩
            clear hK KK
            try simp only [Act.put, List.getElem_toArray, List.getElem_cons_succ, List.getElem_cons_zero, List.setIfInBounds_toArray, List.set_cons_zero, List.set_cons_succ]
            refine wpAnyH_done (by kernel_rfl) ?_ _
            clear hHeld
            go_wp2_with fail
            go_meet
            exact ⟨_, _, rfl, rfl, sig_pair s1 s2 kw o3 o4 x0 x1 xf0 xf1 y0 y1 yf0 yf1 (by omega) (by omega) (by omega) (by omega) (by omega) (fun e => by have := l3 _ e; omega) (fun e => by have := l3 _ e; omega) (fun e => by have := l4 _ e; omega) (fun e => by have := l4 _ e; omega) (fun k e1 e2 => by have := l3 _ e1; have := l4 _ e2; omega)⟩
    · simp only [List.getElem_toArray, List.getElem_cons_succ, List.getElem_cons_zero]
      rw [if_pos (by rfl)]
      go_simp
      have kn := (Kept.refl 0 0 wd).alloc (.cells #[.slice none 0 0, .bool false] 55)
      replace r1 := r1.kept kn (by omega)
      replace r2 := r2.kept kn (by omega)
      replace kw := kw.trans kn
      replace qf0 := kn.loose0 (World.block_lt_of_cell? _ _ q0) qf0
      replace qf1 := kn.loose0 (World.block_lt_of_cell? _ _ q1) qf1
      replace p0 := kn.cell0 p0
      replace p1 := kn.cell0 p1
      replace t0 := kn.cell0 t0
      replace t1 := kn.cell0 t1
      replace q0 := kn.cell0 q0
      replace q1 := kn.cell0 q1
      replace K := hide ((unhide K).trans kn)
      have z7 := kn.size
      clear kn
      have szx : wd.heap.size < (wd.alloc (.cells #[.slice none 0 0, .bool false] 55)).heap.size := by simp
      have x0 : (wd.alloc (.cells #[.slice none 0 0, .bool false] 55)).cell? ⟨wd.heap.size, 0, none⟩ = some (.slice none 0 0) := new_cell2 _ _ _ _ _ _ rfl rfl
      have xf0 : (wd.alloc (.cells #[.slice none 0 0, .bool false] 55)).frozen? ⟨wd.heap.size, 0, none⟩ = false := new_loose2 _ _ _ _ _ rfl
      have x1 : (wd.alloc (.cells #[.slice none 0 0, .bool false] 55)).cell? ⟨wd.heap.size, 1, none⟩ = some (.bool false) := new_cell2 _ _ _ _ _ _ rfl rfl
      have xf1 : (wd.alloc (.cells #[.slice none 0 0, .bool false] 55)).frozen? ⟨wd.heap.size, 1, none⟩ = false := new_loose2 _ _ _ _ _ rfl
      clear hHeld
      refine hK.out _ _ ?_ (fun hHeld => ?_)
      · exact ⟨p0, p1, t0, t1⟩
      clear hK KK
      try simp only [Act.put, List.getElem_toArray, List.getElem_cons_succ, List.getElem_cons_zero, List.setIfInBounds_toArray, List.set_cons_zero, List.set_cons_succ]
      generalize wd.alloc (.cells #[.slice none 0 0, .bool false] 55) = w6 at *
      refine wpAnyH_ready (rs := [1, 5]) (by kernel_rfl) (by simp) ?_
      refine AllReadyH.cons rfl (fun KK hK => ?_) (AllReadyH.cons rfl (fun KK hK => ?_) AllReadyH.nil)
      · simp only [List.getElem_toArray, List.getElem_cons_succ, List.getElem_cons_zero]
        rw [if_pos (by rfl)]
        refine wps1 33 (.tmp 17) _ rfl in_signedOf (.agg #[.bool s1, .slice a1 xs.length c1]) rfl (signedOf_impl s1 _ r1 mx) ?_
        rintro e w8 ⟨v3, rfl, o3, k8⟩
        refine ⟨_, rfl, ?_⟩
        replace r1 := r1.kept k8 (by omega)
        replace r2 := r2.kept k8 (by omega)
        replace kw := kw.trans k8
        replace qf0 := k8.loose0 (World.block_lt_of_cell? _ _ q0) qf0
        replace qf1 := k8.loose0 (World.block_lt_of_cell? _ _ q1) qf1
        replace xf0 := k8.loose0 (World.block_lt_of_cell? _ _ x0) xf0
        replace xf1 := k8.loose0 (World.block_lt_of_cell? _ _ x1) xf1
        replace p0 := k8.cell0 p0
        replace p1 := k8.cell0 p1
        replace t0 := k8.cell0 t0
        replace t1 := k8.cell0 t1
        replace q0 := k8.cell0 q0
        replace q1 := k8.cell0 q1
        replace x0 := k8.cell0 x0
        replace x1 := k8.cell0 x1
        replace K := hide ((unhide K).trans k8)
        have z9 := k8.size
        clear k8
        have l3 := o3.lt
        obtain ⟨a3, c3, hv⟩ := own_slice o3
        subst hv
        clear hHeld
        refine hK.out _ _ ?_ (fun hHeld => ?_)
        · exact ⟨p0, p1, t0, t1⟩
        clear hK KK
        try simp only [Act.put, List.getElem_toArray, List.getElem_cons_succ, List.getElem_cons_zero, List.setIfInBounds_toArray, List.set_cons_zero, List.set_cons_succ]
        refine wpAnyH_ready (rs := [3, 5]) (by kernel_rfl) (by simp) ?_
        refine AllReadyH.cons rfl (fun KK hK => ?_) (AllReadyH.cons rfl (fun KK hK => ?_) AllReadyH.nil)
        · simp only [List.getElem_toArray, List.getElem_cons_succ, List.getElem_cons_zero]
          rw [if_pos (by rfl)]
          refine wps1 33 (.tmp 19) _ rfl in_signedOf (.agg #[.bool s2, .slice a2 ys.length c2]) rfl (signedOf_impl s2 _ r2 my) ?_
          rintro e w10 ⟨v4, rfl, o4, k10⟩
          refine ⟨_, rfl, ?_⟩
          replace r1 := r1.kept k10 (by omega)
          replace r2 := r2.kept k10 (by omega)
          replace kw := kw.trans k10
          replace o3 := own_kept o3 k10
          replace qf0 := k10.loose0 (World.block_lt_of_cell? _ _ q0) qf0
          replace qf1 := k10.loose0 (World.block_lt_of_cell? _ _ q1) qf1
          replace xf0 := k10.loose0 (World.block_lt_of_cell? _ _ x0) xf0
          replace xf1 := k10.loose0 (World.block_lt_of_cell? _ _ x1) xf1
          replace p0 := k10.cell0 p0
          replace p1 := k10.cell0 p1
          replace t0 := k10.cell0 t0
          replace t1 := k10.cell0 t1
          replace q0 := k10.cell0 q0
          replace q1 := k10.cell0 q1
          replace x0 := k10.cell0 x0
          replace x1 := k10.cell0 x1
          replace K := hide ((unhide K).trans k10)
          have z11 := k10.size
          clear k10
          have l4 := o4.lt
          obtain ⟨a4, c4, hv⟩ := own_slice o4
          subst hv
          clear hHeld
          refine hK.out _ _ ?_ (fun hHeld => ?_)
          · exact ⟨p0, p1, t0, t1⟩
          clear hK KK
          try simp only [Act.put, List.getElem_toArray, List.getElem_cons_succ, List.getElem_cons_zero, List.setIfInBounds_toArray, List.set_cons_zero, List.set_cons_succ]
          refine wpAnyH_ready (rs := [5]) (by kernel_rfl) (by simp) ?_
          refine AllReadyH.cons rfl (fun KK hK => ?_) AllReadyH.nil
          · simp only [List.getElem_toArray, List.getElem_cons_succ, List.getElem_cons_zero]
            rw [if_pos (by rfl)]
            go_simp
            have kn := (Kept.refl 0 0 w10).alloc (.cells #[.slice none 0 0, .bool false] 55)
            replace r1 := r1.kept kn (by omega)
            replace r2 := r2.kept kn (by omega)
            replace kw := kw.trans kn
            replace o3 := own_kept o3 kn
            replace o4 := own_kept o4 kn
            replace qf0 := kn.loose0 (World.block_lt_of_cell? _ _ q0) qf0
            replace qf1 := kn.loose0 (World.block_lt_of_cell? _ _ q1) qf1
            replace xf0 := kn.loose0 (World.block_lt_of_cell? _ _ x0) xf0
            replace xf1 := kn.loose0 (World.block_lt_of_cell? _ _ x1) xf1
            replace p0 := kn.cell0 p0
            replace p1 := kn.cell0 p1
            replace t0 := kn.cell0 t0
            replace t1 := kn.cell0 t1
            replace q0 := kn.cell0 q0
            replace q1 := kn.cell0 q1
            replace x0 := kn.cell0 x0
            replace x1 := kn.cell0 x1
            replace K := hide ((unhide K).trans kn)
            have z13 := kn.size
            clear kn
            have szy : w10.heap.size < (w10.alloc (.cells #[.slice none 0 0, .bool false] 55)).heap.size := by simp
            have y0 : (w10.alloc (.cells #[.slice none 0 0, .bool false] 55)).cell? ⟨w10.heap.size, 0, none⟩ = some (.slice none 0 0) := new_cell2 _ _ _ _ _ _ rfl rfl
            have yf0 : (w10.alloc (.cells #[.slice none 0 0, .bool false] 55)).frozen? ⟨w10.heap.size, 0, none⟩ = false := new_loose2 _ _ _ _ _ rfl
            have y1 : (w10.alloc (.cells #[.slice none 0 0, .bool false] 55)).cell? ⟨w10.heap.size, 1, none⟩ = some (.bool false) := new_cell2 _ _ _ _ _ _ rfl rfl
            have yf1 : (w10.alloc (.cells #[.slice none 0 0, .bool false] 55)).frozen? ⟨w10.heap.size, 1, none⟩ = false := new_loose2 _ _ _ _ _ rfl
            clear hHeld
            refine hK.out _ _ ?_ (fun hHeld => ?_)
            · exact ⟨p0, p1, t0, t1⟩
            clear hK KK
            try simp only [Act.put, List.getElem_toArray, List.getElem_cons_succ, List.getElem_cons_zero, List.setIfInBounds_toArray, List.set_cons_zero, List.set_cons_succ]
            generalize w10.alloc (.cells #[.slice none 0 0, .bool false] 55) = w12 at *
            refine wpAnyH_ready (rs := [6]) (by kernel_rfl) (by simp) ?_
            refine AllReadyH.cons rfl (fun KK hK => ?_) AllReadyH.nil
            simp only [List.getElem_toArray, List.getElem_cons_succ, List.getElem_cons_zero]
            rw [if_pos (by rfl)]
            go_simp
            clear hHeld
            refine hK.out _ _ ?_ (fun hHeld => ?_)
            · exact ⟨(cell_aside _ (by have := unhide S0; dsimp only; omega) (cell_aside _ (by have := unhide S0; dsimp only; omega) p0)), (cell_aside _ (by have := unhide S0; dsimp only; omega) (cell_aside _ (by have := unhide S0; dsimp only; omega) p1)), (cell_aside _ (by have := unhide S0; dsimp only; omega) (cell_aside _ (by have := unhide S0; dsimp only; omega) t0)), (cell_aside _ (by have := unhide S0; dsimp only; omega) (cell_aside _ (by have := unhide S0; dsimp only; omega) t1))⟩
            clear hK KK
            try simp only [Act.put, List.getElem_toArray, List.getElem_cons_succ, List.getElem_cons_zero, List.setIfInBounds_toArray, List.set_cons_zero, List.set_cons_succ]
            refine wpAnyH_ready (rs := [7]) (by kernel_rfl) (by simp) ?_
            refine AllReadyH.cons rfl (fun KK hK => ?_) AllReadyH.nil
            simp only [List.getElem_toArray, List.getElem_cons_succ, List.getElem_cons_zero]
            rw [if_pos (by rfl)]
            go_simp
            clear hHeld
            refine hK.out _ _ ?_ (fun hHeld => ?_)
            · exact ⟨(cell_aside _ (by have := unhide S0; dsimp only; omega) (cell_aside _ (by have := unhide S0; dsimp only; omega) (cell_aside _ (by have := unhide S0; dsimp only; omega) (cell_aside _ (by have := unhide S0; dsimp only; omega) p0)))), (cell_aside _ (by have := unhide S0; dsimp only; omega) (cell_aside _ (by have := unhide S0; dsimp only; omega) (cell_aside _ (by have := unhide S0; dsimp only; omega) (cell_aside _ (by have := unhide S0; dsimp only; omega) p1)))), (cell_aside _ (by have := unhide S0; dsimp only; omega) (cell_aside _ (by have := unhide S0; dsimp only; omega) (cell_aside _ (by have := unhide S0; dsimp only; omega) (cell_aside _ (by have := unhide S0; dsimp only; omega) t0)))), (cell_aside _ (by have := unhide S0; dsimp only; omega) (cell_aside _ (by have := unhide S0; dsimp only; omega) (cell_aside _ (by have := unhide S0; dsimp only; omega) (cell_aside _ (by have := unhide S0; dsimp only; omega) t1))))⟩
            clear hK KK
            try simp only [Act.put, List.getElem_toArray, List.getElem_cons_succ, List.getElem_cons_zero, List.setIfInBounds_toArray, List.set_cons_zero, List.set_cons_succ]
            refine wpAnyH_done (by kernel_rfl) ?_ _
            clear hHeld
            go_wp2_with fail
            go_meet
            exact ⟨_, _, rfl, rfl, sig_pair s1 s2 kw o3 o4 x0 x1 xf0 xf1 y0 y1 yf0 yf1 (by omega) (by omega) (by omega) (by omega) (by omega) (fun e => by have := l3 _ e; omega) (fun e => by have := l3 _ e; omega) (fun e => by have := l4 _ e; omega) (fun e => by have := l4 _ e; omega) (fun k e1 e2 => by have := l3 _ e1; have := l4 _ e2; omega)⟩
        · simp only [List.getElem_toArray, List.getElem_cons_succ, List.getElem_cons_zero]
          rw [if_pos (by rfl)]
          go_simp
          have kn := (Kept.refl 0 0 w8).alloc (.cells #[.slice none 0 0, .bool false] 55)
          replace r1 := r1.kept kn (by omega)
          replace r2 := r2.kept kn (by omega)
          replace kw := kw.trans kn
          replace o3 := own_kept o3 kn
          replace qf0 := kn.loose0 (World.block_lt_of_cell? _ _ q0) qf0
          replace qf1 := kn.loose0 (World.block_lt_of_cell? _ _ q1) qf1
          replace xf0 := kn.loose0 (World.block_lt_of_cell? _ _ x0) xf0
          replace xf1 := kn.loose0 (World.block_lt_of_cell? _ _ x1) xf1
          replace p0 := kn.cell0 p0
          replace p1 := kn.cell0 p1
          replace t0 := kn.cell0 t0
          replace t1 := kn.cell0 t1
          replace q0 := kn.cell0 q0
          replace q1 := kn.cell0 q1
          replace x0 := kn.cell0 x0
          replace x1 := kn.cell0 x1
          replace K := hide ((unhide K).trans kn)
          have z11 := kn.size
          clear kn
          have szy : w8.heap.size < (w8.alloc (.cells #[.slice none 0 0, .bool false] 55)).heap.size := by simp
          have y0 : (w8.alloc (.cells #[.slice none 0 0, .bool false] 55)).cell? ⟨w8.heap.size, 0, none⟩ = some (.slice none 0 0) := new_cell2 _ _ _ _ _ _ rfl rfl
          have yf0 : (w8.alloc (.cells #[.slice none 0 0, .bool false] 55)).frozen? ⟨w8.heap.size, 0, none⟩ = false := new_loose2 _ _ _ _ _ rfl
          have y1 : (w8.alloc (.cells #[.slice none 0 0, .bool false] 55)).cell? ⟨w8.heap.size, 1, none⟩ = some (.bool false) := new_cell2 _ _ _ _ _ _ rfl rfl
          have yf1 : (w8.alloc (.cells #[.slice none 0 0, .bool false] 55)).frozen? ⟨w8.heap.size, 1, none⟩ = false := new_loose2 _ _ _ _ _ rfl
          clear hHeld
          refine hK.out _ _ ?_ (fun hHeld => ?_)
          · exact ⟨p0, p1, t0, t1⟩
          clear hK KK
          try simp only [Act.put, List.getElem_toArray, List.getElem_cons_succ, List.getElem_cons_zero, List.setIfInBounds_toArray, List.set_cons_zero, List.set_cons_succ]
          generalize w8.alloc (.cells #[.slice none 0 0, .bool false] 55) = w10 at *
          refine wpAnyH_ready (rs := [3]) (by kernel_rfl) (by simp) ?_
          refine AllReadyH.cons rfl (fun KK hK => ?_) AllReadyH.nil
          · simp only [List.getElem_toArray, List.getElem_cons_succ, List.getElem_cons_zero]
            rw [if_pos (by rfl)]
            refine wps1 33 (.tmp 19) _ rfl in_signedOf (.agg #[.bool s2, .slice a2 ys.length c2]) rfl (signedOf_impl s2 _ r2 my) ?_
            rintro e w12 ⟨v4, rfl, o4, k12⟩
            refine ⟨_, rfl, ?_⟩
            replace r1 := r1.kept k12 (by omega)
            replace r2 := r2.kept k12 (by omega)
            replace kw := kw.trans k12
            replace o3 := own_kept o3 k12
            replace qf0 := k12.loose0 (World.block_lt_of_cell? _ _ q0) qf0
            replace qf1 := k12.loose0 (World.block_lt_of_cell? _ _ q1) qf1
            replace xf0 := k12.loose0 (World.block_lt_of_cell? _ _ x0) xf0
            replace xf1 := k12.loose0 (World.block_lt_of_cell? _ _ x1) xf1
            replace yf0 := k12.loose0 (World.block_lt_of_cell? _ _ y0) yf0
            replace yf1 := k12.loose0 (World.block_lt_of_cell? _ _ y1) yf1
            replace p0 := k12.cell0 p0
            replace p1 := k12.cell0 p1
            replace t0 := k12.cell0 t0
            replace t1 := k12.cell0 t1
            replace q0 := k12.cell0 q0
            replace q1 := k12.cell0 q1
            replace x0 := k12.cell0 x0
            replace x1 := k12.cell0 x1
            replace y0 := k12.cell0 y0
            replace y1 := k12.cell0 y1
            replace K := hide ((unhide K).trans k12)
            have z13 := k12.size
            clear k12
            have l4 := o4.lt
            obtain ⟨a4, c4, hv⟩ := own_slice o4
            subst hv
            clear hHeld
            refine hK.out _ _ ?_ (fun hHeld => ?_)
            · exact ⟨p0, p1, t0, t1⟩
            clear hK KK
            try simp only [Act.put, List.getElem_toArray, List.getElem_cons_succ, List.getElem_cons_zero, List.setIfInBounds_toArray, List.set_cons_zero, List.set_cons_succ]
            refine wpAnyH_ready (rs := [6]) (by kernel_rfl) (by simp) ?_
            refine AllReadyH.cons rfl (fun KK hK => ?_) AllReadyH.nil
            simp only [List.getElem_toArray, List.getElem_cons_succ, List.getElem_cons_zero]
            rw [if_pos (by rfl)]
            go_simp
            clear hHeld
            refine hK.out _ _ ?_ (fun hHeld => ?_)
            · exact ⟨(cell_aside _ (by have := unhide S0; dsimp only; omega) (cell_aside _ (by have := unhide S0; dsimp only; omega) p0)), (cell_aside _ (by have := unhide S0; dsimp only; omega) (cell_aside _ (by have := unhide S0; dsimp only; omega) p1)), (cell_aside _ (by have := unhide S0; dsimp only; omega) (cell_aside _ (by have := unhide S0; dsimp only; omega) t0)), (cell_aside _ (by have := unhide S0; dsimp only; omega) (cell_aside _ (by have := unhide S0; dsimp only; omega) t1))⟩
            clear hK KK
            try simp only [Act.put, List.getElem_toArray, List.getElem_cons_succ, List.getElem_cons_zero, List.setIfInBounds_toArray, List.set_cons_zero, List.set_cons_succ]
            refine wpAnyH_ready (rs := [7]) (by kernel_rfl) (by simp) ?_
            refine AllReadyH.cons rfl (fun KK hK => ?_) AllReadyH.nil
            simp only [List.getElem_toArray, List.getElem_cons_succ, List.getElem_cons_zero]
            rw [if_pos (by rfl)]
            go_simp
            clear hHeld
            refine hK.out _ _ ?_ (fun hHeld => ?_)
            · exact ⟨(cell_aside _ (by have := unhide S0; dsimp only; omega) (cell_aside _ (by have := unhide S0; dsimp only; omega) (cell_aside _ (by have := unhide S0; dsimp only; omega) (cell_aside _ (by have := unhide S0; dsimp only; omega) p0)))), (cell_aside _ (by have := unhide S0; dsimp only; omega) (cell_aside _ (by have := unhide S0; dsimp only; omega) (cell_aside _ (by have := unhide S0; dsimp only; omega) (cell_aside _ (by have := unhide S0; dsimp only; omega) p1)))), (cell_aside _ (by have := unhide S0; dsimp only; omega) (cell_aside _ (by have := unhide S0; dsimp only; omega) (cell_aside _ (by have := unhide S0; dsimp only; omega) (cell_aside _ (by have := unhide S0; dsimp only; omega) t0)))), (cell_aside _ (by have := unhide S0; dsimp only; omega) (cell_aside _ (by have := unhide S0; dsimp only; omega) (cell_aside _ (by have := unhide S0; dsimp only; omega) (cell_aside _ (by have := unhide S0; dsimp only; omega) t1))))⟩
            clear hK KK
            try simp only [Act.put, List.getElem_toArray, List.getElem_cons_succ, List.getElem_cons_zero, List.setIfInBounds_toArray, List.set_cons_zero, List.set_cons_succ]
            refine wpAnyH_done (by kernel_rfl) ?_ _
            clear hHeld
            go_wp2_with fail
            go_meet
            exact ⟨_, _, rfl, rfl, sig_pair s1 s2 kw o3 o4 x0 x1 xf0 xf1 y0 y1 yf0 yf1 (by omega) (by omega) (by omega) (by omega) (by omega) (fun e => by have := l3 _ e; omega) (fun e => by have := l3 _ e; omega) (fun e => by have := l4 _ e; omega) (fun e => by have := l4 _ e; omega) (fun k e1 e2 => by have := l3 _ e1; have := l4 _ e2; omega)⟩
      · simp only [List.getElem_toArray, List.getElem_cons_succ, List.getElem_cons_zero]
        rw [if_pos (by rfl)]
        go_simp
        have kn := (Kept.refl 0 0 w6).alloc (.cells #[.slice none 0 0, .bool false] 55)
        replace r1 := r1.kept kn (by omega)
        replace r2 := r2.kept kn (by omega)
        replace kw := kw.trans kn
        replace qf0 := kn.loose0 (World.block_lt_of_cell? _ _ q0) qf0
        replace qf1 := kn.loose0 (World.block_lt_of_cell? _ _ q1) qf1
        replace xf0 := kn.loose0 (World.block_lt_of_cell? _ _ x0) xf0
        replace xf1 := kn.loose0 (World.block_lt_of_cell? _ _ x1) xf1
        replace p0 := kn.cell0 p0
        replace p1 := kn.cell0 p1
        replace t0 := kn.cell0 t0
        replace t1 := kn.cell0 t1
        replace q0 := kn.cell0 q0
        replace q1 := kn.cell0 q1
        replace x0 := kn.cell0 x0
        replace x1 := kn.cell0 x1
        replace K := hide ((unhide K).trans kn)
        have z9 := kn.size
        clear kn
        have szy : w6.heap.size < (w6.alloc (.cells #[.slice none 0 0, .bool false] 55)).heap.size := by simp
        have y0 : (w6.alloc (.cells #[.slice none 0 0, .bool false] 55)).cell? ⟨w6.heap.size, 0, none⟩ = some (.slice none 0 0) := new_cell2 _ _ _ _ _ _ rfl rfl
        have yf0 : (w6.alloc (.cells #[.slice none 0 0, .bool false] 55)).frozen? ⟨w6.heap.size, 0, none⟩ = false := new_loose2 _ _ _ _ _ rfl
        have y1 : (w6.alloc (.cells #[.slice none 0 0, .bool false] 55)).cell? ⟨w6.heap.size, 1, none⟩ = some (.bool false) := new_cell2 _ _ _ _ _ _ rfl rfl
        have yf1 : (w6.alloc (.cells #[.slice none 0 0, .bool false] 55)).frozen? ⟨w6.heap.size, 1, none⟩ = false := new_loose2 _ _ _ _ _ rfl
        clear hHeld
        refine hK.out _ _ ?_ (fun hHeld => ?_)
        · exact ⟨p0, p1, t0, t1⟩
        clear hK KK
        try simp only [Act.put, List.getElem_toArray, List.getElem_cons_succ, List.getElem_cons_zero, List.setIfInBounds_toArray, List.set_cons_zero, List.set_cons_succ]
        generalize w6.alloc (.cells #[.slice none 0 0, .bool false] 55) = w8 at *
        refine wpAnyH_ready (rs := [1]) (by kernel_rfl) (by simp) ?_
        refine AllReadyH.cons rfl (fun KK hK => ?_) AllReadyH.nil
        · simp only [List.getElem_toArray, List.getElem_cons_succ, List.getElem_cons_zero]
          rw [if_pos (by rfl)]
          refine wps1 33 (.tmp 17) _ rfl in_signedOf (.agg #[.bool s1, .slice a1 xs.length c1]) rfl (signedOf_impl s1 _ r1 mx) ?_
          rintro e w10 ⟨v3, rfl, o3, k10⟩
          refine ⟨_, rfl, ?_⟩
          replace r1 := r1.kept k10 (by omega)
          replace r2 := r2.kept k10 (by omega)
          replace kw := kw.trans k10
          replace qf0 := k10.loose0 (World.block_lt_of_cell? _ _ q0) qf0
          replace qf1 := k10.loose0 (World.block_lt_of_cell? _ _ q1) qf1
          replace xf0 := k10.loose0 (World.block_lt_of_cell? _ _ x0) xf0
          replace xf1 := k10.loose0 (World.block_lt_of_cell? _ _ x1) xf1
          replace yf0 := k10.loose0 (World.block_lt_of_cell? _ _ y0) yf0
          replace yf1 := k10.loose0 (World.block_lt_of_cell? _ _ y1) yf1
          replace p0 := k10.cell0 p0
          replace p1 := k10.cell0 p1
          replace t0 := k10.cell0 t0
          replace t1 := k10.cell0 t1
          replace q0 := k10.cell0 q0
          replace q1 := k10.cell0 q1
          replace x0 := k10.cell0 x0
          replace x1 := k10.cell0 x1
          replace y0 := k10.cell0 y0
          replace y1 := k10.cell0 y1
          replace K := hide ((unhide K).trans k10)
          have z11 := k10.size
          clear k10
          have l3 := o3.lt
          obtain ⟨a3, c3, hv⟩ := own_slice o3
          subst hv
          clear hHeld
          refine hK.out _ _ ?_ (fun hHeld => ?_)
          · exact ⟨p0, p1, t0, t1⟩
          clear hK KK
          try simp only [Act.put, List.getElem_toArray, List.getElem_cons_succ, List.getElem_cons_zero, List.setIfInBounds_toArray, List.set_cons_zero, List.set_cons_succ]
          refine wpAnyH_ready (rs := [3]) (by kernel_rfl) (by simp) ?_
          refine AllReadyH.cons rfl (fun KK hK => ?_) AllReadyH.nil
          · simp only [List.getElem_toArray, List.getElem_cons_succ, List.getElem_cons_zero]
            rw [if_pos (by rfl)]
            refine wps1 33 (.tmp 19) _ rfl in_signedOf (.agg #[.bool s2, .slice a2 ys.length c2]) rfl (signedOf_impl s2 _ r2 my) ?_
            rintro e w12 ⟨v4, rfl, o4, k12⟩
            refine ⟨_, rfl, ?_⟩
            replace r1 := r1.kept k12 (by omega)
            replace r2 := r2.kept k12 (by omega)
            replace kw := kw.trans k12
            replace o3 := own_kept o3 k12
            replace qf0 := k12.loose0 (World.block_lt_of_cell? _ _ q0) qf0
            replace qf1 := k12.loose0 (World.block_lt_of_cell? _ _ q1) qf1
            replace xf0 := k12.loose0 (World.block_lt_of_cell? _ _ x0) xf0
            replace xf1 := k12.loose0 (World.block_lt_of_cell? _ _ x1) xf1
            replace yf0 := k12.loose0 (World.block_lt_of_cell? _ _ y0) yf0
            replace yf1 := k12.loose0 (World.block_lt_of_cell? _ _ y1) yf1
            replace p0 := k12.cell0 p0
            replace p1 := k12.cell0 p1
            replace t0 := k12.cell0 t0
            replace t1 := k12.cell0 t1
            replace q0 := k12.cell0 q0
            replace q1 := k12.cell0 q1
            replace x0 := k12.cell0 x0
            replace x1 := k12.cell0 x1
            replace y0 := k12.cell0 y0
            replace y1 := k12.cell0 y1
            replace K := hide ((unhide K).trans k12)
            have z13 := k12.size
            clear k12
            have l4 := o4.lt
            obtain ⟨a4, c4, hv⟩ := own_slice o4
            subst hv
            clear hHeld
            refine hK.out _ _ ?_ (fun hHeld => ?_)
            · exact ⟨p0, p1, t0, t1⟩
            clear hK KK
            try simp only [Act.put, List.getElem_toArray, List.getElem_cons_succ, List.getElem_cons_zero, List.setIfInBounds_toArray, List.set_cons_zero, List.set_cons_succ]
            refine wpAnyH_ready (rs := [6]) (by kernel_rfl) (by simp) ?_
            refine AllReadyH.cons rfl (fun KK hK => ?_) AllReadyH.nil
            simp only [List.getElem_toArray, List.getElem_cons_succ, List.getElem_cons_zero]
            rw [if_pos (by rfl)]
            go_simp
            clear hHeld
            refine hK.out _ _ ?_ (fun hHeld => ?_)
            · exact ⟨(cell_aside _ (by have := unhide S0; dsimp only; omega) (cell_aside _ (by have := unhide S0; dsimp only; omega) p0)), (cell_aside _ (by have := unhide S0; dsimp only; omega) (cell_aside _ (by have := unhide S0; dsimp only; omega) p1)), (cell_aside _ (by have := unhide S0; dsimp only; omega) (cell_aside _ (by have := unhide S0; dsimp only; omega) t0)), (cell_aside _ (by have := unhide S0; dsimp only; omega) (cell_aside _ (by have := unhide S0; dsimp only; omega) t1))⟩
            clear hK KK
            try simp only [Act.put, List.getElem_toArray, List.getElem_cons_succ, List.getElem_cons_zero, List.setIfInBounds_toArray, List.set_cons_zero, List.set_cons_succ]
            refine wpAnyH_ready (rs := [7]) (by kernel_rfl) (by simp) ?_
            refine AllReadyH.cons rfl (fun KK hK => ?_) AllReadyH.nil
            simp only [List.getElem_toArray, List.getElem_cons_succ, List.getElem_cons_zero]
            rw [if_pos (by rfl)]
            go_simp
            clear hHeld
            refine hK.out _ _ ?_ (fun hHeld => ?_)
            · exact ⟨(cell_aside _ (by have := unhide S0; dsimp only; omega) (cell_aside _ (by have := unhide S0; dsimp only; omega) (cell_aside _ (by have := unhide S0; dsimp only; omega) (cell_aside _ (by have := unhide S0; dsimp only; omega) p0)))), (cell_aside _ (by have := unhide S0; dsimp only; omega) (cell_aside _ (by have := unhide S0; dsimp only; omega) (cell_aside _ (by have := unhide S0; dsimp only; omega) (cell_aside _ (by have := unhide S0; dsimp only; omega) p1)))), (cell_aside _ (by have := unhide S0; dsimp only; omega) (cell_aside _ (by have := unhide S0; dsimp only; omega) (cell_aside _ (by have := unhide S0; dsimp only; omega) (cell_aside _ (by have := unhide S0; dsimp only; omega) t0)))), (cell_aside _ (by have := unhide S0; dsimp only; omega) (cell_aside _ (by have := unhide S0; dsimp only; omega) (cell_aside _ (by have := unhide S0; dsimp only; omega) (cell_aside _ (by have := unhide S0; dsimp only; omega) t1))))⟩
            clear hK KK
            try simp only [Act.put, List.getElem_toArray, List.getElem_cons_succ, List.getElem_cons_zero, List.setIfInBounds_toArray, List.set_cons_zero, List.set_cons_succ]
            refine wpAnyH_done (by kernel_rfl) ?_ _
            clear hHeld
            go_wp2_with fail
            go_meet
            exact ⟨_, _, rfl, rfl, sig_pair s1 s2 kw o3 o4 x0 x1 xf0 xf1 y0 y1 yf0 yf1 (by omega) (by omega) (by omega) (by omega) (by omega) (fun e => by have := l3 _ e; omega) (fun e => by have := l3 _ e; omega) (fun e => by have := l4 _ e; omega) (fun e => by have := l4 _ e; omega) (fun k e1 e2 => by have := l3 _ e1; have := l4 _ e2; omega)⟩
    · simp only [List.getElem_toArray, List.getElem_cons_succ, List.getElem_cons_zero]
      rw [if_pos (by rfl)]
      go_simp
      have kn := (Kept.refl 0 0 wd).alloc (.cells #[.slice none 0 0, .bool false] 55)
      replace r1 := r1.kept kn (by omega)
      replace r2 := r2.kept kn (by omega)
      replace kw := kw.trans kn
      replace qf0 := kn.loose0 (World.block_lt_of_cell? _ _ q0) qf0
      replace qf1 := kn.loose0 (World.block_lt_of_cell? _ _ q1) qf1
      replace p0 := kn.cell0 p0
      replace p1 := kn.cell0 p1
      replace t0 := kn.cell0 t0
      replace t1 := kn.cell0 t1
      replace q0 := kn.cell0 q0
      replace q1 := kn.cell0 q1
      replace K := hide ((unhide K).trans kn)
      have z7 := kn.size
      clear kn
      have szy : wd.heap.size < (wd.alloc (.cells #[.slice none 0 0, .bool false] 55)).heap.size := by simp
      have y0 : (wd.alloc (.cells #[.slice none 0 0, .bool false] 55)).cell? ⟨wd.heap.size, 0, none⟩ = some (.slice none 0 0) := new_cell2 _ _ _ _ _ _ rfl rfl
      have yf0 : (wd.alloc (.cells #[.slice none 0 0, .bool false] 55)).frozen? ⟨wd.heap.size, 0, none⟩ = false := new_loose2 _ _ _ _ _ rfl
      have y1 : (wd.alloc (.cells #[.slice none 0 0, .bool false] 55)).cell? ⟨wd.heap.size, 1, none⟩ = some (.bool false) := new_cell2 _ _ _ _ _ _ rfl rfl
      have yf1 : (wd.alloc (.cells #[.slice none 0 0, .bool false] 55)).frozen? ⟨wd.heap.size, 1, none⟩ = false := new_loose2 _ _ _ _ _ rfl
      clear hHeld
      refine hK.out _ _ ?_ (fun hHeld => ?_)
      · exact ⟨p0, p1, t0, t1⟩
      clear hK KK
      try simp only [Act.put, List.getElem_toArray, List.getElem_cons_succ, List.getElem_cons_zero, List.setIfInBounds_toArray, List.set_cons_zero, List.set_cons_succ]
      generalize wd.alloc (.cells #[.slice none 0 0, .bool false] 55) = w6 at *
      refine wpAnyH_ready (rs := [1, 4]) (by kernel_rfl) (by simp) ?_
      refine AllReadyH.cons rfl (fun KK hK => ?_) (AllReadyH.cons rfl (fun KK hK => ?_) AllReadyH.nil)
      · simp only [List.getElem_toArray, List.getElem_cons_succ, List.getElem_cons_zero]
        rw [if_pos (by rfl)]
        refine wps1 33 (.tmp 17) _ rfl in_signedOf (.agg #[.bool s1, .slice a1 xs.length c1]) rfl (signedOf_impl s1 _ r1 mx) ?_
        rintro e w8 ⟨v3, rfl, o3, k8⟩
        refine ⟨_, rfl, ?_⟩
        replace r1 := r1.kept k8 (by omega)
        replace r2 := r2.kept k8 (by omega)
        replace kw := kw.trans k8
        replace qf0 := k8.loose0 (World.block_lt_of_cell? _ _ q0) qf0
        replace qf1 := k8.loose0 (World.block_lt_of_cell? _ _ q1) qf1
        replace yf0 := k8.loose0 (World.block_lt_of_cell? _ _ y0) yf0
        replace yf1 := k8.loose0 (World.block_lt_of_cell? _ _ y1) yf1
        replace p0 := k8.cell0 p0
        replace p1 := k8.cell0 p1
        replace t0 := k8.cell0 t0
        replace t1 := k8.cell0 t1
        replace q0 := k8.cell0 q0
        replace q1 := k8.cell0 q1
        replace y0 := k8.cell0 y0
        replace y1 := k8.cell0 y1
        replace K := hide ((unhide K).trans k8)
        have z9 := k8.size
        clear k8
        have l3 := o3.lt
        obtain ⟨a3, c3, hv⟩ := own_slice o3
        subst hv
        clear hHeld
        refine hK.out _ _ ?_ (fun hHeld => ?_)
        · exact ⟨p0, p1, t0, t1⟩
        clear hK KK
        try simp only [Act.put, List.getElem_toArray, List.getElem_cons_succ, List.getElem_cons_zero, List.setIfInBounds_toArray, List.set_cons_zero, List.set_cons_succ]
        refine wpAnyH_ready (rs := [3, 4]) (by kernel_rfl) (by simp) ?_
        refine AllReadyH.cons rfl (fun KK hK => ?_) (AllReadyH.cons rfl (fun KK hK => ?_) AllReadyH.nil)
        · simp only [List.getElem_toArray, List.getElem_cons_succ, List.getElem_cons_zero]
          rw [if_pos (by rfl)]
          refine wps1 33 (.tmp 19) _ rfl in_signedOf (.agg #[.bool s2, .slice a2 ys.length c2]) rfl (signedOf_impl s2 _ r2 my) ?_
          rintro e w10 ⟨v4, rfl, o4, k10⟩
          refine ⟨_, rfl, ?_⟩
          replace r1 := r1.kept k10 (by omega)
          replace r2 := r2.kept k10 (by omega)
          replace kw := kw.trans k10
          replace o3 := own_kept o3 k10
          replace qf0 := k10.loose0 (World.block_lt_of_cell? _ _ q0) qf0
          replace qf1 := k10.loose0 (World.block_lt_of_cell? _ _ q1) qf1
          replace yf0 := k10.loose0 (World.block_lt_of_cell? _ _ y0) yf0
          replace yf1 := k10.loose0 (World.block_lt_of_cell? _ _ y1) yf1
          replace p0 := k10.cell0 p0
          replace p1 := k10.cell0 p1
          replace t0 := k10.cell0 t0
          replace t1 := k10.cell0 t1
          replace q0 := k10.cell0 q0
          replace q1 := k10.cell0 q1
          replace y0 := k10.cell0 y0
          replace y1 := k10.cell0 y1
          replace K := hide ((unhide K).trans k10)
          have z11 := k10.size
          clear k10
          have l4 := o4.lt
          obtain ⟨a4, c4, hv⟩ := own_slice o4
          subst hv
          clear hHeld
          refine hK.out _ _ ?_ (fun hHeld => ?_)
          · exact ⟨p0, p1, t0, t1⟩
          clear hK KK
          try simp only [Act.put, List.getElem_toArray, List.getElem_cons_succ, List.getElem_cons_zero, List.setIfInBounds_toArray, List.set_cons_zero, List.set_cons_succ]
          refine wpAnyH_ready (rs := [4]) (by kernel_rfl) (by simp) ?_
          refine AllReadyH.cons rfl (fun KK hK => ?_) AllReadyH.nil
          · simp only [List.getElem_toArray, List.getElem_cons_succ, List.getElem_cons_zero]
            rw [if_pos (by rfl)]
            go_simp
            have kn := (Kept.refl 0 0 w10).alloc (.cells #[.slice none 0 0, .bool false] 55)
            replace r1 := r1.kept kn (by omega)
            replace r2 := r2.kept kn (by omega)
            replace kw := kw.trans kn
            replace o3 := own_kept o3 kn
            replace o4 := own_kept o4 kn
            replace qf0 := kn.loose0 (World.block_lt_of_cell? _ _ q0) qf0
            replace qf1 := kn.loose0 (World.block_lt_of_cell? _ _ q1) qf1
            replace yf0 := kn.loose0 (World.block_lt_of_cell? _ _ y0) yf0
            replace yf1 := kn.loose0 (World.block_lt_of_cell? _ _ y1) yf1
            replace p0 := kn.cell0 p0
            replace p1 := kn.cell0 p1
            replace t0 := kn.cell0 t0
            replace t1 := kn.cell0 t1
            replace q0 := kn.cell0 q0
            replace q1 := kn.cell0 q1
            replace y0 := kn.cell0 y0
            replace y1 := kn.cell0 y1
            replace K := hide ((unhide K).trans kn)
            have z13 := kn.size
            clear kn
            have szx : w10.heap.size < (w10.alloc (.cells #[.slice none 0 0, .bool false] 55)).heap.size := by simp
            have x0 : (w10.alloc (.cells #[.slice none 0 0, .bool false] 55)).cell? ⟨w10.heap.size, 0, none⟩ = some (.slice none 0 0) := new_cell2 _ _ _ _ _ _ rfl rfl
            have xf0 : (w10.alloc (.cells #[.slice none 0 0, .bool false] 55)).frozen? ⟨w10.heap.size, 0, none⟩ = false := new_loose2 _ _ _ _ _ rfl
            have x1 : (w10.alloc (.cells #[.slice none 0 0, .bool false] 55)).cell? ⟨w10.heap.size, 1, none⟩ = some (.bool false) := new_cell2 _ _ _ _ _ _ rfl rfl
            have xf1 : (w10.alloc (.cells #[.slice none 0 0, .bool false] 55)).frozen? ⟨w10.heap.size, 1, none⟩ = false := new_loose2 _ _ _ _ _ rfl
            clear hHeld
            refine hK.out _ _ ?_ (fun hHeld => ?_)
            · exact ⟨p0, p1, t0, t1⟩
            clear hK KK
            try simp only [Act.put, List.getElem_toArray, List.getElem_cons_succ, List.getElem_cons_zero, List.setIfInBounds_toArray, List.set_cons_zero, List.set_cons_succ]
            generalize w10.alloc (.cells #[.slice none 0 0, .bool false] 55) = w12 at *
            refine wpAnyH_ready (rs := [6]) (by kernel_rfl) (by simp) ?_
            refine AllReadyH.cons rfl (fun KK hK => ?_) AllReadyH.nil
            simp only [List.getElem_toArray, List.getElem_cons_succ, List.getElem_cons_zero]
            rw [if_pos (by rfl)]
            go_simp
            clear hHeld
            refine hK.out _ _ ?_ (fun hHeld => ?_)
            · exact ⟨(cell_aside _ (by have := unhide S0; dsimp only; omega) (cell_aside _ (by have := unhide S0; dsimp only; omega) p0)), (cell_aside _ (by have := unhide S0; dsimp only; omega) (cell_aside _ (by have := unhide S0; dsimp only; omega) p1)), (cell_aside _ (by have := unhide S0; dsimp only; omega) (cell_aside _ (by have := unhide S0; dsimp only; omega) t0)), (cell_aside _ (by have := unhide S0; dsimp only; omega) (cell_aside _ (by have := unhide S0; dsimp only; omega) t1))⟩
            clear hK KK
            try simp only [Act.put, List.getElem_toArray, List.getElem_cons_succ, List.getElem_cons_zero, List.setIfInBounds_toArray, List.set_cons_zero, List.set_cons_succ]
            refine wpAnyH_ready (rs := [7]) (by kernel_rfl) (by simp) ?_
            refine AllReadyH.cons rfl (fun KK hK => ?_) AllReadyH.nil
            simp only [List.getElem_toArray, List.getElem_cons_succ, List.getElem_cons_zero]
            rw [if_pos (by rfl)]
            go_simp
            clear hHeld
            refine hK.out _ _ ?_ (fun hHeld => ?_)
            · exact ⟨(cell_aside _ (by have := unhide S0; dsimp only; omega) (cell_aside _ (by have := unhide S0; dsimp only; omega) (cell_aside _ (by have := unhide S0; dsimp only; omega) (cell_aside _ (by have := unhide S0; dsimp only; omega) p0)))), (cell_aside _ (by have := unhide S0; dsimp only; omega) (cell_aside _ (by have := unhide S0; dsimp only; omega) (cell_aside _ (by have := unhide S0; dsimp only; omega) (cell_aside _ (by have := unhide S0; dsimp only; omega) p1)))), (cell_aside _ (by have := unhide S0; dsimp only; omega) (cell_aside _ (by have := unhide S0; dsimp only; omega) (cell_aside _ (by have := unhide S0; dsimp only; omega) (cell_aside _ (by have := unhide S0; dsimp only; omega) t0)))), (cell_aside _ (by have := unhide S0; dsimp only; omega) (cell_aside _ (by have := unhide S0; dsimp only; omega) (cell_aside _ (by have := unhide S0; dsimp only; omega) (cell_aside _ (by have := unhide S0; dsimp only; omega) t1))))⟩
            clear hK KK
            try simp only [Act.put, List.getElem_toArray, List.getElem_cons_succ, List.getElem_cons_zero, List.setIfInBounds_toArray, List.set_cons_zero, List.set_cons_succ]
            refine wpAnyH_done (by kernel_rfl) ?_ _
            clear hHeld
            go_wp2_with fail
            go_meet
            exact ⟨_, _, rfl, rfl, sig_pair s1 s2 kw o3 o4 x0 x1 xf0 xf1 y0 y1 yf0 yf1 (by omega) (by omega) (by omega) (by omega) (by omega) (fun e => by have := l3 _ e; omega) (fun e => by have := l3 _ e; omega) (fun e => by have := l4 _ e; omega) (fun e => by have := l4 _ e; omega) (fun k e1 e2 => by have := l3 _ e1; have := l4 _ e2; omega)⟩
        · simp only [List.getElem_toArray, List.getElem_cons_succ, List.getElem_cons_zero]
          rw [if_pos (by rfl)]
          go_simp
          have kn := (Kept.refl 0 0 w8).alloc (.cells #[.slice none 0 0, .bool false] 55)
          replace r1 := r1.kept kn (by omega)
          replace r2 := r2.kept kn (by omega)
          replace kw := kw.trans kn
          replace o3 := own_kept o3 kn
          replace qf0 := kn.loose0 (World.block_lt_of_cell? _ _ q0) qf0
          replace qf1 := kn.loose0 (World.block_lt_of_cell? _ _ q1) qf1
          replace yf0 := kn.loose0 (World.block_lt_of_cell? _ _ y0) yf0
          replace yf1 := kn.loose0 (World.block_lt_of_cell? _ _ y1) yf1
          replace p0 := kn.cell0 p0
          replace p1 := kn.cell0 p1
          replace t0 := kn.cell0 t0
          replace t1 := kn.cell0 t1
          replace q0 := kn.cell0 q0
          replace q1 := kn.cell0 q1
          replace y0 := kn.cell0 y0
          replace y1 := kn.cell0 y1
          replace K := hide ((unhide K).trans kn)
          have z11 := kn.size
          clear kn
          have szx : w8.heap.size < (w8.alloc (.cells #[.slice none 0 0, .bool false] 55)).heap.size := by simp
          have x0 : (w8.alloc (.cells #[.slice none 0 0, .bool false] 55)).cell? ⟨w8.heap.size, 0, none⟩ = some (.slice none 0 0) := new_cell2 _ _ _ _ _ _ rfl rfl
          have xf0 : (w8.alloc (.cells #[.slice none 0 0, .bool false] 55)).frozen? ⟨w8.heap.size, 0, none⟩ = false := new_loose2 _ _ _ _ _ rfl
          have x1 : (w8.alloc (.cells #[.slice none 0 0, .bool false] 55)).cell? ⟨w8.heap.size, 1, none⟩ = some (.bool false) := new_cell2 _ _ _ _ _ _ rfl rfl
          have xf1 : (w8.alloc (.cells #[.slice none 0 0, .bool false] 55)).frozen? ⟨w8.heap.size, 1, none⟩ = false := new_loose2 _ _ _ _ _ rfl
          clear hHeld
          refine hK.out _ _ ?_ (fun hHeld => ?_)
          · exact ⟨p0, p1, t0, t1⟩
          clear hK KK
          try simp only [Act.put, List.getElem_toArray, List.getElem_cons_succ, List.getElem_cons_zero, List.setIfInBounds_toArray, List.set_cons_zero, List.set_cons_succ]
          generalize w8.alloc (.cells #[.slice none 0 0, .bool false] 55) = w10 at *
          refine wpAnyH_ready (rs := [3]) (by kernel_rfl) (by simp) ?_
          refine AllReadyH.cons rfl (fun KK hK => ?_) AllReadyH.nil
          · simp only [List.getElem_toArray, List.getElem_cons_succ, List.getElem_cons_zero]
            rw [if_pos (by rfl)]
            refine wps1 33 (.tmp 19) _ rfl in_signedOf (.agg #[.bool s2, .slice a2 ys.length c2]) rfl (signedOf_impl s2 _ r2 my) ?_
            rintro e w12 ⟨v4, rfl, o4, k12⟩
            refine ⟨_, rfl, ?_⟩
            replace r1 := r1.kept k12 (by omega)
            replace r2 := r2.kept k12 (by omega)
            replace kw := kw.trans k12
            replace o3 := own_kept o3 k12
            replace qf0 := k12.loose0 (World.block_lt_of_cell? _ _ q0) qf0
            replace qf1 := k12.loose0 (World.block_lt_of_cell? _ _ q1) qf1
            replace yf0 := k12.loose0 (World.block_lt_of_cell? _ _ y0) yf0
            replace yf1 := k12.loose0 (World.block_lt_of_cell? _ _ y1) yf1
            replace xf0 := k12.loose0 (World.block_lt_of_cell? _ _ x0) xf0
            replace xf1 := k12.loose0 (World.block_lt_of_cell? _ _ x1) xf1
            replace p0 := k12.cell0 p0
            replace p1 := k12.cell0 p1
            replace t0 := k12.cell0 t0
            replace t1 := k12.cell0 t1
            replace q0 := k12.cell0 q0
            replace q1 := k12.cell0 q1
            replace y0 := k12.cell0 y0
            replace y1 := k12.cell0 y1
            replace x0 := k12.cell0 x0
            replace x1 := k12.cell0 x1
            replace K := hide ((unhide K).trans k12)
            have z13 := k12.size
            clear k12
            have l4 := o4.lt
            obtain ⟨a4, c4, hv⟩ := own_slice o4
            subst hv
            clear hHeld
            refine hK.out _ _ ?_ (fun hHeld => ?_)
            · exact ⟨p0, p1, t0, t1⟩
            clear hK KK
            try simp only [Act.put, List.getElem_toArray, List.getElem_cons_succ, List.getElem_cons_zero, List.setIfInBounds_toArray, List.set_cons_zero, List.set_cons_succ]
            refine wpAnyH_ready (rs := [6]) (by kernel_rfl) (by simp) ?_
            refine AllReadyH.cons rfl (fun KK hK => ?_) AllReadyH.nil
            simp only [List.getElem_toArray, List.getElem_cons_succ, List.getElem_cons_zero]
            rw [if_pos (by rfl)]
            go_simp
            clear hHeld
            refine hK.out _ _ ?_ (fun hHeld => ?_)
            · exact ⟨(cell_aside _ (by have := unhide S0; dsimp only; omega) (cell_aside _ (by have := unhide S0; dsimp only; omega) p0)), (cell_aside _ (by have := unhide S0; dsimp only; omega) (cell_aside _ (by have := unhide S0; dsimp only; omega) p1)), (cell_aside _ (by have := unhide S0; dsimp only; omega) (cell_aside _ (by have := unhide S0; dsimp only; omega) t0)), (cell_aside _ (by have := unhide S0; dsimp only; omega) (cell_aside _ (by have := unhide S0; dsimp only; omega) t1))⟩
            clear hK KK
            try simp only [Act.put, List.getElem_toArray, List.getElem_cons_succ, List.getElem_cons_zero, List.setIfInBounds_toArray, List.set_cons_zero, List.set_cons_succ]
            refine wpAnyH_ready (rs := [7]) (by kernel_rfl) (by simp) ?_
            refine AllReadyH.cons rfl (fun KK hK => ?_) AllReadyH.nil
            simp only [List.getElem_toArray, List.getElem_cons_succ, List.getElem_cons_zero]
            rw [if_pos (by rfl)]
            go_simp
            clear hHeld
            refine hK.out _ _ ?_ (fun hHeld => ?_)
            · exact ⟨(cell_aside _ (by have := unhide S0; dsimp only; omega) (cell_aside _ (by have := unhide S0; dsimp only; omega) (cell_aside _ (by have := unhide S0; dsimp only; omega) (cell_aside _ (by have := unhide S0; dsimp only; omega) p0)))), (cell_aside _ (by have := unhide S0; dsimp only; omega) (cell_aside _ (by have := unhide S0; dsimp only; omega) (cell_aside _ (by have := unhide S0; dsimp only; omega) (cell_aside _ (by have := unhide S0; dsimp only; omega) p1)))), (cell_aside _ (by have := unhide S0; dsimp only; omega) (cell_aside _ (by have := unhide S0; dsimp only; omega) (cell_aside _ (by have := unhide S0; dsimp only; omega) (cell_aside _ (by have := unhide S0; dsimp only; omega) t0)))), (cell_aside _ (by have := unhide S0; dsimp only; omega) (cell_aside _ (by have := unhide S0; dsimp only; omega) (cell_aside _ (by have := unhide S0; dsimp only; omega) (cell_aside _ (by have := unhide S0; dsimp only; omega) t1))))⟩
            clear hK KK
            try simp only [Act.put, List.getElem_toArray, List.getElem_cons_succ, List.getElem_cons_zero, List.setIfInBounds_toArray, List.set_cons_zero, List.set_cons_succ]
            refine wpAnyH_done (by kernel_rfl) ?_ _
            clear hHeld
            go_wp2_with fail
            go_meet
            exact ⟨_, _, rfl, rfl, sig_pair s1 s2 kw o3 o4 x0 x1 xf0 xf1 y0 y1 yf0 yf1 (by omega) (by omega) (by omega) (by omega) (by omega) (fun e => by have := l3 _ e; omega) (fun e => by have := l3 _ e; omega) (fun e => by have := l4 _ e; omega) (fun e => by have := l4 _ e; omega) (fun k e1 e2 => by have := l3 _ e1; have := l4 _ e2; omega)⟩
      · simp only [List.getElem_toArray, List.getElem_cons_succ, List.getElem_cons_zero]
        rw [if_pos (by rfl)]
        go_simp
        have kn := (Kept.refl 0 0 w6).alloc (.cells #[.slice none 0 0, .bool false] 55)
        replace r1 := r1.kept kn (by omega)
        replace r2 := r2.kept kn (by omega)
        replace kw := kw.trans kn
        replace qf0 := kn.loose0 (World.block_lt_of_cell? _ _ q0) qf0
        replace qf1 := kn.loose0 (World.block_lt_of_cell? _ _ q1) qf1
        replace yf0 := kn.loose0 (World.block_lt_of_cell? _ _ y0) yf0
        replace yf1 := kn.loose0 (World.block_lt_of_cell? _ _ y1) yf1
        replace p0 := kn.cell0 p0
        replace p1 := kn.cell0 p1
        replace t0 := kn.cell0 t0
        replace t1 := kn.cell0 t1
        replace q0 := kn.cell0 q0
        replace q1 := kn.cell0 q1
        replace y0 := kn.cell0 y0
        replace y1 := kn.cell0 y1
        replace K := hide ((unhide K).trans kn)
        have z9 := kn.size
        clear kn
        have szx : w6.heap.size < (w6.alloc (.cells #[.slice none 0 0, .bool false] 55)).heap.size := by simp
        have x0 : (w6.alloc (.cells #[.slice none 0 0, .bool false] 55)).cell? ⟨w6.heap.size, 0, none⟩ = some (.slice none 0 0) := new_cell2 _ _ _ _ _ _ rfl rfl
        have xf0 : (w6.alloc (.cells #[.slice none 0 0, .bool false] 55)).frozen? ⟨w6.heap.size, 0, none⟩ = false := new_loose2 _ _ _ _ _ rfl
        have x1 : (w6.alloc (.cells #[.slice none 0 0, .bool false] 55)).cell? ⟨w6.heap.size, 1, none⟩ = some (.bool false) := new_cell2 _ _ _ _ _ _ rfl rfl
        have xf1 : (w6.alloc (.cells #[.slice none 0 0, .bool false] 55)).frozen? ⟨w6.heap.size, 1, none⟩ = false := new_loose2 _ _ _ _ _ rfl
        clear hHeld
        refine hK.out _ _ ?_ (fun hHeld => ?_)
        · exact ⟨p0, p1, t0, t1⟩
        clear hK KK
        try simp only [Act.put, List.getElem_toArray, List.getElem_cons_succ, List.getElem_cons_zero, List.setIfInBounds_toArray, List.set_cons_zero, List.set_cons_succ]
        generalize w6.alloc (.cells #[.slice none 0 0, .bool false] 55) = w8 at *
        refine wpAnyH_ready (rs := [1]) (by kernel_rfl) (by simp) ?_
        refine AllReadyH.cons rfl (fun KK hK => ?_) AllReadyH.nil
        · simp only [List.getElem_toArray, List.getElem_cons_succ, List.getElem_cons_zero]
          rw [if_pos (by rfl)]
          refine wps1 33 (.tmp 17) _ rfl in_signedOf (.agg #[.bool s1, .slice a1 xs.length c1]) rfl (signedOf_impl s1 _ r1 mx) ?_
          rintro e w10 ⟨v3, rfl, o3, k10⟩
          refine ⟨_, rfl, ?_⟩
          replace r1 := r1.kept k10 (by omega)
          replace r2 := r2.kept k10 (by omega)
          replace kw := kw.trans k10
          replace qf0 := k10.loose0 (World.block_lt_of_cell? _ _ q0) qf0
          replace qf1 := k10.loose0 (World.block_lt_of_cell? _ _ q1) qf1
          replace yf0 := k10.loose0 (World.block_lt_of_cell? _ _ y0) yf0
          replace yf1 := k10.loose0 (World.block_lt_of_cell? _ _ y1) yf1
          replace xf0 := k10.loose0 (World.block_lt_of_cell? _ _ x0) xf0
          replace xf1 := k10.loose0 (World.block_lt_of_cell? _ _ x1) xf1
          replace p0 := k10.cell0 p0
          replace p1 := k10.cell0 p1
          replace t0 := k10.cell0 t0
          replace t1 := k10.cell0 t1
          replace q0 := k10.cell0 q0
          replace q1 := k10.cell0 q1
          replace y0 := k10.cell0 y0
          replace y1 := k10.cell0 y1
          replace x0 := k10.cell0 x0
          replace x1 := k10.cell0 x1
          replace K := hide ((unhide K).trans k10)
          have z11 := k10.size
          clear k10
          have l3 := o3.lt
          obtain ⟨a3, c3, hv⟩ := own_slice o3
          subst hv
          clear hHeld
          refine hK.out _ _ ?_ (fun hHeld => ?_)
          · exact ⟨p0, p1, t0, t1⟩
          clear hK KK
          try simp only [Act.put, List.getElem_toArray, List.getElem_cons_succ, List.getElem_cons_zero, List.setIfInBounds_toArray, List.set_cons_zero, List.set_cons_succ]
          refine wpAnyH_ready (rs := [3]) (by kernel_rfl) (by simp) ?_
          refine AllReadyH.cons rfl (fun KK hK => ?_) AllReadyH.nil
          · simp only [List.getElem_toArray, List.getElem_cons_succ, List.getElem_cons_zero]
            rw [if_pos (by rfl)]
            refine wps1 33 (.tmp 19) _ rfl in_signedOf (.agg #[.bool s2, .slice a2 ys.length c2]) rfl (signedOf_impl s2 _ r2 my) ?_
            rintro e w12 ⟨v4, rfl, o4, k12⟩
            refine ⟨_, rfl, ?_⟩
            replace r1 := r1.kept k12 (by omega)
            replace r2 := r2.kept k12 (by omega)
            replace kw := kw.trans k12
            replace o3 := own_kept o3 k12
            replace qf0 := k12.loose0 (World.block_lt_of_cell? _ _ q0) qf0
            replace qf1 := k12.loose0 (World.block_lt_of_cell? _ _ q1) qf1
            replace yf0 := k12.loose0 (World.block_lt_of_cell? _ _ y0) yf0
            replace yf1 := k12.loose0 (World.block_lt_of_cell? _ _ y1) yf1
            replace xf0 := k12.loose0 (World.block_lt_of_cell? _ _ x0) xf0
            replace xf1 := k12.loose0 (World.block_lt_of_cell? _ _ x1) xf1
            replace p0 := k12.cell0 p0
            replace p1 := k12.cell0 p1
            replace t0 := k12.cell0 t0
            replace t1 := k12.cell0 t1
            replace q0 := k12.cell0 q0
            replace q1 := k12.cell0 q1
            replace y0 := k12.cell0 y0
            replace y1 := k12.cell0 y1
            replace x0 := k12.cell0 x0
            replace x1 := k12.cell0 x1
            replace K := hide ((unhide K).trans k12)
            have z13 := k12.size
            clear k12
            have l4 := o4.lt
            obtain ⟨a4, c4, hv⟩ := own_slice o4
            subst hv
            clear hHeld
            refine hK.out _ _ ?_ (fun hHeld => ?_)
            · exact ⟨p0, p1, t0, t1⟩
            clear hK KK
            try simp only [Act.put, List.getElem_toArray, List.getElem_cons_succ, List.getElem_cons_zero, List.setIfInBounds_toArray, List.set_cons_zero, List.set_cons_succ]
            refine wpAnyH_ready (rs := [6]) (by kernel_rfl) (by simp) ?_
            refine AllReadyH.cons rfl (fun KK hK => ?_) AllReadyH.nil
            simp only [List.getElem_toArray, List.getElem_cons_succ, List.getElem_cons_zero]
            rw [if_pos (by rfl)]
            go_simp
            clear hHeld
            refine hK.out _ _ ?_ (fun hHeld => ?_)
            · exact ⟨(cell_aside _ (by have := unhide S0; dsimp only; omega) (cell_aside _ (by have := unhide S0; dsimp only; omega) p0)), (cell_aside _ (by have := unhide S0; dsimp only; omega) (cell_aside _ (by have := unhide S0; dsimp only; omega) p1)), (cell_aside _ (by have := unhide S0; dsimp only; omega) (cell_aside _ (by have := unhide S0; dsimp only; omega) t0)), (cell_aside _ (by have := unhide S0; dsimp only; omega) (cell_aside _ (by have := unhide S0; dsimp only; omega) t1))⟩
            clear hK KK
            try simp only [Act.put, List.getElem_toArray, List.getElem_cons_succ, List.getElem_cons_zero, List.setIfInBounds_toArray, List.set_cons_zero, List.set_cons_succ]
            refine wpAnyH_ready (rs := [7]) (by kernel_rfl) (by simp) ?_
            refine AllReadyH.cons rfl (fun KK hK => ?_) AllReadyH.nil
            simp only [List.getElem_toArray, List.getElem_cons_succ, List.getElem_cons_zero]
            rw [if_pos (by rfl)]
            go_simp
            clear hHeld
            refine hK.out _ _ ?_ (fun hHeld => ?_)
            · exact ⟨(cell_aside _ (by have := unhide S0; dsimp only; omega) (cell_aside _ (by have := unhide S0; dsimp only; omega) (cell_aside _ (by have := unhide S0; dsimp only; omega) (cell_aside _ (by have := unhide S0; dsimp only; omega) p0)))), (cell_aside _ (by have := unhide S0; dsimp only; omega) (cell_aside _ (by have := unhide S0; dsimp only; omega) (cell_aside _ (by have := unhide S0; dsimp only; omega) (cell_aside _ (by have := unhide S0; dsimp only; omega) p1)))), (cell_aside _ (by have := unhide S0; dsimp only; omega) (cell_aside _ (by have := unhide S0; dsimp only; omega) (cell_aside _ (by have := unhide S0; dsimp only; omega) (cell_aside _ (by have := unhide S0; dsimp only; omega) t0)))), (cell_aside _ (by have := unhide S0; dsimp only; omega) (cell_aside _ (by have := unhide S0; dsimp only; omega) (cell_aside _ (by have := unhide S0; dsimp only; omega) (cell_aside _ (by have := unhide S0; dsimp only; omega) t1))))⟩
            clear hK KK
            try simp only [Act.put, List.getElem_toArray, List.getElem_cons_succ, List.getElem_cons_zero, List.setIfInBounds_toArray, List.set_cons_zero, List.set_cons_succ]
            refine wpAnyH_done (by kernel_rfl) ?_ _
            clear hHeld
            go_wp2_with fail
            go_meet
            exact ⟨_, _, rfl, rfl, sig_pair s1 s2 kw o3 o4 x0 x1 xf0 xf1 y0 y1 yf0 yf1 (by omega) (by omega) (by omega) (by omega) (by omega) (fun e => by have := l3 _ e; omega) (fun e => by have := l3 _ e; omega) (fun e => by have := l4 _ e; omega) (fun e => by have := l4 _ e; omega) (fun k e1 e2 => by have := l3 _ e1; have := l4 _ e2; omega)⟩
  case rest =>
    obtain ⟨X, Y, rfl, rfl, sg⟩ := hcut
    go_wp2_with fail
    refine (addSigned_impl sg hx hy nx ny).mono ?_
    rintro e w6 ⟨⟨r6, rfl⟩, u6, sx, zs, n6, d6, hz, he, hl, k6⟩
    clear sg
    replace r1 := r1.kept k6 (by omega)
    replace r2 := r2.kept k6 (by omega)
    replace qf0 := k6.loose0 (World.block_lt_of_cell? _ _ q0) qf0
    replace qf1 := k6.loose0 (World.block_lt_of_cell? _ _ q1) qf1
    replace p0 := k6.cell0 p0
    replace p1 := k6.cell0 p1
    replace t0 := k6.cell0 t0
    replace t1 := k6.cell0 t1
    replace q0 := k6.cell0 q0
    replace q1 := k6.cell0 q1
    replace K := hide ((unhide K).trans k6)
    have z5 := k6.size
    clear k6
    go_wp2_with fail
    refine (toldSigned_impl _ n6 d6).mono ?_
    rintro e w6 ⟨v7, rfl, r7, k6⟩
    replace r1 := r1.kept k6 (by omega)
    replace r2 := r2.kept k6 (by omega)
    replace qf0 := k6.loose0 (World.block_lt_of_cell? _ _ q0) qf0
    replace qf1 := k6.loose0 (World.block_lt_of_cell? _ _ q1) qf1
    replace p0 := k6.cell0 p0
    replace p1 := k6.cell0 p1
    replace t0 := k6.cell0 t0
    replace t1 := k6.cell0 t1
    replace q0 := k6.cell0 q0
    replace q1 := k6.cell0 q1
    replace K := hide ((unhide K).trans k6)
    have z7 := k6.size
    clear k6
    obtain ⟨hs7, hb7, hl7⟩ := told_ans (c := wokB s1 xs && wokB s2 ys) (by rw [unhide HO1, unhide HO2]; rfl) hz he
    rw [hl7] at r7
    rw [hs7, hb7]
    clear hs7 hb7 hl7 n6 d6 hz he
    obtain ⟨zz, hzz⟩ : ∃ zz, ansWL (wokB s1 xs && wokB s2 ys) (wval s1 xs + wval s2 ys) = zz := ⟨_, rfl⟩
    obtain ⟨ss, hss⟩ : ∃ ss, ansWS (wokB s1 xs && wokB s2 ys) (wval s1 xs + wval s2 ys) = ss := ⟨_, rfl⟩
    obtain ⟨bb, hbb⟩ : ∃ bb, ansWB (wokB s1 xs && wokB s2 ys) (wval s1 xs + wval s2 ys) = bb := ⟨_, rfl⟩
    rw [hzz] at r7
    rw [hss, hbb]
    have HZ := hide hzz
    have HS := hide hss
    have HB := hide hbb
    clear hzz hss hbb
    obtain ⟨a7, c7, hv⟩ := Row.form' r7
    subst hv
    have bX : w.heap.size + 2 < w6.heap.size := World.block_lt_of_cell? _ _ q0
    have R := hide (((r7.set_other (p := ⟨w.heap.size + 2, 0, none⟩) (.inl (by have := unhide S0; dsimp only; omega)) (.bool ss)).set_other (p := ⟨w.heap.size + 2, 1, none⟩) (.inl (by have := unhide S0; dsimp only; omega)) (.slice a7 zz.length c7)).tight.wider (lo' := w.heap.size) (by have := unhide S0; omega) (Nat.le_refl _))
    have K7 := hide (((unhide K).setNew (p := ⟨w.heap.size + 2, 0, none⟩) (by simp) (.bool ss)).setNew (p := ⟨w.heap.size + 2, 1, none⟩) (by simp) (.slice a7 zz.length c7))
    clear r1 r2 r7 K
    go_wp2_with fail
    exact bodyPost_ret (v := .tuple #[.agg #[.bool ss, .slice a7 zz.length c7], .bool bb]) (by simp [results, Try.results15, go_sem, q0, q1]) rfl ⟨_, by rw [unhide HB, unhide HS], by rw [unhide HZ]; exact unhide R, unhide K7⟩

end Go.Proofs.Ytkdapefddhbjdaa
