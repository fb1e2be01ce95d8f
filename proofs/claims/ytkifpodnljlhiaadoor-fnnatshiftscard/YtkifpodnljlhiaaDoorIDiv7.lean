/-
  Contracts of the program's NatDiv.
-/
import Derived.Test.YtkifpodnljlhiaaDoorBM
import Derived.Test.YtkifpodnljlhiaaDoorBN
import Derived.Test.YtkifpodnljlhiaaDoorBC
import Derived.Deep.DeepCutAuto
namespace Go.Proofs.YtkifpodnljlhiaaDoor
open Go.RowKit
set_option linter.unusedVariables false
set_option maxRecDepth 8000
set_option linter.unusedSimpArgs false

theorem in_limbsOf : ∀ (w : World) (args : Array Value), (callFunc 20 args).run Tryd.prog w = .ok (.enter 20 args) w := enters Tryd.func20 (by decide) (fun h => by cases h)

set_option maxHeartbeats 8000000 in
theorem natDiv_impl {b1 b2 : Bool} {l1 h1 l2 h2 : Nat} {v1 v2 : Value} {xs ys : List Int} (w : World) (r1 : Row .i64 b1 l1 h1 w v1 xs) (r2 : Row .i64 b2 l2 h2 w v2 ys) :
    Calls Tryd.prog 11 #[.agg #[v1], .agg #[v2]] w fun e w' => ∃ vq vr m, e = .returned (.tuple #[.agg #[vq], .agg #[vr], .bool (divB xs ys)]) ∧ Row .i64 true w.heap.size m w' vq (divQ xs ys) ∧ Row .i64 true m w'.heap.size w' vr (divR xs ys) ∧ w.heap.size ≤ m ∧ m ≤ w'.heap.size ∧ Kept 0 0 w w' := by
  have k0 : Kept 0 0 w ((((w.alloc (.cells #[v1] 25)).alloc (.cells #[v2] 25)).alloc (.cells #[.slice none 0 0] 25)).alloc (.cells #[.slice none 0 0] 25)) := (((((Kept.refl 0 0 w).alloc (.cells #[v1] 25)).alloc (.cells #[v2] 25)).alloc (.cells #[.slice none 0 0] 25)).alloc (.cells #[.slice none 0 0] 25))
  have p0 : ((((w.alloc (.cells #[v1] 25)).alloc (.cells #[v2] 25)).alloc (.cells #[.slice none 0 0] 25)).alloc (.cells #[.slice none 0 0] 25)).cell? ⟨w.heap.size, 0, none⟩ = some (v1) := old_cell _ (old_cell _ (old_cell _ (new_cell2 _ _ _ _ _ _ (by simp) rfl)))
  have t0 : ((((w.alloc (.cells #[v1] 25)).alloc (.cells #[v2] 25)).alloc (.cells #[.slice none 0 0] 25)).alloc (.cells #[.slice none 0 0] 25)).cell? ⟨w.heap.size + 1, 0, none⟩ = some (v2) := old_cell _ (old_cell _ (new_cell2 _ _ _ _ _ _ (by simp) rfl))
  have q0 : ((((w.alloc (.cells #[v1] 25)).alloc (.cells #[v2] 25)).alloc (.cells #[.slice none 0 0] 25)).alloc (.cells #[.slice none 0 0] 25)).cell? ⟨w.heap.size + 2, 0, none⟩ = some (.slice none 0 0) := old_cell _ (new_cell2 _ _ _ _ _ _ (by simp) rfl)
  have qf0 : ((((w.alloc (.cells #[v1] 25)).alloc (.cells #[v2] 25)).alloc (.cells #[.slice none 0 0] 25)).alloc (.cells #[.slice none 0 0] 25)).frozen? ⟨w.heap.size + 2, 0, none⟩ = false := loose_old (by simp <;> omega) (new_loose2 _ _ _ _ _ (by simp))
  have y0 : ((((w.alloc (.cells #[v1] 25)).alloc (.cells #[v2] 25)).alloc (.cells #[.slice none 0 0] 25)).alloc (.cells #[.slice none 0 0] 25)).cell? ⟨w.heap.size + 3, 0, none⟩ = some (.slice none 0 0) := new_cell2 _ _ _ _ _ _ (by simp) rfl
  have yf0 : ((((w.alloc (.cells #[v1] 25)).alloc (.cells #[v2] 25)).alloc (.cells #[.slice none 0 0] 25)).alloc (.cells #[.slice none 0 0] 25)).frozen? ⟨w.heap.size + 3, 0, none⟩ = false := new_loose2 _ _ _ _ _ (by simp)
  replace r1 := r1.kept k0 (by omega)
  replace r2 := r2.kept k0 (by omega)
  have s0 : ((((w.alloc (.cells #[v1] 25)).alloc (.cells #[v2] 25)).alloc (.cells #[.slice none 0 0] 25)).alloc (.cells #[.slice none 0 0] 25)).heap.size = w.heap.size + 4 := by simp
  obtain ⟨a1, c1, hv⟩ := Row.form' r1
  subst hv
  obtain ⟨a2, c2, hv⟩ := Row.form' r2
  subst hv
  have K := hide (k0)
  clear k0
  have S0 := hide s0
  clear s0
  go_enter Tryd.func11, Tryd.ntmps11
  go_wp2_with fail
  generalize ((((w.alloc (.cells #[.slice a1 xs.length c1] 25)).alloc (.cells #[.slice a2 ys.length c2] 25)).alloc (.cells #[.slice none 0 0] 25)).alloc (.cells #[.slice none 0 0] 25)) = W at *
  refine (ok_impl _ r1).mono ?_
  rintro e w1 ⟨rfl, k1⟩
  replace r1 := r1.kept k1 (by omega)
  replace r2 := r2.kept k1 (by omega)
  replace qf0 := k1.loose0 (World.block_lt_of_cell? _ _ q0) qf0
  replace yf0 := k1.loose0 (World.block_lt_of_cell? _ _ y0) yf0
  replace p0 := k1.cell0 p0
  replace t0 := k1.cell0 t0
  replace q0 := k1.cell0 q0
  replace y0 := k1.cell0 y0
  replace K := hide ((unhide K).trans k1)
  have z2 := k1.size
  clear k1
  cases ho1 : okB xs
  · have HO := hide ho1
    clear ho1
    have e0 : Hid (divB xs ys = false) := by show _ = _; unfold divB; simp [unhide HO]
    have K' := hide (((unhide K).setNew (p := ⟨w.heap.size + 2, 0, none⟩) (by simp) (.slice none 0 0)).setNew (p := ⟨w.heap.size + 3, 0, none⟩) (by simp) (.slice none 0 0))
    clear r1 r2 K
    go_wp2_with fail
    exact bodyPost_ret (v := .tuple #[.agg #[.slice none 0 0], .agg #[.slice none 0 0], .bool false]) (by simp [results, Tryd.results11, go_sem, q0, y0]) rfl ⟨_, _, w.heap.size, by rw [unhide e0], by rw [divQ_no (unhide e0)]; exact Row.nil _ _ _ _ _, by rw [divR_no (unhide e0)]; exact Row.nil _ _ _ _ _, Nat.le_refl _, (unhide K').size, unhide K'⟩
  have HO1 := hide ho1
  clear ho1
  go_wp2_with fail
  refine (ok_impl _ r2).mono ?_
  rintro e w3 ⟨rfl, k3⟩
  replace r1 := r1.kept k3 (by omega)
  replace r2 := r2.kept k3 (by omega)
  replace qf0 := k3.loose0 (World.block_lt_of_cell? _ _ q0) qf0
  replace yf0 := k3.loose0 (World.block_lt_of_cell? _ _ y0) yf0
  replace p0 := k3.cell0 p0
  replace t0 := k3.cell0 t0
  replace q0 := k3.cell0 q0
  replace y0 := k3.cell0 y0
  replace K := hide ((unhide K).trans k3)
  have z4 := k3.size
  clear k3
  cases ho2 : okB ys
  · have HO := hide ho2
    clear ho2
    have e0 : Hid (divB xs ys = false) := by show _ = _; unfold divB; simp [unhide HO]
    have K' := hide (((unhide K).setNew (p := ⟨w.heap.size + 2, 0, none⟩) (by simp) (.slice none 0 0)).setNew (p := ⟨w.heap.size + 3, 0, none⟩) (by simp) (.slice none 0 0))
    clear r1 r2 K
    go_wp2_with fail
    exact bodyPost_ret (v := .tuple #[.agg #[.slice none 0 0], .agg #[.slice none 0 0], .bool false]) (by simp [results, Tryd.results11, go_sem, q0, y0]) rfl ⟨_, _, w.heap.size, by rw [unhide e0], by rw [divQ_no (unhide e0)]; exact Row.nil _ _ _ _ _, by rw [divR_no (unhide e0)]; exact Row.nil _ _ _ _ _, Nat.le_refl _, (unhide K').size, unhide K'⟩
  have HO2 := hide ho2
  clear ho2
  by_cases hl0 : ys.length = 0
  · have HO := hide hl0
    have hl1 : ((ys.length : Int) == 0) = true := by simp [hl0]
    clear hl0
    have e0 : Hid (divB xs ys = false) := by show _ = _; unfold divB; simp [unhide HO]
    have K' := hide (((unhide K).setNew (p := ⟨w.heap.size + 2, 0, none⟩) (by simp) (.slice none 0 0)).setNew (p := ⟨w.heap.size + 3, 0, none⟩) (by simp) (.slice none 0 0))
    clear r1 r2 K
    go_wp2_with fail
    exact bodyPost_ret (v := .tuple #[.agg #[.slice none 0 0], .agg #[.slice none 0 0], .bool false]) (by simp [results, Tryd.results11, go_sem, q0, y0]) rfl ⟨_, _, w.heap.size, by rw [unhide e0], by rw [divQ_no (unhide e0)]; exact Row.nil _ _ _ _ _, by rw [divR_no (unhide e0)]; exact Row.nil _ _ _ _ _, Nat.le_refl _, (unhide K').size, unhide K'⟩
  have hl1 : ((ys.length : Int) == 0) = false := beq_eq_false_iff_ne.2 (by omega)
  have hyp := div_pos (unhide HO2) (by omega)
  obtain ⟨lx, hx⟩ := (okB_iff xs).1 (unhide HO1)
  obtain ⟨ly, hy⟩ := (okB_iff ys).1 (unhide HO2)
  have eB : divB xs ys = true := by unfold divB; rw [unhide HO1, unhide HO2, decide_eq_true (show 0 < ys.length by omega)]; rfl
  have EB := hide eB
  obtain ⟨zq, hzq⟩ : ∃ z, divQ xs ys = z := ⟨_, rfl⟩
  obtain ⟨zr, hzr⟩ : ∃ z, divR xs ys = z := ⟨_, rfl⟩
  have lq := divQ_len xs ys
  have lr := divR_len xs ys
  rw [hzq] at lq
  rw [hzr] at lr
  have EQ : Hid (limbs (val xs / val ys).toNat = zq) := by show _ = _; rw [← hzq, divQ_yes eB]
  have ER : Hid (limbs (val xs % val ys).toNat = zr) := by show _ = _; rw [← hzr, divR_yes eB]
  have HZQ := hide hzq
  have HZR := hide hzr
  clear eB hzq hzr
  have mx : xs.length ≤ 1000000 := by omega
  have my : ys.length ≤ 1000000 := by omega
  go_upto_region 3 with fail
  go_cut [7, 8] (fun p q wx => ∃ X Y u1 u2, p = .pointer (some ⟨X, 0, none⟩) ∧ q = .pointer (some ⟨Y, 0, none⟩) ∧ Two w3 wx X Y u1 u2 xs ys)
  case first =>
    have kw := Kept.refl 0 0 w3
    have kd := (Kept.refl 0 0 w3).drew
    replace r1 := r1.kept kd (by omega)
    replace r2 := r2.kept kd (by omega)
    replace kw := kw.trans kd
    replace qf0 := kd.loose0 (World.block_lt_of_cell? _ _ q0) qf0
    replace yf0 := kd.loose0 (World.block_lt_of_cell? _ _ y0) yf0
    replace p0 := kd.cell0 p0
    replace t0 := kd.cell0 t0
    replace q0 := kd.cell0 q0
    replace y0 := kd.cell0 y0
    replace K := hide ((unhide K).trans kd)
    have z5 := kd.size
    clear kd
    refine wp_region_held_drew (S := (fun w' => w'.cell? ⟨w.heap.size, 0, none⟩ = some (.slice a1 xs.length c1) ∧ w'.cell? ⟨w.heap.size + 1, 0, none⟩ = some (.slice a2 ys.length c2))) (by kernel_rfl) ?_ (fun hHeld => ?_)
    · exact ⟨p0, t0⟩
    generalize w3.drew = wd at *
    refine wpAnyH_take (i := 0) (oi := _) (v := .agg #[.slice a1 xs.length c1]) rfl (by kernel_rfl) (by kernel_rfl) (by kernel_rfl) (fun _ _ _ h => h) (Or.inl ⟨by rfl, ?_⟩) hHeld ?_
    · intro wq hSw
      try dsimp only at hSw
      go_simp
    try simp only [Act.put, List.getElem_toArray, List.getElem_cons_succ, List.getElem_cons_zero, List.setIfInBounds_toArray, List.set_cons_zero, List.set_cons_succ]
    refine wpAnyH_take (i := 2) (oi := _) (v := .agg #[.slice a2 ys.length c2]) rfl (by kernel_rfl) (by kernel_rfl) (by kernel_rfl) (fun _ _ _ h => h) (Or.inl ⟨by rfl, ?_⟩) hHeld ?_
    · intro wq hSw
      try dsimp only at hSw
      go_simp
    try simp only [Act.put, List.getElem_toArray, List.getElem_cons_succ, List.getElem_cons_zero, List.setIfInBounds_toArray, List.set_cons_zero, List.set_cons_succ]
    refine wpAnyH_ready (rs := [1, 4, 5]) (by kernel_rfl) (by simp) ?_
    refine AllReadyH.cons rfl (fun KK hK => ?_) (AllReadyH.cons rfl (fun KK hK => ?_) (AllReadyH.cons rfl (fun KK hK => ?_) AllReadyH.nil))
    · simp only [List.getElem_toArray, List.getElem_cons_succ, List.getElem_cons_zero]
      rw [if_pos (by rfl)]
      refine wps1 20 (.tmp 30) _ rfl in_limbsOf (.agg #[.slice a1 xs.length c1]) rfl (limbsOf_impl _ r1 mx) ?_
      rintro e w6 ⟨v3, rfl, o3, k6⟩
      refine ⟨_, rfl, ?_⟩
      replace r1 := r1.kept k6 (by omega)
      replace r2 := r2.kept k6 (by omega)
      replace kw := kw.trans k6
      replace qf0 := k6.loose0 (World.block_lt_of_cell? _ _ q0) qf0
      replace yf0 := k6.loose0 (World.block_lt_of_cell? _ _ y0) yf0
      replace p0 := k6.cell0 p0
      replace t0 := k6.cell0 t0
      replace q0 := k6.cell0 q0
      replace y0 := k6.cell0 y0
      replace K := hide ((unhide K).trans k6)
      have z7 := k6.size
      clear k6
      have l3 := o3.lt
      obtain ⟨a3, c3, hv⟩ := own_slice o3
      subst hv
      clear hHeld
      refine hK.out _ _ ?_ (fun hHeld => ?_)
      · exact ⟨p0, t0⟩
      clear hK KK
      try simp only [Act.put, List.getElem_toArray, List.getElem_cons_succ, List.getElem_cons_zero, List.setIfInBounds_toArray, List.set_cons_zero, List.set_cons_succ]
      refine wpAnyH_ready (rs := [3, 4, 5]) (by kernel_rfl) (by simp) ?_
      refine AllReadyH.cons rfl (fun KK hK => ?_) (AllReadyH.cons rfl (fun KK hK => ?_) (AllReadyH.cons rfl (fun KK hK => ?_) AllReadyH.nil))
      · simp only [List.getElem_toArray, List.getElem_cons_succ, List.getElem_cons_zero]
        rw [if_pos (by rfl)]
        refine wps1 20 (.tmp 32) _ rfl in_limbsOf (.agg #[.slice a2 ys.length c2]) rfl (limbsOf_impl _ r2 my) ?_
        rintro e w8 ⟨v4, rfl, o4, k8⟩
        refine ⟨_, rfl, ?_⟩
        replace r1 := r1.kept k8 (by omega)
        replace r2 := r2.kept k8 (by omega)
        replace kw := kw.trans k8
        replace o3 := own_kept o3 k8
        replace qf0 := k8.loose0 (World.block_lt_of_cell? _ _ q0) qf0
        replace yf0 := k8.loose0 (World.block_lt_of_cell? _ _ y0) yf0
        replace p0 := k8.cell0 p0
        replace t0 := k8.cell0 t0
        replace q0 := k8.cell0 q0
        replace y0 := k8.cell0 y0
        replace K := hide ((unhide K).trans k8)
        have z9 := k8.size
        clear k8
        have l4 := o4.lt
        obtain ⟨a4, c4, hv⟩ := own_slice o4
        subst hv
        clear hHeld
        refine hK.out _ _ ?_ (fun hHeld => ?_)
        · exact ⟨p0, t0⟩
        clear hK KK
        try simp only [Act.put, List.getElem_toArray, List.getElem_cons_succ, List.getElem_cons_zero, List.setIfInBounds_toArray, List.set_cons_zero, List.set_cons_succ]
        refine wpAnyH_ready (rs := [4, 5]) (by kernel_rfl) (by simp) ?_
        refine AllReadyH.cons rfl (fun KK hK => ?_) (AllReadyH.cons rfl (fun KK hK => ?_) AllReadyH.nil)
        · simp only [List.getElem_toArray, List.getElem_cons_succ, List.getElem_cons_zero]
          rw [if_pos (by rfl)]
          go_simp
          have kn := (Kept.refl 0 0 w8).alloc (.cells #[.slice none 0 0] 45)
          replace r1 := r1.kept kn (by omega)
          replace r2 := r2.kept kn (by omega)
          replace kw := kw.trans kn
          replace o3 := own_kept o3 kn
          replace o4 := own_kept o4 kn
          replace qf0 := kn.loose0 (World.block_lt_of_cell? _ _ q0) qf0
          replace yf0 := kn.loose0 (World.block_lt_of_cell? _ _ y0) yf0
          replace p0 := kn.cell0 p0
          replace t0 := kn.cell0 t0
          replace q0 := kn.cell0 q0
          replace y0 := kn.cell0 y0
          replace K := hide ((unhide K).trans kn)
          have z11 := kn.size
          clear kn
          have szx : w8.heap.size < (w8.alloc (.cells #[.slice none 0 0] 45)).heap.size := by simp
          have x0 : (w8.alloc (.cells #[.slice none 0 0] 45)).cell? ⟨w8.heap.size, 0, none⟩ = some (.slice none 0 0) := new_cell2 _ _ _ _ _ _ rfl rfl
          have xf0 : (w8.alloc (.cells #[.slice none 0 0] 45)).frozen? ⟨w8.heap.size, 0, none⟩ = false := new_loose2 _ _ _ _ _ rfl
          clear hHeld
          refine hK.out _ _ ?_ (fun hHeld => ?_)
          · exact ⟨p0, t0⟩
          clear hK KK
          try simp only [Act.put, List.getElem_toArray, List.getElem_cons_succ, List.getElem_cons_zero, List.setIfInBounds_toArray, List.set_cons_zero, List.set_cons_succ]
          generalize w8.alloc (.cells #[.slice none 0 0] 45) = w10 at *
          refine wpAnyH_ready (rs := [5]) (by kernel_rfl) (by simp) ?_
          refine AllReadyH.cons rfl (fun KK hK => ?_) AllReadyH.nil
          · simp only [List.getElem_toArray, List.getElem_cons_succ, List.getElem_cons_zero]
            rw [if_pos (by rfl)]
            go_simp
            have kn := (Kept.refl 0 0 w10).alloc (.cells #[.slice none 0 0] 45)
            replace r1 := r1.kept kn (by omega)
            replace r2 := r2.kept kn (by omega)
            replace kw := kw.trans kn
            replace o3 := own_kept o3 kn
            replace o4 := own_kept o4 kn
            replace qf0 := kn.loose0 (World.block_lt_of_cell? _ _ q0) qf0
            replace yf0 := kn.loose0 (World.block_lt_of_cell? _ _ y0) yf0
            replace xf0 := kn.loose0 (World.block_lt_of_cell? _ _ x0) xf0
            replace p0 := kn.cell0 p0
            replace t0 := kn.cell0 t0
            replace q0 := kn.cell0 q0
            replace y0 := kn.cell0 y0
            replace x0 := kn.cell0 x0
            replace K := hide ((unhide K).trans kn)
            have z13 := kn.size
            clear kn
            have szn : w10.heap.size < (w10.alloc (.cells #[.slice none 0 0] 45)).heap.size := by simp
            have n0 : (w10.alloc (.cells #[.slice none 0 0] 45)).cell? ⟨w10.heap.size, 0, none⟩ = some (.slice none 0 0) := new_cell2 _ _ _ _ _ _ rfl rfl
            have nf0 : (w10.alloc (.cells #[.slice none 0 0] 45)).frozen? ⟨w10.heap.size, 0, none⟩ = false := new_loose2 _ _ _ _ _ rfl
            clear hHeld
            refine hK.out _ _ ?_ (fun hHeld => ?_)
            · exact ⟨p0, t0⟩
            clear hK KK
            try simp only [Act.put, List.getElem_toArray, List.getElem_cons_succ, List.getElem_cons_zero, List.setIfInBounds_toArray, List.set_cons_zero, List.set_cons_succ]
            generalize w10.alloc (.cells #[.slice none 0 0] 45) = w12 at *
            refine wpAnyH_ready (rs := [6]) (by kernel_rfl) (by simp) ?_
            refine AllReadyH.cons rfl (fun KK hK => ?_) AllReadyH.nil
            simp only [List.getElem_toArray, List.getElem_cons_succ, List.getElem_cons_zero]
            rw [if_pos (by rfl)]
            go_simp
            clear hHeld
            refine hK.out _ _ ?_ (fun hHeld => ?_)
            · exact ⟨(cell_aside _ (by have := unhide S0; dsimp only; omega) p0), (cell_aside _ (by have := unhide S0; dsimp only; omega) t0)⟩
            clear hK KK
            try simp only [Act.put, List.getElem_toArray, List.getElem_cons_succ, List.getElem_cons_zero, List.setIfInBounds_toArray, List.set_cons_zero, List.set_cons_succ]
            refine wpAnyH_ready (rs := [7]) (by kernel_rfl) (by simp) ?_
            refine AllReadyH.cons rfl (fun KK hK => ?_) AllReadyH.nil
            simp only [List.getElem_toArray, List.getElem_cons_succ, List.getElem_cons_zero]
            rw [if_pos (by rfl)]
            go_simp
            clear hHeld
            refine hK.out _ _ ?_ (fun hHeld => ?_)
            · exact ⟨(cell_aside _ (by have := unhide S0; dsimp only; omega) (cell_aside _ (by have := unhide S0; dsimp only; omega) p0)), (cell_aside _ (by have := unhide S0; dsimp only; omega) (cell_aside _ (by have := unhide S0; dsimp only; omega) t0))⟩
            clear hK KK
            try simp only [Act.put, List.getElem_toArray, List.getElem_cons_succ, List.getElem_cons_zero, List.setIfInBounds_toArray, List.set_cons_zero, List.set_cons_succ]
            refine wpAnyH_done (by kernel_rfl) ?_ _
            clear hHeld
            go_wp2_with fail
            go_meet
            exact ⟨_, _, _, _, rfl, rfl, two_set kw o3 o4 x0 xf0 n0 nf0 (by omega) (by omega) (by omega) (by omega) (by omega) (fun e => by have := l3 _ e; omega) (fun e => by have := l3 _ e; omega) (fun e => by have := l4 _ e; omega) (fun e => by have := l4 _ e; omega) (fun k e1 e2 => by have := l3 _ e1; have := l4 _ e2; omega)⟩
        · simp only [List.getElem_toArray, List.getElem_cons_succ, List.getElem_cons_zero]
          rw [if_pos (by rfl)]
          go_simp
          have kn := (Kept.refl 0 0 w8).alloc (.cells #[.slice none 0 0] 45)
          replace r1 := r1.kept kn (by omega)
          replace r2 := r2.kept kn (by omega)
          replace kw := kw.trans kn
          replace o3 := own_kept o3 kn
          replace o4 := own_kept o4 kn
          replace qf0 := kn.loose0 (World.block_lt_of_cell? _ _ q0) qf0
          replace yf0 := kn.loose0 (World.block_lt_of_cell? _ _ y0) yf0
          replace p0 := kn.cell0 p0
          replace t0 := kn.cell0 t0
          replace q0 := kn.cell0 q0
          replace y0 := kn.cell0 y0
          replace K := hide ((unhide K).trans kn)
          have z11 := kn.size
          clear kn
          have szn : w8.heap.size < (w8.alloc (.cells #[.slice none 0 0] 45)).heap.size := by simp
          have n0 : (w8.alloc (.cells #[.slice none 0 0] 45)).cell? ⟨w8.heap.size, 0, none⟩ = some (.slice none 0 0) := new_cell2 _ _ _ _ _ _ rfl rfl
          have nf0 : (w8.alloc (.cells #[.slice none 0 0] 45)).frozen? ⟨w8.heap.size, 0, none⟩ = false := new_loose2 _ _ _ _ _ rfl
          clear hHeld
          refine hK.out _ _ ?_ (fun hHeld => ?_)
          · exact ⟨p0, t0⟩
          clear hK KK
          try simp only [Act.put, List.getElem_toArray, List.getElem_cons_succ, List.getElem_cons_zero, List.setIfInBounds_toArray, List.set_cons_zero, List.set_cons_succ]
          generalize w8.alloc (.cells #[.slice none 0 0] 45) = w10 at *
          refine wpAnyH_ready (rs := [4]) (by kernel_rfl) (by simp) ?_
          refine AllReadyH.cons rfl (fun KK hK => ?_) AllReadyH.nil
          · simp only [List.getElem_toArray, List.getElem_cons_succ, List.getElem_cons_zero]
            rw [if_pos (by rfl)]
            go_simp
            have kn := (Kept.refl 0 0 w10).alloc (.cells #[.slice none 0 0] 45)
            replace r1 := r1.kept kn (by omega)
            replace r2 := r2.kept kn (by omega)
            replace kw := kw.trans kn
            replace o3 := own_kept o3 kn
            replace o4 := own_kept o4 kn
            replace qf0 := kn.loose0 (World.block_lt_of_cell? _ _ q0) qf0
            replace yf0 := kn.loose0 (World.block_lt_of_cell? _ _ y0) yf0
            replace nf0 := kn.loose0 (World.block_lt_of_cell? _ _ n0) nf0
            replace p0 := kn.cell0 p0
            replace t0 := kn.cell0 t0
            replace q0 := kn.cell0 q0
            replace y0 := kn.cell0 y0
            replace n0 := kn.cell0 n0
            replace K := hide ((unhide K).trans kn)
            have z13 := kn.size
            clear kn
            have szx : w10.heap.size < (w10.alloc (.cells #[.slice none 0 0] 45)).heap.size := by simp
            have x0 : (w10.alloc (.cells #[.slice none 0 0] 45)).cell? ⟨w10.heap.size, 0, none⟩ = some (.slice none 0 0) := new_cell2 _ _ _ _ _ _ rfl rfl
            have xf0 : (w10.alloc (.cells #[.slice none 0 0] 45)).frozen? ⟨w10.heap.size, 0, none⟩ = false := new_loose2 _ _ _ _ _ rfl
            clear hHeld
            refine hK.out _ _ ?_ (fun hHeld => ?_)
            · exact ⟨p0, t0⟩
            clear hK KK
            try simp only [Act.put, List.getElem_toArray, List.getElem_cons_succ, List.getElem_cons_zero, List.setIfInBounds_toArray, List.set_cons_zero, List.set_cons_succ]
            generalize w10.alloc (.cells #[.slice none 0 0] 45) = w12 at *
            refine wpAnyH_ready (rs := [6]) (by kernel_rfl) (by simp) ?_
            refine AllReadyH.cons rfl (fun KK hK => ?_) AllReadyH.nil
            simp only [List.getElem_toArray, List.getElem_cons_succ, List.getElem_cons_zero]
            rw [if_pos (by rfl)]
            go_simp
            clear hHeld
            refine hK.out _ _ ?_ (fun hHeld => ?_)
            · exact ⟨(cell_aside _ (by have := unhide S0; dsimp only; omega) p0), (cell_aside _ (by have := unhide S0; dsimp only; omega) t0)⟩
            clear hK KK
            try simp only [Act.put, List.getElem_toArray, List.getElem_cons_succ, List.getElem_cons_zero, List.setIfInBounds_toArray, List.set_cons_zero, List.set_cons_succ]
            refine wpAnyH_ready (rs := [7]) (by kernel_rfl) (by simp) ?_
            refine AllReadyH.cons rfl (fun KK hK => ?_) AllReadyH.nil
            simp only [List.getElem_toArray, List.getElem_cons_succ, List.getElem_cons_zero]
            rw [if_pos (by rfl)]
            go_simp
            clear hHeld
            refine hK.out _ _ ?_ (fun hHeld => ?_)
            · exact ⟨(cell_aside _ (by have := unhide S0; dsimp only; omega) (cell_aside _ (by have := unhide S0; dsimp only; omega) p0)), (cell_aside _ (by have := unhide S0; dsimp only; omega) (cell_aside _ (by have := unhide S0; dsimp only; omega) t0))⟩
            clear hK KK
            try simp only [Act.put, List.getElem_toArray, List.getElem_cons_succ, List.getElem_cons_zero, List.setIfInBounds_toArray, List.set_cons_zero, List.set_cons_succ]
            refine wpAnyH_done (by kernel_rfl) ?_ _
            clear hHeld
            go_wp2_with fail
            go_meet
            exact ⟨_, _, _, _, rfl, rfl, two_set kw o3 o4 x0 xf0 n0 nf0 (by omega) (by omega) (by omega) (by omega) (by omega) (fun e => by have := l3 _ e; omega) (fun e => by have := l3 _ e; omega) (fun e => by have := l4 _ e; omega) (fun e => by have := l4 _ e; omega) (fun k e1 e2 => by have := l3 _ e1; have := l4 _ e2; omega)⟩
      · simp only [List.getElem_toArray, List.getElem_cons_succ, List.getElem_cons_zero]
        rw [if_pos (by rfl)]
        go_simp
        have kn := (Kept.refl 0 0 w6).alloc (.cells #[.slice none 0 0] 45)
        replace r1 := r1.kept kn (by omega)
        replace r2 := r2.kept kn (by omega)
        replace kw := kw.trans kn
        replace o3 := own_kept o3 kn
        replace qf0 := kn.loose0 (World.block_lt_of_cell? _ _ q0) qf0
        replace yf0 := kn.loose0 (World.block_lt_of_cell? _ _ y0) yf0
        replace p0 := kn.cell0 p0
        replace t0 := kn.cell0 t0
        replace q0 := kn.cell0 q0
        replace y0 := kn.cell0 y0
        replace K := hide ((unhide K).trans kn)
        have z9 := kn.size
        clear kn
        have szx : w6.heap.size < (w6.alloc (.cells #[.slice none 0 0] 45)).heap.size := by simp
        have x0 : (w6.alloc (.cells #[.slice none 0 0] 45)).cell? ⟨w6.heap.size, 0, none⟩ = some (.slice none 0 0) := new_cell2 _ _ _ _ _ _ rfl rfl
        have xf0 : (w6.alloc (.cells #[.slice none 0 0] 45)).frozen? ⟨w6.heap.size, 0, none⟩ = false := new_loose2 _ _ _ _ _ rfl
        clear hHeld
        refine hK.out _ _ ?_ (fun hHeld => ?_)
        · exact ⟨p0, t0⟩
        clear hK KK
        try simp only [Act.put, List.getElem_toArray, List.getElem_cons_succ, List.getElem_cons_zero, List.setIfInBounds_toArray, List.set_cons_zero, List.set_cons_succ]
        generalize w6.alloc (.cells #[.slice none 0 0] 45) = w8 at *
        refine wpAnyH_ready (rs := [3, 5]) (by kernel_rfl) (by simp) ?_
        refine AllReadyH.cons rfl (fun KK hK => ?_) (AllReadyH.cons rfl (fun KK hK => ?_) AllReadyH.nil)
        · simp only [List.getElem_toArray, List.getElem_cons_succ, List.getElem_cons_zero]
          rw [if_pos (by rfl)]
          refine wps1 20 (.tmp 32) _ rfl in_limbsOf (.agg #[.slice a2 ys.length c2]) rfl (limbsOf_impl _ r2 my) ?_
          rintro e w10 ⟨v4, rfl, o4, k10⟩
          refine ⟨_, rfl, ?_⟩
          replace r1 := r1.kept k10 (by omega)
          replace r2 := r2.kept k10 (by omega)
          replace kw := kw.trans k10
          replace o3 := own_kept o3 k10
          replace qf0 := k10.loose0 (World.block_lt_of_cell? _ _ q0) qf0
          replace yf0 := k10.loose0 (World.block_lt_of_cell? _ _ y0) yf0
          replace xf0 := k10.loose0 (World.block_lt_of_cell? _ _ x0) xf0
          replace p0 := k10.cell0 p0
          replace t0 := k10.cell0 t0
          replace q0 := k10.cell0 q0
          replace y0 := k10.cell0 y0
          replace x0 := k10.cell0 x0
          replace K := hide ((unhide K).trans k10)
          have z11 := k10.size
          clear k10
          have l4 := o4.lt
          obtain ⟨a4, c4, hv⟩ := own_slice o4
          subst hv
          clear hHeld
          refine hK.out _ _ ?_ (fun hHeld => ?_)
          · exact ⟨p0, t0⟩
          clear hK KK
          try simp only [Act.put, List.getElem_toArray, List.getElem_cons_succ, List.getElem_cons_zero, List.setIfInBounds_toArray, List.set_cons_zero, List.set_cons_succ]
          refine wpAnyH_ready (rs := [5]) (by kernel_rfl) (by simp) ?_
          refine AllReadyH.cons rfl (fun KK hK => ?_) AllReadyH.nil
          · simp only [List.getElem_toArray, List.getElem_cons_succ, List.getElem_cons_zero]
            rw [if_pos (by rfl)]
            go_simp
            have kn := (Kept.refl 0 0 w10).alloc (.cells #[.slice none 0 0] 45)
            replace r1 := r1.kept kn (by omega)
            replace r2 := r2.kept kn (by omega)
            replace kw := kw.trans kn
            replace o3 := own_kept o3 kn
            replace o4 := own_kept o4 kn
            replace qf0 := kn.loose0 (World.block_lt_of_cell? _ _ q0) qf0
            replace yf0 := kn.loose0 (World.block_lt_of_cell? _ _ y0) yf0
            replace xf0 := kn.loose0 (World.block_lt_of_cell? _ _ x0) xf0
            replace p0 := kn.cell0 p0
            replace t0 := kn.cell0 t0
            replace q0 := kn.cell0 q0
            replace y0 := kn.cell0 y0
            replace x0 := kn.cell0 x0
            replace K := hide ((unhide K).trans kn)
            have z13 := kn.size
            clear kn
            have szn : w10.heap.size < (w10.alloc (.cells #[.slice none 0 0] 45)).heap.size := by simp
            have n0 : (w10.alloc (.cells #[.slice none 0 0] 45)).cell? ⟨w10.heap.size, 0, none⟩ = some (.slice none 0 0) := new_cell2 _ _ _ _ _ _ rfl rfl
            have nf0 : (w10.alloc (.cells #[.slice none 0 0] 45)).frozen? ⟨w10.heap.size, 0, none⟩ = false := new_loose2 _ _ _ _ _ rfl
            clear hHeld
            refine hK.out _ _ ?_ (fun hHeld => ?_)
            · exact ⟨p0, t0⟩
            clear hK KK
            try simp only [Act.put, List.getElem_toArray, List.getElem_cons_succ, List.getElem_cons_zero, List.setIfInBounds_toArray, List.set_cons_zero, List.set_cons_succ]
            generalize w10.alloc (.cells #[.slice none 0 0] 45) = w12 at *
            refine wpAnyH_ready (rs := [6]) (by kernel_rfl) (by simp) ?_
            refine AllReadyH.cons rfl (fun KK hK => ?_) AllReadyH.nil
            simp only [List.getElem_toArray, List.getElem_cons_succ, List.getElem_cons_zero]
            rw [if_pos (by rfl)]
            go_simp
            clear hHeld
            refine hK.out _ _ ?_ (fun hHeld => ?_)
            · exact ⟨(cell_aside _ (by have := unhide S0; dsimp only; omega) p0), (cell_aside _ (by have := unhide S0; dsimp only; omega) t0)⟩
            clear hK KK
            try simp only [Act.put, List.getElem_toArray, List.getElem_cons_succ, List.getElem_cons_zero, List.setIfInBounds_toArray, List.set_cons_zero, List.set_cons_succ]
            refine wpAnyH_ready (rs := [7]) (by kernel_rfl) (by simp) ?_
            refine AllReadyH.cons rfl (fun KK hK => ?_) AllReadyH.nil
            simp only [List.getElem_toArray, List.getElem_cons_succ, List.getElem_cons_zero]
            rw [if_pos (by rfl)]
            go_simp
            clear hHeld
            refine hK.out _ _ ?_ (fun hHeld => ?_)
            · exact ⟨(cell_aside _ (by have := unhide S0; dsimp only; omega) (cell_aside _ (by have := unhide S0; dsimp only; omega) p0)), (cell_aside _ (by have := unhide S0; dsimp only; omega) (cell_aside _ (by have := unhide S0; dsimp only; omega) t0))⟩
            clear hK KK
            try simp only [Act.put, List.getElem_toArray, List.getElem_cons_succ, List.getElem_cons_zero, List.setIfInBounds_toArray, List.set_cons_zero, List.set_cons_succ]
            refine wpAnyH_done (by kernel_rfl) ?_ _
            clear hHeld
            go_wp2_with fail
            go_meet
            exact ⟨_, _, _, _, rfl, rfl, two_set kw o3 o4 x0 xf0 n0 nf0 (by omega) (by omega) (by omega) (by omega) (by omega) (fun e => by have := l3 _ e; omega) (fun e => by have := l3 _ e; omega) (fun e => by have := l4 _ e; omega) (fun e => by have := l4 _ e; omega) (fun k e1 e2 => by have := l3 _ e1; have := l4 _ e2; omega)⟩
        · simp only [List.getElem_toArray, List.getElem_cons_succ, List.getElem_cons_zero]
          rw [if_pos (by rfl)]
          go_simp
          have kn := (Kept.refl 0 0 w8).alloc (.cells #[.slice none 0 0] 45)
          replace r1 := r1.kept kn (by omega)
          replace r2 := r2.kept kn (by omega)
          replace kw := kw.trans kn
          replace o3 := own_kept o3 kn
          replace qf0 := kn.loose0 (World.block_lt_of_cell? _ _ q0) qf0
          replace yf0 := kn.loose0 (World.block_lt_of_cell? _ _ y0) yf0
          replace xf0 := kn.loose0 (World.block_lt_of_cell? _ _ x0) xf0
          replace p0 := kn.cell0 p0
          replace t0 := kn.cell0 t0
          replace q0 := kn.cell0 q0
          replace y0 := kn.cell0 y0
          replace x0 := kn.cell0 x0
          replace K := hide ((unhide K).trans kn)
          have z11 := kn.size
          clear kn
          have szn : w8.heap.size < (w8.alloc (.cells #[.slice none 0 0] 45)).heap.size := by simp
          have n0 : (w8.alloc (.cells #[.slice none 0 0] 45)).cell? ⟨w8.heap.size, 0, none⟩ = some (.slice none 0 0) := new_cell2 _ _ _ _ _ _ rfl rfl
          have nf0 : (w8.alloc (.cells #[.slice none 0 0] 45)).frozen? ⟨w8.heap.size, 0, none⟩ = false := new_loose2 _ _ _ _ _ rfl
          clear hHeld
          refine hK.out _ _ ?_ (fun hHeld => ?_)
          · exact ⟨p0, t0⟩
          clear hK KK
          try simp only [Act.put, List.getElem_toArray, List.getElem_cons_succ, List.getElem_cons_zero, List.setIfInBounds_toArray, List.set_cons_zero, List.set_cons_succ]
          generalize w8.alloc (.cells #[.slice none 0 0] 45) = w10 at *
          refine wpAnyH_ready (rs := [3]) (by kernel_rfl) (by simp) ?_
          refine AllReadyH.cons rfl (fun KK hK => ?_) AllReadyH.nil
          · simp only [List.getElem_toArray, List.getElem_cons_succ, List.getElem_cons_zero]
            rw [if_pos (by rfl)]
            refine wps1 20 (.tmp 32) _ rfl in_limbsOf (.agg #[.slice a2 ys.length c2]) rfl (limbsOf_impl _ r2 my) ?_
            rintro e w12 ⟨v4, rfl, o4, k12⟩
            refine ⟨_, rfl, ?_⟩
            replace r1 := r1.kept k12 (by omega)
            replace r2 := r2.kept k12 (by omega)
            replace kw := kw.trans k12
            replace o3 := own_kept o3 k12
            replace qf0 := k12.loose0 (World.block_lt_of_cell? _ _ q0) qf0
            replace yf0 := k12.loose0 (World.block_lt_of_cell? _ _ y0) yf0
            replace xf0 := k12.loose0 (World.block_lt_of_cell? _ _ x0) xf0
            replace nf0 := k12.loose0 (World.block_lt_of_cell? _ _ n0) nf0
            replace p0 := k12.cell0 p0
            replace t0 := k12.cell0 t0
            replace q0 := k12.cell0 q0
            replace y0 := k12.cell0 y0
            replace x0 := k12.cell0 x0
            replace n0 := k12.cell0 n0
            replace K := hide ((unhide K).trans k12)
            have z13 := k12.size
            clear k12
            have l4 := o4.lt
            obtain ⟨a4, c4, hv⟩ := own_slice o4
            subst hv
            clear hHeld
            refine hK.out _ _ ?_ (fun hHeld => ?_)
            · exact ⟨p0, t0⟩
            clear hK KK
            try simp only [Act.put, List.getElem_toArray, List.getElem_cons_succ, List.getElem_cons_zero, List.setIfInBounds_toArray, List.set_cons_zero, List.set_cons_succ]
            refine wpAnyH_ready (rs := [6]) (by kernel_rfl) (by simp) ?_
            refine AllReadyH.cons rfl (fun KK hK => ?_) AllReadyH.nil
            simp only [List.getElem_toArray, List.getElem_cons_succ, List.getElem_cons_zero]
            rw [if_pos (by rfl)]
            go_simp
            clear hHeld
            refine hK.out _ _ ?_ (fun hHeld => ?_)
            · exact ⟨(cell_aside _ (by have := unhide S0; dsimp only; omega) p0), (cell_aside _ (by have := unhide S0; dsimp only; omega) t0)⟩
            clear hK KK
            try simp only [Act.put, List.getElem_toArray, List.getElem_cons_succ, List.getElem_cons_zero, List.setIfInBounds_toArray, List.set_cons_zero, List.set_cons_succ]
            refine wpAnyH_ready (rs := [7]) (by kernel_rfl) (by simp) ?_
            refine AllReadyH.cons rfl (fun KK hK => ?_) AllReadyH.nil
            simp only [List.getElem_toArray, List.getElem_cons_succ, List.getElem_cons_zero]
            rw [if_pos (by rfl)]
            go_simp
            clear hHeld
            refine hK.out _ _ ?_ (fun hHeld => ?_)
            · exact ⟨(cell_aside _ (by have := unhide S0; dsimp only; omega) (cell_aside _ (by have := unhide S0; dsimp only; omega) p0)), (cell_aside _ (by have := unhide S0; dsimp only; omega) (cell_aside _ (by have := unhide S0; dsimp only; omega) t0))⟩
            clear hK KK
            try simp only [Act.put, List.getElem_toArray, List.getElem_cons_succ, List.getElem_cons_zero, List.setIfInBounds_toArray, List.set_cons_zero, List.set_cons_succ]
            refine wpAnyH_done (by kernel_rfl) ?_ _
            clear hHeld
            go_wp2_with fail
            go_meet
            exact ⟨_, _, _, _, rfl, rfl, two_set kw o3 o4 x0 xf0 n0 nf0 (by omega) (by omega) (by omega) (by omega) (by omega) (fun e => by have := l3 _ e; omega) (fun e => by have := l3 _ e; omega) (fun e => by have := l4 _ e; omega) (fun e => by have := l4 _ e; omega) (fun k e1 e2 => by have := l3 _ e1; have := l4 _ e2; omega)⟩
      · simp only [List.getElem_toArray, List.getElem_cons_succ, List.getElem_cons_zero]
        rw [if_pos (by rfl)]
        go_simp
        have kn := (Kept.refl 0 0 w6).alloc (.cells #[.slice none 0 0] 45)
        replace r1 := r1.kept kn (by omega)
        replace r2 := r2.kept kn (by omega)
        replace kw := kw.trans kn
        replace o3 := own_kept o3 kn
        replace qf0 := kn.loose0 (World.block_lt_of_cell? _ _ q0) qf0
        replace yf0 := kn.loose0 (World.block_lt_of_cell? _ _ y0) yf0
        replace p0 := kn.cell0 p0
        replace t0 := kn.cell0 t0
        replace q0 := kn.cell0 q0
        replace y0 := kn.cell0 y0
        replace K := hide ((unhide K).trans kn)
        have z9 := kn.size
        clear kn
        have szn : w6.heap.size < (w6.alloc (.cells #[.slice none 0 0] 45)).heap.size := by simp
        have n0 : (w6.alloc (.cells #[.slice none 0 0] 45)).cell? ⟨w6.heap.size, 0, none⟩ = some (.slice none 0 0) := new_cell2 _ _ _ _ _ _ rfl rfl
        have nf0 : (w6.alloc (.cells #[.slice none 0 0] 45)).frozen? ⟨w6.heap.size, 0, none⟩ = false := new_loose2 _ _ _ _ _ rfl
        clear hHeld
        refine hK.out _ _ ?_ (fun hHeld => ?_)
        · exact ⟨p0, t0⟩
        clear hK KK
        try simp only [Act.put, List.getElem_toArray, List.getElem_cons_succ, List.getElem_cons_zero, List.setIfInBounds_toArray, List.set_cons_zero, List.set_cons_succ]
        generalize w6.alloc (.cells #[.slice none 0 0] 45) = w8 at *
        refine wpAnyH_ready (rs := [3, 4]) (by kernel_rfl) (by simp) ?_
        refine AllReadyH.cons rfl (fun KK hK => ?_) (AllReadyH.cons rfl (fun KK hK => ?_) AllReadyH.nil)
        · simp only [List.getElem_toArray, List.getElem_cons_succ, List.getElem_cons_zero]
          rw [if_pos (by rfl)]
          refine wps1 20 (.tmp 32) _ rfl in_limbsOf (.agg #[.slice a2 ys.length c2]) rfl (limbsOf_impl _ r2 my) ?_
          rintro e w10 ⟨v4, rfl, o4, k10⟩
          refine ⟨_, rfl, ?_⟩
          replace r1 := r1.kept k10 (by omega)
          replace r2 := r2.kept k10 (by omega)
          replace kw := kw.trans k10
          replace o3 := own_kept o3 k10
          replace qf0 := k10.loose0 (World.block_lt_of_cell? _ _ q0) qf0
          replace yf0 := k10.loose0 (World.block_lt_of_cell? _ _ y0) yf0
          replace nf0 := k10.loose0 (World.block_lt_of_cell? _ _ n0) nf0
          replace p0 := k10.cell0 p0
          replace t0 := k10.cell0 t0
          replace q0 := k10.cell0 q0
          replace y0 := k10.cell0 y0
          replace n0 := k10.cell0 n0
          replace K := hide ((unhide K).trans k10)
          have z11 := k10.size
          clear k10
          have l4 := o4.lt
          obtain ⟨a4, c4, hv⟩ := own_slice o4
          subst hv
          clear hHeld
          refine hK.out _ _ ?_ (fun hHeld => ?_)
          · exact ⟨p0, t0⟩
          clear hK KK
          try simp only [Act.put, List.getElem_toArray, List.getElem_cons_succ, List.getElem_cons_zero, List.setIfInBounds_toArray, List.set_cons_zero, List.set_cons_succ]
          refine wpAnyH_ready (rs := [4]) (by kernel_rfl) (by simp) ?_
          refine AllReadyH.cons rfl (fun KK hK => ?_) AllReadyH.nil
          · simp only [List.getElem_toArray, List.getElem_cons_succ, List.getElem_cons_zero]
            rw [if_pos (by rfl)]
            go_simp
            have kn := (Kept.refl 0 0 w10).alloc (.cells #[.slice none 0 0] 45)
            replace r1 := r1.kept kn (by omega)
            replace r2 := r2.kept kn (by omega)
            replace kw := kw.trans kn
            replace o3 := own_kept o3 kn
            replace o4 := own_kept o4 kn
            replace qf0 := kn.loose0 (World.block_lt_of_cell? _ _ q0) qf0
            replace yf0 := kn.loose0 (World.block_lt_of_cell? _ _ y0) yf0
            replace nf0 := kn.loose0 (World.block_lt_of_cell? _ _ n0) nf0
            replace p0 := kn.cell0 p0
            replace t0 := kn.cell0 t0
            replace q0 := kn.cell0 q0
            replace y0 := kn.cell0 y0
            replace n0 := kn.cell0 n0
            replace K := hide ((unhide K).trans kn)
            have z13 := kn.size
            clear kn
            have szx : w10.heap.size < (w10.alloc (.cells #[.slice none 0 0] 45)).heap.size := by simp
            have x0 : (w10.alloc (.cells #[.slice none 0 0] 45)).cell? ⟨w10.heap.size, 0, none⟩ = some (.slice none 0 0) := new_cell2 _ _ _ _ _ _ rfl rfl
            have xf0 : (w10.alloc (.cells #[.slice none 0 0] 45)).frozen? ⟨w10.heap.size, 0, none⟩ = false := new_loose2 _ _ _ _ _ rfl
            clear hHeld
            refine hK.out _ _ ?_ (fun hHeld => ?_)
            · exact ⟨p0, t0⟩
            clear hK KK
            try simp only [Act.put, List.getElem_toArray, List.getElem_cons_succ, List.getElem_cons_zero, List.setIfInBounds_toArray, List.set_cons_zero, List.set_cons_succ]
            generalize w10.alloc (.cells #[.slice none 0 0] 45) = w12 at *
            refine wpAnyH_ready (rs := [6]) (by kernel_rfl) (by simp) ?_
            refine AllReadyH.cons rfl (fun KK hK => ?_) AllReadyH.nil
            simp only [List.getElem_toArray, List.getElem_cons_succ, List.getElem_cons_zero]
            rw [if_pos (by rfl)]
            go_simp
            clear hHeld
            refine hK.out _ _ ?_ (fun hHeld => ?_)
            · exact ⟨(cell_aside _ (by have := unhide S0; dsimp only; omega) p0), (cell_aside _ (by have := unhide S0; dsimp only; omega) t0)⟩
            clear hK KK
            try simp only [Act.put, List.getElem_toArray, List.getElem_cons_succ, List.getElem_cons_zero, List.setIfInBounds_toArray, List.set_cons_zero, List.set_cons_succ]
            refine wpAnyH_ready (rs := [7]) (by kernel_rfl) (by simp) ?_
            refine AllReadyH.cons rfl (fun KK hK => ?_) AllReadyH.nil
            simp only [List.getElem_toArray, List.getElem_cons_succ, List.getElem_cons_zero]
            rw [if_pos (by rfl)]
            go_simp
            clear hHeld
            refine hK.out _ _ ?_ (fun hHeld => ?_)
            · exact ⟨(cell_aside _ (by have := unhide S0; dsimp only; omega) (cell_aside _ (by have := unhide S0; dsimp only; omega) p0)), (cell_aside _ (by have := unhide S0; dsimp only; omega) (cell_aside _ (by have := unhide S0; dsimp only; omega) t0))⟩
            clear hK KK
            try simp only [Act.put, List.getElem_toArray, List.getElem_cons_succ, List.getElem_cons_zero, List.setIfInBounds_toArray, List.set_cons_zero, List.set_cons_succ]
            refine wpAnyH_done (by kernel_rfl) ?_ _
            clear hHeld
            go_wp2_with fail
            go_meet
            exact ⟨_, _, _, _, rfl, rfl, two_set kw o3 o4 x0 xf0 n0 nf0 (by omega) (by omega) (by omega) (by omega) (by omega) (fun e => by have := l3 _ e; omega) (fun e => by have := l3 _ e; omega) (fun e => by have := l4 _ e; omega) (fun e => by have := l4 _ e; omega) (fun k e1 e2 => by have := l3 _ e1; have := l4 _ e2; omega)⟩
        · simp only [List.getElem_toArray, List.getElem_cons_succ, List.getElem_cons_zero]
          rw [if_pos (by rfl)]
          go_simp
          have kn := (Kept.refl 0 0 w8).alloc (.cells #[.slice none 0 0] 45)
          replace r1 := r1.kept kn (by omega)
          replace r2 := r2.kept kn (by omega)
          replace kw := kw.trans kn
          replace o3 := own_kept o3 kn
          replace qf0 := kn.loose0 (World.block_lt_of_cell? _ _ q0) qf0
          replace yf0 := kn.loose0 (World.block_lt_of_cell? _ _ y0) yf0
          replace nf0 := kn.loose0 (World.block_lt_of_cell? _ _ n0) nf0
          replace p0 := kn.cell0 p0
          replace t0 := kn.cell0 t0
          replace q0 := kn.cell0 q0
          replace y0 := kn.cell0 y0
          replace n0 := kn.cell0 n0
          replace K := hide ((unhide K).trans kn)
          have z11 := kn.size
          clear kn
          have szx : w8.heap.size < (w8.alloc (.cells #[.slice none 0 0] 45)).heap.size := by simp
          have x0 : (w8.alloc (.cells #[.slice none 0 0] 45)).cell? ⟨w8.heap.size, 0, none⟩ = some (.slice none 0 0) := new_cell2 _ _ _ _ _ _ rfl rfl
          have xf0 : (w8.alloc (.cells #[.slice none 0 0] 45)).frozen? ⟨w8.heap.size, 0, none⟩ = false := new_loose2 _ _ _ _ _ rfl
          clear hHeld
          refine hK.out _ _ ?_ (fun hHeld => ?_)
          · exact ⟨p0, t0⟩
          clear hK KK
          try simp only [Act.put, List.getElem_toArray, List.getElem_cons_succ, List.getElem_cons_zero, List.setIfInBounds_toArray, List.set_cons_zero, List.set_cons_succ]
          generalize w8.alloc (.cells #[.slice none 0 0] 45) = w10 at *
          refine wpAnyH_ready (rs := [3]) (by kernel_rfl) (by simp) ?_
          refine AllReadyH.cons rfl (fun KK hK => ?_) AllReadyH.nil
          · simp only [List.getElem_toArray, List.getElem_cons_succ, List.getElem_cons_zero]
            rw [if_pos (by rfl)]
            refine wps1 20 (.tmp 32) _ rfl in_limbsOf (.agg #[.slice a2 ys.length c2]) rfl (limbsOf_impl _ r2 my) ?_
            rintro e w12 ⟨v4, rfl, o4, k12⟩
            refine ⟨_, rfl, ?_⟩
            replace r1 := r1.kept k12 (by omega)
            replace r2 := r2.kept k12 (by omega)
            replace kw := kw.trans k12
            replace o3 := own_kept o3 k12
            replace qf0 := k12.loose0 (World.block_lt_of_cell? _ _ q0) qf0
            replace yf0 := k12.loose0 (World.block_lt_of_cell? _ _ y0) yf0
            replace nf0 := k12.loose0 (World.block_lt_of_cell? _ _ n0) nf0
            replace xf0 := k12.loose0 (World.block_lt_of_cell? _ _ x0) xf0
            replace p0 := k12.cell0 p0
            replace t0 := k12.cell0 t0
            replace q0 := k12.cell0 q0
            replace y0 := k12.cell0 y0
            replace n0 := k12.cell0 n0
            replace x0 := k12.cell0 x0
            replace K := hide ((unhide K).trans k12)
            have z13 := k12.size
            clear k12
            have l4 := o4.lt
            obtain ⟨a4, c4, hv⟩ := own_slice o4
            subst hv
            clear hHeld
            refine hK.out _ _ ?_ (fun hHeld => ?_)
            · exact ⟨p0, t0⟩
            clear hK KK
            try simp only [Act.put, List.getElem_toArray, List.getElem_cons_succ, List.getElem_cons_zero, List.setIfInBounds_toArray, List.set_cons_zero, List.set_cons_succ]
            refine wpAnyH_ready (rs := [6]) (by kernel_rfl) (by simp) ?_
            refine AllReadyH.cons rfl (fun KK hK => ?_) AllReadyH.nil
            simp only [List.getElem_toArray, List.getElem_cons_succ, List.getElem_cons_zero]
            rw [if_pos (by rfl)]
            go_simp
            clear hHeld
            refine hK.out _ _ ?_ (fun hHeld => ?_)
            · exact ⟨(cell_aside _ (by have := unhide S0; dsimp only; omega) p0), (cell_aside _ (by have := unhide S0; dsimp only; omega) t0)⟩
            clear hK KK
            try simp only [Act.put, List.getElem_toArray, List.getElem_cons_succ, List.getElem_cons_zero, List.setIfInBounds_toArray, List.set_cons_zero, List.set_cons_succ]
            refine wpAnyH_ready (rs := [7]) (by kernel_rfl) (by simp) ?_
            refine AllReadyH.cons rfl (fun KK hK => ?_) AllReadyH.nil
            simp only [List.getElem_toArray, List.getElem_cons_succ, List.getElem_cons_zero]
            rw [if_pos (by rfl)]
            go_simp
            clear hHeld
            refine hK.out _ _ ?_ (fun hHeld => ?_)
            · exact ⟨(cell_aside _ (by have := unhide S0; dsimp only; omega) (cell_aside _ (by have := unhide S0; dsimp only; omega) p0)), (cell_aside _ (by have := unhide S0; dsimp only; omega) (cell_aside _ (by have := unhide S0; dsimp only; omega) t0))⟩
            clear hK KK
            try simp only [Act.put, List.getElem_toArray, List.getElem_cons_succ, List.getElem_cons_zero, List.setIfInBounds_toArray, List.set_cons_zero, List.set_cons_succ]
            refine wpAnyH_done (by kernel_rfl) ?_ _
            clear hHeld
            go_wp2_with fail
            go_meet
            exact ⟨_, _, _, _, rfl, rfl, two_set kw o3 o4 x0 xf0 n0 nf0 (by omega) (by omega) (by omega) (by omega) (by omega) (fun e => by have := l3 _ e; omega) (fun e => by have := l3 _ e; omega) (fun e => by have := l4 _ e; omega) (fun e => by have := l4 _ e; omega) (fun k e1 e2 => by have := l3 _ e1; have := l4 _ e2; omega)⟩
    · simp only [List.getElem_toArray, List.getElem_cons_succ, List.getElem_cons_zero]
      rw [if_pos (by rfl)]
      go_simp
      have kn := (Kept.refl 0 0 wd).alloc (.cells #[.slice none 0 0] 45)
      replace r1 := r1.kept kn (by omega)
      replace r2 := r2.kept kn (by omega)
      replace kw := kw.trans kn
      replace qf0 := kn.loose0 (World.block_lt_of_cell? _ _ q0) qf0
      replace yf0 := kn.loose0 (World.block_lt_of_cell? _ _ y0) yf0
      replace p0 := kn.cell0 p0
      replace t0 := kn.cell0 t0
      replace q0 := kn.cell0 q0
      replace y0 := kn.cell0 y0
      replace K := hide ((unhide K).trans kn)
      have z7 := kn.size
      clear kn
      have szx : wd.heap.size < (wd.alloc (.cells #[.slice none 0 0] 45)).heap.size := by simp
      have x0 : (wd.alloc (.cells #[.slice none 0 0] 45)).cell? ⟨wd.heap.size, 0, none⟩ = some (.slice none 0 0) := new_cell2 _ _ _ _ _ _ rfl rfl
      have xf0 : (wd.alloc (.cells #[.slice none 0 0] 45)).frozen? ⟨wd.heap.size, 0, none⟩ = false := new_loose2 _ _ _ _ _ rfl
      clear hHeld
      refine hK.out _ _ ?_ (fun hHeld => ?_)
      · exact ⟨p0, t0⟩
      clear hK KK
      try simp only [Act.put, List.getElem_toArray, List.getElem_cons_succ, List.getElem_cons_zero, List.setIfInBounds_toArray, List.set_cons_zero, List.set_cons_succ]
      generalize wd.alloc (.cells #[.slice none 0 0] 45) = w6 at *
      refine wpAnyH_ready (rs := [1, 5]) (by kernel_rfl) (by simp) ?_
      refine AllReadyH.cons rfl (fun KK hK => ?_) (AllReadyH.cons rfl (fun KK hK => ?_) AllReadyH.nil)
      · simp only [List.getElem_toArray, List.getElem_cons_succ, List.getElem_cons_zero]
        rw [if_pos (by rfl)]
        refine wps1 20 (.tmp 30) _ rfl in_limbsOf (.agg #[.slice a1 xs.length c1]) rfl (limbsOf_impl _ r1 mx) ?_
        rintro e w8 ⟨v3, rfl, o3, k8⟩
        refine ⟨_, rfl, ?_⟩
        replace r1 := r1.kept k8 (by omega)
        replace r2 := r2.kept k8 (by omega)
        replace kw := kw.trans k8
        replace qf0 := k8.loose0 (World.block_lt_of_cell? _ _ q0) qf0
        replace yf0 := k8.loose0 (World.block_lt_of_cell? _ _ y0) yf0
        replace xf0 := k8.loose0 (World.block_lt_of_cell? _ _ x0) xf0
        replace p0 := k8.cell0 p0
        replace t0 := k8.cell0 t0
        replace q0 := k8.cell0 q0
        replace y0 := k8.cell0 y0
        replace x0 := k8.cell0 x0
        replace K := hide ((unhide K).trans k8)
        have z9 := k8.size
        clear k8
        have l3 := o3.lt
        obtain ⟨a3, c3, hv⟩ := own_slice o3
        subst hv
        clear hHeld
        refine hK.out _ _ ?_ (fun hHeld => ?_)
        · exact ⟨p0, t0⟩
        clear hK KK
        try simp only [Act.put, List.getElem_toArray, List.getElem_cons_succ, List.getElem_cons_zero, List.setIfInBounds_toArray, List.set_cons_zero, List.set_cons_succ]
        refine wpAnyH_ready (rs := [3, 5]) (by kernel_rfl) (by simp) ?_
        refine AllReadyH.cons rfl (fun KK hK => ?_) (AllReadyH.cons rfl (fun KK hK => ?_) AllReadyH.nil)
        · simp only [List.getElem_toArray, List.getElem_cons_succ, List.getElem_cons_zero]
          rw [if_pos (by rfl)]
          refine wps1 20 (.tmp 32) _ rfl in_limbsOf (.agg #[.slice a2 ys.length c2]) rfl (limbsOf_impl _ r2 my) ?_
          rintro e w10 ⟨v4, rfl, o4, k10⟩
          refine ⟨_, rfl, ?_⟩
          replace r1 := r1.kept k10 (by omega)
          replace r2 := r2.kept k10 (by omega)
          replace kw := kw.trans k10
          replace o3 := own_kept o3 k10
          replace qf0 := k10.loose0 (World.block_lt_of_cell? _ _ q0) qf0
          replace yf0 := k10.loose0 (World.block_lt_of_cell? _ _ y0) yf0
          replace xf0 := k10.loose0 (World.block_lt_of_cell? _ _ x0) xf0
          replace p0 := k10.cell0 p0
          replace t0 := k10.cell0 t0
          replace q0 := k10.cell0 q0
          replace y0 := k10.cell0 y0
          replace x0 := k10.cell0 x0
          replace K := hide ((unhide K).trans k10)
          have z11 := k10.size
          clear k10
          have l4 := o4.lt
          obtain ⟨a4, c4, hv⟩ := own_slice o4
          subst hv
          clear hHeld
          refine hK.out _ _ ?_ (fun hHeld => ?_)
          · exact ⟨p0, t0⟩
          clear hK KK
          try simp only [Act.put, List.getElem_toArray, List.getElem_cons_succ, List.getElem_cons_zero, List.setIfInBounds_toArray, List.set_cons_zero, List.set_cons_succ]
          refine wpAnyH_ready (rs := [5]) (by kernel_rfl) (by simp) ?_
          refine AllReadyH.cons rfl (fun KK hK => ?_) AllReadyH.nil
          · simp only [List.getElem_toArray, List.getElem_cons_succ, List.getElem_cons_zero]
            rw [if_pos (by rfl)]
            go_simp
            have kn := (Kept.refl 0 0 w10).alloc (.cells #[.slice none 0 0] 45)
            replace r1 := r1.kept kn (by omega)
            replace r2 := r2.kept kn (by omega)
            replace kw := kw.trans kn
            replace o3 := own_kept o3 kn
            replace o4 := own_kept o4 kn
            replace qf0 := kn.loose0 (World.block_lt_of_cell? _ _ q0) qf0
            replace yf0 := kn.loose0 (World.block_lt_of_cell? _ _ y0) yf0
            replace xf0 := kn.loose0 (World.block_lt_of_cell? _ _ x0) xf0
            replace p0 := kn.cell0 p0
            replace t0 := kn.cell0 t0
            replace q0 := kn.cell0 q0
            replace y0 := kn.cell0 y0
            replace x0 := kn.cell0 x0
            replace K := hide ((unhide K).trans kn)
            have z13 := kn.size
            clear kn
            have szn : w10.heap.size < (w10.alloc (.cells #[.slice none 0 0] 45)).heap.size := by simp
            have n0 : (w10.alloc (.cells #[.slice none 0 0] 45)).cell? ⟨w10.heap.size, 0, none⟩ = some (.slice none 0 0) := new_cell2 _ _ _ _ _ _ rfl rfl
            have nf0 : (w10.alloc (.cells #[.slice none 0 0] 45)).frozen? ⟨w10.heap.size, 0, none⟩ = false := new_loose2 _ _ _ _ _ rfl
            clear hHeld
            refine hK.out _ _ ?_ (fun hHeld => ?_)
            · exact ⟨p0, t0⟩
            clear hK KK
            try simp only [Act.put, List.getElem_toArray, List.getElem_cons_succ, List.getElem_cons_zero, List.setIfInBounds_toArray, List.set_cons_zero, List.set_cons_succ]
            generalize w10.alloc (.cells #[.slice none 0 0] 45) = w12 at *
            refine wpAnyH_ready (rs := [6]) (by kernel_rfl) (by simp) ?_
            refine AllReadyH.cons rfl (fun KK hK => ?_) AllReadyH.nil
            simp only [List.getElem_toArray, List.getElem_cons_succ, List.getElem_cons_zero]
            rw [if_pos (by rfl)]
            go_simp
            clear hHeld
            refine hK.out _ _ ?_ (fun hHeld => ?_)
            · exact ⟨(cell_aside _ (by have := unhide S0; dsimp only; omega) p0), (cell_aside _ (by have := unhide S0; dsimp only; omega) t0)⟩
            clear hK KK
            try simp only [Act.put, List.getElem_toArray, List.getElem_cons_succ, List.getElem_cons_zero, List.setIfInBounds_toArray, List.set_cons_zero, List.set_cons_succ]
            refine wpAnyH_ready (rs := [7]) (by kernel_rfl) (by simp) ?_
            refine AllReadyH.cons rfl (fun KK hK => ?_) AllReadyH.nil
            simp only [List.getElem_toArray, List.getElem_cons_succ, List.getElem_cons_zero]
            rw [if_pos (by rfl)]
            go_simp
            clear hHeld
            refine hK.out _ _ ?_ (fun hHeld => ?_)
            · exact ⟨(cell_aside _ (by have := unhide S0; dsimp only; omega) (cell_aside _ (by have := unhide S0; dsimp only; omega) p0)), (cell_aside _ (by have := unhide S0; dsimp only; omega) (cell_aside _ (by have := unhide S0; dsimp only; omega) t0))⟩
            clear hK KK
            try simp only [Act.put, List.getElem_toArray, List.getElem_cons_succ, List.getElem_cons_zero, List.setIfInBounds_toArray, List.set_cons_zero, List.set_cons_succ]
            refine wpAnyH_done (by kernel_rfl) ?_ _
            clear hHeld
            go_wp2_with fail
            go_meet
            exact ⟨_, _, _, _, rfl, rfl, two_set kw o3 o4 x0 xf0 n0 nf0 (by omega) (by omega) (by omega) (by omega) (by omega) (fun e => by have := l3 _ e; omega) (fun e => by have := l3 _ e; omega) (fun e => by have := l4 _ e; omega) (fun e => by have := l4 _ e; omega) (fun k e1 e2 => by have := l3 _ e1; have := l4 _ e2; omega)⟩
        · simp only [List.getElem_toArray, List.getElem_cons_succ, List.getElem_cons_zero]
          rw [if_pos (by rfl)]
          go_simp
          have kn := (Kept.refl 0 0 w8).alloc (.cells #[.slice none 0 0] 45)
          replace r1 := r1.kept kn (by omega)
          replace r2 := r2.kept kn (by omega)
          replace kw := kw.trans kn
          replace o3 := own_kept o3 kn
          replace qf0 := kn.loose0 (World.block_lt_of_cell? _ _ q0) qf0
          replace yf0 := kn.loose0 (World.block_lt_of_cell? _ _ y0) yf0
          replace xf0 := kn.loose0 (World.block_lt_of_cell? _ _ x0) xf0
          replace p0 := kn.cell0 p0
          replace t0 := kn.cell0 t0
          replace q0 := kn.cell0 q0
          replace y0 := kn.cell0 y0
          replace x0 := kn.cell0 x0
          replace K := hide ((unhide K).trans kn)
          have z11 := kn.size
          clear kn
          have szn : w8.heap.size < (w8.alloc (.cells #[.slice none 0 0] 45)).heap.size := by simp
          have n0 : (w8.alloc (.cells #[.slice none 0 0] 45)).cell? ⟨w8.heap.size, 0, none⟩ = some (.slice none 0 0) := new_cell2 _ _ _ _ _ _ rfl rfl
          have nf0 : (w8.alloc (.cells #[.slice none 0 0] 45)).frozen? ⟨w8.heap.size, 0, none⟩ = false := new_loose2 _ _ _ _ _ rfl
          clear hHeld
          refine hK.out _ _ ?_ (fun hHeld => ?_)
          · exact ⟨p0, t0⟩
          clear hK KK
          try simp only [Act.put, List.getElem_toArray, List.getElem_cons_succ, List.getElem_cons_zero, List.setIfInBounds_toArray, List.set_cons_zero, List.set_cons_succ]
          generalize w8.alloc (.cells #[.slice none 0 0] 45) = w10 at *
          refine wpAnyH_ready (rs := [3]) (by kernel_rfl) (by simp) ?_
          refine AllReadyH.cons rfl (fun KK hK => ?_) AllReadyH.nil
          · simp only [List.getElem_toArray, List.getElem_cons_succ, List.getElem_cons_zero]
            rw [if_pos (by rfl)]
            refine wps1 20 (.tmp 32) _ rfl in_limbsOf (.agg #[.slice a2 ys.length c2]) rfl (limbsOf_impl _ r2 my) ?_
            rintro e w12 ⟨v4, rfl, o4, k12⟩
            refine ⟨_, rfl, ?_⟩
            replace r1 := r1.kept k12 (by omega)
            replace r2 := r2.kept k12 (by omega)
            replace kw := kw.trans k12
            replace o3 := own_kept o3 k12
            replace qf0 := k12.loose0 (World.block_lt_of_cell? _ _ q0) qf0
            replace yf0 := k12.loose0 (World.block_lt_of_cell? _ _ y0) yf0
            replace xf0 := k12.loose0 (World.block_lt_of_cell? _ _ x0) xf0
            replace nf0 := k12.loose0 (World.block_lt_of_cell? _ _ n0) nf0
            replace p0 := k12.cell0 p0
            replace t0 := k12.cell0 t0
            replace q0 := k12.cell0 q0
            replace y0 := k12.cell0 y0
            replace x0 := k12.cell0 x0
            replace n0 := k12.cell0 n0
            replace K := hide ((unhide K).trans k12)
            have z13 := k12.size
            clear k12
            have l4 := o4.lt
            obtain ⟨a4, c4, hv⟩ := own_slice o4
            subst hv
            clear hHeld
            refine hK.out _ _ ?_ (fun hHeld => ?_)
            · exact ⟨p0, t0⟩
            clear hK KK
            try simp only [Act.put, List.getElem_toArray, List.getElem_cons_succ, List.getElem_cons_zero, List.setIfInBounds_toArray, List.set_cons_zero, List.set_cons_succ]
            refine wpAnyH_ready (rs := [6]) (by kernel_rfl) (by simp) ?_
            refine AllReadyH.cons rfl (fun KK hK => ?_) AllReadyH.nil
            simp only [List.getElem_toArray, List.getElem_cons_succ, List.getElem_cons_zero]
            rw [if_pos (by rfl)]
            go_simp
            clear hHeld
            refine hK.out _ _ ?_ (fun hHeld => ?_)
            · exact ⟨(cell_aside _ (by have := unhide S0; dsimp only; omega) p0), (cell_aside _ (by have := unhide S0; dsimp only; omega) t0)⟩
            clear hK KK
            try simp only [Act.put, List.getElem_toArray, List.getElem_cons_succ, List.getElem_cons_zero, List.setIfInBounds_toArray, List.set_cons_zero, List.set_cons_succ]
            refine wpAnyH_ready (rs := [7]) (by kernel_rfl) (by simp) ?_
            refine AllReadyH.cons rfl (fun KK hK => ?_) AllReadyH.nil
            simp only [List.getElem_toArray, List.getElem_cons_succ, List.getElem_cons_zero]
            rw [if_pos (by rfl)]
            go_simp
            clear hHeld
            refine hK.out _ _ ?_ (fun hHeld => ?_)
            · exact ⟨(cell_aside _ (by have := unhide S0; dsimp only; omega) (cell_aside _ (by have := unhide S0; dsimp only; omega) p0)), (cell_aside _ (by have := unhide S0; dsimp only; omega) (cell_aside _ (by have := unhide S0; dsimp only; omega) t0))⟩
            clear hK KK
            try simp only [Act.put, List.getElem_toArray, List.getElem_cons_succ, List.getElem_cons_zero, List.setIfInBounds_toArray, List.set_cons_zero, List.set_cons_succ]
            refine wpAnyH_done (by kernel_rfl) ?_ _
            clear hHeld
            go_wp2_with fail
            go_meet
            exact ⟨_, _, _, _, rfl, rfl, two_set kw o3 o4 x0 xf0 n0 nf0 (by omega) (by omega) (by omega) (by omega) (by omega) (fun e => by have := l3 _ e; omega) (fun e => by have := l3 _ e; omega) (fun e => by have := l4 _ e; omega) (fun e => by have := l4 _ e; omega) (fun k e1 e2 => by have := l3 _ e1; have := l4 _ e2; omega)⟩
      · simp only [List.getElem_toArray, List.getElem_cons_succ, List.getElem_cons_zero]
        rw [if_pos (by rfl)]
        go_simp
        have kn := (Kept.refl 0 0 w6).alloc (.cells #[.slice none 0 0] 45)
        replace r1 := r1.kept kn (by omega)
        replace r2 := r2.kept kn (by omega)
        replace kw := kw.trans kn
        replace qf0 := kn.loose0 (World.block_lt_of_cell? _ _ q0) qf0
        replace yf0 := kn.loose0 (World.block_lt_of_cell? _ _ y0) yf0
        replace xf0 := kn.loose0 (World.block_lt_of_cell? _ _ x0) xf0
        replace p0 := kn.cell0 p0
        replace t0 := kn.cell0 t0
        replace q0 := kn.cell0 q0
        replace y0 := kn.cell0 y0
        replace x0 := kn.cell0 x0
        replace K := hide ((unhide K).trans kn)
        have z9 := kn.size
        clear kn
        have szn : w6.heap.size < (w6.alloc (.cells #[.slice none 0 0] 45)).heap.size := by simp
        have n0 : (w6.alloc (.cells #[.slice none 0 0] 45)).cell? ⟨w6.heap.size, 0, none⟩ = some (.slice none 0 0) := new_cell2 _ _ _ _ _ _ rfl rfl
        have nf0 : (w6.alloc (.cells #[.slice none 0 0] 45)).frozen? ⟨w6.heap.size, 0, none⟩ = false := new_loose2 _ _ _ _ _ rfl
        clear hHeld
        refine hK.out _ _ ?_ (fun hHeld => ?_)
        · exact ⟨p0, t0⟩
        clear hK KK
        try simp only [Act.put, List.getElem_toArray, List.getElem_cons_succ, List.getElem_cons_zero, List.setIfInBounds_toArray, List.set_cons_zero, List.set_cons_succ]
        generalize w6.alloc (.cells #[.slice none 0 0] 45) = w8 at *
        refine wpAnyH_ready (rs := [1]) (by kernel_rfl) (by simp) ?_
        refine AllReadyH.cons rfl (fun KK hK => ?_) AllReadyH.nil
        · simp only [List.getElem_toArray, List.getElem_cons_succ, List.getElem_cons_zero]
          rw [if_pos (by rfl)]
          refine wps1 20 (.tmp 30) _ rfl in_limbsOf (.agg #[.slice a1 xs.length c1]) rfl (limbsOf_impl _ r1 mx) ?_
          rintro e w10 ⟨v3, rfl, o3, k10⟩
          refine ⟨_, rfl, ?_⟩
          replace r1 := r1.kept k10 (by omega)
          replace r2 := r2.kept k10 (by omega)
          replace kw := kw.trans k10
          replace qf0 := k10.loose0 (World.block_lt_of_cell? _ _ q0) qf0
          replace yf0 := k10.loose0 (World.block_lt_of_cell? _ _ y0) yf0
          replace xf0 := k10.loose0 (World.block_lt_of_cell? _ _ x0) xf0
          replace nf0 := k10.loose0 (World.block_lt_of_cell? _ _ n0) nf0
          replace p0 := k10.cell0 p0
          replace t0 := k10.cell0 t0
          replace q0 := k10.cell0 q0
          replace y0 := k10.cell0 y0
          replace x0 := k10.cell0 x0
          replace n0 := k10.cell0 n0
          replace K := hide ((unhide K).trans k10)
          have z11 := k10.size
          clear k10
          have l3 := o3.lt
          obtain ⟨a3, c3, hv⟩ := own_slice o3
          subst hv
          clear hHeld
          refine hK.out _ _ ?_ (fun hHeld => ?_)
          · exact ⟨p0, t0⟩
          clear hK KK
          try simp only [Act.put, List.getElem_toArray, List.getElem_cons_succ, List.getElem_cons_zero, List.setIfInBounds_toArray, List.set_cons_zero, List.set_cons_succ]
          refine wpAnyH_ready (rs := [3]) (by kernel_rfl) (by simp) ?_
          refine AllReadyH.cons rfl (fun KK hK => ?_) AllReadyH.nil
          · simp only [List.getElem_toArray, List.getElem_cons_succ, List.getElem_cons_zero]
            rw [if_pos (by rfl)]
            refine wps1 20 (.tmp 32) _ rfl in_limbsOf (.agg #[.slice a2 ys.length c2]) rfl (limbsOf_impl _ r2 my) ?_
            rintro e w12 ⟨v4, rfl, o4, k12⟩
            refine ⟨_, rfl, ?_⟩
            replace r1 := r1.kept k12 (by omega)
            replace r2 := r2.kept k12 (by omega)
            replace kw := kw.trans k12
            replace o3 := own_kept o3 k12
            replace qf0 := k12.loose0 (World.block_lt_of_cell? _ _ q0) qf0
            replace yf0 := k12.loose0 (World.block_lt_of_cell? _ _ y0) yf0
            replace xf0 := k12.loose0 (World.block_lt_of_cell? _ _ x0) xf0
            replace nf0 := k12.loose0 (World.block_lt_of_cell? _ _ n0) nf0
            replace p0 := k12.cell0 p0
            replace t0 := k12.cell0 t0
            replace q0 := k12.cell0 q0
            replace y0 := k12.cell0 y0
            replace x0 := k12.cell0 x0
            replace n0 := k12.cell0 n0
            replace K := hide ((unhide K).trans k12)
            have z13 := k12.size
            clear k12
            have l4 := o4.lt
            obtain ⟨a4, c4, hv⟩ := own_slice o4
            subst hv
            clear hHeld
            refine hK.out _ _ ?_ (fun hHeld => ?_)
            · exact ⟨p0, t0⟩
            clear hK KK
            try simp only [Act.put, List.getElem_toArray, List.getElem_cons_succ, List.getElem_cons_zero, List.setIfInBounds_toArray, List.set_cons_zero, List.set_cons_succ]
            refine wpAnyH_ready (rs := [6]) (by kernel_rfl) (by simp) ?_
            refine AllReadyH.cons rfl (fun KK hK => ?_) AllReadyH.nil
            simp only [List.getElem_toArray, List.getElem_cons_succ, List.getElem_cons_zero]
            rw [if_pos (by rfl)]
            go_simp
            clear hHeld
            refine hK.out _ _ ?_ (fun hHeld => ?_)
            · exact ⟨(cell_aside _ (by have := unhide S0; dsimp only; omega) p0), (cell_aside _ (by have := unhide S0; dsimp only; omega) t0)⟩
            clear hK KK
            try simp only [Act.put, List.getElem_toArray, List.getElem_cons_succ, List.getElem_cons_zero, List.setIfInBounds_toArray, List.set_cons_zero, List.set_cons_succ]
            refine wpAnyH_ready (rs := [7]) (by kernel_rfl) (by simp) ?_
            refine AllReadyH.cons rfl (fun KK hK => ?_) AllReadyH.nil
            simp only [List.getElem_toArray, List.getElem_cons_succ, List.getElem_cons_zero]
            rw [if_pos (by rfl)]
            go_simp
            clear hHeld
            refine hK.out _ _ ?_ (fun hHeld => ?_)
            · exact ⟨(cell_aside _ (by have := unhide S0; dsimp only; omega) (cell_aside _ (by have := unhide S0; dsimp only; omega) p0)), (cell_aside _ (by have := unhide S0; dsimp only; omega) (cell_aside _ (by have := unhide S0; dsimp only; omega) t0))⟩
            clear hK KK
            try simp only [Act.put, List.getElem_toArray, List.getElem_cons_succ, List.getElem_cons_zero, List.setIfInBounds_toArray, List.set_cons_zero, List.set_cons_succ]
            refine wpAnyH_done (by kernel_rfl) ?_ _
            clear hHeld
            go_wp2_with fail
            go_meet
            exact ⟨_, _, _, _, rfl, rfl, two_set kw o3 o4 x0 xf0 n0 nf0 (by omega) (by omega) (by omega) (by omega) (by omega) (fun e => by have := l3 _ e; omega) (fun e => by have := l3 _ e; omega) (fun e => by have := l4 _ e; omega) (fun e => by have := l4 _ e; omega) (fun k e1 e2 => by have := l3 _ e1; have := l4 _ e2; omega)⟩
    · simp only [List.getElem_toArray, List.getElem_cons_succ, List.getElem_cons_zero]
      rw [if_pos (by rfl)]
      go_simp
      have kn := (Kept.refl 0 0 wd).alloc (.cells #[.slice none 0 0] 45)
      replace r1 := r1.kept kn (by omega)
      replace r2 := r2.kept kn (by omega)
      replace kw := kw.trans kn
      replace qf0 := kn.loose0 (World.block_lt_of_cell? _ _ q0) qf0
      replace yf0 := kn.loose0 (World.block_lt_of_cell? _ _ y0) yf0
      replace p0 := kn.cell0 p0
      replace t0 := kn.cell0 t0
      replace q0 := kn.cell0 q0
      replace y0 := kn.cell0 y0
      replace K := hide ((unhide K).trans kn)
      have z7 := kn.size
      clear kn
      have szn : wd.heap.size < (wd.alloc (.cells #[.slice none 0 0] 45)).heap.size := by simp
      have n0 : (wd.alloc (.cells #[.slice none 0 0] 45)).cell? ⟨wd.heap.size, 0, none⟩ = some (.slice none 0 0) := new_cell2 _ _ _ _ _ _ rfl rfl
      have nf0 : (wd.alloc (.cells #[.slice none 0 0] 45)).frozen? ⟨wd.heap.size, 0, none⟩ = false := new_loose2 _ _ _ _ _ rfl
      clear hHeld
      refine hK.out _ _ ?_ (fun hHeld => ?_)
      · exact ⟨p0, t0⟩
      clear hK KK
      try simp only [Act.put, List.getElem_toArray, List.getElem_cons_succ, List.getElem_cons_zero, List.setIfInBounds_toArray, List.set_cons_zero, List.set_cons_succ]
      generalize wd.alloc (.cells #[.slice none 0 0] 45) = w6 at *
      refine wpAnyH_ready (rs := [1, 4]) (by kernel_rfl) (by simp) ?_
      refine AllReadyH.cons rfl (fun KK hK => ?_) (AllReadyH.cons rfl (fun KK hK => ?_) AllReadyH.nil)
      · simp only [List.getElem_toArray, List.getElem_cons_succ, List.getElem_cons_zero]
        rw [if_pos (by rfl)]
        refine wps1 20 (.tmp 30) _ rfl in_limbsOf (.agg #[.slice a1 xs.length c1]) rfl (limbsOf_impl _ r1 mx) ?_
        rintro e w8 ⟨v3, rfl, o3, k8⟩
        refine ⟨_, rfl, ?_⟩
        replace r1 := r1.kept k8 (by omega)
        replace r2 := r2.kept k8 (by omega)
        replace kw := kw.trans k8
        replace qf0 := k8.loose0 (World.block_lt_of_cell? _ _ q0) qf0
        replace yf0 := k8.loose0 (World.block_lt_of_cell? _ _ y0) yf0
        replace nf0 := k8.loose0 (World.block_lt_of_cell? _ _ n0) nf0
        replace p0 := k8.cell0 p0
        replace t0 := k8.cell0 t0
        replace q0 := k8.cell0 q0
        replace y0 := k8.cell0 y0
        replace n0 := k8.cell0 n0
        replace K := hide ((unhide K).trans k8)
        have z9 := k8.size
        clear k8
        have l3 := o3.lt
        obtain ⟨a3, c3, hv⟩ := own_slice o3
        subst hv
        clear hHeld
        refine hK.out _ _ ?_ (fun hHeld => ?_)
        · exact ⟨p0, t0⟩
        clear hK KK
        try simp only [Act.put, List.getElem_toArray, List.getElem_cons_succ, List.getElem_cons_zero, List.setIfInBounds_toArray, List.set_cons_zero, List.set_cons_succ]
        refine wpAnyH_ready (rs := [3, 4]) (by kernel_rfl) (by simp) ?_
        refine AllReadyH.cons rfl (fun KK hK => ?_) (AllReadyH.cons rfl (fun KK hK => ?_) AllReadyH.nil)
        · simp only [List.getElem_toArray, List.getElem_cons_succ, List.getElem_cons_zero]
          rw [if_pos (by rfl)]
          refine wps1 20 (.tmp 32) _ rfl in_limbsOf (.agg #[.slice a2 ys.length c2]) rfl (limbsOf_impl _ r2 my) ?_
          rintro e w10 ⟨v4, rfl, o4, k10⟩
          refine ⟨_, rfl, ?_⟩
          replace r1 := r1.kept k10 (by omega)
          replace r2 := r2.kept k10 (by omega)
          replace kw := kw.trans k10
          replace o3 := own_kept o3 k10
          replace qf0 := k10.loose0 (World.block_lt_of_cell? _ _ q0) qf0
          replace yf0 := k10.loose0 (World.block_lt_of_cell? _ _ y0) yf0
          replace nf0 := k10.loose0 (World.block_lt_of_cell? _ _ n0) nf0
          replace p0 := k10.cell0 p0
          replace t0 := k10.cell0 t0
          replace q0 := k10.cell0 q0
          replace y0 := k10.cell0 y0
          replace n0 := k10.cell0 n0
          replace K := hide ((unhide K).trans k10)
          have z11 := k10.size
          clear k10
          have l4 := o4.lt
          obtain ⟨a4, c4, hv⟩ := own_slice o4
          subst hv
          clear hHeld
          refine hK.out _ _ ?_ (fun hHeld => ?_)
          · exact ⟨p0, t0⟩
          clear hK KK
          try simp only [Act.put, List.getElem_toArray, List.getElem_cons_succ, List.getElem_cons_zero, List.setIfInBounds_toArray, List.set_cons_zero, List.set_cons_succ]
          refine wpAnyH_ready (rs := [4]) (by kernel_rfl) (by simp) ?_
          refine AllReadyH.cons rfl (fun KK hK => ?_) AllReadyH.nil
          · simp only [List.getElem_toArray, List.getElem_cons_succ, List.getElem_cons_zero]
            rw [if_pos (by rfl)]
            go_simp
            have kn := (Kept.refl 0 0 w10).alloc (.cells #[.slice none 0 0] 45)
            replace r1 := r1.kept kn (by omega)
            replace r2 := r2.kept kn (by omega)
            replace kw := kw.trans kn
            replace o3 := own_kept o3 kn
            replace o4 := own_kept o4 kn
            replace qf0 := kn.loose0 (World.block_lt_of_cell? _ _ q0) qf0
            replace yf0 := kn.loose0 (World.block_lt_of_cell? _ _ y0) yf0
            replace nf0 := kn.loose0 (World.block_lt_of_cell? _ _ n0) nf0
            replace p0 := kn.cell0 p0
            replace t0 := kn.cell0 t0
            replace q0 := kn.cell0 q0
            replace y0 := kn.cell0 y0
            replace n0 := kn.cell0 n0
            replace K := hide ((unhide K).trans kn)
            have z13 := kn.size
            clear kn
            have szx : w10.heap.size < (w10.alloc (.cells #[.slice none 0 0] 45)).heap.size := by simp
            have x0 : (w10.alloc (.cells #[.slice none 0 0] 45)).cell? ⟨w10.heap.size, 0, none⟩ = some (.slice none 0 0) := new_cell2 _ _ _ _ _ _ rfl rfl
            have xf0 : (w10.alloc (.cells #[.slice none 0 0] 45)).frozen? ⟨w10.heap.size, 0, none⟩ = false := new_loose2 _ _ _ _ _ rfl
            clear hHeld
            refine hK.out _ _ ?_ (fun hHeld => ?_)
            · exact ⟨p0, t0⟩
            clear hK KK
            try simp only [Act.put, List.getElem_toArray, List.getElem_cons_succ, List.getElem_cons_zero, List.setIfInBounds_toArray, List.set_cons_zero, List.set_cons_succ]
            generalize w10.alloc (.cells #[.slice none 0 0] 45) = w12 at *
            refine wpAnyH_ready (rs := [6]) (by kernel_rfl) (by simp) ?_
            refine AllReadyH.cons rfl (fun KK hK => ?_) AllReadyH.nil
            simp only [List.getElem_toArray, List.getElem_cons_succ, List.getElem_cons_zero]
            rw [if_pos (by rfl)]
            go_simp
            clear hHeld
            refine hK.out _ _ ?_ (fun hHeld => ?_)
            · exact ⟨(cell_aside _ (by have := unhide S0; dsimp only; omega) p0), (cell_aside _ (by have := unhide S0; dsimp only; omega) t0)⟩
            clear hK KK
            try simp only [Act.put, List.getElem_toArray, List.getElem_cons_succ, List.getElem_cons_zero, List.setIfInBounds_toArray, List.set_cons_zero, List.set_cons_succ]
            refine wpAnyH_ready (rs := [7]) (by kernel_rfl) (by simp) ?_
            refine AllReadyH.cons rfl (fun KK hK => ?_) AllReadyH.nil
            simp only [List.getElem_toArray, List.getElem_cons_succ, List.getElem_cons_zero]
            rw [if_pos (by rfl)]
            go_simp
            clear hHeld
            refine hK.out _ _ ?_ (fun hHeld => ?_)
            · exact ⟨(cell_aside _ (by have := unhide S0; dsimp only; omega) (cell_aside _ (by have := unhide S0; dsimp only; omega) p0)), (cell_aside _ (by have := unhide S0; dsimp only; omega) (cell_aside _ (by have := unhide S0; dsimp only; omega) t0))⟩
            clear hK KK
            try simp only [Act.put, List.getElem_toArray, List.getElem_cons_succ, List.getElem_cons_zero, List.setIfInBounds_toArray, List.set_cons_zero, List.set_cons_succ]
            refine wpAnyH_done (by kernel_rfl) ?_ _
            clear hHeld
            go_wp2_with fail
            go_meet
            exact ⟨_, _, _, _, rfl, rfl, two_set kw o3 o4 x0 xf0 n0 nf0 (by omega) (by omega) (by omega) (by omega) (by omega) (fun e => by have := l3 _ e; omega) (fun e => by have := l3 _ e; omega) (fun e => by have := l4 _ e; omega) (fun e => by have := l4 _ e; omega) (fun k e1 e2 => by have := l3 _ e1; have := l4 _ e2; omega)⟩
        · simp only [List.getElem_toArray, List.getElem_cons_succ, List.getElem_cons_zero]
          rw [if_pos (by rfl)]
          go_simp
          have kn := (Kept.refl 0 0 w8).alloc (.cells #[.slice none 0 0] 45)
          replace r1 := r1.kept kn (by omega)
          replace r2 := r2.kept kn (by omega)
          replace kw := kw.trans kn
          replace o3 := own_kept o3 kn
          replace qf0 := kn.loose0 (World.block_lt_of_cell? _ _ q0) qf0
          replace yf0 := kn.loose0 (World.block_lt_of_cell? _ _ y0) yf0
          replace nf0 := kn.loose0 (World.block_lt_of_cell? _ _ n0) nf0
          replace p0 := kn.cell0 p0
          replace t0 := kn.cell0 t0
          replace q0 := kn.cell0 q0
          replace y0 := kn.cell0 y0
          replace n0 := kn.cell0 n0
          replace K := hide ((unhide K).trans kn)
          have z11 := kn.size
          clear kn
          have szx : w8.heap.size < (w8.alloc (.cells #[.slice none 0 0] 45)).heap.size := by simp
          have x0 : (w8.alloc (.cells #[.slice none 0 0] 45)).cell? ⟨w8.heap.size, 0, none⟩ = some (.slice none 0 0) := new_cell2 _ _ _ _ _ _ rfl rfl
          have xf0 : (w8.alloc (.cells #[.slice none 0 0] 45)).frozen? ⟨w8.heap.size, 0, none⟩ = false := new_loose2 _ _ _ _ _ rfl
          clear hHeld
          refine hK.out _ _ ?_ (fun hHeld => ?_)
          · exact ⟨p0, t0⟩
          clear hK KK
          try simp only [Act.put, List.getElem_toArray, List.getElem_cons_succ, List.getElem_cons_zero, List.setIfInBounds_toArray, List.set_cons_zero, List.set_cons_succ]
          generalize w8.alloc (.cells #[.slice none 0 0] 45) = w10 at *
          refine wpAnyH_ready (rs := [3]) (by kernel_rfl) (by simp) ?_
          refine AllReadyH.cons rfl (fun KK hK => ?_) AllReadyH.nil
          · simp only [List.getElem_toArray, List.getElem_cons_succ, List.getElem_cons_zero]
            rw [if_pos (by rfl)]
            refine wps1 20 (.tmp 32) _ rfl in_limbsOf (.agg #[.slice a2 ys.length c2]) rfl (limbsOf_impl _ r2 my) ?_
            rintro e w12 ⟨v4, rfl, o4, k12⟩
            refine ⟨_, rfl, ?_⟩
            replace r1 := r1.kept k12 (by omega)
            replace r2 := r2.kept k12 (by omega)
            replace kw := kw.trans k12
            replace o3 := own_kept o3 k12
            replace qf0 := k12.loose0 (World.block_lt_of_cell? _ _ q0) qf0
            replace yf0 := k12.loose0 (World.block_lt_of_cell? _ _ y0) yf0
            replace nf0 := k12.loose0 (World.block_lt_of_cell? _ _ n0) nf0
            replace xf0 := k12.loose0 (World.block_lt_of_cell? _ _ x0) xf0
            replace p0 := k12.cell0 p0
            replace t0 := k12.cell0 t0
            replace q0 := k12.cell0 q0
            replace y0 := k12.cell0 y0
            replace n0 := k12.cell0 n0
            replace x0 := k12.cell0 x0
            replace K := hide ((unhide K).trans k12)
            have z13 := k12.size
            clear k12
            have l4 := o4.lt
            obtain ⟨a4, c4, hv⟩ := own_slice o4
            subst hv
            clear hHeld
            refine hK.out _ _ ?_ (fun hHeld => ?_)
            · exact ⟨p0, t0⟩
            clear hK KK
            try simp only [Act.put, List.getElem_toArray, List.getElem_cons_succ, List.getElem_cons_zero, List.setIfInBounds_toArray, List.set_cons_zero, List.set_cons_succ]
            refine wpAnyH_ready (rs := [6]) (by kernel_rfl) (by simp) ?_
            refine AllReadyH.cons rfl (fun KK hK => ?_) AllReadyH.nil
            simp only [List.getElem_toArray, List.getElem_cons_succ, List.getElem_cons_zero]
            rw [if_pos (by rfl)]
            go_simp
            clear hHeld
            refine hK.out _ _ ?_ (fun hHeld => ?_)
            · exact ⟨(cell_aside _ (by have := unhide S0; dsimp only; omega) p0), (cell_aside _ (by have := unhide S0; dsimp only; omega) t0)⟩
            clear hK KK
            try simp only [Act.put, List.getElem_toArray, List.getElem_cons_succ, List.getElem_cons_zero, List.setIfInBounds_toArray, List.set_cons_zero, List.set_cons_succ]
            refine wpAnyH_ready (rs := [7]) (by kernel_rfl) (by simp) ?_
            refine AllReadyH.cons rfl (fun KK hK => ?_) AllReadyH.nil
            simp only [List.getElem_toArray, List.getElem_cons_succ, List.getElem_cons_zero]
            rw [if_pos (by rfl)]
            go_simp
            clear hHeld
            refine hK.out _ _ ?_ (fun hHeld => ?_)
            · exact ⟨(cell_aside _ (by have := unhide S0; dsimp only; omega) (cell_aside _ (by have := unhide S0; dsimp only; omega) p0)), (cell_aside _ (by have := unhide S0; dsimp only; omega) (cell_aside _ (by have := unhide S0; dsimp only; omega) t0))⟩
            clear hK KK
            try simp only [Act.put, List.getElem_toArray, List.getElem_cons_succ, List.getElem_cons_zero, List.setIfInBounds_toArray, List.set_cons_zero, List.set_cons_succ]
            refine wpAnyH_done (by kernel_rfl) ?_ _
            clear hHeld
            go_wp2_with fail
            go_meet
            exact ⟨_, _, _, _, rfl, rfl, two_set kw o3 o4 x0 xf0 n0 nf0 (by omega) (by omega) (by omega) (by omega) (by omega) (fun e => by have := l3 _ e; omega) (fun e => by have := l3 _ e; omega) (fun e => by have := l4 _ e; omega) (fun e => by have := l4 _ e; omega) (fun k e1 e2 => by have := l3 _ e1; have := l4 _ e2; omega)⟩
      · simp only [List.getElem_toArray, List.getElem_cons_succ, List.getElem_cons_zero]
        rw [if_pos (by rfl)]
        go_simp
        have kn := (Kept.refl 0 0 w6).alloc (.cells #[.slice none 0 0] 45)
        replace r1 := r1.kept kn (by omega)
        replace r2 := r2.kept kn (by omega)
        replace kw := kw.trans kn
        replace qf0 := kn.loose0 (World.block_lt_of_cell? _ _ q0) qf0
        replace yf0 := kn.loose0 (World.block_lt_of_cell? _ _ y0) yf0
        replace nf0 := kn.loose0 (World.block_lt_of_cell? _ _ n0) nf0
        replace p0 := kn.cell0 p0
        replace t0 := kn.cell0 t0
        replace q0 := kn.cell0 q0
        replace y0 := kn.cell0 y0
        replace n0 := kn.cell0 n0
        replace K := hide ((unhide K).trans kn)
        have z9 := kn.size
        clear kn
        have szx : w6.heap.size < (w6.alloc (.cells #[.slice none 0 0] 45)).heap.size := by simp
        have x0 : (w6.alloc (.cells #[.slice none 0 0] 45)).cell? ⟨w6.heap.size, 0, none⟩ = some (.slice none 0 0) := new_cell2 _ _ _ _ _ _ rfl rfl
        have xf0 : (w6.alloc (.cells #[.slice none 0 0] 45)).frozen? ⟨w6.heap.size, 0, none⟩ = false := new_loose2 _ _ _ _ _ rfl
        clear hHeld
        refine hK.out _ _ ?_ (fun hHeld => ?_)
        · exact ⟨p0, t0⟩
        clear hK KK
        try simp only [Act.put, List.getElem_toArray, List.getElem_cons_succ, List.getElem_cons_zero, List.setIfInBounds_toArray, List.set_cons_zero, List.set_cons_succ]
        generalize w6.alloc (.cells #[.slice none 0 0] 45) = w8 at *
        refine wpAnyH_ready (rs := [1]) (by kernel_rfl) (by simp) ?_
        refine AllReadyH.cons rfl (fun KK hK => ?_) AllReadyH.nil
        · simp only [List.getElem_toArray, List.getElem_cons_succ, List.getElem_cons_zero]
          rw [if_pos (by rfl)]
          refine wps1 20 (.tmp 30) _ rfl in_limbsOf (.agg #[.slice a1 xs.length c1]) rfl (limbsOf_impl _ r1 mx) ?_
          rintro e w10 ⟨v3, rfl, o3, k10⟩
          refine ⟨_, rfl, ?_⟩
          replace r1 := r1.kept k10 (by omega)
          replace r2 := r2.kept k10 (by omega)
          replace kw := kw.trans k10
          replace qf0 := k10.loose0 (World.block_lt_of_cell? _ _ q0) qf0
          replace yf0 := k10.loose0 (World.block_lt_of_cell? _ _ y0) yf0
          replace nf0 := k10.loose0 (World.block_lt_of_cell? _ _ n0) nf0
          replace xf0 := k10.loose0 (World.block_lt_of_cell? _ _ x0) xf0
          replace p0 := k10.cell0 p0
          replace t0 := k10.cell0 t0
          replace q0 := k10.cell0 q0
          replace y0 := k10.cell0 y0
          replace n0 := k10.cell0 n0
          replace x0 := k10.cell0 x0
          replace K := hide ((unhide K).trans k10)
          have z11 := k10.size
          clear k10
          have l3 := o3.lt
          obtain ⟨a3, c3, hv⟩ := own_slice o3
          subst hv
          clear hHeld
          refine hK.out _ _ ?_ (fun hHeld => ?_)
          · exact ⟨p0, t0⟩
          clear hK KK
          try simp only [Act.put, List.getElem_toArray, List.getElem_cons_succ, List.getElem_cons_zero, List.setIfInBounds_toArray, List.set_cons_zero, List.set_cons_succ]
          refine wpAnyH_ready (rs := [3]) (by kernel_rfl) (by simp) ?_
          refine AllReadyH.cons rfl (fun KK hK => ?_) AllReadyH.nil
          · simp only [List.getElem_toArray, List.getElem_cons_succ, List.getElem_cons_zero]
            rw [if_pos (by rfl)]
            refine wps1 20 (.tmp 32) _ rfl in_limbsOf (.agg #[.slice a2 ys.length c2]) rfl (limbsOf_impl _ r2 my) ?_
            rintro e w12 ⟨v4, rfl, o4, k12⟩
            refine ⟨_, rfl, ?_⟩
            replace r1 := r1.kept k12 (by omega)
            replace r2 := r2.kept k12 (by omega)
            replace kw := kw.trans k12
            replace o3 := own_kept o3 k12
            replace qf0 := k12.loose0 (World.block_lt_of_cell? _ _ q0) qf0
            replace yf0 := k12.loose0 (World.block_lt_of_cell? _ _ y0) yf0
            replace nf0 := k12.loose0 (World.block_lt_of_cell? _ _ n0) nf0
            replace xf0 := k12.loose0 (World.block_lt_of_cell? _ _ x0) xf0
            replace p0 := k12.cell0 p0
            replace t0 := k12.cell0 t0
            replace q0 := k12.cell0 q0
            replace y0 := k12.cell0 y0
            replace n0 := k12.cell0 n0
            replace x0 := k12.cell0 x0
            replace K := hide ((unhide K).trans k12)
            have z13 := k12.size
            clear k12
            have l4 := o4.lt
            obtain ⟨a4, c4, hv⟩ := own_slice o4
            subst hv
            clear hHeld
            refine hK.out _ _ ?_ (fun hHeld => ?_)
            · exact ⟨p0, t0⟩
            clear hK KK
            try simp only [Act.put, List.getElem_toArray, List.getElem_cons_succ, List.getElem_cons_zero, List.setIfInBounds_toArray, List.set_cons_zero, List.set_cons_succ]
            refine wpAnyH_ready (rs := [6]) (by kernel_rfl) (by simp) ?_
            refine AllReadyH.cons rfl (fun KK hK => ?_) AllReadyH.nil
            simp only [List.getElem_toArray, List.getElem_cons_succ, List.getElem_cons_zero]
            rw [if_pos (by rfl)]
            go_simp
            clear hHeld
            refine hK.out _ _ ?_ (fun hHeld => ?_)
            · exact ⟨(cell_aside _ (by have := unhide S0; dsimp only; omega) p0), (cell_aside _ (by have := unhide S0; dsimp only; omega) t0)⟩
            clear hK KK
            try simp only [Act.put, List.getElem_toArray, List.getElem_cons_succ, List.getElem_cons_zero, List.setIfInBounds_toArray, List.set_cons_zero, List.set_cons_succ]
            refine wpAnyH_ready (rs := [7]) (by kernel_rfl) (by simp) ?_
            refine AllReadyH.cons rfl (fun KK hK => ?_) AllReadyH.nil
            simp only [List.getElem_toArray, List.getElem_cons_succ, List.getElem_cons_zero]
            rw [if_pos (by rfl)]
            go_simp
            clear hHeld
            refine hK.out _ _ ?_ (fun hHeld => ?_)
            · exact ⟨(cell_aside _ (by have := unhide S0; dsimp only; omega) (cell_aside _ (by have := unhide S0; dsimp only; omega) p0)), (cell_aside _ (by have := unhide S0; dsimp only; omega) (cell_aside _ (by have := unhide S0; dsimp only; omega) t0))⟩
            clear hK KK
            try simp only [Act.put, List.getElem_toArray, List.getElem_cons_succ, List.getElem_cons_zero, List.setIfInBounds_toArray, List.set_cons_zero, List.set_cons_succ]
            refine wpAnyH_done (by kernel_rfl) ?_ _
            clear hHeld
            go_wp2_with fail
            go_meet
            exact ⟨_, _, _, _, rfl, rfl, two_set kw o3 o4 x0 xf0 n0 nf0 (by omega) (by omega) (by omega) (by omega) (by omega) (fun e => by have := l3 _ e; omega) (fun e => by have := l3 _ e; omega) (fun e => by have := l4 _ e; omega) (fun e => by have := l4 _ e; omega) (fun k e1 e2 => by have := l3 _ e1; have := l4 _ e2; omega)⟩
  case rest =>
    obtain ⟨X, Y, u1, u2, rfl, rfl, tw⟩ := hcut
    have hb1 := tw.k.size
    clear r1 r2
    go_wp2_with fail
    have mk := divide_impl _ tw.n1 tw.n2 hb1 hx hy (List.length_pos_iff.1 (show 0 < ys.length by omega)) (by omega) (by omega)
    rw [unhide EQ, unhide ER] at mk
    refine mk.mono ?_
    rintro e w6 ⟨vq, rfl, dd⟩
    obtain ⟨u7, nL, -, -⟩ := dd.r
    have oq := dd.q
    have k6 := tw.k.mod dd.md (fun i e => e.elim (fun h => by rw [h]; exact tw.b1) (fun h => (tw.n1.own.lt i h).1))
    clear mk dd tw
    replace qf0 := k6.loose0 (World.block_lt_of_cell? _ _ q0) qf0
    replace yf0 := k6.loose0 (World.block_lt_of_cell? _ _ y0) yf0
    replace p0 := k6.cell0 p0
    replace t0 := k6.cell0 t0
    replace q0 := k6.cell0 q0
    replace y0 := k6.cell0 y0
    replace K := hide ((unhide K).trans k6)
    have z5 := k6.size
    clear k6
    obtain ⟨a6, c6, hv⟩ := own_slice oq
    subst hv
    have nR := Num.new 45 oq
    clear oq
    have kn := (Kept.refl 0 0 w6).alloc (.cells #[.slice a6 zq.length c6] 45)
    have j0 : (w6.alloc (.cells #[.slice a6 zq.length c6] 45)).cell? ⟨w6.heap.size, 0, none⟩ = some (.slice a6 zq.length c6) := new_cell2 _ _ _ _ _ _ (by simp) rfl
    have sz6 : w6.heap.size + 1 = (w6.alloc (.cells #[.slice a6 zq.length c6] 45)).heap.size := by simp
    have SZ6 := hide sz6
    replace sz6 := Nat.le_of_eq sz6
    replace nL := nL.kept kn
    replace qf0 := kn.loose0 (World.block_lt_of_cell? _ _ q0) qf0
    replace yf0 := kn.loose0 (World.block_lt_of_cell? _ _ y0) yf0
    replace p0 := kn.cell0 p0
    replace t0 := kn.cell0 t0
    replace q0 := kn.cell0 q0
    replace y0 := kn.cell0 y0
    replace K := hide ((unhide K).trans kn)
    have z7 := kn.size
    clear kn
    clear j0
    go_wp2_with fail
    generalize (w6.alloc (.cells #[.slice a6 zq.length c6] 45)) = wn8 at *
    refine (told_impl _ nR).mono ?_
    rintro e w9 ⟨v3, rfl, r3, k9⟩
    replace nL := nL.kept k9
    replace nR := nR.kept k9
    replace qf0 := k9.loose0 (World.block_lt_of_cell? _ _ q0) qf0
    replace yf0 := k9.loose0 (World.block_lt_of_cell? _ _ y0) yf0
    replace p0 := k9.cell0 p0
    replace t0 := k9.cell0 t0
    replace q0 := k9.cell0 q0
    replace y0 := k9.cell0 y0
    replace K := hide ((unhide K).trans k9)
    have z10 := k9.size
    clear k9
    have tq : tell zq = zq := by unfold tell; rw [if_pos lq]
    rw [tq] at r3
    rw [decide_eq_true lq]
    clear tq
    obtain ⟨a3, c3, hv⟩ := Row.form' r3
    subst hv
    clear nR
    obtain ⟨mm, hmm⟩ : ∃ mm, mm = w9.heap.size := ⟨_, rfl⟩
    replace r3 := r3.wider (lo' := wn8.heap.size) (hi' := mm) (Nat.le_refl _) (by omega)
    have hmm' := Nat.le_of_eq hmm
    have hmm2 := Nat.le_of_eq hmm.symm
    clear hmm
    have kn := (Kept.refl 0 0 w9).alloc (.cells #[.slice a3 zq.length c3] 25)
    have m0 : (w9.alloc (.cells #[.slice a3 zq.length c3] 25)).cell? ⟨w9.heap.size, 0, none⟩ = some (.slice a3 zq.length c3) := new_cell2 _ _ _ _ _ _ (by simp) rfl
    have sz11 : w9.heap.size + 1 = (w9.alloc (.cells #[.slice a3 zq.length c3] 25)).heap.size := by simp
    have SZ11 := hide sz11
    replace sz11 := Nat.le_of_eq sz11
    replace r3 := r3.kept kn (by omega)
    replace nL := nL.kept kn
    replace qf0 := kn.loose0 (World.block_lt_of_cell? _ _ q0) qf0
    replace yf0 := kn.loose0 (World.block_lt_of_cell? _ _ y0) yf0
    replace p0 := kn.cell0 p0
    replace t0 := kn.cell0 t0
    replace q0 := kn.cell0 q0
    replace y0 := kn.cell0 y0
    replace K := hide ((unhide K).trans kn)
    have z12 := kn.size
    clear kn
    go_wp2_with fail
    generalize (w9.alloc (.cells #[.slice a3 zq.length c3] 25)) = wn13 at *
    refine (told_impl _ nL).mono ?_
    rintro e w14 ⟨v4, rfl, r4, k14⟩
    replace r3 := r3.kept k14 (by omega)
    replace nL := nL.kept k14
    replace qf0 := k14.loose0 (World.block_lt_of_cell? _ _ q0) qf0
    replace yf0 := k14.loose0 (World.block_lt_of_cell? _ _ y0) yf0
    replace p0 := k14.cell0 p0
    replace t0 := k14.cell0 t0
    replace q0 := k14.cell0 q0
    replace y0 := k14.cell0 y0
    replace m0 := k14.cell0 m0
    replace K := hide ((unhide K).trans k14)
    have z15 := k14.size
    clear k14
    have tq : tell zr = zr := by unfold tell; rw [if_pos lr]
    rw [tq] at r4
    rw [decide_eq_true lr]
    clear tq
    obtain ⟨a4, c4, hv⟩ := Row.form' r4
    subst hv
    clear nL
    have kn := (Kept.refl 0 0 w14).alloc (.cells #[.slice a4 zr.length c4] 25)
    have n0 : (w14.alloc (.cells #[.slice a4 zr.length c4] 25)).cell? ⟨w14.heap.size, 0, none⟩ = some (.slice a4 zr.length c4) := new_cell2 _ _ _ _ _ _ (by simp) rfl
    have sz16 : w14.heap.size + 1 = (w14.alloc (.cells #[.slice a4 zr.length c4] 25)).heap.size := by simp
    have SZ16 := hide sz16
    replace sz16 := Nat.le_of_eq sz16
    replace r3 := r3.kept kn (by omega)
    replace r4 := r4.kept kn (by omega)
    replace qf0 := kn.loose0 (World.block_lt_of_cell? _ _ q0) qf0
    replace yf0 := kn.loose0 (World.block_lt_of_cell? _ _ y0) yf0
    replace p0 := kn.cell0 p0
    replace t0 := kn.cell0 t0
    replace q0 := kn.cell0 q0
    replace y0 := kn.cell0 y0
    replace m0 := kn.cell0 m0
    replace K := hide ((unhide K).trans kn)
    have z17 := kn.size
    clear kn
    go_wp2_with fail
    generalize (w14.alloc (.cells #[.slice a4 zr.length c4] 25)) = wn18 at *
    have kd := (Kept.refl 0 0 wn18).drew
    replace r3 := r3.kept kd (by omega)
    replace r4 := r4.kept kd (by omega)
    replace qf0 := kd.loose0 (World.block_lt_of_cell? _ _ q0) qf0
    replace yf0 := kd.loose0 (World.block_lt_of_cell? _ _ y0) yf0
    replace p0 := kd.cell0 p0
    replace t0 := kd.cell0 t0
    replace q0 := kd.cell0 q0
    replace y0 := kd.cell0 y0
    replace m0 := kd.cell0 m0
    replace n0 := kd.cell0 n0
    replace K := hide ((unhide K).trans kd)
    have z19 := kd.size
    clear kd
    refine wp_region_held_drew (S := (fun w' => w'.cell? ⟨w9.heap.size, 0, none⟩ = some (.slice a3 zq.length c3) ∧ w'.cell? ⟨w14.heap.size, 0, none⟩ = some (.slice a4 zr.length c4))) (by kernel_rfl) ?_ (fun hHeld => ?_)
    · exact ⟨m0, n0⟩
    generalize wn18.drew = wn20 at *
    refine wpAnyH_take (i := 0) (oi := _) (v := .agg #[.slice a3 zq.length c3]) rfl (by kernel_rfl) (by kernel_rfl) (by kernel_rfl) (fun _ _ _ h => h) (Or.inl ⟨by rfl, ?_⟩) hHeld ?_
    · intro wq hSw
      try dsimp only at hSw
      go_simp
    try simp only [Act.put, List.getElem_toArray, List.getElem_cons_succ, List.getElem_cons_zero, List.setIfInBounds_toArray, List.set_cons_zero, List.set_cons_succ]
    refine wpAnyH_take (i := 1) (oi := _) (v := .agg #[.slice a4 zr.length c4]) rfl (by kernel_rfl) (by kernel_rfl) (by kernel_rfl) (fun _ _ _ h => h) (Or.inl ⟨by rfl, ?_⟩) hHeld ?_
    · intro wq hSw
      try dsimp only at hSw
      go_simp
    try simp only [Act.put, List.getElem_toArray, List.getElem_cons_succ, List.getElem_cons_zero, List.setIfInBounds_toArray, List.set_cons_zero, List.set_cons_succ]
    refine wpAnyH_take (i := 2) (oi := _) (v := .bool true) rfl (by kernel_rfl) (by kernel_rfl) (by kernel_rfl) (fun _ _ _ h => h) (Or.inl ⟨by rfl, ?_⟩) hHeld ?_
    · intro wq hSw
      try dsimp only at hSw
      go_simp
    try simp only [Act.put, List.getElem_toArray, List.getElem_cons_succ, List.getElem_cons_zero, List.setIfInBounds_toArray, List.set_cons_zero, List.set_cons_succ]
    refine wpAnyH_ready (rs := [3]) (by kernel_rfl) (by simp) ?_
    refine AllReadyH.cons rfl (fun KK hK => ?_) AllReadyH.nil
    simp only [List.getElem_toArray, List.getElem_cons_succ, List.getElem_cons_zero]
    rw [if_pos (by rfl)]
    go_simp
    clear hHeld
    refine hK.out _ _ ?_ (fun hHeld => ?_)
    · exact ⟨cell_aside _ (by have := unhide S0; dsimp only; omega) m0, cell_aside _ (by have := unhide S0; dsimp only; omega) n0⟩
    clear hK KK
    try simp only [Act.put, List.getElem_toArray, List.getElem_cons_succ, List.getElem_cons_zero, List.setIfInBounds_toArray, List.set_cons_zero, List.set_cons_succ]
    have sS0 := unhide S0
    replace r3 := r3.set_other (p := ⟨w.heap.size + 2, 0, none⟩) (by dsimp only; omega) (.slice a3 zq.length c3)
    replace r4 := r4.set_other (p := ⟨w.heap.size + 2, 0, none⟩) (by dsimp only; omega) (.slice a3 zq.length c3)
    replace p0 := cell_aside (.slice a3 zq.length c3) (r := ⟨w.heap.size + 2, 0, none⟩) (by dsimp only; omega) p0
    replace t0 := cell_aside (.slice a3 zq.length c3) (r := ⟨w.heap.size + 2, 0, none⟩) (by dsimp only; omega) t0
    replace y0 := cell_aside (.slice a3 zq.length c3) (r := ⟨w.heap.size + 2, 0, none⟩) (by dsimp only; omega) y0
    replace m0 := cell_aside (.slice a3 zq.length c3) (r := ⟨w.heap.size + 2, 0, none⟩) (by dsimp only; omega) m0
    replace n0 := cell_aside (.slice a3 zq.length c3) (r := ⟨w.heap.size + 2, 0, none⟩) (by dsimp only; omega) n0
    replace qf0 : (wn20.setCell ⟨w.heap.size + 2, 0, none⟩ (.slice a3 zq.length c3)).frozen? _ = false := (frozen_set _ _ _ _ _).trans qf0
    replace yf0 : (wn20.setCell ⟨w.heap.size + 2, 0, none⟩ (.slice a3 zq.length c3)).frozen? _ = false := (frozen_set _ _ _ _ _).trans yf0
    replace q0 : (wn20.setCell ⟨w.heap.size + 2, 0, none⟩ (.slice a3 zq.length c3)).cell? ⟨w.heap.size + 2, 0, none⟩ = some (.slice a3 zq.length c3) := cell_on _ _ _ _ _ q0
    replace K := hide ((unhide K).setNew (p := ⟨w.heap.size + 2, 0, none⟩) (by dsimp only; omega) (.slice a3 zq.length c3))
    have zs21 : (wn20.setCell ⟨w.heap.size + 2, 0, none⟩ (.slice a3 zq.length c3)).heap.size = wn20.heap.size := by simp [World.setCell]
    clear sS0
    generalize wn20.setCell ⟨w.heap.size + 2, 0, none⟩ (.slice a3 zq.length c3) = ws21 at *
    refine wpAnyH_ready (rs := [4]) (by kernel_rfl) (by simp) ?_
    refine AllReadyH.cons rfl (fun KK hK => ?_) AllReadyH.nil
    simp only [List.getElem_toArray, List.getElem_cons_succ, List.getElem_cons_zero]
    rw [if_pos (by rfl)]
    go_simp
    clear hHeld
    refine hK.out _ _ ?_ (fun hHeld => ?_)
    · exact ⟨cell_aside _ (by have := unhide S0; dsimp only; omega) m0, cell_aside _ (by have := unhide S0; dsimp only; omega) n0⟩
    clear hK KK
    try simp only [Act.put, List.getElem_toArray, List.getElem_cons_succ, List.getElem_cons_zero, List.setIfInBounds_toArray, List.set_cons_zero, List.set_cons_succ]
    have sS0 := unhide S0
    replace r3 := r3.set_other (p := ⟨w.heap.size + 3, 0, none⟩) (by dsimp only; omega) (.slice a4 zr.length c4)
    replace r4 := r4.set_other (p := ⟨w.heap.size + 3, 0, none⟩) (by dsimp only; omega) (.slice a4 zr.length c4)
    replace p0 := cell_aside (.slice a4 zr.length c4) (r := ⟨w.heap.size + 3, 0, none⟩) (by dsimp only; omega) p0
    replace t0 := cell_aside (.slice a4 zr.length c4) (r := ⟨w.heap.size + 3, 0, none⟩) (by dsimp only; omega) t0
    replace q0 := cell_aside (.slice a4 zr.length c4) (r := ⟨w.heap.size + 3, 0, none⟩) (by dsimp only; omega) q0
    replace m0 := cell_aside (.slice a4 zr.length c4) (r := ⟨w.heap.size + 3, 0, none⟩) (by dsimp only; omega) m0
    replace n0 := cell_aside (.slice a4 zr.length c4) (r := ⟨w.heap.size + 3, 0, none⟩) (by dsimp only; omega) n0
    replace qf0 : (ws21.setCell ⟨w.heap.size + 3, 0, none⟩ (.slice a4 zr.length c4)).frozen? _ = false := (frozen_set _ _ _ _ _).trans qf0
    replace yf0 : (ws21.setCell ⟨w.heap.size + 3, 0, none⟩ (.slice a4 zr.length c4)).frozen? _ = false := (frozen_set _ _ _ _ _).trans yf0
    replace y0 : (ws21.setCell ⟨w.heap.size + 3, 0, none⟩ (.slice a4 zr.length c4)).cell? ⟨w.heap.size + 3, 0, none⟩ = some (.slice a4 zr.length c4) := cell_on _ _ _ _ _ y0
    replace K := hide ((unhide K).setNew (p := ⟨w.heap.size + 3, 0, none⟩) (by dsimp only; omega) (.slice a4 zr.length c4))
    have zs22 : (ws21.setCell ⟨w.heap.size + 3, 0, none⟩ (.slice a4 zr.length c4)).heap.size = ws21.heap.size := by simp [World.setCell]
    clear sS0
    generalize ws21.setCell ⟨w.heap.size + 3, 0, none⟩ (.slice a4 zr.length c4) = ws22 at *
    refine wpAnyH_take (i := 5) (oi := _) (v := .bool true) rfl (by kernel_rfl) (by kernel_rfl) (by kernel_rfl) (fun _ _ _ h => h) (Or.inl ⟨by rfl, ?_⟩) hHeld ?_
    · intro wq hSw
      try dsimp only at hSw
      go_simp
    try simp only [Act.put, List.getElem_toArray, List.getElem_cons_succ, List.getElem_cons_zero, List.setIfInBounds_toArray, List.set_cons_zero, List.set_cons_succ]
    refine wpAnyH_done (by kernel_rfl) ?_ _
    clear hHeld
    have R1 := hide (r3.wider (lo' := w.heap.size) (hi' := mm) (by have := unhide S0; omega) (Nat.le_refl _))
    have R2 := hide (r4.tight.wider (lo' := mm) (by omega) (Nat.le_refl _))
    have hm1 : w.heap.size ≤ mm := by have := unhide S0; omega
    have hm2 : mm ≤ ws22.heap.size := by omega
    clear r3 r4
    go_wp2_with fail
    exact bodyPost_ret (v := .tuple #[.agg #[.slice a3 zq.length c3], .agg #[.slice a4 zr.length c4], .bool true]) (by simp [results, Tryd.results11, go_sem, q0, y0]) rfl ⟨_, _, mm, by rw [unhide EB], by rw [unhide HZQ]; exact unhide R1, by rw [unhide HZR]; exact unhide R2, hm1, hm2, unhide K⟩

end Go.Proofs.YtkifpodnljlhiaaDoor
