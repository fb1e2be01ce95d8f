/-
  The walk of the law FnExactIvMatAdd: it returns true at every argument.
-/
import Derived.Test.YthahoabkehcgbaaGreatDoorqsLwX
import Derived.Test.YthahoabkehcgbaaGreatDoorqsIvs2
import Derived.Test.YthahoabkehcgbaaGreatDoorqsDys4
import Derived.Test.YthahoabkehcgbaaGreatDoorqsBJ
import Derived.Test.YthahoabkehcgbaaGreatDoorqsBC
import Derived.Deep.DeepCutAuto
namespace Go.Proofs.YthahoabkehcgbaaGreatDoor
open Go.RowKit
set_option linter.unusedVariables false
set_option maxRecDepth 8000
set_option linter.unusedSimpArgs false

theorem wf_IvMatAdd {n : Int} (h : (Lit.int .i64 n).wf = true) : n ≤ 9223372036854775807 ∧ -9223372036854775808 ≤ n := by
  have e : (Lit.int .i64 n).wf = (decide (IntKind.i64.min ≤ n) && decide (n ≤ IntKind.i64.max)) := rfl
  rw [e, show IntKind.i64.min = -9223372036854775808 by decide, show IntKind.i64.max = 9223372036854775807 by decide] at h
  simp at h
  omega

set_option maxHeartbeats 16000000 in
theorem law_IvMatAdd {u0 : Value} {z0 : List DE} {m0 : Nat} {u1 : Value} {z1 : List DE} {m1 : Nat} {w : World} (y0 : Int) (r0 : Ivs 0 w.heap.size w u0 z0 m0) (q0 : WfD z0) (fy0 : (Lit.int .i64 y0).wf = true) (y1 : Int) (r1 : Ivs 0 w.heap.size w u1 z1 m1) (q1 : WfD z1) (fy1 : (Lit.int .i64 y1).wf = true) (T : TabB w) :
    Calls Tryz.prog 3 #[.agg #[.int .i64 y0, u0], .agg #[.int .i64 y1, u1]] w fun e w' => e = .returned (.bool true) ∧ Below w.heap.size w w' := by
  have gy0 : y0 ≤ 9223372036854775807 ∧ -9223372036854775808 ≤ y0 := wf_IvMatAdd fy0
  clear fy0
  have gy1 : y1 ≤ 9223372036854775807 ∧ -9223372036854775808 ≤ y1 := wf_IvMatAdd fy1
  clear fy1
  obtain ⟨B1, hB1⟩ : ∃ B, hwB (bothI y0 z0 m0 y1 z1 m1) (adV z0 z1) (-3000) y0 = B := ⟨_, rfl⟩
  obtain ⟨C0, hC0⟩ : ∃ C, hwC (bothI y0 z0 m0 y1 z1 m1) (adV z0 z1) (-3000) y0 = C := ⟨_, rfl⟩
  obtain ⟨L0, hL0⟩ : ∃ L, hwL (bothI y0 z0 m0 y1 z1 m1) (adV z0 z1) (-3000) y0 = L := ⟨_, rfl⟩
  obtain ⟨H0, hH0⟩ : ∃ H, hwN (bothI y0 z0 m0 y1 z1 m1) (adV z0 z1) (-3000) y0 = H := ⟨_, rfl⟩
  have hs0 : szT L0 ≤ 4000 := by rw [← hL0]; exact (hw_sz bothI_n)
  have sl'0 := szT_len L0
  have kg'0 := kAt_ge L0 1 L0.length (by omega)
  have kh'0 := kAt_le L0 1
  have sl0 := szV_len z0 m0
  have sy0 := szT_szV r0.len
  have sl1 := szV_len z1 m1
  have sy1 := szT_szV r1.len
  have k0 : Kept 0 0 w ((w.alloc (.cells #[.int .i64 y0, u0] 24)).alloc (.cells #[.int .i64 y1, u1] 24)) := (((Kept.refl 0 0 w).alloc (.cells #[.int .i64 y0, u0] 24)).alloc (.cells #[.int .i64 y1, u1] 24))
  have A0_0 : ((w.alloc (.cells #[.int .i64 y0, u0] 24)).alloc (.cells #[.int .i64 y1, u1] 24)).cell? ⟨w.heap.size, 0, none⟩ = some (.int .i64 y0) := old_cell _ (new_cell2 _ _ _ _ _ _ (by simp) rfl)
  have A0_1 : ((w.alloc (.cells #[.int .i64 y0, u0] 24)).alloc (.cells #[.int .i64 y1, u1] 24)).cell? ⟨w.heap.size, 1, none⟩ = some (u0) := old_cell _ (new_cell2 _ _ _ _ _ _ (by simp) rfl)
  have A1_0 : ((w.alloc (.cells #[.int .i64 y0, u0] 24)).alloc (.cells #[.int .i64 y1, u1] 24)).cell? ⟨w.heap.size + 1, 0, none⟩ = some (.int .i64 y1) := new_cell2 _ _ _ _ _ _ (by simp) rfl
  have A1_1 : ((w.alloc (.cells #[.int .i64 y0, u0] 24)).alloc (.cells #[.int .i64 y1, u1] 24)).cell? ⟨w.heap.size + 1, 1, none⟩ = some (u1) := new_cell2 _ _ _ _ _ _ (by simp) rfl
  replace r0 := r0.kept k0 (by omega)
  replace r1 := r1.kept k0 (by omega)
  have s0 : ((w.alloc (.cells #[.int .i64 y0, u0] 24)).alloc (.cells #[.int .i64 y1, u1] 24)).heap.size = w.heap.size + 2 := by simp
  obtain ⟨a0, c0, hv⟩ := r0.form'
  subst hv
  obtain ⟨a1, c1, hv⟩ := r1.form'
  subst hv
  have K := hide (k0)
  clear k0
  have S0 := hide s0
  clear s0
  have EB1 := hide hB1
  have EC0 := hide hC0
  have EL0 := hide hL0
  have EH0 := hide hH0
  clear hB1 hC0 hL0 hH0
  go_enter Tryz.func3, Tryz.ntmps3
  skip
  go_wp2_with fail
  generalize ((w.alloc (.cells #[.int .i64 y0, .slice a0 m0 c0] 24)).alloc (.cells #[.int .i64 y1, .slice a1 m1 c1] 24)) = W at *
  refine (szIvMat_any (y0) _ (1048576) (by omega) (by omega) r0).mono ?_
  rintro e w1 ⟨rfl, k1⟩
  replace r0 := r0.kept k1 (.inr (.inr (Nat.le_refl 0)))
  replace r1 := r1.kept k1 (.inr (.inr (Nat.le_refl 0)))
  replace A0_0 := k1.cell0 A0_0
  replace A0_1 := k1.cell0 A0_1
  replace A1_0 := k1.cell0 A1_0
  replace A1_1 := k1.cell0 A1_1
  replace K := hide ((unhide K).trans k1)
  have z2 := k1.size
  clear k1
  by_cases big0 : szV z0 m0 ≤ 1048576
  rotate_left
  · rw [if_neg big0]
    go_wp2_with fail
    go_ret
    exact ⟨rfl, (unhide K).toBelow⟩
  rw [if_pos big0]
  have nb0 : ¬ (1048576 - szV z0 m0) < 0 := by omega
  go_wp2_with fail
  refine (szIvMat_any (y1) _ ((1048576 - szV z0 m0)) (by omega) (by omega) r1).mono ?_
  rintro e w3 ⟨rfl, k3⟩
  replace r0 := r0.kept k3 (.inr (.inr (Nat.le_refl 0)))
  replace r1 := r1.kept k3 (.inr (.inr (Nat.le_refl 0)))
  replace A0_0 := k3.cell0 A0_0
  replace A0_1 := k3.cell0 A0_1
  replace A1_0 := k3.cell0 A1_0
  replace A1_1 := k3.cell0 A1_1
  replace K := hide ((unhide K).trans k3)
  have z4 := k3.size
  clear k3
  by_cases big1 : szV z1 m1 ≤ (1048576 - szV z0 m0)
  rotate_left
  · rw [if_neg big1]
    go_wp2_with fail
    go_ret
    exact ⟨rfl, (unhide K).toBelow⟩
  rw [if_pos big1]
  have nb1 : ¬ ((1048576 - szV z0 m0) - szV z1 m1) < 0 := by omega
  have hn0 : m0 ≤ 1048576 := by omega
  have hl0 : ∀ i, i < 2 * m0 → (z0.getD i de0).2.1.length ≤ 1099511627776 := fun i hi => by have := szV_each z0 m0 i hi; omega
  have hn1 : m1 ≤ 1048576 := by omega
  have hl1 : ∀ i, i < 2 * m1 → (z1.getD i de0).2.1.length ≤ 1099511627776 := fun i hi => by have := szV_each z1 m1 i hi; omega
  go_upto_region 8 with fail
  go_cut [6, 7] (fun q0 q1 wx => ∃ X0 v0, q0 = .pointer (some ⟨X0, 0, none⟩) ∧ q1 = .bool B1 ∧ wx.cell? ⟨X0, 0, none⟩ = some (.int .i64 H0) ∧ wx.cell? ⟨X0, 1, none⟩ = some (v0) ∧ IvsO w3.heap.size wx.heap.size wx v0 L0 C0 ∧ w3.heap.size ≤ X0 ∧ X0 < wx.heap.size ∧ Kept 0 0 w3 wx)
  case first =>
    have kw := Kept.refl 0 0 w3
    have kd := (Kept.refl 0 0 w3).drew
    replace r0 := r0.kept kd (.inr (.inr (Nat.le_refl 0)))
    replace r1 := r1.kept kd (.inr (.inr (Nat.le_refl 0)))
    replace kw := kw.trans kd
    replace A0_0 := kd.cell0 A0_0
    replace A0_1 := kd.cell0 A0_1
    replace A1_0 := kd.cell0 A1_0
    replace A1_1 := kd.cell0 A1_1
    replace K := hide ((unhide K).trans kd)
    have z5 := kd.size
    clear kd
    refine wp_region_held_drew (S := (fun w' => w'.cell? ⟨w.heap.size, 0, none⟩ = some (.int .i64 y0) ∧ w'.cell? ⟨w.heap.size, 1, none⟩ = some (.slice a0 m0 c0) ∧ w'.cell? ⟨w.heap.size + 1, 0, none⟩ = some (.int .i64 y1) ∧ w'.cell? ⟨w.heap.size + 1, 1, none⟩ = some (.slice a1 m1 c1))) (by kernel_rfl) ?_ (fun hHeld => ?_)
    · exact ⟨A0_0, A0_1, A1_0, A1_1⟩
    generalize w3.drew = wd at *
    refine wpAnyH_take (i := 0) (oi := _) (v := .agg #[.int .i64 y0, .slice a0 m0 c0]) rfl (by kernel_rfl) (by kernel_rfl) (by kernel_rfl) (fun _ _ _ h => h) (Or.inl ⟨by rfl, ?_⟩) hHeld ?_
    · intro wq hSw
      try dsimp only at hSw
      go_simp
    try simp only [Act.put, List.getElem_toArray, List.getElem_cons_succ, List.getElem_cons_zero, List.setIfInBounds_toArray, List.set_cons_zero, List.set_cons_succ]
    refine wpAnyH_take (i := 2) (oi := _) (v := .agg #[.int .i64 y1, .slice a1 m1 c1]) rfl (by kernel_rfl) (by kernel_rfl) (by kernel_rfl) (fun _ _ _ h => h) (Or.inl ⟨by rfl, ?_⟩) hHeld ?_
    · intro wq hSw
      try dsimp only at hSw
      go_simp
    try simp only [Act.put, List.getElem_toArray, List.getElem_cons_succ, List.getElem_cons_zero, List.setIfInBounds_toArray, List.set_cons_zero, List.set_cons_succ]
    refine wpAnyH_ready (rs := [1, 8]) (by kernel_rfl) (by simp) ?_
    refine AllReadyH.cons rfl (fun KK hK => ?_) (AllReadyH.cons rfl (fun KK hK => ?_) AllReadyH.nil)
    · simp only [List.getElem_toArray, List.getElem_cons_succ, List.getElem_cons_zero]
      rw [if_pos (by rfl)]
      refine wps1 12 (.tmp 28) _ rfl in_toX (.agg #[.int .i64 y0, .slice a0 m0 c0]) rfl (toIvMat_own (y0) _ hn0 hl0 r0) ?_
      rintro e w6 ⟨v70, rfl, r70, k6⟩
      refine ⟨_, rfl, ?_⟩
      replace r0 := r0.kept k6 (.inr (.inr (Nat.le_refl 0)))
      replace r1 := r1.kept k6 (.inr (.inr (Nat.le_refl 0)))
      replace kw := kw.trans k6
      replace A0_0 := k6.cell0 A0_0
      replace A0_1 := k6.cell0 A0_1
      replace A1_0 := k6.cell0 A1_0
      replace A1_1 := k6.cell0 A1_1
      replace K := hide ((unhide K).trans k6)
      have z7 := k6.size
      clear k6
      clear hHeld
      refine hK.out _ _ ?_ (fun hHeld => ?_)
      · exact ⟨A0_0, A0_1, A1_0, A1_1⟩
      clear hK KK
      try simp only [Act.put, List.getElem_toArray, List.getElem_cons_succ, List.getElem_cons_zero, List.setIfInBounds_toArray, List.set_cons_zero, List.set_cons_succ]
      refine wpAnyH_ready (rs := [3, 8]) (by kernel_rfl) (by simp) ?_
      refine AllReadyH.cons rfl (fun KK hK => ?_) (AllReadyH.cons rfl (fun KK hK => ?_) AllReadyH.nil)
      · simp only [List.getElem_toArray, List.getElem_cons_succ, List.getElem_cons_zero]
        rw [if_pos (by rfl)]
        refine wps1 12 (.tmp 30) _ rfl in_toX (.agg #[.int .i64 y1, .slice a1 m1 c1]) rfl (toIvMat_own (y1) _ hn1 hl1 r1) ?_
        rintro e w8 ⟨v71, rfl, r71, k8⟩
        refine ⟨_, rfl, ?_⟩
        replace r0 := r0.kept k8 (.inr (.inr (Nat.le_refl 0)))
        replace r1 := r1.kept k8 (.inr (.inr (Nat.le_refl 0)))
        replace r70 := r70.kept k8 (.inr (.inr (Nat.le_refl 0)))
        replace kw := kw.trans k8
        replace A0_0 := k8.cell0 A0_0
        replace A0_1 := k8.cell0 A0_1
        replace A1_0 := k8.cell0 A1_0
        replace A1_1 := k8.cell0 A1_1
        replace K := hide ((unhide K).trans k8)
        have z9 := k8.size
        clear k8
        clear hHeld
        refine hK.out _ _ ?_ (fun hHeld => ?_)
        · exact ⟨A0_0, A0_1, A1_0, A1_1⟩
        clear hK KK
        try simp only [Act.put, List.getElem_toArray, List.getElem_cons_succ, List.getElem_cons_zero, List.setIfInBounds_toArray, List.set_cons_zero, List.set_cons_succ]
        refine wpAnyH_ready (rs := [4, 8]) (by kernel_rfl) (by simp) ?_
        refine AllReadyH.cons rfl (fun KK hK => ?_) (AllReadyH.cons rfl (fun KK hK => ?_) AllReadyH.nil)
        · simp only [List.getElem_toArray, List.getElem_cons_succ, List.getElem_cons_zero]
          rw [if_pos (by rfl)]
          have mk := ivMatAdd_spec y0 y1 w8 q0 q1 r70.read r71.read
          simp only [unhide EB1, unhide EC0, unhide EL0, unhide EH0] at mk
          refine wps2 11 (.tmp 29) (.tmp 31) _ rfl in_spec_IvMatAdd (.agg #[.int .i64 y0, v70]) (.agg #[.int .i64 y1, v71]) rfl rfl mk ?_
          rintro e w10 ⟨v90, rfl, r90, k10⟩
          refine ⟨_, rfl, ?_⟩
          clear mk
          replace r0 := r0.kept k10 (.inr (.inr (Nat.le_refl 0)))
          replace r1 := r1.kept k10 (.inr (.inr (Nat.le_refl 0)))
          replace r70 := r70.kept k10 (.inr (.inr (Nat.le_refl 0)))
          replace r71 := r71.kept k10 (.inr (.inr (Nat.le_refl 0)))
          replace kw := kw.trans k10
          replace A0_0 := k10.cell0 A0_0
          replace A0_1 := k10.cell0 A0_1
          replace A1_0 := k10.cell0 A1_0
          replace A1_1 := k10.cell0 A1_1
          replace K := hide ((unhide K).trans k10)
          have z11 := k10.size
          obtain ⟨a90, d90, hv⟩ := r90.form'
          subst hv
          clear k10
          clear hHeld
          refine hK.out _ _ ?_ (fun hHeld => ?_)
          · exact ⟨A0_0, A0_1, A1_0, A1_1⟩
          clear hK KK
          try simp only [Act.put, List.getElem_toArray, List.getElem_cons_succ, List.getElem_cons_zero, List.setIfInBounds_toArray, List.set_cons_zero, List.set_cons_succ]
          refine wpAnyH_take (i := 5) (oi := _) (v := .tuple #[.agg #[.int .i64 H0, .slice a90 C0 d90], .bool B1]) rfl (by kernel_rfl) (by kernel_rfl) (by kernel_rfl) (fun _ _ _ h => h) (Or.inl ⟨by rfl, ?_⟩) hHeld ?_
          · intro wq hSw
            try dsimp only at hSw
            go_simp
          try simp only [Act.put, List.getElem_toArray, List.getElem_cons_succ, List.getElem_cons_zero, List.setIfInBounds_toArray, List.set_cons_zero, List.set_cons_succ]
          refine wpAnyH_take (i := 6) (oi := _) (v := .agg #[.int .i64 H0, .slice a90 C0 d90]) rfl (by kernel_rfl) (by kernel_rfl) (by kernel_rfl) (fun _ _ _ h => h) (Or.inl ⟨by rfl, ?_⟩) hHeld ?_
          · intro wq hSw
            try dsimp only at hSw
            go_simp
          try simp only [Act.put, List.getElem_toArray, List.getElem_cons_succ, List.getElem_cons_zero, List.setIfInBounds_toArray, List.set_cons_zero, List.set_cons_succ]
          refine wpAnyH_take (i := 7) (oi := _) (v := .bool B1) rfl (by kernel_rfl) (by kernel_rfl) (by kernel_rfl) (fun _ _ _ h => h) (Or.inl ⟨by rfl, ?_⟩) hHeld ?_
          · intro wq hSw
            try dsimp only at hSw
            go_simp
          try simp only [Act.put, List.getElem_toArray, List.getElem_cons_succ, List.getElem_cons_zero, List.setIfInBounds_toArray, List.set_cons_zero, List.set_cons_succ]
          refine wpAnyH_ready (rs := [8]) (by kernel_rfl) (by simp) ?_
          refine AllReadyH.cons rfl (fun KK hK => ?_) AllReadyH.nil
          · simp only [List.getElem_toArray, List.getElem_cons_succ, List.getElem_cons_zero]
            rw [if_pos (by rfl)]
            go_simp
            have kn := (Kept.refl 0 0 w10).alloc (.cells #[.int .i64 0, .slice none 0 0] 28)
            replace r0 := r0.kept kn (.inr (.inr (Nat.le_refl 0)))
            replace r1 := r1.kept kn (.inr (.inr (Nat.le_refl 0)))
            replace r70 := r70.kept kn (.inr (.inr (Nat.le_refl 0)))
            replace r71 := r71.kept kn (.inr (.inr (Nat.le_refl 0)))
            replace r90 := r90.kept kn (.inr (.inr (Nat.le_refl 0)))
            replace kw := kw.trans kn
            replace A0_0 := kn.cell0 A0_0
            replace A0_1 := kn.cell0 A0_1
            replace A1_0 := kn.cell0 A1_0
            replace A1_1 := kn.cell0 A1_1
            replace K := hide ((unhide K).trans kn)
            have z13 := kn.size
            clear kn
            have szx0_ : w10.heap.size < (w10.alloc (.cells #[.int .i64 0, .slice none 0 0] 28)).heap.size := by simp
            have x0_0 : (w10.alloc (.cells #[.int .i64 0, .slice none 0 0] 28)).cell? ⟨w10.heap.size, 0, none⟩ = some (.int .i64 0) := new_cell2 _ _ _ _ _ _ rfl rfl
            have x0_f0 : (w10.alloc (.cells #[.int .i64 0, .slice none 0 0] 28)).frozen? ⟨w10.heap.size, 0, none⟩ = false := new_loose2 _ _ _ _ _ rfl
            have x0_1 : (w10.alloc (.cells #[.int .i64 0, .slice none 0 0] 28)).cell? ⟨w10.heap.size, 1, none⟩ = some (.slice none 0 0) := new_cell2 _ _ _ _ _ _ rfl rfl
            have x0_f1 : (w10.alloc (.cells #[.int .i64 0, .slice none 0 0] 28)).frozen? ⟨w10.heap.size, 1, none⟩ = false := new_loose2 _ _ _ _ _ rfl
            clear hHeld
            refine hK.out _ _ ?_ (fun hHeld => ?_)
            · exact ⟨A0_0, A0_1, A1_0, A1_1⟩
            clear hK KK
            try simp only [Act.put, List.getElem_toArray, List.getElem_cons_succ, List.getElem_cons_zero, List.setIfInBounds_toArray, List.set_cons_zero, List.set_cons_succ]
            generalize w10.alloc (.cells #[.int .i64 0, .slice none 0 0] 28) = w12 at *
            refine wpAnyH_ready (rs := [9]) (by kernel_rfl) (by simp) ?_
            refine AllReadyH.cons rfl (fun KK hK => ?_) AllReadyH.nil
            simp only [List.getElem_toArray, List.getElem_cons_succ, List.getElem_cons_zero]
            rw [if_pos (by rfl)]
            go_simp
            clear hHeld
            refine hK.out _ _ ?_ (fun hHeld => ?_)
            · exact ⟨(cell_aside _ (by have := unhide S0; dsimp only; omega) (cell_aside _ (by have := unhide S0; dsimp only; omega) A0_0)), (cell_aside _ (by have := unhide S0; dsimp only; omega) (cell_aside _ (by have := unhide S0; dsimp only; omega) A0_1)), (cell_aside _ (by have := unhide S0; dsimp only; omega) (cell_aside _ (by have := unhide S0; dsimp only; omega) A1_0)), (cell_aside _ (by have := unhide S0; dsimp only; omega) (cell_aside _ (by have := unhide S0; dsimp only; omega) A1_1))⟩
            clear hK KK
            try simp only [Act.put, List.getElem_toArray, List.getElem_cons_succ, List.getElem_cons_zero, List.setIfInBounds_toArray, List.set_cons_zero, List.set_cons_succ]
            refine wpAnyH_take (i := 10) (oi := _) (v := .bool B1) rfl (by kernel_rfl) (by kernel_rfl) (by kernel_rfl) (fun _ _ _ h => h) (Or.inl ⟨by rfl, ?_⟩) hHeld ?_
            · intro wq hSw
              try dsimp only at hSw
              go_simp
            try simp only [Act.put, List.getElem_toArray, List.getElem_cons_succ, List.getElem_cons_zero, List.setIfInBounds_toArray, List.set_cons_zero, List.set_cons_succ]
            refine wpAnyH_done (by kernel_rfl) ?_ _
            clear hHeld
            go_wp2_with fail
            go_meet
            exact ⟨_, _, rfl, rfl, law_setX H0 kw x0_0 x0_1 r90 (by omega) (by omega) (by omega) (by omega)⟩
        · simp only [List.getElem_toArray, List.getElem_cons_succ, List.getElem_cons_zero]
          rw [if_pos (by rfl)]
          go_simp
          have kn := (Kept.refl 0 0 w8).alloc (.cells #[.int .i64 0, .slice none 0 0] 28)
          replace r0 := r0.kept kn (.inr (.inr (Nat.le_refl 0)))
          replace r1 := r1.kept kn (.inr (.inr (Nat.le_refl 0)))
          replace r70 := r70.kept kn (.inr (.inr (Nat.le_refl 0)))
          replace r71 := r71.kept kn (.inr (.inr (Nat.le_refl 0)))
          replace kw := kw.trans kn
          replace A0_0 := kn.cell0 A0_0
          replace A0_1 := kn.cell0 A0_1
          replace A1_0 := kn.cell0 A1_0
          replace A1_1 := kn.cell0 A1_1
          replace K := hide ((unhide K).trans kn)
          have z11 := kn.size
          clear kn
          have szx0_ : w8.heap.size < (w8.alloc (.cells #[.int .i64 0, .slice none 0 0] 28)).heap.size := by simp
          have x0_0 : (w8.alloc (.cells #[.int .i64 0, .slice none 0 0] 28)).cell? ⟨w8.heap.size, 0, none⟩ = some (.int .i64 0) := new_cell2 _ _ _ _ _ _ rfl rfl
          have x0_f0 : (w8.alloc (.cells #[.int .i64 0, .slice none 0 0] 28)).frozen? ⟨w8.heap.size, 0, none⟩ = false := new_loose2 _ _ _ _ _ rfl
          have x0_1 : (w8.alloc (.cells #[.int .i64 0, .slice none 0 0] 28)).cell? ⟨w8.heap.size, 1, none⟩ = some (.slice none 0 0) := new_cell2 _ _ _ _ _ _ rfl rfl
          have x0_f1 : (w8.alloc (.cells #[.int .i64 0, .slice none 0 0] 28)).frozen? ⟨w8.heap.size, 1, none⟩ = false := new_loose2 _ _ _ _ _ rfl
          clear hHeld
          refine hK.out _ _ ?_ (fun hHeld => ?_)
          · exact ⟨A0_0, A0_1, A1_0, A1_1⟩
          clear hK KK
          try simp only [Act.put, List.getElem_toArray, List.getElem_cons_succ, List.getElem_cons_zero, List.setIfInBounds_toArray, List.set_cons_zero, List.set_cons_succ]
          generalize w8.alloc (.cells #[.int .i64 0, .slice none 0 0] 28) = w10 at *
          refine wpAnyH_ready (rs := [4]) (by kernel_rfl) (by simp) ?_
          refine AllReadyH.cons rfl (fun KK hK => ?_) AllReadyH.nil
          · simp only [List.getElem_toArray, List.getElem_cons_succ, List.getElem_cons_zero]
            rw [if_pos (by rfl)]
            have mk := ivMatAdd_spec y0 y1 w10 q0 q1 r70.read r71.read
            simp only [unhide EB1, unhide EC0, unhide EL0, unhide EH0] at mk
            refine wps2 11 (.tmp 29) (.tmp 31) _ rfl in_spec_IvMatAdd (.agg #[.int .i64 y0, v70]) (.agg #[.int .i64 y1, v71]) rfl rfl mk ?_
            rintro e w12 ⟨v90, rfl, r90, k12⟩
            refine ⟨_, rfl, ?_⟩
            clear mk
            replace r0 := r0.kept k12 (.inr (.inr (Nat.le_refl 0)))
            replace r1 := r1.kept k12 (.inr (.inr (Nat.le_refl 0)))
            replace r70 := r70.kept k12 (.inr (.inr (Nat.le_refl 0)))
            replace r71 := r71.kept k12 (.inr (.inr (Nat.le_refl 0)))
            replace kw := kw.trans k12
            replace x0_f0 := k12.loose0 (World.block_lt_of_cell? _ _ x0_0) x0_f0
            replace x0_f1 := k12.loose0 (World.block_lt_of_cell? _ _ x0_1) x0_f1
            replace A0_0 := k12.cell0 A0_0
            replace A0_1 := k12.cell0 A0_1
            replace A1_0 := k12.cell0 A1_0
            replace A1_1 := k12.cell0 A1_1
            replace x0_0 := k12.cell0 x0_0
            replace x0_1 := k12.cell0 x0_1
            replace K := hide ((unhide K).trans k12)
            have z13 := k12.size
            obtain ⟨a90, d90, hv⟩ := r90.form'
            subst hv
            clear k12
            clear hHeld
            refine hK.out _ _ ?_ (fun hHeld => ?_)
            · exact ⟨A0_0, A0_1, A1_0, A1_1⟩
            clear hK KK
            try simp only [Act.put, List.getElem_toArray, List.getElem_cons_succ, List.getElem_cons_zero, List.setIfInBounds_toArray, List.set_cons_zero, List.set_cons_succ]
            refine wpAnyH_take (i := 5) (oi := _) (v := .tuple #[.agg #[.int .i64 H0, .slice a90 C0 d90], .bool B1]) rfl (by kernel_rfl) (by kernel_rfl) (by kernel_rfl) (fun _ _ _ h => h) (Or.inl ⟨by rfl, ?_⟩) hHeld ?_
            · intro wq hSw
              try dsimp only at hSw
              go_simp
            try simp only [Act.put, List.getElem_toArray, List.getElem_cons_succ, List.getElem_cons_zero, List.setIfInBounds_toArray, List.set_cons_zero, List.set_cons_succ]
            refine wpAnyH_take (i := 6) (oi := _) (v := .agg #[.int .i64 H0, .slice a90 C0 d90]) rfl (by kernel_rfl) (by kernel_rfl) (by kernel_rfl) (fun _ _ _ h => h) (Or.inl ⟨by rfl, ?_⟩) hHeld ?_
            · intro wq hSw
              try dsimp only at hSw
              go_simp
            try simp only [Act.put, List.getElem_toArray, List.getElem_cons_succ, List.getElem_cons_zero, List.setIfInBounds_toArray, List.set_cons_zero, List.set_cons_succ]
            refine wpAnyH_take (i := 7) (oi := _) (v := .bool B1) rfl (by kernel_rfl) (by kernel_rfl) (by kernel_rfl) (fun _ _ _ h => h) (Or.inl ⟨by rfl, ?_⟩) hHeld ?_
            · intro wq hSw
              try dsimp only at hSw
              go_simp
            try simp only [Act.put, List.getElem_toArray, List.getElem_cons_succ, List.getElem_cons_zero, List.setIfInBounds_toArray, List.set_cons_zero, List.set_cons_succ]
            refine wpAnyH_ready (rs := [9]) (by kernel_rfl) (by simp) ?_
            refine AllReadyH.cons rfl (fun KK hK => ?_) AllReadyH.nil
            simp only [List.getElem_toArray, List.getElem_cons_succ, List.getElem_cons_zero]
            rw [if_pos (by rfl)]
            go_simp
            clear hHeld
            refine hK.out _ _ ?_ (fun hHeld => ?_)
            · exact ⟨(cell_aside _ (by have := unhide S0; dsimp only; omega) (cell_aside _ (by have := unhide S0; dsimp only; omega) A0_0)), (cell_aside _ (by have := unhide S0; dsimp only; omega) (cell_aside _ (by have := unhide S0; dsimp only; omega) A0_1)), (cell_aside _ (by have := unhide S0; dsimp only; omega) (cell_aside _ (by have := unhide S0; dsimp only; omega) A1_0)), (cell_aside _ (by have := unhide S0; dsimp only; omega) (cell_aside _ (by have := unhide S0; dsimp only; omega) A1_1))⟩
            clear hK KK
            try simp only [Act.put, List.getElem_toArray, List.getElem_cons_succ, List.getElem_cons_zero, List.setIfInBounds_toArray, List.set_cons_zero, List.set_cons_succ]
            refine wpAnyH_take (i := 10) (oi := _) (v := .bool B1) rfl (by kernel_rfl) (by kernel_rfl) (by kernel_rfl) (fun _ _ _ h => h) (Or.inl ⟨by rfl, ?_⟩) hHeld ?_
            · intro wq hSw
              try dsimp only at hSw
              go_simp
            try simp only [Act.put, List.getElem_toArray, List.getElem_cons_succ, List.getElem_cons_zero, List.setIfInBounds_toArray, List.set_cons_zero, List.set_cons_succ]
            refine wpAnyH_done (by kernel_rfl) ?_ _
            clear hHeld
            go_wp2_with fail
            go_meet
            exact ⟨_, _, rfl, rfl, law_setX H0 kw x0_0 x0_1 r90 (by omega) (by omega) (by omega) (by omega)⟩
      · simp only [List.getElem_toArray, List.getElem_cons_succ, List.getElem_cons_zero]
        rw [if_pos (by rfl)]
        go_simp
        have kn := (Kept.refl 0 0 w6).alloc (.cells #[.int .i64 0, .slice none 0 0] 28)
        replace r0 := r0.kept kn (.inr (.inr (Nat.le_refl 0)))
        replace r1 := r1.kept kn (.inr (.inr (Nat.le_refl 0)))
        replace r70 := r70.kept kn (.inr (.inr (Nat.le_refl 0)))
        replace kw := kw.trans kn
        replace A0_0 := kn.cell0 A0_0
        replace A0_1 := kn.cell0 A0_1
        replace A1_0 := kn.cell0 A1_0
        replace A1_1 := kn.cell0 A1_1
        replace K := hide ((unhide K).trans kn)
        have z9 := kn.size
        clear kn
        have szx0_ : w6.heap.size < (w6.alloc (.cells #[.int .i64 0, .slice none 0 0] 28)).heap.size := by simp
        have x0_0 : (w6.alloc (.cells #[.int .i64 0, .slice none 0 0] 28)).cell? ⟨w6.heap.size, 0, none⟩ = some (.int .i64 0) := new_cell2 _ _ _ _ _ _ rfl rfl
        have x0_f0 : (w6.alloc (.cells #[.int .i64 0, .slice none 0 0] 28)).frozen? ⟨w6.heap.size, 0, none⟩ = false := new_loose2 _ _ _ _ _ rfl
        have x0_1 : (w6.alloc (.cells #[.int .i64 0, .slice none 0 0] 28)).cell? ⟨w6.heap.size, 1, none⟩ = some (.slice none 0 0) := new_cell2 _ _ _ _ _ _ rfl rfl
        have x0_f1 : (w6.alloc (.cells #[.int .i64 0, .slice none 0 0] 28)).frozen? ⟨w6.heap.size, 1, none⟩ = false := new_loose2 _ _ _ _ _ rfl
        clear hHeld
        refine hK.out _ _ ?_ (fun hHeld => ?_)
        · exact ⟨A0_0, A0_1, A1_0, A1_1⟩
        clear hK KK
        try simp only [Act.put, List.getElem_toArray, List.getElem_cons_succ, List.getElem_cons_zero, List.setIfInBounds_toArray, List.set_cons_zero, List.set_cons_succ]
        generalize w6.alloc (.cells #[.int .i64 0, .slice none 0 0] 28) = w8 at *
        refine wpAnyH_ready (rs := [3]) (by kernel_rfl) (by simp) ?_
        refine AllReadyH.cons rfl (fun KK hK => ?_) AllReadyH.nil
        · simp only [List.getElem_toArray, List.getElem_cons_succ, List.getElem_cons_zero]
          rw [if_pos (by rfl)]
          refine wps1 12 (.tmp 30) _ rfl in_toX (.agg #[.int .i64 y1, .slice a1 m1 c1]) rfl (toIvMat_own (y1) _ hn1 hl1 r1) ?_
          rintro e w10 ⟨v71, rfl, r71, k10⟩
          refine ⟨_, rfl, ?_⟩
          replace r0 := r0.kept k10 (.inr (.inr (Nat.le_refl 0)))
          replace r1 := r1.kept k10 (.inr (.inr (Nat.le_refl 0)))
          replace r70 := r70.kept k10 (.inr (.inr (Nat.le_refl 0)))
          replace kw := kw.trans k10
          replace x0_f0 := k10.loose0 (World.block_lt_of_cell? _ _ x0_0) x0_f0
          replace x0_f1 := k10.loose0 (World.block_lt_of_cell? _ _ x0_1) x0_f1
          replace A0_0 := k10.cell0 A0_0
          replace A0_1 := k10.cell0 A0_1
          replace A1_0 := k10.cell0 A1_0
          replace A1_1 := k10.cell0 A1_1
          replace x0_0 := k10.cell0 x0_0
          replace x0_1 := k10.cell0 x0_1
          replace K := hide ((unhide K).trans k10)
          have z11 := k10.size
          clear k10
          clear hHeld
          refine hK.out _ _ ?_ (fun hHeld => ?_)
          · exact ⟨A0_0, A0_1, A1_0, A1_1⟩
          clear hK KK
          try simp only [Act.put, List.getElem_toArray, List.getElem_cons_succ, List.getElem_cons_zero, List.setIfInBounds_toArray, List.set_cons_zero, List.set_cons_succ]
          refine wpAnyH_ready (rs := [4]) (by kernel_rfl) (by simp) ?_
          refine AllReadyH.cons rfl (fun KK hK => ?_) AllReadyH.nil
          · simp only [List.getElem_toArray, List.getElem_cons_succ, List.getElem_cons_zero]
            rw [if_pos (by rfl)]
            have mk := ivMatAdd_spec y0 y1 w10 q0 q1 r70.read r71.read
            simp only [unhide EB1, unhide EC0, unhide EL0, unhide EH0] at mk
            refine wps2 11 (.tmp 29) (.tmp 31) _ rfl in_spec_IvMatAdd (.agg #[.int .i64 y0, v70]) (.agg #[.int .i64 y1, v71]) rfl rfl mk ?_
            rintro e w12 ⟨v90, rfl, r90, k12⟩
            refine ⟨_, rfl, ?_⟩
            clear mk
            replace r0 := r0.kept k12 (.inr (.inr (Nat.le_refl 0)))
            replace r1 := r1.kept k12 (.inr (.inr (Nat.le_refl 0)))
            replace r70 := r70.kept k12 (.inr (.inr (Nat.le_refl 0)))
            replace r71 := r71.kept k12 (.inr (.inr (Nat.le_refl 0)))
            replace kw := kw.trans k12
            replace x0_f0 := k12.loose0 (World.block_lt_of_cell? _ _ x0_0) x0_f0
            replace x0_f1 := k12.loose0 (World.block_lt_of_cell? _ _ x0_1) x0_f1
            replace A0_0 := k12.cell0 A0_0
            replace A0_1 := k12.cell0 A0_1
            replace A1_0 := k12.cell0 A1_0
            replace A1_1 := k12.cell0 A1_1
            replace x0_0 := k12.cell0 x0_0
            replace x0_1 := k12.cell0 x0_1
            replace K := hide ((unhide K).trans k12)
            have z13 := k12.size
            obtain ⟨a90, d90, hv⟩ := r90.form'
            subst hv
            clear k12
            clear hHeld
            refine hK.out _ _ ?_ (fun hHeld => ?_)
            · exact ⟨A0_0, A0_1, A1_0, A1_1⟩
            clear hK KK
            try simp only [Act.put, List.getElem_toArray, List.getElem_cons_succ, List.getElem_cons_zero, List.setIfInBounds_toArray, List.set_cons_zero, List.set_cons_succ]
            refine wpAnyH_take (i := 5) (oi := _) (v := .tuple #[.agg #[.int .i64 H0, .slice a90 C0 d90], .bool B1]) rfl (by kernel_rfl) (by kernel_rfl) (by kernel_rfl) (fun _ _ _ h => h) (Or.inl ⟨by rfl, ?_⟩) hHeld ?_
            · intro wq hSw
              try dsimp only at hSw
              go_simp
            try simp only [Act.put, List.getElem_toArray, List.getElem_cons_succ, List.getElem_cons_zero, List.setIfInBounds_toArray, List.set_cons_zero, List.set_cons_succ]
            refine wpAnyH_take (i := 6) (oi := _) (v := .agg #[.int .i64 H0, .slice a90 C0 d90]) rfl (by kernel_rfl) (by kernel_rfl) (by kernel_rfl) (fun _ _ _ h => h) (Or.inl ⟨by rfl, ?_⟩) hHeld ?_
            · intro wq hSw
              try dsimp only at hSw
              go_simp
            try simp only [Act.put, List.getElem_toArray, List.getElem_cons_succ, List.getElem_cons_zero, List.setIfInBounds_toArray, List.set_cons_zero, List.set_cons_succ]
            refine wpAnyH_take (i := 7) (oi := _) (v := .bool B1) rfl (by kernel_rfl) (by kernel_rfl) (by kernel_rfl) (fun _ _ _ h => h) (Or.inl ⟨by rfl, ?_⟩) hHeld ?_
            · intro wq hSw
              try dsimp only at hSw
              go_simp
            try simp only [Act.put, List.getElem_toArray, List.getElem_cons_succ, List.getElem_cons_zero, List.setIfInBounds_toArray, List.set_cons_zero, List.set_cons_succ]
            refine wpAnyH_ready (rs := [9]) (by kernel_rfl) (by simp) ?_
            refine AllReadyH.cons rfl (fun KK hK => ?_) AllReadyH.nil
            simp only [List.getElem_toArray, List.getElem_cons_succ, List.getElem_cons_zero]
            rw [if_pos (by rfl)]
            go_simp
            clear hHeld
            refine hK.out _ _ ?_ (fun hHeld => ?_)
            · exact ⟨(cell_aside _ (by have := unhide S0; dsimp only; omega) (cell_aside _ (by have := unhide S0; dsimp only; omega) A0_0)), (cell_aside _ (by have := unhide S0; dsimp only; omega) (cell_aside _ (by have := unhide S0; dsimp only; omega) A0_1)), (cell_aside _ (by have := unhide S0; dsimp only; omega) (cell_aside _ (by have := unhide S0; dsimp only; omega) A1_0)), (cell_aside _ (by have := unhide S0; dsimp only; omega) (cell_aside _ (by have := unhide S0; dsimp only; omega) A1_1))⟩
            clear hK KK
            try simp only [Act.put, List.getElem_toArray, List.getElem_cons_succ, List.getElem_cons_zero, List.setIfInBounds_toArray, List.set_cons_zero, List.set_cons_succ]
            refine wpAnyH_take (i := 10) (oi := _) (v := .bool B1) rfl (by kernel_rfl) (by kernel_rfl) (by kernel_rfl) (fun _ _ _ h => h) (Or.inl ⟨by rfl, ?_⟩) hHeld ?_
            · intro wq hSw
              try dsimp only at hSw
              go_simp
            try simp only [Act.put, List.getElem_toArray, List.getElem_cons_succ, List.getElem_cons_zero, List.setIfInBounds_toArray, List.set_cons_zero, List.set_cons_succ]
            refine wpAnyH_done (by kernel_rfl) ?_ _
            clear hHeld
            go_wp2_with fail
            go_meet
            exact ⟨_, _, rfl, rfl, law_setX H0 kw x0_0 x0_1 r90 (by omega) (by omega) (by omega) (by omega)⟩
    · simp only [List.getElem_toArray, List.getElem_cons_succ, List.getElem_cons_zero]
      rw [if_pos (by rfl)]
      go_simp
      have kn := (Kept.refl 0 0 wd).alloc (.cells #[.int .i64 0, .slice none 0 0] 28)
      replace r0 := r0.kept kn (.inr (.inr (Nat.le_refl 0)))
      replace r1 := r1.kept kn (.inr (.inr (Nat.le_refl 0)))
      replace kw := kw.trans kn
      replace A0_0 := kn.cell0 A0_0
      replace A0_1 := kn.cell0 A0_1
      replace A1_0 := kn.cell0 A1_0
      replace A1_1 := kn.cell0 A1_1
      replace K := hide ((unhide K).trans kn)
      have z7 := kn.size
      clear kn
      have szx0_ : wd.heap.size < (wd.alloc (.cells #[.int .i64 0, .slice none 0 0] 28)).heap.size := by simp
      have x0_0 : (wd.alloc (.cells #[.int .i64 0, .slice none 0 0] 28)).cell? ⟨wd.heap.size, 0, none⟩ = some (.int .i64 0) := new_cell2 _ _ _ _ _ _ rfl rfl
      have x0_f0 : (wd.alloc (.cells #[.int .i64 0, .slice none 0 0] 28)).frozen? ⟨wd.heap.size, 0, none⟩ = false := new_loose2 _ _ _ _ _ rfl
      have x0_1 : (wd.alloc (.cells #[.int .i64 0, .slice none 0 0] 28)).cell? ⟨wd.heap.size, 1, none⟩ = some (.slice none 0 0) := new_cell2 _ _ _ _ _ _ rfl rfl
      have x0_f1 : (wd.alloc (.cells #[.int .i64 0, .slice none 0 0] 28)).frozen? ⟨wd.heap.size, 1, none⟩ = false := new_loose2 _ _ _ _ _ rfl
      clear hHeld
      refine hK.out _ _ ?_ (fun hHeld => ?_)
      · exact ⟨A0_0, A0_1, A1_0, A1_1⟩
      clear hK KK
      try simp only [Act.put, List.getElem_toArray, List.getElem_cons_succ, List.getElem_cons_zero, List.setIfInBounds_toArray, List.set_cons_zero, List.set_cons_succ]
      generalize wd.alloc (.cells #[.int .i64 0, .slice none 0 0] 28) = w6 at *
      refine wpAnyH_ready (rs := [1]) (by kernel_rfl) (by simp) ?_
      refine AllReadyH.cons rfl (fun KK hK => ?_) AllReadyH.nil
      · simp only [List.getElem_toArray, List.getElem_cons_succ, List.getElem_cons_zero]
        rw [if_pos (by rfl)]
        refine wps1 12 (.tmp 28) _ rfl in_toX (.agg #[.int .i64 y0, .slice a0 m0 c0]) rfl (toIvMat_own (y0) _ hn0 hl0 r0) ?_
        rintro e w8 ⟨v70, rfl, r70, k8⟩
        refine ⟨_, rfl, ?_⟩
        replace r0 := r0.kept k8 (.inr (.inr (Nat.le_refl 0)))
        replace r1 := r1.kept k8 (.inr (.inr (Nat.le_refl 0)))
        replace kw := kw.trans k8
        replace x0_f0 := k8.loose0 (World.block_lt_of_cell? _ _ x0_0) x0_f0
        replace x0_f1 := k8.loose0 (World.block_lt_of_cell? _ _ x0_1) x0_f1
        replace A0_0 := k8.cell0 A0_0
        replace A0_1 := k8.cell0 A0_1
        replace A1_0 := k8.cell0 A1_0
        replace A1_1 := k8.cell0 A1_1
        replace x0_0 := k8.cell0 x0_0
        replace x0_1 := k8.cell0 x0_1
        replace K := hide ((unhide K).trans k8)
        have z9 := k8.size
        clear k8
        clear hHeld
        refine hK.out _ _ ?_ (fun hHeld => ?_)
        · exact ⟨A0_0, A0_1, A1_0, A1_1⟩
        clear hK KK
        try simp only [Act.put, List.getElem_toArray, List.getElem_cons_succ, List.getElem_cons_zero, List.setIfInBounds_toArray, List.set_cons_zero, List.set_cons_succ]
        refine wpAnyH_ready (rs := [3]) (by kernel_rfl) (by simp) ?_
        refine AllReadyH.cons rfl (fun KK hK => ?_) AllReadyH.nil
        · simp only [List.getElem_toArray, List.getElem_cons_succ, List.getElem_cons_zero]
          rw [if_pos (by rfl)]
          refine wps1 12 (.tmp 30) _ rfl in_toX (.agg #[.int .i64 y1, .slice a1 m1 c1]) rfl (toIvMat_own (y1) _ hn1 hl1 r1) ?_
          rintro e w10 ⟨v71, rfl, r71, k10⟩
          refine ⟨_, rfl, ?_⟩
          replace r0 := r0.kept k10 (.inr (.inr (Nat.le_refl 0)))
          replace r1 := r1.kept k10 (.inr (.inr (Nat.le_refl 0)))
          replace r70 := r70.kept k10 (.inr (.inr (Nat.le_refl 0)))
          replace kw := kw.trans k10
          replace x0_f0 := k10.loose0 (World.block_lt_of_cell? _ _ x0_0) x0_f0
          replace x0_f1 := k10.loose0 (World.block_lt_of_cell? _ _ x0_1) x0_f1
          replace A0_0 := k10.cell0 A0_0
          replace A0_1 := k10.cell0 A0_1
          replace A1_0 := k10.cell0 A1_0
          replace A1_1 := k10.cell0 A1_1
          replace x0_0 := k10.cell0 x0_0
          replace x0_1 := k10.cell0 x0_1
          replace K := hide ((unhide K).trans k10)
          have z11 := k10.size
          clear k10
          clear hHeld
          refine hK.out _ _ ?_ (fun hHeld => ?_)
          · exact ⟨A0_0, A0_1, A1_0, A1_1⟩
          clear hK KK
          try simp only [Act.put, List.getElem_toArray, List.getElem_cons_succ, List.getElem_cons_zero, List.setIfInBounds_toArray, List.set_cons_zero, List.set_cons_succ]
          refine wpAnyH_ready (rs := [4]) (by kernel_rfl) (by simp) ?_
          refine AllReadyH.cons rfl (fun KK hK => ?_) AllReadyH.nil
          · simp only [List.getElem_toArray, List.getElem_cons_succ, List.getElem_cons_zero]
            rw [if_pos (by rfl)]
            have mk := ivMatAdd_spec y0 y1 w10 q0 q1 r70.read r71.read
            simp only [unhide EB1, unhide EC0, unhide EL0, unhide EH0] at mk
            refine wps2 11 (.tmp 29) (.tmp 31) _ rfl in_spec_IvMatAdd (.agg #[.int .i64 y0, v70]) (.agg #[.int .i64 y1, v71]) rfl rfl mk ?_
            rintro e w12 ⟨v90, rfl, r90, k12⟩
            refine ⟨_, rfl, ?_⟩
            clear mk
            replace r0 := r0.kept k12 (.inr (.inr (Nat.le_refl 0)))
            replace r1 := r1.kept k12 (.inr (.inr (Nat.le_refl 0)))
            replace r70 := r70.kept k12 (.inr (.inr (Nat.le_refl 0)))
            replace r71 := r71.kept k12 (.inr (.inr (Nat.le_refl 0)))
            replace kw := kw.trans k12
            replace x0_f0 := k12.loose0 (World.block_lt_of_cell? _ _ x0_0) x0_f0
            replace x0_f1 := k12.loose0 (World.block_lt_of_cell? _ _ x0_1) x0_f1
            replace A0_0 := k12.cell0 A0_0
            replace A0_1 := k12.cell0 A0_1
            replace A1_0 := k12.cell0 A1_0
            replace A1_1 := k12.cell0 A1_1
            replace x0_0 := k12.cell0 x0_0
            replace x0_1 := k12.cell0 x0_1
            replace K := hide ((unhide K).trans k12)
            have z13 := k12.size
            obtain ⟨a90, d90, hv⟩ := r90.form'
            subst hv
            clear k12
            clear hHeld
            refine hK.out _ _ ?_ (fun hHeld => ?_)
            · exact ⟨A0_0, A0_1, A1_0, A1_1⟩
            clear hK KK
            try simp only [Act.put, List.getElem_toArray, List.getElem_cons_succ, List.getElem_cons_zero, List.setIfInBounds_toArray, List.set_cons_zero, List.set_cons_succ]
            refine wpAnyH_take (i := 5) (oi := _) (v := .tuple #[.agg #[.int .i64 H0, .slice a90 C0 d90], .bool B1]) rfl (by kernel_rfl) (by kernel_rfl) (by kernel_rfl) (fun _ _ _ h => h) (Or.inl ⟨by rfl, ?_⟩) hHeld ?_
            · intro wq hSw
              try dsimp only at hSw
              go_simp
            try simp only [Act.put, List.getElem_toArray, List.getElem_cons_succ, List.getElem_cons_zero, List.setIfInBounds_toArray, List.set_cons_zero, List.set_cons_succ]
            refine wpAnyH_take (i := 6) (oi := _) (v := .agg #[.int .i64 H0, .slice a90 C0 d90]) rfl (by kernel_rfl) (by kernel_rfl) (by kernel_rfl) (fun _ _ _ h => h) (Or.inl ⟨by rfl, ?_⟩) hHeld ?_
            · intro wq hSw
              try dsimp only at hSw
              go_simp
            try simp only [Act.put, List.getElem_toArray, List.getElem_cons_succ, List.getElem_cons_zero, List.setIfInBounds_toArray, List.set_cons_zero, List.set_cons_succ]
            refine wpAnyH_take (i := 7) (oi := _) (v := .bool B1) rfl (by kernel_rfl) (by kernel_rfl) (by kernel_rfl) (fun _ _ _ h => h) (Or.inl ⟨by rfl, ?_⟩) hHeld ?_
            · intro wq hSw
              try dsimp only at hSw
              go_simp
            try simp only [Act.put, List.getElem_toArray, List.getElem_cons_succ, List.getElem_cons_zero, List.setIfInBounds_toArray, List.set_cons_zero, List.set_cons_succ]
            refine wpAnyH_ready (rs := [9]) (by kernel_rfl) (by simp) ?_
            refine AllReadyH.cons rfl (fun KK hK => ?_) AllReadyH.nil
            simp only [List.getElem_toArray, List.getElem_cons_succ, List.getElem_cons_zero]
            rw [if_pos (by rfl)]
            go_simp
            clear hHeld
            refine hK.out _ _ ?_ (fun hHeld => ?_)
            · exact ⟨(cell_aside _ (by have := unhide S0; dsimp only; omega) (cell_aside _ (by have := unhide S0; dsimp only; omega) A0_0)), (cell_aside _ (by have := unhide S0; dsimp only; omega) (cell_aside _ (by have := unhide S0; dsimp only; omega) A0_1)), (cell_aside _ (by have := unhide S0; dsimp only; omega) (cell_aside _ (by have := unhide S0; dsimp only; omega) A1_0)), (cell_aside _ (by have := unhide S0; dsimp only; omega) (cell_aside _ (by have := unhide S0; dsimp only; omega) A1_1))⟩
            clear hK KK
            try simp only [Act.put, List.getElem_toArray, List.getElem_cons_succ, List.getElem_cons_zero, List.setIfInBounds_toArray, List.set_cons_zero, List.set_cons_succ]
            refine wpAnyH_take (i := 10) (oi := _) (v := .bool B1) rfl (by kernel_rfl) (by kernel_rfl) (by kernel_rfl) (fun _ _ _ h => h) (Or.inl ⟨by rfl, ?_⟩) hHeld ?_
            · intro wq hSw
              try dsimp only at hSw
              go_simp
            try simp only [Act.put, List.getElem_toArray, List.getElem_cons_succ, List.getElem_cons_zero, List.setIfInBounds_toArray, List.set_cons_zero, List.set_cons_succ]
            refine wpAnyH_done (by kernel_rfl) ?_ _
            clear hHeld
            go_wp2_with fail
            go_meet
            exact ⟨_, _, rfl, rfl, law_setX H0 kw x0_0 x0_1 r90 (by omega) (by omega) (by omega) (by omega)⟩
  case rest =>
    obtain ⟨Xw0, vw0, rfl, rfl, cw0_0, cw0_1, rw0, hXw0, hYw0, kk⟩ := hcut
    replace r0 := r0.kept kk (.inr (.inr (Nat.le_refl 0)))
    replace r1 := r1.kept kk (.inr (.inr (Nat.le_refl 0)))
    replace A0_0 := kk.cell0 A0_0
    replace A0_1 := kk.cell0 A0_1
    replace A1_0 := kk.cell0 A1_0
    replace A1_1 := kk.cell0 A1_1
    replace K := hide ((unhide K).trans kk)
    have z5 := kk.size
    clear kk
    obtain ⟨aw0, dw0, hv⟩ := rw0.form'
    subst hv
    generalize hwc : wc = we6 at *
    clear hwc
    go_wp2_with fail
    refine (toIvMat_own (y0) _ hn0 hl0 r0).mono ?_
    rintro e w7 ⟨vx0, rfl, rx0, k7⟩
    replace r0 := r0.kept k7 (.inr (.inr (Nat.le_refl 0)))
    replace r1 := r1.kept k7 (.inr (.inr (Nat.le_refl 0)))
    replace rw0 := rw0.kept k7 (.inr (.inr (Nat.le_refl 0)))
    replace A0_0 := k7.cell0 A0_0
    replace A0_1 := k7.cell0 A0_1
    replace A1_0 := k7.cell0 A1_0
    replace A1_1 := k7.cell0 A1_1
    replace cw0_0 := k7.cell0 cw0_0
    replace cw0_1 := k7.cell0 cw0_1
    replace K := hide ((unhide K).trans k7)
    have z8 := k7.size
    clear k7
    obtain ⟨ax0, dx0, hv⟩ := rx0.form'
    subst hv
    have kn := (Kept.refl 0 0 w7).alloc (.cells #[.int .i64 y0, .slice ax0 m0 dx0] 28)
    have cx0_0 : (w7.alloc (.cells #[.int .i64 y0, .slice ax0 m0 dx0] 28)).cell? ⟨w7.heap.size, 0, none⟩ = some (.int .i64 y0) := new_cell2 _ _ _ _ _ _ rfl rfl
    have cx0_1 : (w7.alloc (.cells #[.int .i64 y0, .slice ax0 m0 dx0] 28)).cell? ⟨w7.heap.size, 1, none⟩ = some (.slice ax0 m0 dx0) := new_cell2 _ _ _ _ _ _ rfl rfl
    have t9 : w7.heap.size + 1 ≤ (w7.alloc (.cells #[.int .i64 y0, .slice ax0 m0 dx0] 28)).heap.size := by simp
    replace r0 := r0.kept kn (.inr (.inr (Nat.le_refl 0)))
    replace r1 := r1.kept kn (.inr (.inr (Nat.le_refl 0)))
    replace rw0 := rw0.kept kn (.inr (.inr (Nat.le_refl 0)))
    replace rx0 := rx0.kept kn (.inr (.inr (Nat.le_refl 0)))
    replace A0_0 := kn.cell0 A0_0
    replace A0_1 := kn.cell0 A0_1
    replace A1_0 := kn.cell0 A1_0
    replace A1_1 := kn.cell0 A1_1
    replace cw0_0 := kn.cell0 cw0_0
    replace cw0_1 := kn.cell0 cw0_1
    replace K := hide ((unhide K).trans kn)
    have z10 := kn.size
    clear kn
    go_wp2_with fail
    generalize w7.alloc (.cells #[.int .i64 y0, .slice ax0 m0 dx0] 28) = wm9 at *
    refine (toIvMat_own (y1) _ hn1 hl1 r1).mono ?_
    rintro e w11 ⟨vx1, rfl, rx1, k11⟩
    replace r0 := r0.kept k11 (.inr (.inr (Nat.le_refl 0)))
    replace r1 := r1.kept k11 (.inr (.inr (Nat.le_refl 0)))
    replace rw0 := rw0.kept k11 (.inr (.inr (Nat.le_refl 0)))
    replace rx0 := rx0.kept k11 (.inr (.inr (Nat.le_refl 0)))
    replace A0_0 := k11.cell0 A0_0
    replace A0_1 := k11.cell0 A0_1
    replace A1_0 := k11.cell0 A1_0
    replace A1_1 := k11.cell0 A1_1
    replace cw0_0 := k11.cell0 cw0_0
    replace cw0_1 := k11.cell0 cw0_1
    replace cx0_0 := k11.cell0 cx0_0
    replace cx0_1 := k11.cell0 cx0_1
    replace K := hide ((unhide K).trans k11)
    have z12 := k11.size
    clear k11
    obtain ⟨ax1, dx1, hv⟩ := rx1.form'
    subst hv
    have kn := (Kept.refl 0 0 w11).alloc (.cells #[.int .i64 y1, .slice ax1 m1 dx1] 28)
    have cx1_0 : (w11.alloc (.cells #[.int .i64 y1, .slice ax1 m1 dx1] 28)).cell? ⟨w11.heap.size, 0, none⟩ = some (.int .i64 y1) := new_cell2 _ _ _ _ _ _ rfl rfl
    have cx1_1 : (w11.alloc (.cells #[.int .i64 y1, .slice ax1 m1 dx1] 28)).cell? ⟨w11.heap.size, 1, none⟩ = some (.slice ax1 m1 dx1) := new_cell2 _ _ _ _ _ _ rfl rfl
    have t13 : w11.heap.size + 1 ≤ (w11.alloc (.cells #[.int .i64 y1, .slice ax1 m1 dx1] 28)).heap.size := by simp
    replace r0 := r0.kept kn (.inr (.inr (Nat.le_refl 0)))
    replace r1 := r1.kept kn (.inr (.inr (Nat.le_refl 0)))
    replace rw0 := rw0.kept kn (.inr (.inr (Nat.le_refl 0)))
    replace rx0 := rx0.kept kn (.inr (.inr (Nat.le_refl 0)))
    replace rx1 := rx1.kept kn (.inr (.inr (Nat.le_refl 0)))
    replace A0_0 := kn.cell0 A0_0
    replace A0_1 := kn.cell0 A0_1
    replace A1_0 := kn.cell0 A1_0
    replace A1_1 := kn.cell0 A1_1
    replace cw0_0 := kn.cell0 cw0_0
    replace cw0_1 := kn.cell0 cw0_1
    replace cx0_0 := kn.cell0 cx0_0
    replace cx0_1 := kn.cell0 cx0_1
    replace K := hide ((unhide K).trans kn)
    have z14 := kn.size
    clear kn
    go_wp2_with fail
    generalize w11.alloc (.cells #[.int .i64 y1, .slice ax1 m1 dx1] 28) = wm13 at *
    have mk := ivMatAdd_impl y0 y1 wm13 q0 q1 rx0.read rx1.read (T.kept (unhide K))
    simp only [unhide EB1, unhide EC0, unhide EL0, unhide EH0] at mk
    refine (mk).mono ?_
    rintro e w15 ⟨vg0, rfl, rg0, k15⟩
    replace r0 := r0.kept k15 (.inr (.inr (Nat.le_refl 0)))
    replace r1 := r1.kept k15 (.inr (.inr (Nat.le_refl 0)))
    replace rw0 := rw0.kept k15 (.inr (.inr (Nat.le_refl 0)))
    replace rx0 := rx0.kept k15 (.inr (.inr (Nat.le_refl 0)))
    replace rx1 := rx1.kept k15 (.inr (.inr (Nat.le_refl 0)))
    replace A0_0 := k15.cell0 A0_0
    replace A0_1 := k15.cell0 A0_1
    replace A1_0 := k15.cell0 A1_0
    replace A1_1 := k15.cell0 A1_1
    replace cw0_0 := k15.cell0 cw0_0
    replace cw0_1 := k15.cell0 cw0_1
    replace cx0_0 := k15.cell0 cx0_0
    replace cx0_1 := k15.cell0 cx0_1
    replace cx1_0 := k15.cell0 cx1_0
    replace cx1_1 := k15.cell0 cx1_1
    replace K := hide ((unhide K).trans k15)
    have z16 := k15.size
    clear k15
    clear mk
    obtain ⟨ag0, dg0, hv⟩ := rg0.form'
    subst hv
    have kn := (Kept.refl 0 0 w15).alloc (.cells #[.int .i64 H0, .slice ag0 C0 dg0] 28)
    have cg0_0 : (w15.alloc (.cells #[.int .i64 H0, .slice ag0 C0 dg0] 28)).cell? ⟨w15.heap.size, 0, none⟩ = some (.int .i64 H0) := new_cell2 _ _ _ _ _ _ rfl rfl
    have cg0_1 : (w15.alloc (.cells #[.int .i64 H0, .slice ag0 C0 dg0] 28)).cell? ⟨w15.heap.size, 1, none⟩ = some (.slice ag0 C0 dg0) := new_cell2 _ _ _ _ _ _ rfl rfl
    have t17 : w15.heap.size + 1 ≤ (w15.alloc (.cells #[.int .i64 H0, .slice ag0 C0 dg0] 28)).heap.size := by simp
    replace r0 := r0.kept kn (.inr (.inr (Nat.le_refl 0)))
    replace r1 := r1.kept kn (.inr (.inr (Nat.le_refl 0)))
    replace rw0 := rw0.kept kn (.inr (.inr (Nat.le_refl 0)))
    replace rx0 := rx0.kept kn (.inr (.inr (Nat.le_refl 0)))
    replace rx1 := rx1.kept kn (.inr (.inr (Nat.le_refl 0)))
    replace rg0 := rg0.kept kn (.inr (.inr (Nat.le_refl 0)))
    replace A0_0 := kn.cell0 A0_0
    replace A0_1 := kn.cell0 A0_1
    replace A1_0 := kn.cell0 A1_0
    replace A1_1 := kn.cell0 A1_1
    replace cw0_0 := kn.cell0 cw0_0
    replace cw0_1 := kn.cell0 cw0_1
    replace cx0_0 := kn.cell0 cx0_0
    replace cx0_1 := kn.cell0 cx0_1
    replace cx1_0 := kn.cell0 cx1_0
    replace cx1_1 := kn.cell0 cx1_1
    replace K := hide ((unhide K).trans kn)
    have z18 := kn.size
    clear kn
    go_wp2_with fail
    generalize w15.alloc (.cells #[.int .i64 H0, .slice ag0 C0 dg0] 28) = wm17 at *
    refine (eqIvMat_same (H0) _ rg0.read rw0.read).mono ?_
    rintro e w19 ⟨rfl, k19⟩
    replace r0 := r0.kept k19 (.inr (.inr (Nat.le_refl 0)))
    replace r1 := r1.kept k19 (.inr (.inr (Nat.le_refl 0)))
    replace rw0 := rw0.kept k19 (.inr (.inr (Nat.le_refl 0)))
    replace rx0 := rx0.kept k19 (.inr (.inr (Nat.le_refl 0)))
    replace rx1 := rx1.kept k19 (.inr (.inr (Nat.le_refl 0)))
    replace rg0 := rg0.kept k19 (.inr (.inr (Nat.le_refl 0)))
    replace A0_0 := k19.cell0 A0_0
    replace A0_1 := k19.cell0 A0_1
    replace A1_0 := k19.cell0 A1_0
    replace A1_1 := k19.cell0 A1_1
    replace cw0_0 := k19.cell0 cw0_0
    replace cw0_1 := k19.cell0 cw0_1
    replace cx0_0 := k19.cell0 cx0_0
    replace cx0_1 := k19.cell0 cx0_1
    replace cx1_0 := k19.cell0 cx1_0
    replace cx1_1 := k19.cell0 cx1_1
    replace cg0_0 := k19.cell0 cg0_0
    replace cg0_1 := k19.cell0 cg0_1
    replace K := hide ((unhide K).trans k19)
    have z20 := k19.size
    clear k19
    go_wp2_with fail
    have kd := (Kept.refl 0 0 w19).drew
    replace r0 := r0.kept kd (.inr (.inr (Nat.le_refl 0)))
    replace r1 := r1.kept kd (.inr (.inr (Nat.le_refl 0)))
    replace rw0 := rw0.kept kd (.inr (.inr (Nat.le_refl 0)))
    replace rx0 := rx0.kept kd (.inr (.inr (Nat.le_refl 0)))
    replace rx1 := rx1.kept kd (.inr (.inr (Nat.le_refl 0)))
    replace rg0 := rg0.kept kd (.inr (.inr (Nat.le_refl 0)))
    replace A0_0 := kd.cell0 A0_0
    replace A0_1 := kd.cell0 A0_1
    replace A1_0 := kd.cell0 A1_0
    replace A1_1 := kd.cell0 A1_1
    replace cw0_0 := kd.cell0 cw0_0
    replace cw0_1 := kd.cell0 cw0_1
    replace cx0_0 := kd.cell0 cx0_0
    replace cx0_1 := kd.cell0 cx0_1
    replace cx1_0 := kd.cell0 cx1_0
    replace cx1_1 := kd.cell0 cx1_1
    replace cg0_0 := kd.cell0 cg0_0
    replace cg0_1 := kd.cell0 cg0_1
    replace K := hide ((unhide K).trans kd)
    have z21 := kd.size
    clear kd
    refine wp_region_held_drew (S := (fun w' => w'.cell? ⟨w.heap.size, 0, none⟩ = some (.int .i64 y0) ∧ w'.cell? ⟨w.heap.size, 1, none⟩ = some (.slice a0 m0 c0) ∧ w'.cell? ⟨w7.heap.size, 0, none⟩ = some (.int .i64 y0) ∧ w'.cell? ⟨w7.heap.size, 1, none⟩ = some (.slice ax0 m0 dx0))) (by kernel_rfl) ?_ (fun hHeld => ?_)
    · exact ⟨A0_0, A0_1, cx0_0, cx0_1⟩
    refine wpAnyH_take (i := 0) (oi := _) (v := .agg #[.int .i64 y0, .slice ax0 m0 dx0]) rfl (by kernel_rfl) (by kernel_rfl) (by kernel_rfl) (fun _ _ _ h => h) (Or.inl ⟨by rfl, ?_⟩) hHeld ?_
    · intro wq hSw
      try dsimp only at hSw
      go_simp
    try simp only [Act.put, List.getElem_toArray, List.getElem_cons_succ, List.getElem_cons_zero, List.setIfInBounds_toArray, List.set_cons_zero, List.set_cons_succ]
    refine wpAnyH_take (i := 1) (oi := _) (v := .agg #[.int .i64 y0, .slice a0 m0 c0]) rfl (by kernel_rfl) (by kernel_rfl) (by kernel_rfl) (fun _ _ _ h => h) (Or.inl ⟨by rfl, ?_⟩) hHeld ?_
    · intro wq hSw
      try dsimp only at hSw
      go_simp
    try simp only [Act.put, List.getElem_toArray, List.getElem_cons_succ, List.getElem_cons_zero, List.setIfInBounds_toArray, List.set_cons_zero, List.set_cons_succ]
    refine wpAnyH_ready (rs := [2]) (by kernel_rfl) (by simp) ?_
    refine AllReadyH.cons rfl (fun KK hK => ?_) AllReadyH.nil
    simp only [List.getElem_toArray, List.getElem_cons_succ, List.getElem_cons_zero]
    rw [if_pos (by rfl)]
    refine wps1 12 (.tmp 55) _ rfl in_toX (.agg #[.int .i64 y0, .slice a0 m0 c0]) rfl (toIvMat_own (y0) _ hn0 hl0 r0) ?_
    rintro e w22 ⟨v80, rfl, r80, k22⟩
    refine ⟨_, rfl, ?_⟩
    replace r0 := r0.kept k22 (.inr (.inr (Nat.le_refl 0)))
    replace r1 := r1.kept k22 (.inr (.inr (Nat.le_refl 0)))
    replace rw0 := rw0.kept k22 (.inr (.inr (Nat.le_refl 0)))
    replace rx0 := rx0.kept k22 (.inr (.inr (Nat.le_refl 0)))
    replace rx1 := rx1.kept k22 (.inr (.inr (Nat.le_refl 0)))
    replace rg0 := rg0.kept k22 (.inr (.inr (Nat.le_refl 0)))
    replace A0_0 := k22.cell0 A0_0
    replace A0_1 := k22.cell0 A0_1
    replace A1_0 := k22.cell0 A1_0
    replace A1_1 := k22.cell0 A1_1
    replace cw0_0 := k22.cell0 cw0_0
    replace cw0_1 := k22.cell0 cw0_1
    replace cx0_0 := k22.cell0 cx0_0
    replace cx0_1 := k22.cell0 cx0_1
    replace cx1_0 := k22.cell0 cx1_0
    replace cx1_1 := k22.cell0 cx1_1
    replace cg0_0 := k22.cell0 cg0_0
    replace cg0_1 := k22.cell0 cg0_1
    replace K := hide ((unhide K).trans k22)
    have z23 := k22.size
    clear k22
    clear hHeld
    refine hK.out _ _ ?_ (fun hHeld => ?_)
    · exact ⟨A0_0, A0_1, cx0_0, cx0_1⟩
    clear hK KK
    try simp only [Act.put, List.getElem_toArray, List.getElem_cons_succ, List.getElem_cons_zero, List.setIfInBounds_toArray, List.set_cons_zero, List.set_cons_succ]
    refine wpAnyH_ready (rs := [3]) (by kernel_rfl) (by simp) ?_
    refine AllReadyH.cons rfl (fun KK hK => ?_) AllReadyH.nil
    simp only [List.getElem_toArray, List.getElem_cons_succ, List.getElem_cons_zero]
    rw [if_pos (by rfl)]
    refine wps2 14 (.tmp 54) (.tmp 56) _ rfl in_eqX (.agg #[.int .i64 y0, .slice ax0 m0 dx0]) (.agg #[.int .i64 y0, v80]) rfl rfl (eqIvMat_same (y0) _ rx0.read r80.read) ?_
    rintro e w24 ⟨rfl, k24⟩
    refine ⟨_, rfl, ?_⟩
    replace r0 := r0.kept k24 (.inr (.inr (Nat.le_refl 0)))
    replace r1 := r1.kept k24 (.inr (.inr (Nat.le_refl 0)))
    replace rw0 := rw0.kept k24 (.inr (.inr (Nat.le_refl 0)))
    replace rx0 := rx0.kept k24 (.inr (.inr (Nat.le_refl 0)))
    replace rx1 := rx1.kept k24 (.inr (.inr (Nat.le_refl 0)))
    replace rg0 := rg0.kept k24 (.inr (.inr (Nat.le_refl 0)))
    replace r80 := r80.kept k24 (.inr (.inr (Nat.le_refl 0)))
    replace A0_0 := k24.cell0 A0_0
    replace A0_1 := k24.cell0 A0_1
    replace A1_0 := k24.cell0 A1_0
    replace A1_1 := k24.cell0 A1_1
    replace cw0_0 := k24.cell0 cw0_0
    replace cw0_1 := k24.cell0 cw0_1
    replace cx0_0 := k24.cell0 cx0_0
    replace cx0_1 := k24.cell0 cx0_1
    replace cx1_0 := k24.cell0 cx1_0
    replace cx1_1 := k24.cell0 cx1_1
    replace cg0_0 := k24.cell0 cg0_0
    replace cg0_1 := k24.cell0 cg0_1
    replace K := hide ((unhide K).trans k24)
    have z25 := k24.size
    clear k24
    clear hHeld
    refine hK.out _ _ ?_ (fun hHeld => ?_)
    · exact ⟨A0_0, A0_1, cx0_0, cx0_1⟩
    clear hK KK
    try simp only [Act.put, List.getElem_toArray, List.getElem_cons_succ, List.getElem_cons_zero, List.setIfInBounds_toArray, List.set_cons_zero, List.set_cons_succ]
    refine wpAnyH_take (i := 4) (oi := _) (v := .bool false) rfl (by kernel_rfl) (by kernel_rfl) (by kernel_rfl) (fun _ _ _ h => h) (Or.inl ⟨by rfl, ?_⟩) hHeld ?_
    · intro wq hSw
      try dsimp only at hSw
      go_simp
    try simp only [Act.put, List.getElem_toArray, List.getElem_cons_succ, List.getElem_cons_zero, List.setIfInBounds_toArray, List.set_cons_zero, List.set_cons_succ]
    refine wpAnyH_done (by kernel_rfl) ?_ _
    clear hHeld
    clear r80
    go_wp2_with fail
    have kd := (Kept.refl 0 0 w24).drew
    replace r0 := r0.kept kd (.inr (.inr (Nat.le_refl 0)))
    replace r1 := r1.kept kd (.inr (.inr (Nat.le_refl 0)))
    replace rw0 := rw0.kept kd (.inr (.inr (Nat.le_refl 0)))
    replace rx0 := rx0.kept kd (.inr (.inr (Nat.le_refl 0)))
    replace rx1 := rx1.kept kd (.inr (.inr (Nat.le_refl 0)))
    replace rg0 := rg0.kept kd (.inr (.inr (Nat.le_refl 0)))
    replace A0_0 := kd.cell0 A0_0
    replace A0_1 := kd.cell0 A0_1
    replace A1_0 := kd.cell0 A1_0
    replace A1_1 := kd.cell0 A1_1
    replace cw0_0 := kd.cell0 cw0_0
    replace cw0_1 := kd.cell0 cw0_1
    replace cx0_0 := kd.cell0 cx0_0
    replace cx0_1 := kd.cell0 cx0_1
    replace cx1_0 := kd.cell0 cx1_0
    replace cx1_1 := kd.cell0 cx1_1
    replace cg0_0 := kd.cell0 cg0_0
    replace cg0_1 := kd.cell0 cg0_1
    replace K := hide ((unhide K).trans kd)
    have z26 := kd.size
    clear kd
    refine wp_region_held_drew (S := (fun w' => w'.cell? ⟨w.heap.size + 1, 0, none⟩ = some (.int .i64 y1) ∧ w'.cell? ⟨w.heap.size + 1, 1, none⟩ = some (.slice a1 m1 c1) ∧ w'.cell? ⟨w11.heap.size, 0, none⟩ = some (.int .i64 y1) ∧ w'.cell? ⟨w11.heap.size, 1, none⟩ = some (.slice ax1 m1 dx1))) (by kernel_rfl) ?_ (fun hHeld => ?_)
    · exact ⟨A1_0, A1_1, cx1_0, cx1_1⟩
    refine wpAnyH_take (i := 0) (oi := _) (v := .agg #[.int .i64 y1, .slice ax1 m1 dx1]) rfl (by kernel_rfl) (by kernel_rfl) (by kernel_rfl) (fun _ _ _ h => h) (Or.inl ⟨by rfl, ?_⟩) hHeld ?_
    · intro wq hSw
      try dsimp only at hSw
      go_simp
    try simp only [Act.put, List.getElem_toArray, List.getElem_cons_succ, List.getElem_cons_zero, List.setIfInBounds_toArray, List.set_cons_zero, List.set_cons_succ]
    refine wpAnyH_take (i := 1) (oi := _) (v := .agg #[.int .i64 y1, .slice a1 m1 c1]) rfl (by kernel_rfl) (by kernel_rfl) (by kernel_rfl) (fun _ _ _ h => h) (Or.inl ⟨by rfl, ?_⟩) hHeld ?_
    · intro wq hSw
      try dsimp only at hSw
      go_simp
    try simp only [Act.put, List.getElem_toArray, List.getElem_cons_succ, List.getElem_cons_zero, List.setIfInBounds_toArray, List.set_cons_zero, List.set_cons_succ]
    refine wpAnyH_ready (rs := [2]) (by kernel_rfl) (by simp) ?_
    refine AllReadyH.cons rfl (fun KK hK => ?_) AllReadyH.nil
    simp only [List.getElem_toArray, List.getElem_cons_succ, List.getElem_cons_zero]
    rw [if_pos (by rfl)]
    refine wps1 12 (.tmp 60) _ rfl in_toX (.agg #[.int .i64 y1, .slice a1 m1 c1]) rfl (toIvMat_own (y1) _ hn1 hl1 r1) ?_
    rintro e w27 ⟨v81, rfl, r81, k27⟩
    refine ⟨_, rfl, ?_⟩
    replace r0 := r0.kept k27 (.inr (.inr (Nat.le_refl 0)))
    replace r1 := r1.kept k27 (.inr (.inr (Nat.le_refl 0)))
    replace rw0 := rw0.kept k27 (.inr (.inr (Nat.le_refl 0)))
    replace rx0 := rx0.kept k27 (.inr (.inr (Nat.le_refl 0)))
    replace rx1 := rx1.kept k27 (.inr (.inr (Nat.le_refl 0)))
    replace rg0 := rg0.kept k27 (.inr (.inr (Nat.le_refl 0)))
    replace A0_0 := k27.cell0 A0_0
    replace A0_1 := k27.cell0 A0_1
    replace A1_0 := k27.cell0 A1_0
    replace A1_1 := k27.cell0 A1_1
    replace cw0_0 := k27.cell0 cw0_0
    replace cw0_1 := k27.cell0 cw0_1
    replace cx0_0 := k27.cell0 cx0_0
    replace cx0_1 := k27.cell0 cx0_1
    replace cx1_0 := k27.cell0 cx1_0
    replace cx1_1 := k27.cell0 cx1_1
    replace cg0_0 := k27.cell0 cg0_0
    replace cg0_1 := k27.cell0 cg0_1
    replace K := hide ((unhide K).trans k27)
    have z28 := k27.size
    clear k27
    clear hHeld
    refine hK.out _ _ ?_ (fun hHeld => ?_)
    · exact ⟨A1_0, A1_1, cx1_0, cx1_1⟩
    clear hK KK
    try simp only [Act.put, List.getElem_toArray, List.getElem_cons_succ, List.getElem_cons_zero, List.setIfInBounds_toArray, List.set_cons_zero, List.set_cons_succ]
    refine wpAnyH_ready (rs := [3]) (by kernel_rfl) (by simp) ?_
    refine AllReadyH.cons rfl (fun KK hK => ?_) AllReadyH.nil
    simp only [List.getElem_toArray, List.getElem_cons_succ, List.getElem_cons_zero]
    rw [if_pos (by rfl)]
    refine wps2 14 (.tmp 59) (.tmp 61) _ rfl in_eqX (.agg #[.int .i64 y1, .slice ax1 m1 dx1]) (.agg #[.int .i64 y1, v81]) rfl rfl (eqIvMat_same (y1) _ rx1.read r81.read) ?_
    rintro e w29 ⟨rfl, k29⟩
    refine ⟨_, rfl, ?_⟩
    replace r0 := r0.kept k29 (.inr (.inr (Nat.le_refl 0)))
    replace r1 := r1.kept k29 (.inr (.inr (Nat.le_refl 0)))
    replace rw0 := rw0.kept k29 (.inr (.inr (Nat.le_refl 0)))
    replace rx0 := rx0.kept k29 (.inr (.inr (Nat.le_refl 0)))
    replace rx1 := rx1.kept k29 (.inr (.inr (Nat.le_refl 0)))
    replace rg0 := rg0.kept k29 (.inr (.inr (Nat.le_refl 0)))
    replace r81 := r81.kept k29 (.inr (.inr (Nat.le_refl 0)))
    replace A0_0 := k29.cell0 A0_0
    replace A0_1 := k29.cell0 A0_1
    replace A1_0 := k29.cell0 A1_0
    replace A1_1 := k29.cell0 A1_1
    replace cw0_0 := k29.cell0 cw0_0
    replace cw0_1 := k29.cell0 cw0_1
    replace cx0_0 := k29.cell0 cx0_0
    replace cx0_1 := k29.cell0 cx0_1
    replace cx1_0 := k29.cell0 cx1_0
    replace cx1_1 := k29.cell0 cx1_1
    replace cg0_0 := k29.cell0 cg0_0
    replace cg0_1 := k29.cell0 cg0_1
    replace K := hide ((unhide K).trans k29)
    have z30 := k29.size
    clear k29
    clear hHeld
    refine hK.out _ _ ?_ (fun hHeld => ?_)
    · exact ⟨A1_0, A1_1, cx1_0, cx1_1⟩
    clear hK KK
    try simp only [Act.put, List.getElem_toArray, List.getElem_cons_succ, List.getElem_cons_zero, List.setIfInBounds_toArray, List.set_cons_zero, List.set_cons_succ]
    refine wpAnyH_take (i := 4) (oi := _) (v := .bool false) rfl (by kernel_rfl) (by kernel_rfl) (by kernel_rfl) (fun _ _ _ h => h) (Or.inl ⟨by rfl, ?_⟩) hHeld ?_
    · intro wq hSw
      try dsimp only at hSw
      go_simp
    try simp only [Act.put, List.getElem_toArray, List.getElem_cons_succ, List.getElem_cons_zero, List.setIfInBounds_toArray, List.set_cons_zero, List.set_cons_succ]
    refine wpAnyH_done (by kernel_rfl) ?_ _
    clear hHeld
    clear r81
    have S0' := unhide S0
    go_wp2_with fail
    refine (markIvMat_wide (y0) _ (1) (by omega) (by omega) (by omega) rx0).mono ?_
    rintro e w31 ⟨rfl, -, k31⟩
    replace r0 := r0.kept k31 (by omega)
    replace r1 := r1.kept k31 (by omega)
    replace rw0 := rw0.kept k31 (by omega)
    replace rx1 := rx1.kept k31 (by omega)
    replace rg0 := rg0.kept k31 (by omega)
    replace A0_0 := k31.cellOut (by dsimp only; omega) A0_0
    replace A0_1 := k31.cellOut (by dsimp only; omega) A0_1
    replace A1_0 := k31.cellOut (by dsimp only; omega) A1_0
    replace A1_1 := k31.cellOut (by dsimp only; omega) A1_1
    replace cw0_0 := k31.cellOut (by dsimp only; omega) cw0_0
    replace cw0_1 := k31.cellOut (by dsimp only; omega) cw0_1
    replace cx0_0 := k31.cellOut (by dsimp only; omega) cx0_0
    replace cx0_1 := k31.cellOut (by dsimp only; omega) cx0_1
    replace cx1_0 := k31.cellOut (by dsimp only; omega) cx1_0
    replace cx1_1 := k31.cellOut (by dsimp only; omega) cx1_1
    replace cg0_0 := k31.cellOut (by dsimp only; omega) cg0_0
    replace cg0_1 := k31.cellOut (by dsimp only; omega) cg0_1
    replace K := hide ((unhide K).wide k31 (by omega))
    have z31 := k31.size
    clear k31 rx0
    have kg0 := kAt_ge z0 (1) z0.length (by omega)
    have kh0 := kAt_le z0 (1)
    go_wp2_with fail
    refine (markIvMat_wide (y1) _ ((kAt z0 (1) z0.length)) (by omega) (by omega) (by omega) rx1).mono ?_
    rintro e w32 ⟨rfl, -, k32⟩
    replace r0 := r0.kept k32 (by omega)
    replace r1 := r1.kept k32 (by omega)
    replace rw0 := rw0.kept k32 (by omega)
    replace rg0 := rg0.kept k32 (by omega)
    replace A0_0 := k32.cellOut (by dsimp only; omega) A0_0
    replace A0_1 := k32.cellOut (by dsimp only; omega) A0_1
    replace A1_0 := k32.cellOut (by dsimp only; omega) A1_0
    replace A1_1 := k32.cellOut (by dsimp only; omega) A1_1
    replace cw0_0 := k32.cellOut (by dsimp only; omega) cw0_0
    replace cw0_1 := k32.cellOut (by dsimp only; omega) cw0_1
    replace cx0_0 := k32.cellOut (by dsimp only; omega) cx0_0
    replace cx0_1 := k32.cellOut (by dsimp only; omega) cx0_1
    replace cx1_0 := k32.cellOut (by dsimp only; omega) cx1_0
    replace cx1_1 := k32.cellOut (by dsimp only; omega) cx1_1
    replace cg0_0 := k32.cellOut (by dsimp only; omega) cg0_0
    replace cg0_1 := k32.cellOut (by dsimp only; omega) cg0_1
    replace K := hide ((unhide K).wide k32 (by omega))
    have z32 := k32.size
    clear k32 rx1
    have kg1 := kAt_ge z1 ((kAt z0 (1) z0.length)) z1.length (by omega)
    have kh1 := kAt_le z1 ((kAt z0 (1) z0.length))
    have nk : ¬ (kAt z1 ((kAt z0 (1) z0.length)) z1.length) < 0 := by omega
    go_wp2_with fail
    refine (eqIvMat_same (H0) _ rg0.read rw0.read).mono ?_
    rintro e w33 ⟨rfl, k33⟩
    replace r0 := r0.kept k33 (.inr (.inr (Nat.le_refl 0)))
    replace r1 := r1.kept k33 (.inr (.inr (Nat.le_refl 0)))
    replace rw0 := rw0.kept k33 (.inr (.inr (Nat.le_refl 0)))
    replace rg0 := rg0.kept k33 (.inr (.inr (Nat.le_refl 0)))
    replace A0_0 := k33.cell0 A0_0
    replace A0_1 := k33.cell0 A0_1
    replace A1_0 := k33.cell0 A1_0
    replace A1_1 := k33.cell0 A1_1
    replace cw0_0 := k33.cell0 cw0_0
    replace cw0_1 := k33.cell0 cw0_1
    replace cx0_0 := k33.cell0 cx0_0
    replace cx0_1 := k33.cell0 cx0_1
    replace cx1_0 := k33.cell0 cx1_0
    replace cx1_1 := k33.cell0 cx1_1
    replace cg0_0 := k33.cell0 cg0_0
    replace cg0_1 := k33.cell0 cg0_1
    replace K := hide ((unhide K).trans k33)
    have z34 := k33.size
    clear k33
    go_wp2_with fail
    refine (markIvMat_wide (H0) _ (1) (by omega) (by omega) (by omega) rg0).mono ?_
    rintro e w35 ⟨rfl, rm0, k35⟩
    replace r0 := r0.kept k35 (by omega)
    replace r1 := r1.kept k35 (by omega)
    replace rw0 := rw0.kept k35 (by omega)
    replace A0_0 := k35.cellOut (by dsimp only; omega) A0_0
    replace A0_1 := k35.cellOut (by dsimp only; omega) A0_1
    replace A1_0 := k35.cellOut (by dsimp only; omega) A1_0
    replace A1_1 := k35.cellOut (by dsimp only; omega) A1_1
    replace cw0_0 := k35.cellOut (by dsimp only; omega) cw0_0
    replace cw0_1 := k35.cellOut (by dsimp only; omega) cw0_1
    replace cx0_0 := k35.cellOut (by dsimp only; omega) cx0_0
    replace cx0_1 := k35.cellOut (by dsimp only; omega) cx0_1
    replace cx1_0 := k35.cellOut (by dsimp only; omega) cx1_0
    replace cx1_1 := k35.cellOut (by dsimp only; omega) cx1_1
    replace cg0_0 := k35.cellOut (by dsimp only; omega) cg0_0
    replace cg0_1 := k35.cellOut (by dsimp only; omega) cg0_1
    replace K := hide ((unhide K).wide k35 (by omega))
    have z35 := k35.size
    clear k35 rg0
    go_wp2_with fail
    refine (heldIvMat_any (H0) _ (1) (by omega) (by omega) (by omega) rm0.read).mono ?_
    rintro e w36 ⟨rfl, k36⟩
    replace r0 := r0.kept k36 (.inr (.inr (Nat.le_refl 0)))
    replace r1 := r1.kept k36 (.inr (.inr (Nat.le_refl 0)))
    replace rw0 := rw0.kept k36 (.inr (.inr (Nat.le_refl 0)))
    replace rm0 := rm0.kept k36 (.inr (.inr (Nat.le_refl 0)))
    replace A0_0 := k36.cell0 A0_0
    replace A0_1 := k36.cell0 A0_1
    replace A1_0 := k36.cell0 A1_0
    replace A1_1 := k36.cell0 A1_1
    replace cw0_0 := k36.cell0 cw0_0
    replace cw0_1 := k36.cell0 cw0_1
    replace cx0_0 := k36.cell0 cx0_0
    replace cx0_1 := k36.cell0 cx0_1
    replace cx1_0 := k36.cell0 cx1_0
    replace cx1_1 := k36.cell0 cx1_1
    replace cg0_0 := k36.cell0 cg0_0
    replace cg0_1 := k36.cell0 cg0_1
    replace K := hide ((unhide K).trans k36)
    have z37 := k36.size
    clear k36
    have nq037 : ¬ kAt L0 (1) L0.length < 0 := by omega
    go_upto_region 31 with fail
    go_cut [15, 16] (fun q0 q1 wx => ∃ X0 v0, q0 = .pointer (some ⟨X0, 0, none⟩) ∧ q1 = .bool B1 ∧ wx.cell? ⟨X0, 0, none⟩ = some (.int .i64 H0) ∧ wx.cell? ⟨X0, 1, none⟩ = some (v0) ∧ IvsO w36.heap.size wx.heap.size wx v0 L0 C0 ∧ w36.heap.size ≤ X0 ∧ X0 < wx.heap.size ∧ Kept 0 0 w36 wx)
    case first =>
      have kw := Kept.refl 0 0 w36
      have kd := (Kept.refl 0 0 w36).drew
      replace r0 := r0.kept kd (.inr (.inr (Nat.le_refl 0)))
      replace r1 := r1.kept kd (.inr (.inr (Nat.le_refl 0)))
      replace rw0 := rw0.kept kd (.inr (.inr (Nat.le_refl 0)))
      replace rm0 := rm0.kept kd (.inr (.inr (Nat.le_refl 0)))
      replace kw := kw.trans kd
      replace A0_0 := kd.cell0 A0_0
      replace A0_1 := kd.cell0 A0_1
      replace A1_0 := kd.cell0 A1_0
      replace A1_1 := kd.cell0 A1_1
      replace cw0_0 := kd.cell0 cw0_0
      replace cw0_1 := kd.cell0 cw0_1
      replace cx0_0 := kd.cell0 cx0_0
      replace cx0_1 := kd.cell0 cx0_1
      replace cx1_0 := kd.cell0 cx1_0
      replace cx1_1 := kd.cell0 cx1_1
      replace cg0_0 := kd.cell0 cg0_0
      replace cg0_1 := kd.cell0 cg0_1
      replace K := hide ((unhide K).trans kd)
      have z38 := kd.size
      clear kd
      refine wp_region_held_drew (S := (fun w' => w'.cell? ⟨w.heap.size, 0, none⟩ = some (.int .i64 y0) ∧ w'.cell? ⟨w.heap.size, 1, none⟩ = some (.slice a0 m0 c0) ∧ w'.cell? ⟨w.heap.size + 1, 0, none⟩ = some (.int .i64 y1) ∧ w'.cell? ⟨w.heap.size + 1, 1, none⟩ = some (.slice a1 m1 c1))) (by kernel_rfl) ?_ (fun hHeld => ?_)
      · exact ⟨A0_0, A0_1, A1_0, A1_1⟩
      generalize w36.drew = wd at *
      refine wpAnyH_take (i := 0) (oi := _) (v := .agg #[.int .i64 y0, .slice a0 m0 c0]) rfl (by kernel_rfl) (by kernel_rfl) (by kernel_rfl) (fun _ _ _ h => h) (Or.inl ⟨by rfl, ?_⟩) hHeld ?_
      · intro wq hSw
        try dsimp only at hSw
        go_simp
      try simp only [Act.put, List.getElem_toArray, List.getElem_cons_succ, List.getElem_cons_zero, List.setIfInBounds_toArray, List.set_cons_zero, List.set_cons_succ]
      refine wpAnyH_take (i := 2) (oi := _) (v := .agg #[.int .i64 y1, .slice a1 m1 c1]) rfl (by kernel_rfl) (by kernel_rfl) (by kernel_rfl) (fun _ _ _ h => h) (Or.inl ⟨by rfl, ?_⟩) hHeld ?_
      · intro wq hSw
        try dsimp only at hSw
        go_simp
      try simp only [Act.put, List.getElem_toArray, List.getElem_cons_succ, List.getElem_cons_zero, List.setIfInBounds_toArray, List.set_cons_zero, List.set_cons_succ]
      refine wpAnyH_ready (rs := [1, 8]) (by kernel_rfl) (by simp) ?_
      refine AllReadyH.cons rfl (fun KK hK => ?_) (AllReadyH.cons rfl (fun KK hK => ?_) AllReadyH.nil)
      · simp only [List.getElem_toArray, List.getElem_cons_succ, List.getElem_cons_zero]
        rw [if_pos (by rfl)]
        refine wps1 12 (.tmp 95) _ rfl in_toX (.agg #[.int .i64 y0, .slice a0 m0 c0]) rfl (toIvMat_own (y0) _ hn0 hl0 r0) ?_
        rintro e w39 ⟨v70, rfl, r70, k39⟩
        refine ⟨_, rfl, ?_⟩
        replace r0 := r0.kept k39 (.inr (.inr (Nat.le_refl 0)))
        replace r1 := r1.kept k39 (.inr (.inr (Nat.le_refl 0)))
        replace rw0 := rw0.kept k39 (.inr (.inr (Nat.le_refl 0)))
        replace rm0 := rm0.kept k39 (.inr (.inr (Nat.le_refl 0)))
        replace kw := kw.trans k39
        replace A0_0 := k39.cell0 A0_0
        replace A0_1 := k39.cell0 A0_1
        replace A1_0 := k39.cell0 A1_0
        replace A1_1 := k39.cell0 A1_1
        replace cw0_0 := k39.cell0 cw0_0
        replace cw0_1 := k39.cell0 cw0_1
        replace cx0_0 := k39.cell0 cx0_0
        replace cx0_1 := k39.cell0 cx0_1
        replace cx1_0 := k39.cell0 cx1_0
        replace cx1_1 := k39.cell0 cx1_1
        replace cg0_0 := k39.cell0 cg0_0
        replace cg0_1 := k39.cell0 cg0_1
        replace K := hide ((unhide K).trans k39)
        have z40 := k39.size
        clear k39
        clear hHeld
        refine hK.out _ _ ?_ (fun hHeld => ?_)
        · exact ⟨A0_0, A0_1, A1_0, A1_1⟩
        clear hK KK
        try simp only [Act.put, List.getElem_toArray, List.getElem_cons_succ, List.getElem_cons_zero, List.setIfInBounds_toArray, List.set_cons_zero, List.set_cons_succ]
        refine wpAnyH_ready (rs := [3, 8]) (by kernel_rfl) (by simp) ?_
        refine AllReadyH.cons rfl (fun KK hK => ?_) (AllReadyH.cons rfl (fun KK hK => ?_) AllReadyH.nil)
        · simp only [List.getElem_toArray, List.getElem_cons_succ, List.getElem_cons_zero]
          rw [if_pos (by rfl)]
          refine wps1 12 (.tmp 97) _ rfl in_toX (.agg #[.int .i64 y1, .slice a1 m1 c1]) rfl (toIvMat_own (y1) _ hn1 hl1 r1) ?_
          rintro e w41 ⟨v71, rfl, r71, k41⟩
          refine ⟨_, rfl, ?_⟩
          replace r0 := r0.kept k41 (.inr (.inr (Nat.le_refl 0)))
          replace r1 := r1.kept k41 (.inr (.inr (Nat.le_refl 0)))
          replace rw0 := rw0.kept k41 (.inr (.inr (Nat.le_refl 0)))
          replace rm0 := rm0.kept k41 (.inr (.inr (Nat.le_refl 0)))
          replace r70 := r70.kept k41 (.inr (.inr (Nat.le_refl 0)))
          replace kw := kw.trans k41
          replace A0_0 := k41.cell0 A0_0
          replace A0_1 := k41.cell0 A0_1
          replace A1_0 := k41.cell0 A1_0
          replace A1_1 := k41.cell0 A1_1
          replace cw0_0 := k41.cell0 cw0_0
          replace cw0_1 := k41.cell0 cw0_1
          replace cx0_0 := k41.cell0 cx0_0
          replace cx0_1 := k41.cell0 cx0_1
          replace cx1_0 := k41.cell0 cx1_0
          replace cx1_1 := k41.cell0 cx1_1
          replace cg0_0 := k41.cell0 cg0_0
          replace cg0_1 := k41.cell0 cg0_1
          replace K := hide ((unhide K).trans k41)
          have z42 := k41.size
          clear k41
          clear hHeld
          refine hK.out _ _ ?_ (fun hHeld => ?_)
          · exact ⟨A0_0, A0_1, A1_0, A1_1⟩
          clear hK KK
          try simp only [Act.put, List.getElem_toArray, List.getElem_cons_succ, List.getElem_cons_zero, List.setIfInBounds_toArray, List.set_cons_zero, List.set_cons_succ]
          refine wpAnyH_ready (rs := [4, 8]) (by kernel_rfl) (by simp) ?_
          refine AllReadyH.cons rfl (fun KK hK => ?_) (AllReadyH.cons rfl (fun KK hK => ?_) AllReadyH.nil)
          · simp only [List.getElem_toArray, List.getElem_cons_succ, List.getElem_cons_zero]
            rw [if_pos (by rfl)]
            have mk := ivMatAdd_impl y0 y1 w41 q0 q1 r70.read r71.read (T.kept (unhide K))
            simp only [unhide EB1, unhide EC0, unhide EL0, unhide EH0] at mk
            refine wps2 13 (.tmp 96) (.tmp 98) _ rfl in_impl_IvMatAdd (.agg #[.int .i64 y0, v70]) (.agg #[.int .i64 y1, v71]) rfl rfl mk ?_
            rintro e w43 ⟨v90, rfl, r90, k43⟩
            refine ⟨_, rfl, ?_⟩
            clear mk
            replace r0 := r0.kept k43 (.inr (.inr (Nat.le_refl 0)))
            replace r1 := r1.kept k43 (.inr (.inr (Nat.le_refl 0)))
            replace rw0 := rw0.kept k43 (.inr (.inr (Nat.le_refl 0)))
            replace rm0 := rm0.kept k43 (.inr (.inr (Nat.le_refl 0)))
            replace r70 := r70.kept k43 (.inr (.inr (Nat.le_refl 0)))
            replace r71 := r71.kept k43 (.inr (.inr (Nat.le_refl 0)))
            replace kw := kw.trans k43
            replace A0_0 := k43.cell0 A0_0
            replace A0_1 := k43.cell0 A0_1
            replace A1_0 := k43.cell0 A1_0
            replace A1_1 := k43.cell0 A1_1
            replace cw0_0 := k43.cell0 cw0_0
            replace cw0_1 := k43.cell0 cw0_1
            replace cx0_0 := k43.cell0 cx0_0
            replace cx0_1 := k43.cell0 cx0_1
            replace cx1_0 := k43.cell0 cx1_0
            replace cx1_1 := k43.cell0 cx1_1
            replace cg0_0 := k43.cell0 cg0_0
            replace cg0_1 := k43.cell0 cg0_1
            replace K := hide ((unhide K).trans k43)
            have z44 := k43.size
            obtain ⟨a90, d90, hv⟩ := r90.form'
            subst hv
            clear k43
            clear hHeld
            refine hK.out _ _ ?_ (fun hHeld => ?_)
            · exact ⟨A0_0, A0_1, A1_0, A1_1⟩
            clear hK KK
            try simp only [Act.put, List.getElem_toArray, List.getElem_cons_succ, List.getElem_cons_zero, List.setIfInBounds_toArray, List.set_cons_zero, List.set_cons_succ]
            refine wpAnyH_take (i := 5) (oi := _) (v := .tuple #[.agg #[.int .i64 H0, .slice a90 C0 d90], .bool B1]) rfl (by kernel_rfl) (by kernel_rfl) (by kernel_rfl) (fun _ _ _ h => h) (Or.inl ⟨by rfl, ?_⟩) hHeld ?_
            · intro wq hSw
              try dsimp only at hSw
              go_simp
            try simp only [Act.put, List.getElem_toArray, List.getElem_cons_succ, List.getElem_cons_zero, List.setIfInBounds_toArray, List.set_cons_zero, List.set_cons_succ]
            refine wpAnyH_take (i := 6) (oi := _) (v := .agg #[.int .i64 H0, .slice a90 C0 d90]) rfl (by kernel_rfl) (by kernel_rfl) (by kernel_rfl) (fun _ _ _ h => h) (Or.inl ⟨by rfl, ?_⟩) hHeld ?_
            · intro wq hSw
              try dsimp only at hSw
              go_simp
            try simp only [Act.put, List.getElem_toArray, List.getElem_cons_succ, List.getElem_cons_zero, List.setIfInBounds_toArray, List.set_cons_zero, List.set_cons_succ]
            refine wpAnyH_take (i := 7) (oi := _) (v := .bool B1) rfl (by kernel_rfl) (by kernel_rfl) (by kernel_rfl) (fun _ _ _ h => h) (Or.inl ⟨by rfl, ?_⟩) hHeld ?_
            · intro wq hSw
              try dsimp only at hSw
              go_simp
            try simp only [Act.put, List.getElem_toArray, List.getElem_cons_succ, List.getElem_cons_zero, List.setIfInBounds_toArray, List.set_cons_zero, List.set_cons_succ]
            refine wpAnyH_ready (rs := [8]) (by kernel_rfl) (by simp) ?_
            refine AllReadyH.cons rfl (fun KK hK => ?_) AllReadyH.nil
            · simp only [List.getElem_toArray, List.getElem_cons_succ, List.getElem_cons_zero]
              rw [if_pos (by rfl)]
              go_simp
              have kn := (Kept.refl 0 0 w43).alloc (.cells #[.int .i64 0, .slice none 0 0] 28)
              replace r0 := r0.kept kn (.inr (.inr (Nat.le_refl 0)))
              replace r1 := r1.kept kn (.inr (.inr (Nat.le_refl 0)))
              replace rw0 := rw0.kept kn (.inr (.inr (Nat.le_refl 0)))
              replace rm0 := rm0.kept kn (.inr (.inr (Nat.le_refl 0)))
              replace r70 := r70.kept kn (.inr (.inr (Nat.le_refl 0)))
              replace r71 := r71.kept kn (.inr (.inr (Nat.le_refl 0)))
              replace r90 := r90.kept kn (.inr (.inr (Nat.le_refl 0)))
              replace kw := kw.trans kn
              replace A0_0 := kn.cell0 A0_0
              replace A0_1 := kn.cell0 A0_1
              replace A1_0 := kn.cell0 A1_0
              replace A1_1 := kn.cell0 A1_1
              replace cw0_0 := kn.cell0 cw0_0
              replace cw0_1 := kn.cell0 cw0_1
              replace cx0_0 := kn.cell0 cx0_0
              replace cx0_1 := kn.cell0 cx0_1
              replace cx1_0 := kn.cell0 cx1_0
              replace cx1_1 := kn.cell0 cx1_1
              replace cg0_0 := kn.cell0 cg0_0
              replace cg0_1 := kn.cell0 cg0_1
              replace K := hide ((unhide K).trans kn)
              have z46 := kn.size
              clear kn
              have szx0_ : w43.heap.size < (w43.alloc (.cells #[.int .i64 0, .slice none 0 0] 28)).heap.size := by simp
              have x0_0 : (w43.alloc (.cells #[.int .i64 0, .slice none 0 0] 28)).cell? ⟨w43.heap.size, 0, none⟩ = some (.int .i64 0) := new_cell2 _ _ _ _ _ _ rfl rfl
              have x0_f0 : (w43.alloc (.cells #[.int .i64 0, .slice none 0 0] 28)).frozen? ⟨w43.heap.size, 0, none⟩ = false := new_loose2 _ _ _ _ _ rfl
              have x0_1 : (w43.alloc (.cells #[.int .i64 0, .slice none 0 0] 28)).cell? ⟨w43.heap.size, 1, none⟩ = some (.slice none 0 0) := new_cell2 _ _ _ _ _ _ rfl rfl
              have x0_f1 : (w43.alloc (.cells #[.int .i64 0, .slice none 0 0] 28)).frozen? ⟨w43.heap.size, 1, none⟩ = false := new_loose2 _ _ _ _ _ rfl
              clear hHeld
              refine hK.out _ _ ?_ (fun hHeld => ?_)
              · exact ⟨A0_0, A0_1, A1_0, A1_1⟩
              clear hK KK
              try simp only [Act.put, List.getElem_toArray, List.getElem_cons_succ, List.getElem_cons_zero, List.setIfInBounds_toArray, List.set_cons_zero, List.set_cons_succ]
              generalize w43.alloc (.cells #[.int .i64 0, .slice none 0 0] 28) = w45 at *
              refine wpAnyH_ready (rs := [9]) (by kernel_rfl) (by simp) ?_
              refine AllReadyH.cons rfl (fun KK hK => ?_) AllReadyH.nil
              simp only [List.getElem_toArray, List.getElem_cons_succ, List.getElem_cons_zero]
              rw [if_pos (by rfl)]
              go_simp
              clear hHeld
              refine hK.out _ _ ?_ (fun hHeld => ?_)
              · exact ⟨(cell_aside _ (by have := unhide S0; dsimp only; omega) (cell_aside _ (by have := unhide S0; dsimp only; omega) A0_0)), (cell_aside _ (by have := unhide S0; dsimp only; omega) (cell_aside _ (by have := unhide S0; dsimp only; omega) A0_1)), (cell_aside _ (by have := unhide S0; dsimp only; omega) (cell_aside _ (by have := unhide S0; dsimp only; omega) A1_0)), (cell_aside _ (by have := unhide S0; dsimp only; omega) (cell_aside _ (by have := unhide S0; dsimp only; omega) A1_1))⟩
              clear hK KK
              try simp only [Act.put, List.getElem_toArray, List.getElem_cons_succ, List.getElem_cons_zero, List.setIfInBounds_toArray, List.set_cons_zero, List.set_cons_succ]
              refine wpAnyH_take (i := 10) (oi := _) (v := .bool B1) rfl (by kernel_rfl) (by kernel_rfl) (by kernel_rfl) (fun _ _ _ h => h) (Or.inl ⟨by rfl, ?_⟩) hHeld ?_
              · intro wq hSw
                try dsimp only at hSw
                go_simp
              try simp only [Act.put, List.getElem_toArray, List.getElem_cons_succ, List.getElem_cons_zero, List.setIfInBounds_toArray, List.set_cons_zero, List.set_cons_succ]
              refine wpAnyH_done (by kernel_rfl) ?_ _
              clear hHeld
              go_wp2_with fail
              go_meet
              exact ⟨_, _, rfl, rfl, law_setX H0 kw x0_0 x0_1 r90 (by omega) (by omega) (by omega) (by omega)⟩
          · simp only [List.getElem_toArray, List.getElem_cons_succ, List.getElem_cons_zero]
            rw [if_pos (by rfl)]
            go_simp
            have kn := (Kept.refl 0 0 w41).alloc (.cells #[.int .i64 0, .slice none 0 0] 28)
            replace r0 := r0.kept kn (.inr (.inr (Nat.le_refl 0)))
            replace r1 := r1.kept kn (.inr (.inr (Nat.le_refl 0)))
            replace rw0 := rw0.kept kn (.inr (.inr (Nat.le_refl 0)))
            replace rm0 := rm0.kept kn (.inr (.inr (Nat.le_refl 0)))
            replace r70 := r70.kept kn (.inr (.inr (Nat.le_refl 0)))
            replace r71 := r71.kept kn (.inr (.inr (Nat.le_refl 0)))
            replace kw := kw.trans kn
            replace A0_0 := kn.cell0 A0_0
            replace A0_1 := kn.cell0 A0_1
            replace A1_0 := kn.cell0 A1_0
            replace A1_1 := kn.cell0 A1_1
            replace cw0_0 := kn.cell0 cw0_0
            replace cw0_1 := kn.cell0 cw0_1
            replace cx0_0 := kn.cell0 cx0_0
            replace cx0_1 := kn.cell0 cx0_1
            replace cx1_0 := kn.cell0 cx1_0
            replace cx1_1 := kn.cell0 cx1_1
            replace cg0_0 := kn.cell0 cg0_0
            replace cg0_1 := kn.cell0 cg0_1
            replace K := hide ((unhide K).trans kn)
            have z44 := kn.size
            clear kn
            have szx0_ : w41.heap.size < (w41.alloc (.cells #[.int .i64 0, .slice none 0 0] 28)).heap.size := by simp
            have x0_0 : (w41.alloc (.cells #[.int .i64 0, .slice none 0 0] 28)).cell? ⟨w41.heap.size, 0, none⟩ = some (.int .i64 0) := new_cell2 _ _ _ _ _ _ rfl rfl
            have x0_f0 : (w41.alloc (.cells #[.int .i64 0, .slice none 0 0] 28)).frozen? ⟨w41.heap.size, 0, none⟩ = false := new_loose2 _ _ _ _ _ rfl
            have x0_1 : (w41.alloc (.cells #[.int .i64 0, .slice none 0 0] 28)).cell? ⟨w41.heap.size, 1, none⟩ = some (.slice none 0 0) := new_cell2 _ _ _ _ _ _ rfl rfl
            have x0_f1 : (w41.alloc (.cells #[.int .i64 0, .slice none 0 0] 28)).frozen? ⟨w41.heap.size, 1, none⟩ = false := new_loose2 _ _ _ _ _ rfl
            clear hHeld
            refine hK.out _ _ ?_ (fun hHeld => ?_)
            · exact ⟨A0_0, A0_1, A1_0, A1_1⟩
            clear hK KK
            try simp only [Act.put, List.getElem_toArray, List.getElem_cons_succ, List.getElem_cons_zero, List.setIfInBounds_toArray, List.set_cons_zero, List.set_cons_succ]
            generalize w41.alloc (.cells #[.int .i64 0, .slice none 0 0] 28) = w43 at *
            refine wpAnyH_ready (rs := [4]) (by kernel_rfl) (by simp) ?_
            refine AllReadyH.cons rfl (fun KK hK => ?_) AllReadyH.nil
            · simp only [List.getElem_toArray, List.getElem_cons_succ, List.getElem_cons_zero]
              rw [if_pos (by rfl)]
              have mk := ivMatAdd_impl y0 y1 w43 q0 q1 r70.read r71.read (T.kept (unhide K))
              simp only [unhide EB1, unhide EC0, unhide EL0, unhide EH0] at mk
              refine wps2 13 (.tmp 96) (.tmp 98) _ rfl in_impl_IvMatAdd (.agg #[.int .i64 y0, v70]) (.agg #[.int .i64 y1, v71]) rfl rfl mk ?_
              rintro e w45 ⟨v90, rfl, r90, k45⟩
              refine ⟨_, rfl, ?_⟩
              clear mk
              replace r0 := r0.kept k45 (.inr (.inr (Nat.le_refl 0)))
              replace r1 := r1.kept k45 (.inr (.inr (Nat.le_refl 0)))
              replace rw0 := rw0.kept k45 (.inr (.inr (Nat.le_refl 0)))
              replace rm0 := rm0.kept k45 (.inr (.inr (Nat.le_refl 0)))
              replace r70 := r70.kept k45 (.inr (.inr (Nat.le_refl 0)))
              replace r71 := r71.kept k45 (.inr (.inr (Nat.le_refl 0)))
              replace kw := kw.trans k45
              replace x0_f0 := k45.loose0 (World.block_lt_of_cell? _ _ x0_0) x0_f0
              replace x0_f1 := k45.loose0 (World.block_lt_of_cell? _ _ x0_1) x0_f1
              replace A0_0 := k45.cell0 A0_0
              replace A0_1 := k45.cell0 A0_1
              replace A1_0 := k45.cell0 A1_0
              replace A1_1 := k45.cell0 A1_1
              replace cw0_0 := k45.cell0 cw0_0
              replace cw0_1 := k45.cell0 cw0_1
              replace cx0_0 := k45.cell0 cx0_0
              replace cx0_1 := k45.cell0 cx0_1
              replace cx1_0 := k45.cell0 cx1_0
              replace cx1_1 := k45.cell0 cx1_1
              replace cg0_0 := k45.cell0 cg0_0
              replace cg0_1 := k45.cell0 cg0_1
              replace x0_0 := k45.cell0 x0_0
              replace x0_1 := k45.cell0 x0_1
              replace K := hide ((unhide K).trans k45)
              have z46 := k45.size
              obtain ⟨a90, d90, hv⟩ := r90.form'
              subst hv
              clear k45
              clear hHeld
              refine hK.out _ _ ?_ (fun hHeld => ?_)
              · exact ⟨A0_0, A0_1, A1_0, A1_1⟩
              clear hK KK
              try simp only [Act.put, List.getElem_toArray, List.getElem_cons_succ, List.getElem_cons_zero, List.setIfInBounds_toArray, List.set_cons_zero, List.set_cons_succ]
              refine wpAnyH_take (i := 5) (oi := _) (v := .tuple #[.agg #[.int .i64 H0, .slice a90 C0 d90], .bool B1]) rfl (by kernel_rfl) (by kernel_rfl) (by kernel_rfl) (fun _ _ _ h => h) (Or.inl ⟨by rfl, ?_⟩) hHeld ?_
              · intro wq hSw
                try dsimp only at hSw
                go_simp
              try simp only [Act.put, List.getElem_toArray, List.getElem_cons_succ, List.getElem_cons_zero, List.setIfInBounds_toArray, List.set_cons_zero, List.set_cons_succ]
              refine wpAnyH_take (i := 6) (oi := _) (v := .agg #[.int .i64 H0, .slice a90 C0 d90]) rfl (by kernel_rfl) (by kernel_rfl) (by kernel_rfl) (fun _ _ _ h => h) (Or.inl ⟨by rfl, ?_⟩) hHeld ?_
              · intro wq hSw
                try dsimp only at hSw
                go_simp
              try simp only [Act.put, List.getElem_toArray, List.getElem_cons_succ, List.getElem_cons_zero, List.setIfInBounds_toArray, List.set_cons_zero, List.set_cons_succ]
              refine wpAnyH_take (i := 7) (oi := _) (v := .bool B1) rfl (by kernel_rfl) (by kernel_rfl) (by kernel_rfl) (fun _ _ _ h => h) (Or.inl ⟨by rfl, ?_⟩) hHeld ?_
              · intro wq hSw
                try dsimp only at hSw
                go_simp
              try simp only [Act.put, List.getElem_toArray, List.getElem_cons_succ, List.getElem_cons_zero, List.setIfInBounds_toArray, List.set_cons_zero, List.set_cons_succ]
              refine wpAnyH_ready (rs := [9]) (by kernel_rfl) (by simp) ?_
              refine AllReadyH.cons rfl (fun KK hK => ?_) AllReadyH.nil
              simp only [List.getElem_toArray, List.getElem_cons_succ, List.getElem_cons_zero]
              rw [if_pos (by rfl)]
              go_simp
              clear hHeld
              refine hK.out _ _ ?_ (fun hHeld => ?_)
              · exact ⟨(cell_aside _ (by have := unhide S0; dsimp only; omega) (cell_aside _ (by have := unhide S0; dsimp only; omega) A0_0)), (cell_aside _ (by have := unhide S0; dsimp only; omega) (cell_aside _ (by have := unhide S0; dsimp only; omega) A0_1)), (cell_aside _ (by have := unhide S0; dsimp only; omega) (cell_aside _ (by have := unhide S0; dsimp only; omega) A1_0)), (cell_aside _ (by have := unhide S0; dsimp only; omega) (cell_aside _ (by have := unhide S0; dsimp only; omega) A1_1))⟩
              clear hK KK
              try simp only [Act.put, List.getElem_toArray, List.getElem_cons_succ, List.getElem_cons_zero, List.setIfInBounds_toArray, List.set_cons_zero, List.set_cons_succ]
              refine wpAnyH_take (i := 10) (oi := _) (v := .bool B1) rfl (by kernel_rfl) (by kernel_rfl) (by kernel_rfl) (fun _ _ _ h => h) (Or.inl ⟨by rfl, ?_⟩) hHeld ?_
              · intro wq hSw
                try dsimp only at hSw
                go_simp
              try simp only [Act.put, List.getElem_toArray, List.getElem_cons_succ, List.getElem_cons_zero, List.setIfInBounds_toArray, List.set_cons_zero, List.set_cons_succ]
              refine wpAnyH_done (by kernel_rfl) ?_ _
              clear hHeld
              go_wp2_with fail
              go_meet
              exact ⟨_, _, rfl, rfl, law_setX H0 kw x0_0 x0_1 r90 (by omega) (by omega) (by omega) (by omega)⟩
        · simp only [List.getElem_toArray, List.getElem_cons_succ, List.getElem_cons_zero]
          rw [if_pos (by rfl)]
          go_simp
          have kn := (Kept.refl 0 0 w39).alloc (.cells #[.int .i64 0, .slice none 0 0] 28)
          replace r0 := r0.kept kn (.inr (.inr (Nat.le_refl 0)))
          replace r1 := r1.kept kn (.inr (.inr (Nat.le_refl 0)))
          replace rw0 := rw0.kept kn (.inr (.inr (Nat.le_refl 0)))
          replace rm0 := rm0.kept kn (.inr (.inr (Nat.le_refl 0)))
          replace r70 := r70.kept kn (.inr (.inr (Nat.le_refl 0)))
          replace kw := kw.trans kn
          replace A0_0 := kn.cell0 A0_0
          replace A0_1 := kn.cell0 A0_1
          replace A1_0 := kn.cell0 A1_0
          replace A1_1 := kn.cell0 A1_1
          replace cw0_0 := kn.cell0 cw0_0
          replace cw0_1 := kn.cell0 cw0_1
          replace cx0_0 := kn.cell0 cx0_0
          replace cx0_1 := kn.cell0 cx0_1
          replace cx1_0 := kn.cell0 cx1_0
          replace cx1_1 := kn.cell0 cx1_1
          replace cg0_0 := kn.cell0 cg0_0
          replace cg0_1 := kn.cell0 cg0_1
          replace K := hide ((unhide K).trans kn)
          have z42 := kn.size
          clear kn
          have szx0_ : w39.heap.size < (w39.alloc (.cells #[.int .i64 0, .slice none 0 0] 28)).heap.size := by simp
          have x0_0 : (w39.alloc (.cells #[.int .i64 0, .slice none 0 0] 28)).cell? ⟨w39.heap.size, 0, none⟩ = some (.int .i64 0) := new_cell2 _ _ _ _ _ _ rfl rfl
          have x0_f0 : (w39.alloc (.cells #[.int .i64 0, .slice none 0 0] 28)).frozen? ⟨w39.heap.size, 0, none⟩ = false := new_loose2 _ _ _ _ _ rfl
          have x0_1 : (w39.alloc (.cells #[.int .i64 0, .slice none 0 0] 28)).cell? ⟨w39.heap.size, 1, none⟩ = some (.slice none 0 0) := new_cell2 _ _ _ _ _ _ rfl rfl
          have x0_f1 : (w39.alloc (.cells #[.int .i64 0, .slice none 0 0] 28)).frozen? ⟨w39.heap.size, 1, none⟩ = false := new_loose2 _ _ _ _ _ rfl
          clear hHeld
          refine hK.out _ _ ?_ (fun hHeld => ?_)
          · exact ⟨A0_0, A0_1, A1_0, A1_1⟩
          clear hK KK
          try simp only [Act.put, List.getElem_toArray, List.getElem_cons_succ, List.getElem_cons_zero, List.setIfInBounds_toArray, List.set_cons_zero, List.set_cons_succ]
          generalize w39.alloc (.cells #[.int .i64 0, .slice none 0 0] 28) = w41 at *
          refine wpAnyH_ready (rs := [3]) (by kernel_rfl) (by simp) ?_
          refine AllReadyH.cons rfl (fun KK hK => ?_) AllReadyH.nil
          · simp only [List.getElem_toArray, List.getElem_cons_succ, List.getElem_cons_zero]
            rw [if_pos (by rfl)]
            refine wps1 12 (.tmp 97) _ rfl in_toX (.agg #[.int .i64 y1, .slice a1 m1 c1]) rfl (toIvMat_own (y1) _ hn1 hl1 r1) ?_
            rintro e w43 ⟨v71, rfl, r71, k43⟩
            refine ⟨_, rfl, ?_⟩
            replace r0 := r0.kept k43 (.inr (.inr (Nat.le_refl 0)))
            replace r1 := r1.kept k43 (.inr (.inr (Nat.le_refl 0)))
            replace rw0 := rw0.kept k43 (.inr (.inr (Nat.le_refl 0)))
            replace rm0 := rm0.kept k43 (.inr (.inr (Nat.le_refl 0)))
            replace r70 := r70.kept k43 (.inr (.inr (Nat.le_refl 0)))
            replace kw := kw.trans k43
            replace x0_f0 := k43.loose0 (World.block_lt_of_cell? _ _ x0_0) x0_f0
            replace x0_f1 := k43.loose0 (World.block_lt_of_cell? _ _ x0_1) x0_f1
            replace A0_0 := k43.cell0 A0_0
            replace A0_1 := k43.cell0 A0_1
            replace A1_0 := k43.cell0 A1_0
            replace A1_1 := k43.cell0 A1_1
            replace cw0_0 := k43.cell0 cw0_0
            replace cw0_1 := k43.cell0 cw0_1
            replace cx0_0 := k43.cell0 cx0_0
            replace cx0_1 := k43.cell0 cx0_1
            replace cx1_0 := k43.cell0 cx1_0
            replace cx1_1 := k43.cell0 cx1_1
            replace cg0_0 := k43.cell0 cg0_0
            replace cg0_1 := k43.cell0 cg0_1
            replace x0_0 := k43.cell0 x0_0
            replace x0_1 := k43.cell0 x0_1
            replace K := hide ((unhide K).trans k43)
            have z44 := k43.size
            clear k43
            clear hHeld
            refine hK.out _ _ ?_ (fun hHeld => ?_)
            · exact ⟨A0_0, A0_1, A1_0, A1_1⟩
            clear hK KK
            try simp only [Act.put, List.getElem_toArray, List.getElem_cons_succ, List.getElem_cons_zero, List.setIfInBounds_toArray, List.set_cons_zero, List.set_cons_succ]
            refine wpAnyH_ready (rs := [4]) (by kernel_rfl) (by simp) ?_
            refine AllReadyH.cons rfl (fun KK hK => ?_) AllReadyH.nil
            · simp only [List.getElem_toArray, List.getElem_cons_succ, List.getElem_cons_zero]
              rw [if_pos (by rfl)]
              have mk := ivMatAdd_impl y0 y1 w43 q0 q1 r70.read r71.read (T.kept (unhide K))
              simp only [unhide EB1, unhide EC0, unhide EL0, unhide EH0] at mk
              refine wps2 13 (.tmp 96) (.tmp 98) _ rfl in_impl_IvMatAdd (.agg #[.int .i64 y0, v70]) (.agg #[.int .i64 y1, v71]) rfl rfl mk ?_
              rintro e w45 ⟨v90, rfl, r90, k45⟩
              refine ⟨_, rfl, ?_⟩
              clear mk
              replace r0 := r0.kept k45 (.inr (.inr (Nat.le_refl 0)))
              replace r1 := r1.kept k45 (.inr (.inr (Nat.le_refl 0)))
              replace rw0 := rw0.kept k45 (.inr (.inr (Nat.le_refl 0)))
              replace rm0 := rm0.kept k45 (.inr (.inr (Nat.le_refl 0)))
              replace r70 := r70.kept k45 (.inr (.inr (Nat.le_refl 0)))
              replace r71 := r71.kept k45 (.inr (.inr (Nat.le_refl 0)))
              replace kw := kw.trans k45
              replace x0_f0 := k45.loose0 (World.block_lt_of_cell? _ _ x0_0) x0_f0
              replace x0_f1 := k45.loose0 (World.block_lt_of_cell? _ _ x0_1) x0_f1
              replace A0_0 := k45.cell0 A0_0
              replace A0_1 := k45.cell0 A0_1
              replace A1_0 := k45.cell0 A1_0
              replace A1_1 := k45.cell0 A1_1
              replace cw0_0 := k45.cell0 cw0_0
              replace cw0_1 := k45.cell0 cw0_1
              replace cx0_0 := k45.cell0 cx0_0
              replace cx0_1 := k45.cell0 cx0_1
              replace cx1_0 := k45.cell0 cx1_0
              replace cx1_1 := k45.cell0 cx1_1
              replace cg0_0 := k45.cell0 cg0_0
              replace cg0_1 := k45.cell0 cg0_1
              replace x0_0 := k45.cell0 x0_0
              replace x0_1 := k45.cell0 x0_1
              replace K := hide ((unhide K).trans k45)
              have z46 := k45.size
              obtain ⟨a90, d90, hv⟩ := r90.form'
              subst hv
              clear k45
              clear hHeld
              refine hK.out _ _ ?_ (fun hHeld => ?_)
              · exact ⟨A0_0, A0_1, A1_0, A1_1⟩
              clear hK KK
              try simp only [Act.put, List.getElem_toArray, List.getElem_cons_succ, List.getElem_cons_zero, List.setIfInBounds_toArray, List.set_cons_zero, List.set_cons_succ]
              refine wpAnyH_take (i := 5) (oi := _) (v := .tuple #[.agg #[.int .i64 H0, .slice a90 C0 d90], .bool B1]) rfl (by kernel_rfl) (by kernel_rfl) (by kernel_rfl) (fun _ _ _ h => h) (Or.inl ⟨by rfl, ?_⟩) hHeld ?_
              · intro wq hSw
                try dsimp only at hSw
                go_simp
              try simp only [Act.put, List.getElem_toArray, List.getElem_cons_succ, List.getElem_cons_zero, List.setIfInBounds_toArray, List.set_cons_zero, List.set_cons_succ]
              refine wpAnyH_take (i := 6) (oi := _) (v := .agg #[.int .i64 H0, .slice a90 C0 d90]) rfl (by kernel_rfl) (by kernel_rfl) (by kernel_rfl) (fun _ _ _ h => h) (Or.inl ⟨by rfl, ?_⟩) hHeld ?_
              · intro wq hSw
                try dsimp only at hSw
                go_simp
              try simp only [Act.put, List.getElem_toArray, List.getElem_cons_succ, List.getElem_cons_zero, List.setIfInBounds_toArray, List.set_cons_zero, List.set_cons_succ]
              refine wpAnyH_take (i := 7) (oi := _) (v := .bool B1) rfl (by kernel_rfl) (by kernel_rfl) (by kernel_rfl) (fun _ _ _ h => h) (Or.inl ⟨by rfl, ?_⟩) hHeld ?_
              · intro wq hSw
                try dsimp only at hSw
                go_simp
              try simp only [Act.put, List.getElem_toArray, List.getElem_cons_succ, List.getElem_cons_zero, List.setIfInBounds_toArray, List.set_cons_zero, List.set_cons_succ]
              refine wpAnyH_ready (rs := [9]) (by kernel_rfl) (by simp) ?_
              refine AllReadyH.cons rfl (fun KK hK => ?_) AllReadyH.nil
              simp only [List.getElem_toArray, List.getElem_cons_succ, List.getElem_cons_zero]
              rw [if_pos (by rfl)]
              go_simp
              clear hHeld
              refine hK.out _ _ ?_ (fun hHeld => ?_)
              · exact ⟨(cell_aside _ (by have := unhide S0; dsimp only; omega) (cell_aside _ (by have := unhide S0; dsimp only; omega) A0_0)), (cell_aside _ (by have := unhide S0; dsimp only; omega) (cell_aside _ (by have := unhide S0; dsimp only; omega) A0_1)), (cell_aside _ (by have := unhide S0; dsimp only; omega) (cell_aside _ (by have := unhide S0; dsimp only; omega) A1_0)), (cell_aside _ (by have := unhide S0; dsimp only; omega) (cell_aside _ (by have := unhide S0; dsimp only; omega) A1_1))⟩
              clear hK KK
              try simp only [Act.put, List.getElem_toArray, List.getElem_cons_succ, List.getElem_cons_zero, List.setIfInBounds_toArray, List.set_cons_zero, List.set_cons_succ]
              refine wpAnyH_take (i := 10) (oi := _) (v := .bool B1) rfl (by kernel_rfl) (by kernel_rfl) (by kernel_rfl) (fun _ _ _ h => h) (Or.inl ⟨by rfl, ?_⟩) hHeld ?_
              · intro wq hSw
                try dsimp only at hSw
                go_simp
              try simp only [Act.put, List.getElem_toArray, List.getElem_cons_succ, List.getElem_cons_zero, List.setIfInBounds_toArray, List.set_cons_zero, List.set_cons_succ]
              refine wpAnyH_done (by kernel_rfl) ?_ _
              clear hHeld
              go_wp2_with fail
              go_meet
              exact ⟨_, _, rfl, rfl, law_setX H0 kw x0_0 x0_1 r90 (by omega) (by omega) (by omega) (by omega)⟩
      · simp only [List.getElem_toArray, List.getElem_cons_succ, List.getElem_cons_zero]
        rw [if_pos (by rfl)]
        go_simp
        have kn := (Kept.refl 0 0 wd).alloc (.cells #[.int .i64 0, .slice none 0 0] 28)
        replace r0 := r0.kept kn (.inr (.inr (Nat.le_refl 0)))
        replace r1 := r1.kept kn (.inr (.inr (Nat.le_refl 0)))
        replace rw0 := rw0.kept kn (.inr (.inr (Nat.le_refl 0)))
        replace rm0 := rm0.kept kn (.inr (.inr (Nat.le_refl 0)))
        replace kw := kw.trans kn
        replace A0_0 := kn.cell0 A0_0
        replace A0_1 := kn.cell0 A0_1
        replace A1_0 := kn.cell0 A1_0
        replace A1_1 := kn.cell0 A1_1
        replace cw0_0 := kn.cell0 cw0_0
        replace cw0_1 := kn.cell0 cw0_1
        replace cx0_0 := kn.cell0 cx0_0
        replace cx0_1 := kn.cell0 cx0_1
        replace cx1_0 := kn.cell0 cx1_0
        replace cx1_1 := kn.cell0 cx1_1
        replace cg0_0 := kn.cell0 cg0_0
        replace cg0_1 := kn.cell0 cg0_1
        replace K := hide ((unhide K).trans kn)
        have z40 := kn.size
        clear kn
        have szx0_ : wd.heap.size < (wd.alloc (.cells #[.int .i64 0, .slice none 0 0] 28)).heap.size := by simp
        have x0_0 : (wd.alloc (.cells #[.int .i64 0, .slice none 0 0] 28)).cell? ⟨wd.heap.size, 0, none⟩ = some (.int .i64 0) := new_cell2 _ _ _ _ _ _ rfl rfl
        have x0_f0 : (wd.alloc (.cells #[.int .i64 0, .slice none 0 0] 28)).frozen? ⟨wd.heap.size, 0, none⟩ = false := new_loose2 _ _ _ _ _ rfl
        have x0_1 : (wd.alloc (.cells #[.int .i64 0, .slice none 0 0] 28)).cell? ⟨wd.heap.size, 1, none⟩ = some (.slice none 0 0) := new_cell2 _ _ _ _ _ _ rfl rfl
        have x0_f1 : (wd.alloc (.cells #[.int .i64 0, .slice none 0 0] 28)).frozen? ⟨wd.heap.size, 1, none⟩ = false := new_loose2 _ _ _ _ _ rfl
        clear hHeld
        refine hK.out _ _ ?_ (fun hHeld => ?_)
        · exact ⟨A0_0, A0_1, A1_0, A1_1⟩
        clear hK KK
        try simp only [Act.put, List.getElem_toArray, List.getElem_cons_succ, List.getElem_cons_zero, List.setIfInBounds_toArray, List.set_cons_zero, List.set_cons_succ]
        generalize wd.alloc (.cells #[.int .i64 0, .slice none 0 0] 28) = w39 at *
        refine wpAnyH_ready (rs := [1]) (by kernel_rfl) (by simp) ?_
        refine AllReadyH.cons rfl (fun KK hK => ?_) AllReadyH.nil
        · simp only [List.getElem_toArray, List.getElem_cons_succ, List.getElem_cons_zero]
          rw [if_pos (by rfl)]
          refine wps1 12 (.tmp 95) _ rfl in_toX (.agg #[.int .i64 y0, .slice a0 m0 c0]) rfl (toIvMat_own (y0) _ hn0 hl0 r0) ?_
          rintro e w41 ⟨v70, rfl, r70, k41⟩
          refine ⟨_, rfl, ?_⟩
          replace r0 := r0.kept k41 (.inr (.inr (Nat.le_refl 0)))
          replace r1 := r1.kept k41 (.inr (.inr (Nat.le_refl 0)))
          replace rw0 := rw0.kept k41 (.inr (.inr (Nat.le_refl 0)))
          replace rm0 := rm0.kept k41 (.inr (.inr (Nat.le_refl 0)))
          replace kw := kw.trans k41
          replace x0_f0 := k41.loose0 (World.block_lt_of_cell? _ _ x0_0) x0_f0
          replace x0_f1 := k41.loose0 (World.block_lt_of_cell? _ _ x0_1) x0_f1
          replace A0_0 := k41.cell0 A0_0
          replace A0_1 := k41.cell0 A0_1
          replace A1_0 := k41.cell0 A1_0
          replace A1_1 := k41.cell0 A1_1
          replace cw0_0 := k41.cell0 cw0_0
          replace cw0_1 := k41.cell0 cw0_1
          replace cx0_0 := k41.cell0 cx0_0
          replace cx0_1 := k41.cell0 cx0_1
          replace cx1_0 := k41.cell0 cx1_0
          replace cx1_1 := k41.cell0 cx1_1
          replace cg0_0 := k41.cell0 cg0_0
          replace cg0_1 := k41.cell0 cg0_1
          replace x0_0 := k41.cell0 x0_0
          replace x0_1 := k41.cell0 x0_1
          replace K := hide ((unhide K).trans k41)
          have z42 := k41.size
          clear k41
          clear hHeld
          refine hK.out _ _ ?_ (fun hHeld => ?_)
          · exact ⟨A0_0, A0_1, A1_0, A1_1⟩
          clear hK KK
          try simp only [Act.put, List.getElem_toArray, List.getElem_cons_succ, List.getElem_cons_zero, List.setIfInBounds_toArray, List.set_cons_zero, List.set_cons_succ]
          refine wpAnyH_ready (rs := [3]) (by kernel_rfl) (by simp) ?_
          refine AllReadyH.cons rfl (fun KK hK => ?_) AllReadyH.nil
          · simp only [List.getElem_toArray, List.getElem_cons_succ, List.getElem_cons_zero]
            rw [if_pos (by rfl)]
            refine wps1 12 (.tmp 97) _ rfl in_toX (.agg #[.int .i64 y1, .slice a1 m1 c1]) rfl (toIvMat_own (y1) _ hn1 hl1 r1) ?_
            rintro e w43 ⟨v71, rfl, r71, k43⟩
            refine ⟨_, rfl, ?_⟩
            replace r0 := r0.kept k43 (.inr (.inr (Nat.le_refl 0)))
            replace r1 := r1.kept k43 (.inr (.inr (Nat.le_refl 0)))
            replace rw0 := rw0.kept k43 (.inr (.inr (Nat.le_refl 0)))
            replace rm0 := rm0.kept k43 (.inr (.inr (Nat.le_refl 0)))
            replace r70 := r70.kept k43 (.inr (.inr (Nat.le_refl 0)))
            replace kw := kw.trans k43
            replace x0_f0 := k43.loose0 (World.block_lt_of_cell? _ _ x0_0) x0_f0
            replace x0_f1 := k43.loose0 (World.block_lt_of_cell? _ _ x0_1) x0_f1
            replace A0_0 := k43.cell0 A0_0
            replace A0_1 := k43.cell0 A0_1
            replace A1_0 := k43.cell0 A1_0
            replace A1_1 := k43.cell0 A1_1
            replace cw0_0 := k43.cell0 cw0_0
            replace cw0_1 := k43.cell0 cw0_1
            replace cx0_0 := k43.cell0 cx0_0
            replace cx0_1 := k43.cell0 cx0_1
            replace cx1_0 := k43.cell0 cx1_0
            replace cx1_1 := k43.cell0 cx1_1
            replace cg0_0 := k43.cell0 cg0_0
            replace cg0_1 := k43.cell0 cg0_1
            replace x0_0 := k43.cell0 x0_0
            replace x0_1 := k43.cell0 x0_1
            replace K := hide ((unhide K).trans k43)
            have z44 := k43.size
            clear k43
            clear hHeld
            refine hK.out _ _ ?_ (fun hHeld => ?_)
            · exact ⟨A0_0, A0_1, A1_0, A1_1⟩
            clear hK KK
            try simp only [Act.put, List.getElem_toArray, List.getElem_cons_succ, List.getElem_cons_zero, List.setIfInBounds_toArray, List.set_cons_zero, List.set_cons_succ]
            refine wpAnyH_ready (rs := [4]) (by kernel_rfl) (by simp) ?_
            refine AllReadyH.cons rfl (fun KK hK => ?_) AllReadyH.nil
            · simp only [List.getElem_toArray, List.getElem_cons_succ, List.getElem_cons_zero]
              rw [if_pos (by rfl)]
              have mk := ivMatAdd_impl y0 y1 w43 q0 q1 r70.read r71.read (T.kept (unhide K))
              simp only [unhide EB1, unhide EC0, unhide EL0, unhide EH0] at mk
              refine wps2 13 (.tmp 96) (.tmp 98) _ rfl in_impl_IvMatAdd (.agg #[.int .i64 y0, v70]) (.agg #[.int .i64 y1, v71]) rfl rfl mk ?_
              rintro e w45 ⟨v90, rfl, r90, k45⟩
              refine ⟨_, rfl, ?_⟩
              clear mk
              replace r0 := r0.kept k45 (.inr (.inr (Nat.le_refl 0)))
              replace r1 := r1.kept k45 (.inr (.inr (Nat.le_refl 0)))
              replace rw0 := rw0.kept k45 (.inr (.inr (Nat.le_refl 0)))
              replace rm0 := rm0.kept k45 (.inr (.inr (Nat.le_refl 0)))
              replace r70 := r70.kept k45 (.inr (.inr (Nat.le_refl 0)))
              replace r71 := r71.kept k45 (.inr (.inr (Nat.le_refl 0)))
              replace kw := kw.trans k45
              replace x0_f0 := k45.loose0 (World.block_lt_of_cell? _ _ x0_0) x0_f0
              replace x0_f1 := k45.loose0 (World.block_lt_of_cell? _ _ x0_1) x0_f1
              replace A0_0 := k45.cell0 A0_0
              replace A0_1 := k45.cell0 A0_1
              replace A1_0 := k45.cell0 A1_0
              replace A1_1 := k45.cell0 A1_1
              replace cw0_0 := k45.cell0 cw0_0
              replace cw0_1 := k45.cell0 cw0_1
              replace cx0_0 := k45.cell0 cx0_0
              replace cx0_1 := k45.cell0 cx0_1
              replace cx1_0 := k45.cell0 cx1_0
              replace cx1_1 := k45.cell0 cx1_1
              replace cg0_0 := k45.cell0 cg0_0
              replace cg0_1 := k45.cell0 cg0_1
              replace x0_0 := k45.cell0 x0_0
              replace x0_1 := k45.cell0 x0_1
              replace K := hide ((unhide K).trans k45)
              have z46 := k45.size
              obtain ⟨a90, d90, hv⟩ := r90.form'
              subst hv
              clear k45
              clear hHeld
              refine hK.out _ _ ?_ (fun hHeld => ?_)
              · exact ⟨A0_0, A0_1, A1_0, A1_1⟩
              clear hK KK
              try simp only [Act.put, List.getElem_toArray, List.getElem_cons_succ, List.getElem_cons_zero, List.setIfInBounds_toArray, List.set_cons_zero, List.set_cons_succ]
              refine wpAnyH_take (i := 5) (oi := _) (v := .tuple #[.agg #[.int .i64 H0, .slice a90 C0 d90], .bool B1]) rfl (by kernel_rfl) (by kernel_rfl) (by kernel_rfl) (fun _ _ _ h => h) (Or.inl ⟨by rfl, ?_⟩) hHeld ?_
              · intro wq hSw
                try dsimp only at hSw
                go_simp
              try simp only [Act.put, List.getElem_toArray, List.getElem_cons_succ, List.getElem_cons_zero, List.setIfInBounds_toArray, List.set_cons_zero, List.set_cons_succ]
              refine wpAnyH_take (i := 6) (oi := _) (v := .agg #[.int .i64 H0, .slice a90 C0 d90]) rfl (by kernel_rfl) (by kernel_rfl) (by kernel_rfl) (fun _ _ _ h => h) (Or.inl ⟨by rfl, ?_⟩) hHeld ?_
              · intro wq hSw
                try dsimp only at hSw
                go_simp
              try simp only [Act.put, List.getElem_toArray, List.getElem_cons_succ, List.getElem_cons_zero, List.setIfInBounds_toArray, List.set_cons_zero, List.set_cons_succ]
              refine wpAnyH_take (i := 7) (oi := _) (v := .bool B1) rfl (by kernel_rfl) (by kernel_rfl) (by kernel_rfl) (fun _ _ _ h => h) (Or.inl ⟨by rfl, ?_⟩) hHeld ?_
              · intro wq hSw
                try dsimp only at hSw
                go_simp
              try simp only [Act.put, List.getElem_toArray, List.getElem_cons_succ, List.getElem_cons_zero, List.setIfInBounds_toArray, List.set_cons_zero, List.set_cons_succ]
              refine wpAnyH_ready (rs := [9]) (by kernel_rfl) (by simp) ?_
              refine AllReadyH.cons rfl (fun KK hK => ?_) AllReadyH.nil
              simp only [List.getElem_toArray, List.getElem_cons_succ, List.getElem_cons_zero]
              rw [if_pos (by rfl)]
              go_simp
              clear hHeld
              refine hK.out _ _ ?_ (fun hHeld => ?_)
              · exact ⟨(cell_aside _ (by have := unhide S0; dsimp only; omega) (cell_aside _ (by have := unhide S0; dsimp only; omega) A0_0)), (cell_aside _ (by have := unhide S0; dsimp only; omega) (cell_aside _ (by have := unhide S0; dsimp only; omega) A0_1)), (cell_aside _ (by have := unhide S0; dsimp only; omega) (cell_aside _ (by have := unhide S0; dsimp only; omega) A1_0)), (cell_aside _ (by have := unhide S0; dsimp only; omega) (cell_aside _ (by have := unhide S0; dsimp only; omega) A1_1))⟩
              clear hK KK
              try simp only [Act.put, List.getElem_toArray, List.getElem_cons_succ, List.getElem_cons_zero, List.setIfInBounds_toArray, List.set_cons_zero, List.set_cons_succ]
              refine wpAnyH_take (i := 10) (oi := _) (v := .bool B1) rfl (by kernel_rfl) (by kernel_rfl) (by kernel_rfl) (fun _ _ _ h => h) (Or.inl ⟨by rfl, ?_⟩) hHeld ?_
              · intro wq hSw
                try dsimp only at hSw
                go_simp
              try simp only [Act.put, List.getElem_toArray, List.getElem_cons_succ, List.getElem_cons_zero, List.setIfInBounds_toArray, List.set_cons_zero, List.set_cons_succ]
              refine wpAnyH_done (by kernel_rfl) ?_ _
              clear hHeld
              go_wp2_with fail
              go_meet
              exact ⟨_, _, rfl, rfl, law_setX H0 kw x0_0 x0_1 r90 (by omega) (by omega) (by omega) (by omega)⟩
    case rest =>
      obtain ⟨Xh0, vh0, rfl, rfl, ch0_0, ch0_1, rh0, hXh0, hYh0, kk⟩ := hcut
      replace r0 := r0.kept kk (.inr (.inr (Nat.le_refl 0)))
      replace r1 := r1.kept kk (.inr (.inr (Nat.le_refl 0)))
      replace rw0 := rw0.kept kk (.inr (.inr (Nat.le_refl 0)))
      replace rm0 := rm0.kept kk (.inr (.inr (Nat.le_refl 0)))
      replace A0_0 := kk.cell0 A0_0
      replace A0_1 := kk.cell0 A0_1
      replace A1_0 := kk.cell0 A1_0
      replace A1_1 := kk.cell0 A1_1
      replace cw0_0 := kk.cell0 cw0_0
      replace cw0_1 := kk.cell0 cw0_1
      replace cx0_0 := kk.cell0 cx0_0
      replace cx0_1 := kk.cell0 cx0_1
      replace cx1_0 := kk.cell0 cx1_0
      replace cx1_1 := kk.cell0 cx1_1
      replace cg0_0 := kk.cell0 cg0_0
      replace cg0_1 := kk.cell0 cg0_1
      replace K := hide ((unhide K).trans kk)
      have z38 := kk.size
      clear kk
      obtain ⟨ah0, dh0, hv⟩ := rh0.form'
      subst hv
      generalize hwc : wc = we39 at *
      clear hwc
      go_wp2_with fail
      refine (eqIvMat_same (H0) _ rh0.read rw0.read).mono ?_
      rintro e w40 ⟨rfl, k40⟩
      replace r0 := r0.kept k40 (.inr (.inr (Nat.le_refl 0)))
      replace r1 := r1.kept k40 (.inr (.inr (Nat.le_refl 0)))
      replace rw0 := rw0.kept k40 (.inr (.inr (Nat.le_refl 0)))
      replace rm0 := rm0.kept k40 (.inr (.inr (Nat.le_refl 0)))
      replace rh0 := rh0.kept k40 (.inr (.inr (Nat.le_refl 0)))
      replace A0_0 := k40.cell0 A0_0
      replace A0_1 := k40.cell0 A0_1
      replace A1_0 := k40.cell0 A1_0
      replace A1_1 := k40.cell0 A1_1
      replace cw0_0 := k40.cell0 cw0_0
      replace cw0_1 := k40.cell0 cw0_1
      replace cx0_0 := k40.cell0 cx0_0
      replace cx0_1 := k40.cell0 cx0_1
      replace cx1_0 := k40.cell0 cx1_0
      replace cx1_1 := k40.cell0 cx1_1
      replace cg0_0 := k40.cell0 cg0_0
      replace cg0_1 := k40.cell0 cg0_1
      replace ch0_0 := k40.cell0 ch0_0
      replace ch0_1 := k40.cell0 ch0_1
      replace K := hide ((unhide K).trans k40)
      have z41 := k40.size
      clear k40
      go_wp2_with fail
      refine (heldIvMat_any (H0) _ (1) (by omega) (by omega) (by omega) rm0.read).mono ?_
      rintro e w42 ⟨rfl, k42⟩
      replace r0 := r0.kept k42 (.inr (.inr (Nat.le_refl 0)))
      replace r1 := r1.kept k42 (.inr (.inr (Nat.le_refl 0)))
      replace rw0 := rw0.kept k42 (.inr (.inr (Nat.le_refl 0)))
      replace rm0 := rm0.kept k42 (.inr (.inr (Nat.le_refl 0)))
      replace rh0 := rh0.kept k42 (.inr (.inr (Nat.le_refl 0)))
      replace A0_0 := k42.cell0 A0_0
      replace A0_1 := k42.cell0 A0_1
      replace A1_0 := k42.cell0 A1_0
      replace A1_1 := k42.cell0 A1_1
      replace cw0_0 := k42.cell0 cw0_0
      replace cw0_1 := k42.cell0 cw0_1
      replace cx0_0 := k42.cell0 cx0_0
      replace cx0_1 := k42.cell0 cx0_1
      replace cx1_0 := k42.cell0 cx1_0
      replace cx1_1 := k42.cell0 cx1_1
      replace cg0_0 := k42.cell0 cg0_0
      replace cg0_1 := k42.cell0 cg0_1
      replace ch0_0 := k42.cell0 ch0_0
      replace ch0_1 := k42.cell0 ch0_1
      replace K := hide ((unhide K).trans k42)
      have z43 := k42.size
      clear k42
      have nq043 : ¬ kAt L0 (1) L0.length < 0 := by omega
      go_wp2_with fail
      go_ret
      exact ⟨rfl, (unhide K).toBelow⟩

end Go.Proofs.YthahoabkehcgbaaGreatDoor

