/-
  The walk of the law FnExactNatDiv: it returns true at every argument.
-/
import Derived.Test.YtdhponfpikclhaaIDiv7
import Derived.Test.YtdhponfpikclhaaLawW2
import Derived.Deep.DeepCutAuto
namespace Go.Proofs.Ytdhponfpikclhaa
open Go.RowKit
set_option linter.unusedVariables false
set_option maxRecDepth 8000
set_option linter.unusedSimpArgs false

set_option maxHeartbeats 16000000 in
theorem law_NatDiv {u0 : Value} {z0 : List Int} {u1 : Value} {z1 : List Int} {w : World} (r0 : Row .i64 false 0 w.heap.size w u0 z0) (r1 : Row .i64 false 0 w.heap.size w u1 z1) :
    Calls Try.prog 10 #[.agg #[u0], .agg #[u1]] w fun e w' => e = .returned (.bool true) ∧ Below w.heap.size w w' := by
  obtain ⟨L0, hL0⟩ : ∃ L, divQ z0 z1 = L := ⟨_, rfl⟩
  obtain ⟨L1, hL1⟩ : ∃ L, divR z0 z1 = L := ⟨_, rfl⟩
  obtain ⟨B2, hB2⟩ : ∃ B, divB z0 z1 = B := ⟨_, rfl⟩
  have hn'0 : L0.length ≤ 100 := by rw [← hL0]; exact divQ_len z0 z1
  have hq0 : L0.length ≤ 1099511627776 := by omega
  have hn'1 : L1.length ≤ 100 := by rw [← hL1]; exact divR_len z0 z1
  have hq1 : L1.length ≤ 1099511627776 := by omega
  skip
  have hm0 := r0.len
  unfold maxLen at hm0
  have hm1 := r1.len
  unfold maxLen at hm1
  have k0 : Kept 0 0 w ((w.alloc (.cells #[u0] 59)).alloc (.cells #[u1] 59)) := (((Kept.refl 0 0 w).alloc (.cells #[u0] 59)).alloc (.cells #[u1] 59))
  have A0_0 : ((w.alloc (.cells #[u0] 59)).alloc (.cells #[u1] 59)).cell? ⟨w.heap.size, 0, none⟩ = some (u0) := old_cell _ (new_cell2 _ _ _ _ _ _ (by simp) rfl)
  have A1_0 : ((w.alloc (.cells #[u0] 59)).alloc (.cells #[u1] 59)).cell? ⟨w.heap.size + 1, 0, none⟩ = some (u1) := new_cell2 _ _ _ _ _ _ (by simp) rfl
  replace r0 := r0.kept k0 (by omega)
  replace r1 := r1.kept k0 (by omega)
  have s0 : ((w.alloc (.cells #[u0] 59)).alloc (.cells #[u1] 59)).heap.size = w.heap.size + 2 := by simp
  obtain ⟨a0, c0, hv⟩ := Row.form' r0
  subst hv
  obtain ⟨a1, c1, hv⟩ := Row.form' r1
  subst hv
  have K := hide (k0)
  clear k0
  have S0 := hide s0
  clear s0
  have EL0 := hide hL0
  have EL1 := hide hL1
  have EB2 := hide hB2
  clear hL0 hL1 hB2
  go_enter Try.func10, Try.ntmps10
  skip
  go_wp2_with fail
  generalize ((w.alloc (.cells #[.slice a0 z0.length c0] 59)).alloc (.cells #[.slice a1 z1.length c1] 59)) = W at *
  refine (szNat_any _ (1048576) (by omega) (by omega) r0).mono ?_
  rintro e w1 ⟨rfl, k1⟩
  replace r0 := r0.kept k1 (by omega)
  replace r1 := r1.kept k1 (by omega)
  replace A0_0 := k1.cell0 A0_0
  replace A1_0 := k1.cell0 A1_0
  replace K := hide ((unhide K).trans k1)
  have z2 := k1.size
  clear k1
  by_cases big0 : (z0.length : Int) ≤ 1048576
  rotate_left
  · rw [if_neg big0]
    go_wp2_with fail
    go_ret
    exact ⟨rfl, (unhide K).toBelow⟩
  rw [if_pos big0]
  have nb0 : ¬ (1048576 - (z0.length : Int)) < 0 := by omega
  go_wp2_with fail
  refine (szNat_any _ ((1048576 - (z0.length : Int))) (by omega) (by omega) r1).mono ?_
  rintro e w3 ⟨rfl, k3⟩
  replace r0 := r0.kept k3 (by omega)
  replace r1 := r1.kept k3 (by omega)
  replace A0_0 := k3.cell0 A0_0
  replace A1_0 := k3.cell0 A1_0
  replace K := hide ((unhide K).trans k3)
  have z4 := k3.size
  clear k3
  by_cases big1 : (z1.length : Int) ≤ (1048576 - (z0.length : Int))
  rotate_left
  · rw [if_neg big1]
    go_wp2_with fail
    go_ret
    exact ⟨rfl, (unhide K).toBelow⟩
  rw [if_pos big1]
  have nb1 : ¬ ((1048576 - (z0.length : Int)) - (z1.length : Int)) < 0 := by omega
  have hn0 : z0.length ≤ 1099511627776 := by omega
  have hn1 : z1.length ≤ 1099511627776 := by omega
  go_upto_region 8 with fail
  go_cut [6, 7, 8] (fun q0 q1 q2 wx => ∃ X0 v0 X1 v1, q0 = .pointer (some ⟨X0, 0, none⟩) ∧ q1 = .pointer (some ⟨X1, 0, none⟩) ∧ q2 = .bool B2 ∧ wx.cell? ⟨X0, 0, none⟩ = some v0 ∧ Row .i64 true w3.heap.size wx.heap.size wx v0 L0 ∧ w3.heap.size ≤ X0 ∧ X0 < wx.heap.size ∧ wx.cell? ⟨X1, 0, none⟩ = some v1 ∧ Row .i64 true w3.heap.size wx.heap.size wx v1 L1 ∧ w3.heap.size ≤ X1 ∧ X1 < wx.heap.size ∧ Kept 0 0 w3 wx)
  case first =>
    have kw := Kept.refl 0 0 w3
    have kd := (Kept.refl 0 0 w3).drew
    replace r0 := r0.kept kd (by omega)
    replace r1 := r1.kept kd (by omega)
    replace kw := kw.trans kd
    replace A0_0 := kd.cell0 A0_0
    replace A1_0 := kd.cell0 A1_0
    replace K := hide ((unhide K).trans kd)
    have z5 := kd.size
    clear kd
    refine wp_region_held_drew (S := (fun w' => w'.cell? ⟨w.heap.size, 0, none⟩ = some (.slice a0 z0.length c0) ∧ w'.cell? ⟨w.heap.size + 1, 0, none⟩ = some (.slice a1 z1.length c1))) (by kernel_rfl) ?_ (fun hHeld => ?_)
    · exact ⟨A0_0, A1_0⟩
    generalize w3.drew = wd at *
    refine wpAnyH_take (i := 0) (oi := _) (v := .agg #[.slice a0 z0.length c0]) rfl (by kernel_rfl) (by kernel_rfl) (by kernel_rfl) (fun _ _ _ h => h) (Or.inl ⟨by rfl, ?_⟩) hHeld ?_
    · intro wq hSw
      try dsimp only at hSw
      go_simp
    try simp only [Act.put, List.getElem_toArray, List.getElem_cons_succ, List.getElem_cons_zero, List.setIfInBounds_toArray, List.set_cons_zero, List.set_cons_succ]
    refine wpAnyH_take (i := 2) (oi := _) (v := .agg #[.slice a1 z1.length c1]) rfl (by kernel_rfl) (by kernel_rfl) (by kernel_rfl) (fun _ _ _ h => h) (Or.inl ⟨by rfl, ?_⟩) hHeld ?_
    · intro wq hSw
      try dsimp only at hSw
      go_simp
    try simp only [Act.put, List.getElem_toArray, List.getElem_cons_succ, List.getElem_cons_zero, List.setIfInBounds_toArray, List.set_cons_zero, List.set_cons_succ]
    refine wpAnyH_ready (rs := [1, 9, 10]) (by kernel_rfl) (by simp) ?_
    refine AllReadyH.cons rfl (fun KK hK => ?_) (AllReadyH.cons rfl (fun KK hK => ?_) (AllReadyH.cons rfl (fun KK hK => ?_) AllReadyH.nil))
    · simp only [List.getElem_toArray, List.getElem_cons_succ, List.getElem_cons_zero]
      rw [if_pos (by rfl)]
      refine wps1 60 (.tmp 31) _ rfl in_toN (.agg #[.slice a0 z0.length c0]) rfl (toNat_any _ hn0 r0) ?_
      rintro e w6 ⟨v70, rfl, r70, k6⟩
      refine ⟨_, rfl, ?_⟩
      replace r0 := r0.kept k6 (by omega)
      replace r1 := r1.kept k6 (by omega)
      replace kw := kw.trans k6
      replace A0_0 := k6.cell0 A0_0
      replace A1_0 := k6.cell0 A1_0
      replace K := hide ((unhide K).trans k6)
      have z7 := k6.size
      clear k6
      clear hHeld
      refine hK.out _ _ ?_ (fun hHeld => ?_)
      · exact ⟨A0_0, A1_0⟩
      clear hK KK
      try simp only [Act.put, List.getElem_toArray, List.getElem_cons_succ, List.getElem_cons_zero, List.setIfInBounds_toArray, List.set_cons_zero, List.set_cons_succ]
      refine wpAnyH_ready (rs := [3, 9, 10]) (by kernel_rfl) (by simp) ?_
      refine AllReadyH.cons rfl (fun KK hK => ?_) (AllReadyH.cons rfl (fun KK hK => ?_) (AllReadyH.cons rfl (fun KK hK => ?_) AllReadyH.nil))
      · as_aux_lemma =>
          simp only [List.getElem_toArray, List.getElem_cons_succ, List.getElem_cons_zero]
          rw [if_pos (by rfl)]
          refine wps1 60 (.tmp 33) _ rfl in_toN (.agg #[.slice a1 z1.length c1]) rfl (toNat_any _ hn1 r1) ?_
          rintro e w8 ⟨v71, rfl, r71, k8⟩
          refine ⟨_, rfl, ?_⟩
          replace r0 := r0.kept k8 (by omega)
          replace r1 := r1.kept k8 (by omega)
          replace r70 := r70.kept k8 (by omega)
          replace kw := kw.trans k8
          replace A0_0 := k8.cell0 A0_0
          replace A1_0 := k8.cell0 A1_0
          replace K := hide ((unhide K).trans k8)
          have z9 := k8.size
          clear k8
          clear hHeld
          refine hK.out _ _ ?_ (fun hHeld => ?_)
          · exact ⟨A0_0, A1_0⟩
          clear hK KK
          try simp only [Act.put, List.getElem_toArray, List.getElem_cons_succ, List.getElem_cons_zero, List.setIfInBounds_toArray, List.set_cons_zero, List.set_cons_succ]
          refine wpAnyH_ready (rs := [4, 9, 10]) (by kernel_rfl) (by simp) ?_
          refine AllReadyH.cons rfl (fun KK hK => ?_) (AllReadyH.cons rfl (fun KK hK => ?_) (AllReadyH.cons rfl (fun KK hK => ?_) AllReadyH.nil))
          · simp only [List.getElem_toArray, List.getElem_cons_succ, List.getElem_cons_zero]
            rw [if_pos (by rfl)]
            have mk := natDiv_spec w8 r70 r71
            simp only [unhide EL0, unhide EL1, unhide EB2] at mk
            refine wps2 59 (.tmp 32) (.tmp 34) _ rfl in_spec_NatDiv (.agg #[v70]) (.agg #[v71]) rfl rfl mk ?_
            rintro e w10 ⟨v90, v91, rfl, r90, r91, k10⟩
            refine ⟨_, rfl, ?_⟩
            clear mk
            replace r0 := r0.kept k10 (by omega)
            replace r1 := r1.kept k10 (by omega)
            replace r70 := r70.kept k10 (by omega)
            replace r71 := r71.kept k10 (by omega)
            replace kw := kw.trans k10
            replace A0_0 := k10.cell0 A0_0
            replace A1_0 := k10.cell0 A1_0
            replace K := hide ((unhide K).trans k10)
            have z11 := k10.size
            obtain ⟨a90, d90, hv⟩ := Row.form' r90
            subst hv
            obtain ⟨a91, d91, hv⟩ := Row.form' r91
            subst hv
            clear k10
            clear hHeld
            refine hK.out _ _ ?_ (fun hHeld => ?_)
            · exact ⟨A0_0, A1_0⟩
            clear hK KK
            try simp only [Act.put, List.getElem_toArray, List.getElem_cons_succ, List.getElem_cons_zero, List.setIfInBounds_toArray, List.set_cons_zero, List.set_cons_succ]
            refine wpAnyH_take (i := 5) (oi := _) (v := .tuple #[.agg #[.slice a90 L0.length d90], .agg #[.slice a91 L1.length d91], .bool B2]) rfl (by kernel_rfl) (by kernel_rfl) (by kernel_rfl) (fun _ _ _ h => h) (Or.inl ⟨by rfl, ?_⟩) hHeld ?_
            · intro wq hSw
              try dsimp only at hSw
              go_simp
            try simp only [Act.put, List.getElem_toArray, List.getElem_cons_succ, List.getElem_cons_zero, List.setIfInBounds_toArray, List.set_cons_zero, List.set_cons_succ]
            refine wpAnyH_take (i := 6) (oi := _) (v := .agg #[.slice a90 L0.length d90]) rfl (by kernel_rfl) (by kernel_rfl) (by kernel_rfl) (fun _ _ _ h => h) (Or.inl ⟨by rfl, ?_⟩) hHeld ?_
            · intro wq hSw
              try dsimp only at hSw
              go_simp
            try simp only [Act.put, List.getElem_toArray, List.getElem_cons_succ, List.getElem_cons_zero, List.setIfInBounds_toArray, List.set_cons_zero, List.set_cons_succ]
            refine wpAnyH_take (i := 7) (oi := _) (v := .agg #[.slice a91 L1.length d91]) rfl (by kernel_rfl) (by kernel_rfl) (by kernel_rfl) (fun _ _ _ h => h) (Or.inl ⟨by rfl, ?_⟩) hHeld ?_
            · intro wq hSw
              try dsimp only at hSw
              go_simp
            try simp only [Act.put, List.getElem_toArray, List.getElem_cons_succ, List.getElem_cons_zero, List.setIfInBounds_toArray, List.set_cons_zero, List.set_cons_succ]
            refine wpAnyH_take (i := 8) (oi := _) (v := .bool B2) rfl (by kernel_rfl) (by kernel_rfl) (by kernel_rfl) (fun _ _ _ h => h) (Or.inl ⟨by rfl, ?_⟩) hHeld ?_
            · intro wq hSw
              try dsimp only at hSw
              go_simp
            try simp only [Act.put, List.getElem_toArray, List.getElem_cons_succ, List.getElem_cons_zero, List.setIfInBounds_toArray, List.set_cons_zero, List.set_cons_succ]
            refine wpAnyH_ready (rs := [9, 10]) (by kernel_rfl) (by simp) ?_
            refine AllReadyH.cons rfl (fun KK hK => ?_) (AllReadyH.cons rfl (fun KK hK => ?_) AllReadyH.nil)
            · as_aux_lemma =>
                simp only [List.getElem_toArray, List.getElem_cons_succ, List.getElem_cons_zero]
                rw [if_pos (by rfl)]
                go_simp
                have kn := (Kept.refl 0 0 w10).alloc (.cells #[.slice none 0 0] 26)
                replace r0 := r0.kept kn (by omega)
                replace r1 := r1.kept kn (by omega)
                replace r70 := r70.kept kn (by omega)
                replace r71 := r71.kept kn (by omega)
                replace r90 := r90.kept kn (by omega)
                replace r91 := r91.kept kn (by omega)
                replace kw := kw.trans kn
                replace A0_0 := kn.cell0 A0_0
                replace A1_0 := kn.cell0 A1_0
                replace K := hide ((unhide K).trans kn)
                have z13 := kn.size
                clear kn
                have szx0_ : w10.heap.size < (w10.alloc (.cells #[.slice none 0 0] 26)).heap.size := by simp
                have x0_0 : (w10.alloc (.cells #[.slice none 0 0] 26)).cell? ⟨w10.heap.size, 0, none⟩ = some (.slice none 0 0) := new_cell2 _ _ _ _ _ _ rfl rfl
                have x0_f0 : (w10.alloc (.cells #[.slice none 0 0] 26)).frozen? ⟨w10.heap.size, 0, none⟩ = false := new_loose2 _ _ _ _ _ rfl
                clear hHeld
                refine hK.out _ _ ?_ (fun hHeld => ?_)
                · exact ⟨A0_0, A1_0⟩
                clear hK KK
                try simp only [Act.put, List.getElem_toArray, List.getElem_cons_succ, List.getElem_cons_zero, List.setIfInBounds_toArray, List.set_cons_zero, List.set_cons_succ]
                generalize w10.alloc (.cells #[.slice none 0 0] 26) = w12 at *
                refine wpAnyH_ready (rs := [10]) (by kernel_rfl) (by simp) ?_
                refine AllReadyH.cons rfl (fun KK hK => ?_) AllReadyH.nil
                · simp only [List.getElem_toArray, List.getElem_cons_succ, List.getElem_cons_zero]
                  rw [if_pos (by rfl)]
                  go_simp
                  have kn := (Kept.refl 0 0 w12).alloc (.cells #[.slice none 0 0] 26)
                  replace r0 := r0.kept kn (by omega)
                  replace r1 := r1.kept kn (by omega)
                  replace r70 := r70.kept kn (by omega)
                  replace r71 := r71.kept kn (by omega)
                  replace r90 := r90.kept kn (by omega)
                  replace r91 := r91.kept kn (by omega)
                  replace kw := kw.trans kn
                  replace x0_f0 := kn.loose0 (World.block_lt_of_cell? _ _ x0_0) x0_f0
                  replace A0_0 := kn.cell0 A0_0
                  replace A1_0 := kn.cell0 A1_0
                  replace x0_0 := kn.cell0 x0_0
                  replace K := hide ((unhide K).trans kn)
                  have z15 := kn.size
                  clear kn
                  have szx1_ : w12.heap.size < (w12.alloc (.cells #[.slice none 0 0] 26)).heap.size := by simp
                  have x1_0 : (w12.alloc (.cells #[.slice none 0 0] 26)).cell? ⟨w12.heap.size, 0, none⟩ = some (.slice none 0 0) := new_cell2 _ _ _ _ _ _ rfl rfl
                  have x1_f0 : (w12.alloc (.cells #[.slice none 0 0] 26)).frozen? ⟨w12.heap.size, 0, none⟩ = false := new_loose2 _ _ _ _ _ rfl
                  clear hHeld
                  refine hK.out _ _ ?_ (fun hHeld => ?_)
                  · exact ⟨A0_0, A1_0⟩
                  clear hK KK
                  try simp only [Act.put, List.getElem_toArray, List.getElem_cons_succ, List.getElem_cons_zero, List.setIfInBounds_toArray, List.set_cons_zero, List.set_cons_succ]
                  generalize w12.alloc (.cells #[.slice none 0 0] 26) = w14 at *
                  refine wpAnyH_ready (rs := [11]) (by kernel_rfl) (by simp) ?_
                  refine AllReadyH.cons rfl (fun KK hK => ?_) AllReadyH.nil
                  simp only [List.getElem_toArray, List.getElem_cons_succ, List.getElem_cons_zero]
                  rw [if_pos (by rfl)]
                  go_simp
                  clear hHeld
                  refine hK.out _ _ ?_ (fun hHeld => ?_)
                  · exact ⟨(cell_aside _ (by have := unhide S0; dsimp only; omega) A0_0), (cell_aside _ (by have := unhide S0; dsimp only; omega) A1_0)⟩
                  clear hK KK
                  try simp only [Act.put, List.getElem_toArray, List.getElem_cons_succ, List.getElem_cons_zero, List.setIfInBounds_toArray, List.set_cons_zero, List.set_cons_succ]
                  refine wpAnyH_ready (rs := [12]) (by kernel_rfl) (by simp) ?_
                  refine AllReadyH.cons rfl (fun KK hK => ?_) AllReadyH.nil
                  simp only [List.getElem_toArray, List.getElem_cons_succ, List.getElem_cons_zero]
                  rw [if_pos (by rfl)]
                  go_simp
                  clear hHeld
                  refine hK.out _ _ ?_ (fun hHeld => ?_)
                  · exact ⟨(cell_aside _ (by have := unhide S0; dsimp only; omega) (cell_aside _ (by have := unhide S0; dsimp only; omega) A0_0)), (cell_aside _ (by have := unhide S0; dsimp only; omega) (cell_aside _ (by have := unhide S0; dsimp only; omega) A1_0))⟩
                  clear hK KK
                  try simp only [Act.put, List.getElem_toArray, List.getElem_cons_succ, List.getElem_cons_zero, List.setIfInBounds_toArray, List.set_cons_zero, List.set_cons_succ]
                  refine wpAnyH_take (i := 13) (oi := _) (v := .bool B2) rfl (by kernel_rfl) (by kernel_rfl) (by kernel_rfl) (fun _ _ _ h => h) (Or.inl ⟨by rfl, ?_⟩) hHeld ?_
                  · intro wq hSw
                    try dsimp only at hSw
                    go_simp
                  try simp only [Act.put, List.getElem_toArray, List.getElem_cons_succ, List.getElem_cons_zero, List.setIfInBounds_toArray, List.set_cons_zero, List.set_cons_succ]
                  refine wpAnyH_done (by kernel_rfl) ?_ _
                  clear hHeld
                  go_wp2_with fail
                  go_meet
                  exact ⟨_, _, _, _, rfl, rfl, rfl, law_setNN kw x0_0 x1_0 r90 r91 (by omega) (by omega) (by omega) (by omega) (by omega) (by omega) (by omega) (by omega) (by omega)⟩
            · as_aux_lemma =>
                simp only [List.getElem_toArray, List.getElem_cons_succ, List.getElem_cons_zero]
                rw [if_pos (by rfl)]
                go_simp
                have kn := (Kept.refl 0 0 w10).alloc (.cells #[.slice none 0 0] 26)
                replace r0 := r0.kept kn (by omega)
                replace r1 := r1.kept kn (by omega)
                replace r70 := r70.kept kn (by omega)
                replace r71 := r71.kept kn (by omega)
                replace r90 := r90.kept kn (by omega)
                replace r91 := r91.kept kn (by omega)
                replace kw := kw.trans kn
                replace A0_0 := kn.cell0 A0_0
                replace A1_0 := kn.cell0 A1_0
                replace K := hide ((unhide K).trans kn)
                have z13 := kn.size
                clear kn
                have szx1_ : w10.heap.size < (w10.alloc (.cells #[.slice none 0 0] 26)).heap.size := by simp
                have x1_0 : (w10.alloc (.cells #[.slice none 0 0] 26)).cell? ⟨w10.heap.size, 0, none⟩ = some (.slice none 0 0) := new_cell2 _ _ _ _ _ _ rfl rfl
                have x1_f0 : (w10.alloc (.cells #[.slice none 0 0] 26)).frozen? ⟨w10.heap.size, 0, none⟩ = false := new_loose2 _ _ _ _ _ rfl
                clear hHeld
                refine hK.out _ _ ?_ (fun hHeld => ?_)
                · exact ⟨A0_0, A1_0⟩
                clear hK KK
                try simp only [Act.put, List.getElem_toArray, List.getElem_cons_succ, List.getElem_cons_zero, List.setIfInBounds_toArray, List.set_cons_zero, List.set_cons_succ]
                generalize w10.alloc (.cells #[.slice none 0 0] 26) = w12 at *
                refine wpAnyH_ready (rs := [9]) (by kernel_rfl) (by simp) ?_
                refine AllReadyH.cons rfl (fun KK hK => ?_) AllReadyH.nil
                · simp only [List.getElem_toArray, List.getElem_cons_succ, List.getElem_cons_zero]
                  rw [if_pos (by rfl)]
                  go_simp
                  have kn := (Kept.refl 0 0 w12).alloc (.cells #[.slice none 0 0] 26)
                  replace r0 := r0.kept kn (by omega)
                  replace r1 := r1.kept kn (by omega)
                  replace r70 := r70.kept kn (by omega)
                  replace r71 := r71.kept kn (by omega)
                  replace r90 := r90.kept kn (by omega)
                  replace r91 := r91.kept kn (by omega)
                  replace kw := kw.trans kn
                  replace x1_f0 := kn.loose0 (World.block_lt_of_cell? _ _ x1_0) x1_f0
                  replace A0_0 := kn.cell0 A0_0
                  replace A1_0 := kn.cell0 A1_0
                  replace x1_0 := kn.cell0 x1_0
                  replace K := hide ((unhide K).trans kn)
                  have z15 := kn.size
                  clear kn
                  have szx0_ : w12.heap.size < (w12.alloc (.cells #[.slice none 0 0] 26)).heap.size := by simp
                  have x0_0 : (w12.alloc (.cells #[.slice none 0 0] 26)).cell? ⟨w12.heap.size, 0, none⟩ = some (.slice none 0 0) := new_cell2 _ _ _ _ _ _ rfl rfl
                  have x0_f0 : (w12.alloc (.cells #[.slice none 0 0] 26)).frozen? ⟨w12.heap.size, 0, none⟩ = false := new_loose2 _ _ _ _ _ rfl
                  clear hHeld
                  refine hK.out _ _ ?_ (fun hHeld => ?_)
                  · exact ⟨A0_0, A1_0⟩
                  clear hK KK
                  try simp only [Act.put, List.getElem_toArray, List.getElem_cons_succ, List.getElem_cons_zero, List.setIfInBounds_toArray, List.set_cons_zero, List.set_cons_succ]
                  generalize w12.alloc (.cells #[.slice none 0 0] 26) = w14 at *
                  refine wpAnyH_ready (rs := [11]) (by kernel_rfl) (by simp) ?_
                  refine AllReadyH.cons rfl (fun KK hK => ?_) AllReadyH.nil
                  simp only [List.getElem_toArray, List.getElem_cons_succ, List.getElem_cons_zero]
                  rw [if_pos (by rfl)]
                  go_simp
                  clear hHeld
                  refine hK.out _ _ ?_ (fun hHeld => ?_)
                  · exact ⟨(cell_aside _ (by have := unhide S0; dsimp only; omega) A0_0), (cell_aside _ (by have := unhide S0; dsimp only; omega) A1_0)⟩
                  clear hK KK
                  try simp only [Act.put, List.getElem_toArray, List.getElem_cons_succ, List.getElem_cons_zero, List.setIfInBounds_toArray, List.set_cons_zero, List.set_cons_succ]
                  refine wpAnyH_ready (rs := [12]) (by kernel_rfl) (by simp) ?_
                  refine AllReadyH.cons rfl (fun KK hK => ?_) AllReadyH.nil
                  simp only [List.getElem_toArray, List.getElem_cons_succ, List.getElem_cons_zero]
                  rw [if_pos (by rfl)]
                  go_simp
                  clear hHeld
                  refine hK.out _ _ ?_ (fun hHeld => ?_)
                  · exact ⟨(cell_aside _ (by have := unhide S0; dsimp only; omega) (cell_aside _ (by have := unhide S0; dsimp only; omega) A0_0)), (cell_aside _ (by have := unhide S0; dsimp only; omega) (cell_aside _ (by have := unhide S0; dsimp only; omega) A1_0))⟩
                  clear hK KK
                  try simp only [Act.put, List.getElem_toArray, List.getElem_cons_succ, List.getElem_cons_zero, List.setIfInBounds_toArray, List.set_cons_zero, List.set_cons_succ]
                  refine wpAnyH_take (i := 13) (oi := _) (v := .bool B2) rfl (by kernel_rfl) (by kernel_rfl) (by kernel_rfl) (fun _ _ _ h => h) (Or.inl ⟨by rfl, ?_⟩) hHeld ?_
                  · intro wq hSw
                    try dsimp only at hSw
                    go_simp
                  try simp only [Act.put, List.getElem_toArray, List.getElem_cons_succ, List.getElem_cons_zero, List.setIfInBounds_toArray, List.set_cons_zero, List.set_cons_succ]
                  refine wpAnyH_done (by kernel_rfl) ?_ _
                  clear hHeld
                  go_wp2_with fail
                  go_meet
                  exact ⟨_, _, _, _, rfl, rfl, rfl, law_setNN kw x0_0 x1_0 r90 r91 (by omega) (by omega) (by omega) (by omega) (by omega) (by omega) (by omega) (by omega) (by omega)⟩
          · simp only [List.getElem_toArray, List.getElem_cons_succ, List.getElem_cons_zero]
            rw [if_pos (by rfl)]
            go_simp
            have kn := (Kept.refl 0 0 w8).alloc (.cells #[.slice none 0 0] 26)
            replace r0 := r0.kept kn (by omega)
            replace r1 := r1.kept kn (by omega)
            replace r70 := r70.kept kn (by omega)
            replace r71 := r71.kept kn (by omega)
            replace kw := kw.trans kn
            replace A0_0 := kn.cell0 A0_0
            replace A1_0 := kn.cell0 A1_0
            replace K := hide ((unhide K).trans kn)
            have z11 := kn.size
            clear kn
            have szx0_ : w8.heap.size < (w8.alloc (.cells #[.slice none 0 0] 26)).heap.size := by simp
            have x0_0 : (w8.alloc (.cells #[.slice none 0 0] 26)).cell? ⟨w8.heap.size, 0, none⟩ = some (.slice none 0 0) := new_cell2 _ _ _ _ _ _ rfl rfl
            have x0_f0 : (w8.alloc (.cells #[.slice none 0 0] 26)).frozen? ⟨w8.heap.size, 0, none⟩ = false := new_loose2 _ _ _ _ _ rfl
            clear hHeld
            refine hK.out _ _ ?_ (fun hHeld => ?_)
            · exact ⟨A0_0, A1_0⟩
            clear hK KK
            try simp only [Act.put, List.getElem_toArray, List.getElem_cons_succ, List.getElem_cons_zero, List.setIfInBounds_toArray, List.set_cons_zero, List.set_cons_succ]
            generalize w8.alloc (.cells #[.slice none 0 0] 26) = w10 at *
            refine wpAnyH_ready (rs := [4, 10]) (by kernel_rfl) (by simp) ?_
            refine AllReadyH.cons rfl (fun KK hK => ?_) (AllReadyH.cons rfl (fun KK hK => ?_) AllReadyH.nil)
            · as_aux_lemma =>
                simp only [List.getElem_toArray, List.getElem_cons_succ, List.getElem_cons_zero]
                rw [if_pos (by rfl)]
                have mk := natDiv_spec w10 r70 r71
                simp only [unhide EL0, unhide EL1, unhide EB2] at mk
                refine wps2 59 (.tmp 32) (.tmp 34) _ rfl in_spec_NatDiv (.agg #[v70]) (.agg #[v71]) rfl rfl mk ?_
                rintro e w12 ⟨v90, v91, rfl, r90, r91, k12⟩
                refine ⟨_, rfl, ?_⟩
                clear mk
                replace r0 := r0.kept k12 (by omega)
                replace r1 := r1.kept k12 (by omega)
                replace r70 := r70.kept k12 (by omega)
                replace r71 := r71.kept k12 (by omega)
                replace kw := kw.trans k12
                replace x0_f0 := k12.loose0 (World.block_lt_of_cell? _ _ x0_0) x0_f0
                replace A0_0 := k12.cell0 A0_0
                replace A1_0 := k12.cell0 A1_0
                replace x0_0 := k12.cell0 x0_0
                replace K := hide ((unhide K).trans k12)
                have z13 := k12.size
                obtain ⟨a90, d90, hv⟩ := Row.form' r90
                subst hv
                obtain ⟨a91, d91, hv⟩ := Row.form' r91
                subst hv
                clear k12
                clear hHeld
                refine hK.out _ _ ?_ (fun hHeld => ?_)
                · exact ⟨A0_0, A1_0⟩
                clear hK KK
                try simp only [Act.put, List.getElem_toArray, List.getElem_cons_succ, List.getElem_cons_zero, List.setIfInBounds_toArray, List.set_cons_zero, List.set_cons_succ]
                refine wpAnyH_take (i := 5) (oi := _) (v := .tuple #[.agg #[.slice a90 L0.length d90], .agg #[.slice a91 L1.length d91], .bool B2]) rfl (by kernel_rfl) (by kernel_rfl) (by kernel_rfl) (fun _ _ _ h => h) (Or.inl ⟨by rfl, ?_⟩) hHeld ?_
                · intro wq hSw
                  try dsimp only at hSw
                  go_simp
                try simp only [Act.put, List.getElem_toArray, List.getElem_cons_succ, List.getElem_cons_zero, List.setIfInBounds_toArray, List.set_cons_zero, List.set_cons_succ]
                refine wpAnyH_take (i := 6) (oi := _) (v := .agg #[.slice a90 L0.length d90]) rfl (by kernel_rfl) (by kernel_rfl) (by kernel_rfl) (fun _ _ _ h => h) (Or.inl ⟨by rfl, ?_⟩) hHeld ?_
                · intro wq hSw
                  try dsimp only at hSw
                  go_simp
                try simp only [Act.put, List.getElem_toArray, List.getElem_cons_succ, List.getElem_cons_zero, List.setIfInBounds_toArray, List.set_cons_zero, List.set_cons_succ]
                refine wpAnyH_take (i := 7) (oi := _) (v := .agg #[.slice a91 L1.length d91]) rfl (by kernel_rfl) (by kernel_rfl) (by kernel_rfl) (fun _ _ _ h => h) (Or.inl ⟨by rfl, ?_⟩) hHeld ?_
                · intro wq hSw
                  try dsimp only at hSw
                  go_simp
                try simp only [Act.put, List.getElem_toArray, List.getElem_cons_succ, List.getElem_cons_zero, List.setIfInBounds_toArray, List.set_cons_zero, List.set_cons_succ]
                refine wpAnyH_take (i := 8) (oi := _) (v := .bool B2) rfl (by kernel_rfl) (by kernel_rfl) (by kernel_rfl) (fun _ _ _ h => h) (Or.inl ⟨by rfl, ?_⟩) hHeld ?_
                · intro wq hSw
                  try dsimp only at hSw
                  go_simp
                try simp only [Act.put, List.getElem_toArray, List.getElem_cons_succ, List.getElem_cons_zero, List.setIfInBounds_toArray, List.set_cons_zero, List.set_cons_succ]
                refine wpAnyH_ready (rs := [10]) (by kernel_rfl) (by simp) ?_
                refine AllReadyH.cons rfl (fun KK hK => ?_) AllReadyH.nil
                · simp only [List.getElem_toArray, List.getElem_cons_succ, List.getElem_cons_zero]
                  rw [if_pos (by rfl)]
                  go_simp
                  have kn := (Kept.refl 0 0 w12).alloc (.cells #[.slice none 0 0] 26)
                  replace r0 := r0.kept kn (by omega)
                  replace r1 := r1.kept kn (by omega)
                  replace r70 := r70.kept kn (by omega)
                  replace r71 := r71.kept kn (by omega)
                  replace r90 := r90.kept kn (by omega)
                  replace r91 := r91.kept kn (by omega)
                  replace kw := kw.trans kn
                  replace x0_f0 := kn.loose0 (World.block_lt_of_cell? _ _ x0_0) x0_f0
                  replace A0_0 := kn.cell0 A0_0
                  replace A1_0 := kn.cell0 A1_0
                  replace x0_0 := kn.cell0 x0_0
                  replace K := hide ((unhide K).trans kn)
                  have z15 := kn.size
                  clear kn
                  have szx1_ : w12.heap.size < (w12.alloc (.cells #[.slice none 0 0] 26)).heap.size := by simp
                  have x1_0 : (w12.alloc (.cells #[.slice none 0 0] 26)).cell? ⟨w12.heap.size, 0, none⟩ = some (.slice none 0 0) := new_cell2 _ _ _ _ _ _ rfl rfl
                  have x1_f0 : (w12.alloc (.cells #[.slice none 0 0] 26)).frozen? ⟨w12.heap.size, 0, none⟩ = false := new_loose2 _ _ _ _ _ rfl
                  clear hHeld
                  refine hK.out _ _ ?_ (fun hHeld => ?_)
                  · exact ⟨A0_0, A1_0⟩
                  clear hK KK
                  try simp only [Act.put, List.getElem_toArray, List.getElem_cons_succ, List.getElem_cons_zero, List.setIfInBounds_toArray, List.set_cons_zero, List.set_cons_succ]
                  generalize w12.alloc (.cells #[.slice none 0 0] 26) = w14 at *
                  refine wpAnyH_ready (rs := [11]) (by kernel_rfl) (by simp) ?_
                  refine AllReadyH.cons rfl (fun KK hK => ?_) AllReadyH.nil
                  simp only [List.getElem_toArray, List.getElem_cons_succ, List.getElem_cons_zero]
                  rw [if_pos (by rfl)]
                  go_simp
                  clear hHeld
                  refine hK.out _ _ ?_ (fun hHeld => ?_)
                  · exact ⟨(cell_aside _ (by have := unhide S0; dsimp only; omega) A0_0), (cell_aside _ (by have := unhide S0; dsimp only; omega) A1_0)⟩
                  clear hK KK
                  try simp only [Act.put, List.getElem_toArray, List.getElem_cons_succ, List.getElem_cons_zero, List.setIfInBounds_toArray, List.set_cons_zero, List.set_cons_succ]
                  refine wpAnyH_ready (rs := [12]) (by kernel_rfl) (by simp) ?_
                  refine AllReadyH.cons rfl (fun KK hK => ?_) AllReadyH.nil
                  simp only [List.getElem_toArray, List.getElem_cons_succ, List.getElem_cons_zero]
                  rw [if_pos (by rfl)]
                  go_simp
                  clear hHeld
                  refine hK.out _ _ ?_ (fun hHeld => ?_)
                  · exact ⟨(cell_aside _ (by have := unhide S0; dsimp only; omega) (cell_aside _ (by have := unhide S0; dsimp only; omega) A0_0)), (cell_aside _ (by have := unhide S0; dsimp only; omega) (cell_aside _ (by have := unhide S0; dsimp only; omega) A1_0))⟩
                  clear hK KK
                  try simp only [Act.put, List.getElem_toArray, List.getElem_cons_succ, List.getElem_cons_zero, List.setIfInBounds_toArray, List.set_cons_zero, List.set_cons_succ]
                  refine wpAnyH_take (i := 13) (oi := _) (v := .bool B2) rfl (by kernel_rfl) (by kernel_rfl) (by kernel_rfl) (fun _ _ _ h => h) (Or.inl ⟨by rfl, ?_⟩) hHeld ?_
                  · intro wq hSw
                    try dsimp only at hSw
                    go_simp
                  try simp only [Act.put, List.getElem_toArray, List.getElem_cons_succ, List.getElem_cons_zero, List.setIfInBounds_toArray, List.set_cons_zero, List.set_cons_succ]
                  refine wpAnyH_done (by kernel_rfl) ?_ _
                  clear hHeld
                  go_wp2_with fail
                  go_meet
                  exact ⟨_, _, _, _, rfl, rfl, rfl, law_setNN kw x0_0 x1_0 r90 r91 (by omega) (by omega) (by omega) (by omega) (by omega) (by omega) (by omega) (by omega) (by omega)⟩
            · as_aux_lemma =>
                simp only [List.getElem_toArray, List.getElem_cons_succ, List.getElem_cons_zero]
                rw [if_pos (by rfl)]
                go_simp
                have kn := (Kept.refl 0 0 w10).alloc (.cells #[.slice none 0 0] 26)
                replace r0 := r0.kept kn (by omega)
                replace r1 := r1.kept kn (by omega)
                replace r70 := r70.kept kn (by omega)
                replace r71 := r71.kept kn (by omega)
                replace kw := kw.trans kn
                replace x0_f0 := kn.loose0 (World.block_lt_of_cell? _ _ x0_0) x0_f0
                replace A0_0 := kn.cell0 A0_0
                replace A1_0 := kn.cell0 A1_0
                replace x0_0 := kn.cell0 x0_0
                replace K := hide ((unhide K).trans kn)
                have z13 := kn.size
                clear kn
                have szx1_ : w10.heap.size < (w10.alloc (.cells #[.slice none 0 0] 26)).heap.size := by simp
                have x1_0 : (w10.alloc (.cells #[.slice none 0 0] 26)).cell? ⟨w10.heap.size, 0, none⟩ = some (.slice none 0 0) := new_cell2 _ _ _ _ _ _ rfl rfl
                have x1_f0 : (w10.alloc (.cells #[.slice none 0 0] 26)).frozen? ⟨w10.heap.size, 0, none⟩ = false := new_loose2 _ _ _ _ _ rfl
                clear hHeld
                refine hK.out _ _ ?_ (fun hHeld => ?_)
                · exact ⟨A0_0, A1_0⟩
                clear hK KK
                try simp only [Act.put, List.getElem_toArray, List.getElem_cons_succ, List.getElem_cons_zero, List.setIfInBounds_toArray, List.set_cons_zero, List.set_cons_succ]
                generalize w10.alloc (.cells #[.slice none 0 0] 26) = w12 at *
                refine wpAnyH_ready (rs := [4]) (by kernel_rfl) (by simp) ?_
                refine AllReadyH.cons rfl (fun KK hK => ?_) AllReadyH.nil
                · simp only [List.getElem_toArray, List.getElem_cons_succ, List.getElem_cons_zero]
                  rw [if_pos (by rfl)]
                  have mk := natDiv_spec w12 r70 r71
                  simp only [unhide EL0, unhide EL1, unhide EB2] at mk
                  refine wps2 59 (.tmp 32) (.tmp 34) _ rfl in_spec_NatDiv (.agg #[v70]) (.agg #[v71]) rfl rfl mk ?_
                  rintro e w14 ⟨v90, v91, rfl, r90, r91, k14⟩
                  refine ⟨_, rfl, ?_⟩
                  clear mk
                  replace r0 := r0.kept k14 (by omega)
                  replace r1 := r1.kept k14 (by omega)
                  replace r70 := r70.kept k14 (by omega)
                  replace r71 := r71.kept k14 (by omega)
                  replace kw := kw.trans k14
                  replace x0_f0 := k14.loose0 (World.block_lt_of_cell? _ _ x0_0) x0_f0
                  replace x1_f0 := k14.loose0 (World.block_lt_of_cell? _ _ x1_0) x1_f0
                  replace A0_0 := k14.cell0 A0_0
                  replace A1_0 := k14.cell0 A1_0
                  replace x0_0 := k14.cell0 x0_0
                  replace x1_0 := k14.cell0 x1_0
                  replace K := hide ((unhide K).trans k14)
                  have z15 := k14.size
                  obtain ⟨a90, d90, hv⟩ := Row.form' r90
                  subst hv
                  obtain ⟨a91, d91, hv⟩ := Row.form' r91
                  subst hv
                  clear k14
                  clear hHeld
                  refine hK.out _ _ ?_ (fun hHeld => ?_)
                  · exact ⟨A0_0, A1_0⟩
                  clear hK KK
                  try simp only [Act.put, List.getElem_toArray, List.getElem_cons_succ, List.getElem_cons_zero, List.setIfInBounds_toArray, List.set_cons_zero, List.set_cons_succ]
                  refine wpAnyH_take (i := 5) (oi := _) (v := .tuple #[.agg #[.slice a90 L0.length d90], .agg #[.slice a91 L1.length d91], .bool B2]) rfl (by kernel_rfl) (by kernel_rfl) (by kernel_rfl) (fun _ _ _ h => h) (Or.inl ⟨by rfl, ?_⟩) hHeld ?_
                  · intro wq hSw
                    try dsimp only at hSw
                    go_simp
                  try simp only [Act.put, List.getElem_toArray, List.getElem_cons_succ, List.getElem_cons_zero, List.setIfInBounds_toArray, List.set_cons_zero, List.set_cons_succ]
                  refine wpAnyH_take (i := 6) (oi := _) (v := .agg #[.slice a90 L0.length d90]) rfl (by kernel_rfl) (by kernel_rfl) (by kernel_rfl) (fun _ _ _ h => h) (Or.inl ⟨by rfl, ?_⟩) hHeld ?_
                  · intro wq hSw
                    try dsimp only at hSw
                    go_simp
                  try simp only [Act.put, List.getElem_toArray, List.getElem_cons_succ, List.getElem_cons_zero, List.setIfInBounds_toArray, List.set_cons_zero, List.set_cons_succ]
                  refine wpAnyH_take (i := 7) (oi := _) (v := .agg #[.slice a91 L1.length d91]) rfl (by kernel_rfl) (by kernel_rfl) (by kernel_rfl) (fun _ _ _ h => h) (Or.inl ⟨by rfl, ?_⟩) hHeld ?_
                  · intro wq hSw
                    try dsimp only at hSw
                    go_simp
                  try simp only [Act.put, List.getElem_toArray, List.getElem_cons_succ, List.getElem_cons_zero, List.setIfInBounds_toArray, List.set_cons_zero, List.set_cons_succ]
                  refine wpAnyH_take (i := 8) (oi := _) (v := .bool B2) rfl (by kernel_rfl) (by kernel_rfl) (by kernel_rfl) (fun _ _ _ h => h) (Or.inl ⟨by rfl, ?_⟩) hHeld ?_
                  · intro wq hSw
                    try dsimp only at hSw
                    go_simp
                  try simp only [Act.put, List.getElem_toArray, List.getElem_cons_succ, List.getElem_cons_zero, List.setIfInBounds_toArray, List.set_cons_zero, List.set_cons_succ]
                  refine wpAnyH_ready (rs := [11]) (by kernel_rfl) (by simp) ?_
                  refine AllReadyH.cons rfl (fun KK hK => ?_) AllReadyH.nil
                  simp only [List.getElem_toArray, List.getElem_cons_succ, List.getElem_cons_zero]
                  rw [if_pos (by rfl)]
                  go_simp
                  clear hHeld
                  refine hK.out _ _ ?_ (fun hHeld => ?_)
                  · exact ⟨(cell_aside _ (by have := unhide S0; dsimp only; omega) A0_0), (cell_aside _ (by have := unhide S0; dsimp only; omega) A1_0)⟩
                  clear hK KK
                  try simp only [Act.put, List.getElem_toArray, List.getElem_cons_succ, List.getElem_cons_zero, List.setIfInBounds_toArray, List.set_cons_zero, List.set_cons_succ]
                  refine wpAnyH_ready (rs := [12]) (by kernel_rfl) (by simp) ?_
                  refine AllReadyH.cons rfl (fun KK hK => ?_) AllReadyH.nil
                  simp only [List.getElem_toArray, List.getElem_cons_succ, List.getElem_cons_zero]
                  rw [if_pos (by rfl)]
                  go_simp
                  clear hHeld
                  refine hK.out _ _ ?_ (fun hHeld => ?_)
                  · exact ⟨(cell_aside _ (by have := unhide S0; dsimp only; omega) (cell_aside _ (by have := unhide S0; dsimp only; omega) A0_0)), (cell_aside _ (by have := unhide S0; dsimp only; omega) (cell_aside _ (by have := unhide S0; dsimp only; omega) A1_0))⟩
                  clear hK KK
                  try simp only [Act.put, List.getElem_toArray, List.getElem_cons_succ, List.getElem_cons_zero, List.setIfInBounds_toArray, List.set_cons_zero, List.set_cons_succ]
                  refine wpAnyH_take (i := 13) (oi := _) (v := .bool B2) rfl (by kernel_rfl) (by kernel_rfl) (by kernel_rfl) (fun _ _ _ h => h) (Or.inl ⟨by rfl, ?_⟩) hHeld ?_
                  · intro wq hSw
                    try dsimp only at hSw
                    go_simp
                  try simp only [Act.put, List.getElem_toArray, List.getElem_cons_succ, List.getElem_cons_zero, List.setIfInBounds_toArray, List.set_cons_zero, List.set_cons_succ]
                  refine wpAnyH_done (by kernel_rfl) ?_ _
                  clear hHeld
                  go_wp2_with fail
                  go_meet
                  exact ⟨_, _, _, _, rfl, rfl, rfl, law_setNN kw x0_0 x1_0 r90 r91 (by omega) (by omega) (by omega) (by omega) (by omega) (by omega) (by omega) (by omega) (by omega)⟩
          · simp only [List.getElem_toArray, List.getElem_cons_succ, List.getElem_cons_zero]
            rw [if_pos (by rfl)]
            go_simp
            have kn := (Kept.refl 0 0 w8).alloc (.cells #[.slice none 0 0] 26)
            replace r0 := r0.kept kn (by omega)
            replace r1 := r1.kept kn (by omega)
            replace r70 := r70.kept kn (by omega)
            replace r71 := r71.kept kn (by omega)
            replace kw := kw.trans kn
            replace A0_0 := kn.cell0 A0_0
            replace A1_0 := kn.cell0 A1_0
            replace K := hide ((unhide K).trans kn)
            have z11 := kn.size
            clear kn
            have szx1_ : w8.heap.size < (w8.alloc (.cells #[.slice none 0 0] 26)).heap.size := by simp
            have x1_0 : (w8.alloc (.cells #[.slice none 0 0] 26)).cell? ⟨w8.heap.size, 0, none⟩ = some (.slice none 0 0) := new_cell2 _ _ _ _ _ _ rfl rfl
            have x1_f0 : (w8.alloc (.cells #[.slice none 0 0] 26)).frozen? ⟨w8.heap.size, 0, none⟩ = false := new_loose2 _ _ _ _ _ rfl
            clear hHeld
            refine hK.out _ _ ?_ (fun hHeld => ?_)
            · exact ⟨A0_0, A1_0⟩
            clear hK KK
            try simp only [Act.put, List.getElem_toArray, List.getElem_cons_succ, List.getElem_cons_zero, List.setIfInBounds_toArray, List.set_cons_zero, List.set_cons_succ]
            generalize w8.alloc (.cells #[.slice none 0 0] 26) = w10 at *
            refine wpAnyH_ready (rs := [4, 9]) (by kernel_rfl) (by simp) ?_
            refine AllReadyH.cons rfl (fun KK hK => ?_) (AllReadyH.cons rfl (fun KK hK => ?_) AllReadyH.nil)
            · as_aux_lemma =>
                simp only [List.getElem_toArray, List.getElem_cons_succ, List.getElem_cons_zero]
                rw [if_pos (by rfl)]
                have mk := natDiv_spec w10 r70 r71
                simp only [unhide EL0, unhide EL1, unhide EB2] at mk
                refine wps2 59 (.tmp 32) (.tmp 34) _ rfl in_spec_NatDiv (.agg #[v70]) (.agg #[v71]) rfl rfl mk ?_
                rintro e w12 ⟨v90, v91, rfl, r90, r91, k12⟩
                refine ⟨_, rfl, ?_⟩
                clear mk
                replace r0 := r0.kept k12 (by omega)
                replace r1 := r1.kept k12 (by omega)
                replace r70 := r70.kept k12 (by omega)
                replace r71 := r71.kept k12 (by omega)
                replace kw := kw.trans k12
                replace x1_f0 := k12.loose0 (World.block_lt_of_cell? _ _ x1_0) x1_f0
                replace A0_0 := k12.cell0 A0_0
                replace A1_0 := k12.cell0 A1_0
                replace x1_0 := k12.cell0 x1_0
                replace K := hide ((unhide K).trans k12)
                have z13 := k12.size
                obtain ⟨a90, d90, hv⟩ := Row.form' r90
                subst hv
                obtain ⟨a91, d91, hv⟩ := Row.form' r91
                subst hv
                clear k12
                clear hHeld
                refine hK.out _ _ ?_ (fun hHeld => ?_)
                · exact ⟨A0_0, A1_0⟩
                clear hK KK
                try simp only [Act.put, List.getElem_toArray, List.getElem_cons_succ, List.getElem_cons_zero, List.setIfInBounds_toArray, List.set_cons_zero, List.set_cons_succ]
                refine wpAnyH_take (i := 5) (oi := _) (v := .tuple #[.agg #[.slice a90 L0.length d90], .agg #[.slice a91 L1.length d91], .bool B2]) rfl (by kernel_rfl) (by kernel_rfl) (by kernel_rfl) (fun _ _ _ h => h) (Or.inl ⟨by rfl, ?_⟩) hHeld ?_
                · intro wq hSw
                  try dsimp only at hSw
                  go_simp
                try simp only [Act.put, List.getElem_toArray, List.getElem_cons_succ, List.getElem_cons_zero, List.setIfInBounds_toArray, List.set_cons_zero, List.set_cons_succ]
                refine wpAnyH_take (i := 6) (oi := _) (v := .agg #[.slice a90 L0.length d90]) rfl (by kernel_rfl) (by kernel_rfl) (by kernel_rfl) (fun _ _ _ h => h) (Or.inl ⟨by rfl, ?_⟩) hHeld ?_
                · intro wq hSw
                  try dsimp only at hSw
                  go_simp
                try simp only [Act.put, List.getElem_toArray, List.getElem_cons_succ, List.getElem_cons_zero, List.setIfInBounds_toArray, List.set_cons_zero, List.set_cons_succ]
                refine wpAnyH_take (i := 7) (oi := _) (v := .agg #[.slice a91 L1.length d91]) rfl (by kernel_rfl) (by kernel_rfl) (by kernel_rfl) (fun _ _ _ h => h) (Or.inl ⟨by rfl, ?_⟩) hHeld ?_
                · intro wq hSw
                  try dsimp only at hSw
                  go_simp
                try simp only [Act.put, List.getElem_toArray, List.getElem_cons_succ, List.getElem_cons_zero, List.setIfInBounds_toArray, List.set_cons_zero, List.set_cons_succ]
                refine wpAnyH_take (i := 8) (oi := _) (v := .bool B2) rfl (by kernel_rfl) (by kernel_rfl) (by kernel_rfl) (fun _ _ _ h => h) (Or.inl ⟨by rfl, ?_⟩) hHeld ?_
                · intro wq hSw
                  try dsimp only at hSw
                  go_simp
                try simp only [Act.put, List.getElem_toArray, List.getElem_cons_succ, List.getElem_cons_zero, List.setIfInBounds_toArray, List.set_cons_zero, List.set_cons_succ]
                refine wpAnyH_ready (rs := [9]) (by kernel_rfl) (by simp) ?_
                refine AllReadyH.cons rfl (fun KK hK => ?_) AllReadyH.nil
                · simp only [List.getElem_toArray, List.getElem_cons_succ, List.getElem_cons_zero]
                  rw [if_pos (by rfl)]
                  go_simp
                  have kn := (Kept.refl 0 0 w12).alloc (.cells #[.slice none 0 0] 26)
                  replace r0 := r0.kept kn (by omega)
                  replace r1 := r1.kept kn (by omega)
                  replace r70 := r70.kept kn (by omega)
                  replace r71 := r71.kept kn (by omega)
                  replace r90 := r90.kept kn (by omega)
                  replace r91 := r91.kept kn (by omega)
                  replace kw := kw.trans kn
                  replace x1_f0 := kn.loose0 (World.block_lt_of_cell? _ _ x1_0) x1_f0
                  replace A0_0 := kn.cell0 A0_0
                  replace A1_0 := kn.cell0 A1_0
                  replace x1_0 := kn.cell0 x1_0
                  replace K := hide ((unhide K).trans kn)
                  have z15 := kn.size
                  clear kn
                  have szx0_ : w12.heap.size < (w12.alloc (.cells #[.slice none 0 0] 26)).heap.size := by simp
                  have x0_0 : (w12.alloc (.cells #[.slice none 0 0] 26)).cell? ⟨w12.heap.size, 0, none⟩ = some (.slice none 0 0) := new_cell2 _ _ _ _ _ _ rfl rfl
                  have x0_f0 : (w12.alloc (.cells #[.slice none 0 0] 26)).frozen? ⟨w12.heap.size, 0, none⟩ = false := new_loose2 _ _ _ _ _ rfl
                  clear hHeld
                  refine hK.out _ _ ?_ (fun hHeld => ?_)
                  · exact ⟨A0_0, A1_0⟩
                  clear hK KK
                  try simp only [Act.put, List.getElem_toArray, List.getElem_cons_succ, List.getElem_cons_zero, List.setIfInBounds_toArray, List.set_cons_zero, List.set_cons_succ]
                  generalize w12.alloc (.cells #[.slice none 0 0] 26) = w14 at *
                  refine wpAnyH_ready (rs := [11]) (by kernel_rfl) (by simp) ?_
                  refine AllReadyH.cons rfl (fun KK hK => ?_) AllReadyH.nil
                  simp only [List.getElem_toArray, List.getElem_cons_succ, List.getElem_cons_zero]
                  rw [if_pos (by rfl)]
                  go_simp
                  clear hHeld
                  refine hK.out _ _ ?_ (fun hHeld => ?_)
                  · exact ⟨(cell_aside _ (by have := unhide S0; dsimp only; omega) A0_0), (cell_aside _ (by have := unhide S0; dsimp only; omega) A1_0)⟩
                  clear hK KK
                  try simp only [Act.put, List.getElem_toArray, List.getElem_cons_succ, List.getElem_cons_zero, List.setIfInBounds_toArray, List.set_cons_zero, List.set_cons_succ]
                  refine wpAnyH_ready (rs := [12]) (by kernel_rfl) (by simp) ?_
                  refine AllReadyH.cons rfl (fun KK hK => ?_) AllReadyH.nil
                  simp only [List.getElem_toArray, List.getElem_cons_succ, List.getElem_cons_zero]
                  rw [if_pos (by rfl)]
                  go_simp
                  clear hHeld
                  refine hK.out _ _ ?_ (fun hHeld => ?_)
                  · exact ⟨(cell_aside _ (by have := unhide S0; dsimp only; omega) (cell_aside _ (by have := unhide S0; dsimp only; omega) A0_0)), (cell_aside _ (by have := unhide S0; dsimp only; omega) (cell_aside _ (by have := unhide S0; dsimp only; omega) A1_0))⟩
                  clear hK KK
                  try simp only [Act.put, List.getElem_toArray, List.getElem_cons_succ, List.getElem_cons_zero, List.setIfInBounds_toArray, List.set_cons_zero, List.set_cons_succ]
                  refine wpAnyH_take (i := 13) (oi := _) (v := .bool B2) rfl (by kernel_rfl) (by kernel_rfl) (by kernel_rfl) (fun _ _ _ h => h) (Or.inl ⟨by rfl, ?_⟩) hHeld ?_
                  · intro wq hSw
                    try dsimp only at hSw
                    go_simp
                  try simp only [Act.put, List.getElem_toArray, List.getElem_cons_succ, List.getElem_cons_zero, List.setIfInBounds_toArray, List.set_cons_zero, List.set_cons_succ]
                  refine wpAnyH_done (by kernel_rfl) ?_ _
                  clear hHeld
                  go_wp2_with fail
                  go_meet
                  exact ⟨_, _, _, _, rfl, rfl, rfl, law_setNN kw x0_0 x1_0 r90 r91 (by omega) (by omega) (by omega) (by omega) (by omega) (by omega) (by omega) (by omega) (by omega)⟩
            · as_aux_lemma =>
                simp only [List.getElem_toArray, List.getElem_cons_succ, List.getElem_cons_zero]
                rw [if_pos (by rfl)]
                go_simp
                have kn := (Kept.refl 0 0 w10).alloc (.cells #[.slice none 0 0] 26)
                replace r0 := r0.kept kn (by omega)
                replace r1 := r1.kept kn (by omega)
                replace r70 := r70.kept kn (by omega)
                replace r71 := r71.kept kn (by omega)
                replace kw := kw.trans kn
                replace x1_f0 := kn.loose0 (World.block_lt_of_cell? _ _ x1_0) x1_f0
                replace A0_0 := kn.cell0 A0_0
                replace A1_0 := kn.cell0 A1_0
                replace x1_0 := kn.cell0 x1_0
                replace K := hide ((unhide K).trans kn)
                have z13 := kn.size
                clear kn
                have szx0_ : w10.heap.size < (w10.alloc (.cells #[.slice none 0 0] 26)).heap.size := by simp
                have x0_0 : (w10.alloc (.cells #[.slice none 0 0] 26)).cell? ⟨w10.heap.size, 0, none⟩ = some (.slice none 0 0) := new_cell2 _ _ _ _ _ _ rfl rfl
                have x0_f0 : (w10.alloc (.cells #[.slice none 0 0] 26)).frozen? ⟨w10.heap.size, 0, none⟩ = false := new_loose2 _ _ _ _ _ rfl
                clear hHeld
                refine hK.out _ _ ?_ (fun hHeld => ?_)
                · exact ⟨A0_0, A1_0⟩
                clear hK KK
                try simp only [Act.put, List.getElem_toArray, List.getElem_cons_succ, List.getElem_cons_zero, List.setIfInBounds_toArray, List.set_cons_zero, List.set_cons_succ]
                generalize w10.alloc (.cells #[.slice none 0 0] 26) = w12 at *
                refine wpAnyH_ready (rs := [4]) (by kernel_rfl) (by simp) ?_
                refine AllReadyH.cons rfl (fun KK hK => ?_) AllReadyH.nil
                · simp only [List.getElem_toArray, List.getElem_cons_succ, List.getElem_cons_zero]
                  rw [if_pos (by rfl)]
                  have mk := natDiv_spec w12 r70 r71
                  simp only [unhide EL0, unhide EL1, unhide EB2] at mk
                  refine wps2 59 (.tmp 32) (.tmp 34) _ rfl in_spec_NatDiv (.agg #[v70]) (.agg #[v71]) rfl rfl mk ?_
                  rintro e w14 ⟨v90, v91, rfl, r90, r91, k14⟩
                  refine ⟨_, rfl, ?_⟩
                  clear mk
                  replace r0 := r0.kept k14 (by omega)
                  replace r1 := r1.kept k14 (by omega)
                  replace r70 := r70.kept k14 (by omega)
                  replace r71 := r71.kept k14 (by omega)
                  replace kw := kw.trans k14
                  replace x1_f0 := k14.loose0 (World.block_lt_of_cell? _ _ x1_0) x1_f0
                  replace x0_f0 := k14.loose0 (World.block_lt_of_cell? _ _ x0_0) x0_f0
                  replace A0_0 := k14.cell0 A0_0
                  replace A1_0 := k14.cell0 A1_0
                  replace x1_0 := k14.cell0 x1_0
                  replace x0_0 := k14.cell0 x0_0
                  replace K := hide ((unhide K).trans k14)
                  have z15 := k14.size
                  obtain ⟨a90, d90, hv⟩ := Row.form' r90
                  subst hv
                  obtain ⟨a91, d91, hv⟩ := Row.form' r91
                  subst hv
                  clear k14
                  clear hHeld
                  refine hK.out _ _ ?_ (fun hHeld => ?_)
                  · exact ⟨A0_0, A1_0⟩
                  clear hK KK
                  try simp only [Act.put, List.getElem_toArray, List.getElem_cons_succ, List.getElem_cons_zero, List.setIfInBounds_toArray, List.set_cons_zero, List.set_cons_succ]
                  refine wpAnyH_take (i := 5) (oi := _) (v := .tuple #[.agg #[.slice a90 L0.length d90], .agg #[.slice a91 L1.length d91], .bool B2]) rfl (by kernel_rfl) (by kernel_rfl) (by kernel_rfl) (fun _ _ _ h => h) (Or.inl ⟨by rfl, ?_⟩) hHeld ?_
                  · intro wq hSw
                    try dsimp only at hSw
                    go_simp
                  try simp only [Act.put, List.getElem_toArray, List.getElem_cons_succ, List.getElem_cons_zero, List.setIfInBounds_toArray, List.set_cons_zero, List.set_cons_succ]
                  refine wpAnyH_take (i := 6) (oi := _) (v := .agg #[.slice a90 L0.length d90]) rfl (by kernel_rfl) (by kernel_rfl) (by kernel_rfl) (fun _ _ _ h => h) (Or.inl ⟨by rfl, ?_⟩) hHeld ?_
                  · intro wq hSw
                    try dsimp only at hSw
                    go_simp
                  try simp only [Act.put, List.getElem_toArray, List.getElem_cons_succ, List.getElem_cons_zero, List.setIfInBounds_toArray, List.set_cons_zero, List.set_cons_succ]
                  refine wpAnyH_take (i := 7) (oi := _) (v := .agg #[.slice a91 L1.length d91]) rfl (by kernel_rfl) (by kernel_rfl) (by kernel_rfl) (fun _ _ _ h => h) (Or.inl ⟨by rfl, ?_⟩) hHeld ?_
                  · intro wq hSw
                    try dsimp only at hSw
                    go_simp
                  try simp only [Act.put, List.getElem_toArray, List.getElem_cons_succ, List.getElem_cons_zero, List.setIfInBounds_toArray, List.set_cons_zero, List.set_cons_succ]
                  refine wpAnyH_take (i := 8) (oi := _) (v := .bool B2) rfl (by kernel_rfl) (by kernel_rfl) (by kernel_rfl) (fun _ _ _ h => h) (Or.inl ⟨by rfl, ?_⟩) hHeld ?_
                  · intro wq hSw
                    try dsimp only at hSw
                    go_simp
                  try simp only [Act.put, List.getElem_toArray, List.getElem_cons_succ, List.getElem_cons_zero, List.setIfInBounds_toArray, List.set_cons_zero, List.set_cons_succ]
                  refine wpAnyH_ready (rs := [11]) (by kernel_rfl) (by simp) ?_
                  refine AllReadyH.cons rfl (fun KK hK => ?_) AllReadyH.nil
                  simp only [List.getElem_toArray, List.getElem_cons_succ, List.getElem_cons_zero]
                  rw [if_pos (by rfl)]
                  go_simp
                  clear hHeld
                  refine hK.out _ _ ?_ (fun hHeld => ?_)
                  · exact ⟨(cell_aside _ (by have := unhide S0; dsimp only; omega) A0_0), (cell_aside _ (by have := unhide S0; dsimp only; omega) A1_0)⟩
                  clear hK KK
                  try simp only [Act.put, List.getElem_toArray, List.getElem_cons_succ, List.getElem_cons_zero, List.setIfInBounds_toArray, List.set_cons_zero, List.set_cons_succ]
                  refine wpAnyH_ready (rs := [12]) (by kernel_rfl) (by simp) ?_
                  refine AllReadyH.cons rfl (fun KK hK => ?_) AllReadyH.nil
                  simp only [List.getElem_toArray, List.getElem_cons_succ, List.getElem_cons_zero]
                  rw [if_pos (by rfl)]
                  go_simp
                  clear hHeld
                  refine hK.out _ _ ?_ (fun hHeld => ?_)
                  · exact ⟨(cell_aside _ (by have := unhide S0; dsimp only; omega) (cell_aside _ (by have := unhide S0; dsimp only; omega) A0_0)), (cell_aside _ (by have := unhide S0; dsimp only; omega) (cell_aside _ (by have := unhide S0; dsimp only; omega) A1_0))⟩
                  clear hK KK
                  try simp only [Act.put, List.getElem_toArray, List.getElem_cons_succ, List.getElem_cons_zero, List.setIfInBounds_toArray, List.set_cons_zero, List.set_cons_succ]
                  refine wpAnyH_take (i := 13) (oi := _) (v := .bool B2) rfl (by kernel_rfl) (by kernel_rfl) (by kernel_rfl) (fun _ _ _ h => h) (Or.inl ⟨by rfl, ?_⟩) hHeld ?_
                  · intro wq hSw
                    try dsimp only at hSw
                    go_simp
                  try simp only [Act.put, List.getElem_toArray, List.getElem_cons_succ, List.getElem_cons_zero, List.setIfInBounds_toArray, List.set_cons_zero, List.set_cons_succ]
                  refine wpAnyH_done (by kernel_rfl) ?_ _
                  clear hHeld
                  go_wp2_with fail
                  go_meet
                  exact ⟨_, _, _, _, rfl, rfl, rfl, law_setNN kw x0_0 x1_0 r90 r91 (by omega) (by omega) (by omega) (by omega) (by omega) (by omega) (by omega) (by omega) (by omega)⟩
      · as_aux_lemma =>
          simp only [List.getElem_toArray, List.getElem_cons_succ, List.getElem_cons_zero]
          rw [if_pos (by rfl)]
          go_simp
          have kn := (Kept.refl 0 0 w6).alloc (.cells #[.slice none 0 0] 26)
          replace r0 := r0.kept kn (by omega)
          replace r1 := r1.kept kn (by omega)
          replace r70 := r70.kept kn (by omega)
          replace kw := kw.trans kn
          replace A0_0 := kn.cell0 A0_0
          replace A1_0 := kn.cell0 A1_0
          replace K := hide ((unhide K).trans kn)
          have z9 := kn.size
          clear kn
          have szx0_ : w6.heap.size < (w6.alloc (.cells #[.slice none 0 0] 26)).heap.size := by simp
          have x0_0 : (w6.alloc (.cells #[.slice none 0 0] 26)).cell? ⟨w6.heap.size, 0, none⟩ = some (.slice none 0 0) := new_cell2 _ _ _ _ _ _ rfl rfl
          have x0_f0 : (w6.alloc (.cells #[.slice none 0 0] 26)).frozen? ⟨w6.heap.size, 0, none⟩ = false := new_loose2 _ _ _ _ _ rfl
          clear hHeld
          refine hK.out _ _ ?_ (fun hHeld => ?_)
          · exact ⟨A0_0, A1_0⟩
          clear hK KK
          try simp only [Act.put, List.getElem_toArray, List.getElem_cons_succ, List.getElem_cons_zero, List.setIfInBounds_toArray, List.set_cons_zero, List.set_cons_succ]
          generalize w6.alloc (.cells #[.slice none 0 0] 26) = w8 at *
          refine wpAnyH_ready (rs := [3, 10]) (by kernel_rfl) (by simp) ?_
          refine AllReadyH.cons rfl (fun KK hK => ?_) (AllReadyH.cons rfl (fun KK hK => ?_) AllReadyH.nil)
          · simp only [List.getElem_toArray, List.getElem_cons_succ, List.getElem_cons_zero]
            rw [if_pos (by rfl)]
            refine wps1 60 (.tmp 33) _ rfl in_toN (.agg #[.slice a1 z1.length c1]) rfl (toNat_any _ hn1 r1) ?_
            rintro e w10 ⟨v71, rfl, r71, k10⟩
            refine ⟨_, rfl, ?_⟩
            replace r0 := r0.kept k10 (by omega)
            replace r1 := r1.kept k10 (by omega)
            replace r70 := r70.kept k10 (by omega)
            replace kw := kw.trans k10
            replace x0_f0 := k10.loose0 (World.block_lt_of_cell? _ _ x0_0) x0_f0
            replace A0_0 := k10.cell0 A0_0
            replace A1_0 := k10.cell0 A1_0
            replace x0_0 := k10.cell0 x0_0
            replace K := hide ((unhide K).trans k10)
            have z11 := k10.size
            clear k10
            clear hHeld
            refine hK.out _ _ ?_ (fun hHeld => ?_)
            · exact ⟨A0_0, A1_0⟩
            clear hK KK
            try simp only [Act.put, List.getElem_toArray, List.getElem_cons_succ, List.getElem_cons_zero, List.setIfInBounds_toArray, List.set_cons_zero, List.set_cons_succ]
            refine wpAnyH_ready (rs := [4, 10]) (by kernel_rfl) (by simp) ?_
            refine AllReadyH.cons rfl (fun KK hK => ?_) (AllReadyH.cons rfl (fun KK hK => ?_) AllReadyH.nil)
            · as_aux_lemma =>
                simp only [List.getElem_toArray, List.getElem_cons_succ, List.getElem_cons_zero]
                rw [if_pos (by rfl)]
                have mk := natDiv_spec w10 r70 r71
                simp only [unhide EL0, unhide EL1, unhide EB2] at mk
                refine wps2 59 (.tmp 32) (.tmp 34) _ rfl in_spec_NatDiv (.agg #[v70]) (.agg #[v71]) rfl rfl mk ?_
                rintro e w12 ⟨v90, v91, rfl, r90, r91, k12⟩
                refine ⟨_, rfl, ?_⟩
                clear mk
                replace r0 := r0.kept k12 (by omega)
                replace r1 := r1.kept k12 (by omega)
                replace r70 := r70.kept k12 (by omega)
                replace r71 := r71.kept k12 (by omega)
                replace kw := kw.trans k12
                replace x0_f0 := k12.loose0 (World.block_lt_of_cell? _ _ x0_0) x0_f0
                replace A0_0 := k12.cell0 A0_0
                replace A1_0 := k12.cell0 A1_0
                replace x0_0 := k12.cell0 x0_0
                replace K := hide ((unhide K).trans k12)
                have z13 := k12.size
                obtain ⟨a90, d90, hv⟩ := Row.form' r90
                subst hv
                obtain ⟨a91, d91, hv⟩ := Row.form' r91
                subst hv
                clear k12
                clear hHeld
                refine hK.out _ _ ?_ (fun hHeld => ?_)
                · exact ⟨A0_0, A1_0⟩
                clear hK KK
                try simp only [Act.put, List.getElem_toArray, List.getElem_cons_succ, List.getElem_cons_zero, List.setIfInBounds_toArray, List.set_cons_zero, List.set_cons_succ]
                refine wpAnyH_take (i := 5) (oi := _) (v := .tuple #[.agg #[.slice a90 L0.length d90], .agg #[.slice a91 L1.length d91], .bool B2]) rfl (by kernel_rfl) (by kernel_rfl) (by kernel_rfl) (fun _ _ _ h => h) (Or.inl ⟨by rfl, ?_⟩) hHeld ?_
                · intro wq hSw
                  try dsimp only at hSw
                  go_simp
                try simp only [Act.put, List.getElem_toArray, List.getElem_cons_succ, List.getElem_cons_zero, List.setIfInBounds_toArray, List.set_cons_zero, List.set_cons_succ]
                refine wpAnyH_take (i := 6) (oi := _) (v := .agg #[.slice a90 L0.length d90]) rfl (by kernel_rfl) (by kernel_rfl) (by kernel_rfl) (fun _ _ _ h => h) (Or.inl ⟨by rfl, ?_⟩) hHeld ?_
                · intro wq hSw
                  try dsimp only at hSw
                  go_simp
                try simp only [Act.put, List.getElem_toArray, List.getElem_cons_succ, List.getElem_cons_zero, List.setIfInBounds_toArray, List.set_cons_zero, List.set_cons_succ]
                refine wpAnyH_take (i := 7) (oi := _) (v := .agg #[.slice a91 L1.length d91]) rfl (by kernel_rfl) (by kernel_rfl) (by kernel_rfl) (fun _ _ _ h => h) (Or.inl ⟨by rfl, ?_⟩) hHeld ?_
                · intro wq hSw
                  try dsimp only at hSw
                  go_simp
                try simp only [Act.put, List.getElem_toArray, List.getElem_cons_succ, List.getElem_cons_zero, List.setIfInBounds_toArray, List.set_cons_zero, List.set_cons_succ]
                refine wpAnyH_take (i := 8) (oi := _) (v := .bool B2) rfl (by kernel_rfl) (by kernel_rfl) (by kernel_rfl) (fun _ _ _ h => h) (Or.inl ⟨by rfl, ?_⟩) hHeld ?_
                · intro wq hSw
                  try dsimp only at hSw
                  go_simp
                try simp only [Act.put, List.getElem_toArray, List.getElem_cons_succ, List.getElem_cons_zero, List.setIfInBounds_toArray, List.set_cons_zero, List.set_cons_succ]
                refine wpAnyH_ready (rs := [10]) (by kernel_rfl) (by simp) ?_
                refine AllReadyH.cons rfl (fun KK hK => ?_) AllReadyH.nil
                · simp only [List.getElem_toArray, List.getElem_cons_succ, List.getElem_cons_zero]
                  rw [if_pos (by rfl)]
                  go_simp
                  have kn := (Kept.refl 0 0 w12).alloc (.cells #[.slice none 0 0] 26)
                  replace r0 := r0.kept kn (by omega)
                  replace r1 := r1.kept kn (by omega)
                  replace r70 := r70.kept kn (by omega)
                  replace r71 := r71.kept kn (by omega)
                  replace r90 := r90.kept kn (by omega)
                  replace r91 := r91.kept kn (by omega)
                  replace kw := kw.trans kn
                  replace x0_f0 := kn.loose0 (World.block_lt_of_cell? _ _ x0_0) x0_f0
                  replace A0_0 := kn.cell0 A0_0
                  replace A1_0 := kn.cell0 A1_0
                  replace x0_0 := kn.cell0 x0_0
                  replace K := hide ((unhide K).trans kn)
                  have z15 := kn.size
                  clear kn
                  have szx1_ : w12.heap.size < (w12.alloc (.cells #[.slice none 0 0] 26)).heap.size := by simp
                  have x1_0 : (w12.alloc (.cells #[.slice none 0 0] 26)).cell? ⟨w12.heap.size, 0, none⟩ = some (.slice none 0 0) := new_cell2 _ _ _ _ _ _ rfl rfl
                  have x1_f0 : (w12.alloc (.cells #[.slice none 0 0] 26)).frozen? ⟨w12.heap.size, 0, none⟩ = false := new_loose2 _ _ _ _ _ rfl
                  clear hHeld
                  refine hK.out _ _ ?_ (fun hHeld => ?_)
                  · exact ⟨A0_0, A1_0⟩
                  clear hK KK
                  try simp only [Act.put, List.getElem_toArray, List.getElem_cons_succ, List.getElem_cons_zero, List.setIfInBounds_toArray, List.set_cons_zero, List.set_cons_succ]
                  generalize w12.alloc (.cells #[.slice none 0 0] 26) = w14 at *
                  refine wpAnyH_ready (rs := [11]) (by kernel_rfl) (by simp) ?_
                  refine AllReadyH.cons rfl (fun KK hK => ?_) AllReadyH.nil
                  simp only [List.getElem_toArray, List.getElem_cons_succ, List.getElem_cons_zero]
                  rw [if_pos (by rfl)]
                  go_simp
                  clear hHeld
                  refine hK.out _ _ ?_ (fun hHeld => ?_)
                  · exact ⟨(cell_aside _ (by have := unhide S0; dsimp only; omega) A0_0), (cell_aside _ (by have := unhide S0; dsimp only; omega) A1_0)⟩
                  clear hK KK
                  try simp only [Act.put, List.getElem_toArray, List.getElem_cons_succ, List.getElem_cons_zero, List.setIfInBounds_toArray, List.set_cons_zero, List.set_cons_succ]
                  refine wpAnyH_ready (rs := [12]) (by kernel_rfl) (by simp) ?_
                  refine AllReadyH.cons rfl (fun KK hK => ?_) AllReadyH.nil
                  simp only [List.getElem_toArray, List.getElem_cons_succ, List.getElem_cons_zero]
                  rw [if_pos (by rfl)]
                  go_simp
                  clear hHeld
                  refine hK.out _ _ ?_ (fun hHeld => ?_)
                  · exact ⟨(cell_aside _ (by have := unhide S0; dsimp only; omega) (cell_aside _ (by have := unhide S0; dsimp only; omega) A0_0)), (cell_aside _ (by have := unhide S0; dsimp only; omega) (cell_aside _ (by have := unhide S0; dsimp only; omega) A1_0))⟩
                  clear hK KK
                  try simp only [Act.put, List.getElem_toArray, List.getElem_cons_succ, List.getElem_cons_zero, List.setIfInBounds_toArray, List.set_cons_zero, List.set_cons_succ]
                  refine wpAnyH_take (i := 13) (oi := _) (v := .bool B2) rfl (by kernel_rfl) (by kernel_rfl) (by kernel_rfl) (fun _ _ _ h => h) (Or.inl ⟨by rfl, ?_⟩) hHeld ?_
                  · intro wq hSw
                    try dsimp only at hSw
                    go_simp
                  try simp only [Act.put, List.getElem_toArray, List.getElem_cons_succ, List.getElem_cons_zero, List.setIfInBounds_toArray, List.set_cons_zero, List.set_cons_succ]
                  refine wpAnyH_done (by kernel_rfl) ?_ _
                  clear hHeld
                  go_wp2_with fail
                  go_meet
                  exact ⟨_, _, _, _, rfl, rfl, rfl, law_setNN kw x0_0 x1_0 r90 r91 (by omega) (by omega) (by omega) (by omega) (by omega) (by omega) (by omega) (by omega) (by omega)⟩
            · as_aux_lemma =>
                simp only [List.getElem_toArray, List.getElem_cons_succ, List.getElem_cons_zero]
                rw [if_pos (by rfl)]
                go_simp
                have kn := (Kept.refl 0 0 w10).alloc (.cells #[.slice none 0 0] 26)
                replace r0 := r0.kept kn (by omega)
                replace r1 := r1.kept kn (by omega)
                replace r70 := r70.kept kn (by omega)
                replace r71 := r71.kept kn (by omega)
                replace kw := kw.trans kn
                replace x0_f0 := kn.loose0 (World.block_lt_of_cell? _ _ x0_0) x0_f0
                replace A0_0 := kn.cell0 A0_0
                replace A1_0 := kn.cell0 A1_0
                replace x0_0 := kn.cell0 x0_0
                replace K := hide ((unhide K).trans kn)
                have z13 := kn.size
                clear kn
                have szx1_ : w10.heap.size < (w10.alloc (.cells #[.slice none 0 0] 26)).heap.size := by simp
                have x1_0 : (w10.alloc (.cells #[.slice none 0 0] 26)).cell? ⟨w10.heap.size, 0, none⟩ = some (.slice none 0 0) := new_cell2 _ _ _ _ _ _ rfl rfl
                have x1_f0 : (w10.alloc (.cells #[.slice none 0 0] 26)).frozen? ⟨w10.heap.size, 0, none⟩ = false := new_loose2 _ _ _ _ _ rfl
                clear hHeld
                refine hK.out _ _ ?_ (fun hHeld => ?_)
                · exact ⟨A0_0, A1_0⟩
                clear hK KK
                try simp only [Act.put, List.getElem_toArray, List.getElem_cons_succ, List.getElem_cons_zero, List.setIfInBounds_toArray, List.set_cons_zero, List.set_cons_succ]
                generalize w10.alloc (.cells #[.slice none 0 0] 26) = w12 at *
                refine wpAnyH_ready (rs := [4]) (by kernel_rfl) (by simp) ?_
                refine AllReadyH.cons rfl (fun KK hK => ?_) AllReadyH.nil
                · simp only [List.getElem_toArray, List.getElem_cons_succ, List.getElem_cons_zero]
                  rw [if_pos (by rfl)]
                  have mk := natDiv_spec w12 r70 r71
                  simp only [unhide EL0, unhide EL1, unhide EB2] at mk
                  refine wps2 59 (.tmp 32) (.tmp 34) _ rfl in_spec_NatDiv (.agg #[v70]) (.agg #[v71]) rfl rfl mk ?_
                  rintro e w14 ⟨v90, v91, rfl, r90, r91, k14⟩
                  refine ⟨_, rfl, ?_⟩
                  clear mk
                  replace r0 := r0.kept k14 (by omega)
                  replace r1 := r1.kept k14 (by omega)
                  replace r70 := r70.kept k14 (by omega)
                  replace r71 := r71.kept k14 (by omega)
                  replace kw := kw.trans k14
                  replace x0_f0 := k14.loose0 (World.block_lt_of_cell? _ _ x0_0) x0_f0
                  replace x1_f0 := k14.loose0 (World.block_lt_of_cell? _ _ x1_0) x1_f0
                  replace A0_0 := k14.cell0 A0_0
                  replace A1_0 := k14.cell0 A1_0
                  replace x0_0 := k14.cell0 x0_0
                  replace x1_0 := k14.cell0 x1_0
                  replace K := hide ((unhide K).trans k14)
                  have z15 := k14.size
                  obtain ⟨a90, d90, hv⟩ := Row.form' r90
                  subst hv
                  obtain ⟨a91, d91, hv⟩ := Row.form' r91
                  subst hv
                  clear k14
                  clear hHeld
                  refine hK.out _ _ ?_ (fun hHeld => ?_)
                  · exact ⟨A0_0, A1_0⟩
                  clear hK KK
                  try simp only [Act.put, List.getElem_toArray, List.getElem_cons_succ, List.getElem_cons_zero, List.setIfInBounds_toArray, List.set_cons_zero, List.set_cons_succ]
                  refine wpAnyH_take (i := 5) (oi := _) (v := .tuple #[.agg #[.slice a90 L0.length d90], .agg #[.slice a91 L1.length d91], .bool B2]) rfl (by kernel_rfl) (by kernel_rfl) (by kernel_rfl) (fun _ _ _ h => h) (Or.inl ⟨by rfl, ?_⟩) hHeld ?_
                  · intro wq hSw
                    try dsimp only at hSw
                    go_simp
                  try simp only [Act.put, List.getElem_toArray, List.getElem_cons_succ, List.getElem_cons_zero, List.setIfInBounds_toArray, List.set_cons_zero, List.set_cons_succ]
                  refine wpAnyH_take (i := 6) (oi := _) (v := .agg #[.slice a90 L0.length d90]) rfl (by kernel_rfl) (by kernel_rfl) (by kernel_rfl) (fun _ _ _ h => h) (Or.inl ⟨by rfl, ?_⟩) hHeld ?_
                  · intro wq hSw
                    try dsimp only at hSw
                    go_simp
                  try simp only [Act.put, List.getElem_toArray, List.getElem_cons_succ, List.getElem_cons_zero, List.setIfInBounds_toArray, List.set_cons_zero, List.set_cons_succ]
                  refine wpAnyH_take (i := 7) (oi := _) (v := .agg #[.slice a91 L1.length d91]) rfl (by kernel_rfl) (by kernel_rfl) (by kernel_rfl) (fun _ _ _ h => h) (Or.inl ⟨by rfl, ?_⟩) hHeld ?_
                  · intro wq hSw
                    try dsimp only at hSw
                    go_simp
                  try simp only [Act.put, List.getElem_toArray, List.getElem_cons_succ, List.getElem_cons_zero, List.setIfInBounds_toArray, List.set_cons_zero, List.set_cons_succ]
                  refine wpAnyH_take (i := 8) (oi := _) (v := .bool B2) rfl (by kernel_rfl) (by kernel_rfl) (by kernel_rfl) (fun _ _ _ h => h) (Or.inl ⟨by rfl, ?_⟩) hHeld ?_
                  · intro wq hSw
                    try dsimp only at hSw
                    go_simp
                  try simp only [Act.put, List.getElem_toArray, List.getElem_cons_succ, List.getElem_cons_zero, List.setIfInBounds_toArray, List.set_cons_zero, List.set_cons_succ]
                  refine wpAnyH_ready (rs := [11]) (by kernel_rfl) (by simp) ?_
                  refine AllReadyH.cons rfl (fun KK hK => ?_) AllReadyH.nil
                  simp only [List.getElem_toArray, List.getElem_cons_succ, List.getElem_cons_zero]
                  rw [if_pos (by rfl)]
                  go_simp
                  clear hHeld
                  refine hK.out _ _ ?_ (fun hHeld => ?_)
                  · exact ⟨(cell_aside _ (by have := unhide S0; dsimp only; omega) A0_0), (cell_aside _ (by have := unhide S0; dsimp only; omega) A1_0)⟩
                  clear hK KK
                  try simp only [Act.put, List.getElem_toArray, List.getElem_cons_succ, List.getElem_cons_zero, List.setIfInBounds_toArray, List.set_cons_zero, List.set_cons_succ]
                  refine wpAnyH_ready (rs := [12]) (by kernel_rfl) (by simp) ?_
                  refine AllReadyH.cons rfl (fun KK hK => ?_) AllReadyH.nil
                  simp only [List.getElem_toArray, List.getElem_cons_succ, List.getElem_cons_zero]
                  rw [if_pos (by rfl)]
                  go_simp
                  clear hHeld
                  refine hK.out _ _ ?_ (fun hHeld => ?_)
                  · exact ⟨(cell_aside _ (by have := unhide S0; dsimp only; omega) (cell_aside _ (by have := unhide S0; dsimp only; omega) A0_0)), (cell_aside _ (by have := unhide S0; dsimp only; omega) (cell_aside _ (by have := unhide S0; dsimp only; omega) A1_0))⟩
                  clear hK KK
                  try simp only [Act.put, List.getElem_toArray, List.getElem_cons_succ, List.getElem_cons_zero, List.setIfInBounds_toArray, List.set_cons_zero, List.set_cons_succ]
                  refine wpAnyH_take (i := 13) (oi := _) (v := .bool B2) rfl (by kernel_rfl) (by kernel_rfl) (by kernel_rfl) (fun _ _ _ h => h) (Or.inl ⟨by rfl, ?_⟩) hHeld ?_
                  · intro wq hSw
                    try dsimp only at hSw
                    go_simp
                  try simp only [Act.put, List.getElem_toArray, List.getElem_cons_succ, List.getElem_cons_zero, List.setIfInBounds_toArray, List.set_cons_zero, List.set_cons_succ]
                  refine wpAnyH_done (by kernel_rfl) ?_ _
                  clear hHeld
                  go_wp2_with fail
                  go_meet
                  exact ⟨_, _, _, _, rfl, rfl, rfl, law_setNN kw x0_0 x1_0 r90 r91 (by omega) (by omega) (by omega) (by omega) (by omega) (by omega) (by omega) (by omega) (by omega)⟩
          · simp only [List.getElem_toArray, List.getElem_cons_succ, List.getElem_cons_zero]
            rw [if_pos (by rfl)]
            go_simp
            have kn := (Kept.refl 0 0 w8).alloc (.cells #[.slice none 0 0] 26)
            replace r0 := r0.kept kn (by omega)
            replace r1 := r1.kept kn (by omega)
            replace r70 := r70.kept kn (by omega)
            replace kw := kw.trans kn
            replace x0_f0 := kn.loose0 (World.block_lt_of_cell? _ _ x0_0) x0_f0
            replace A0_0 := kn.cell0 A0_0
            replace A1_0 := kn.cell0 A1_0
            replace x0_0 := kn.cell0 x0_0
            replace K := hide ((unhide K).trans kn)
            have z11 := kn.size
            clear kn
            have szx1_ : w8.heap.size < (w8.alloc (.cells #[.slice none 0 0] 26)).heap.size := by simp
            have x1_0 : (w8.alloc (.cells #[.slice none 0 0] 26)).cell? ⟨w8.heap.size, 0, none⟩ = some (.slice none 0 0) := new_cell2 _ _ _ _ _ _ rfl rfl
            have x1_f0 : (w8.alloc (.cells #[.slice none 0 0] 26)).frozen? ⟨w8.heap.size, 0, none⟩ = false := new_loose2 _ _ _ _ _ rfl
            clear hHeld
            refine hK.out _ _ ?_ (fun hHeld => ?_)
            · exact ⟨A0_0, A1_0⟩
            clear hK KK
            try simp only [Act.put, List.getElem_toArray, List.getElem_cons_succ, List.getElem_cons_zero, List.setIfInBounds_toArray, List.set_cons_zero, List.set_cons_succ]
            generalize w8.alloc (.cells #[.slice none 0 0] 26) = w10 at *
            refine wpAnyH_ready (rs := [3]) (by kernel_rfl) (by simp) ?_
            refine AllReadyH.cons rfl (fun KK hK => ?_) AllReadyH.nil
            · as_aux_lemma =>
                simp only [List.getElem_toArray, List.getElem_cons_succ, List.getElem_cons_zero]
                rw [if_pos (by rfl)]
                refine wps1 60 (.tmp 33) _ rfl in_toN (.agg #[.slice a1 z1.length c1]) rfl (toNat_any _ hn1 r1) ?_
                rintro e w12 ⟨v71, rfl, r71, k12⟩
                refine ⟨_, rfl, ?_⟩
                replace r0 := r0.kept k12 (by omega)
                replace r1 := r1.kept k12 (by omega)
                replace r70 := r70.kept k12 (by omega)
                replace kw := kw.trans k12
                replace x0_f0 := k12.loose0 (World.block_lt_of_cell? _ _ x0_0) x0_f0
                replace x1_f0 := k12.loose0 (World.block_lt_of_cell? _ _ x1_0) x1_f0
                replace A0_0 := k12.cell0 A0_0
                replace A1_0 := k12.cell0 A1_0
                replace x0_0 := k12.cell0 x0_0
                replace x1_0 := k12.cell0 x1_0
                replace K := hide ((unhide K).trans k12)
                have z13 := k12.size
                clear k12
                clear hHeld
                refine hK.out _ _ ?_ (fun hHeld => ?_)
                · exact ⟨A0_0, A1_0⟩
                clear hK KK
                try simp only [Act.put, List.getElem_toArray, List.getElem_cons_succ, List.getElem_cons_zero, List.setIfInBounds_toArray, List.set_cons_zero, List.set_cons_succ]
                refine wpAnyH_ready (rs := [4]) (by kernel_rfl) (by simp) ?_
                refine AllReadyH.cons rfl (fun KK hK => ?_) AllReadyH.nil
                · simp only [List.getElem_toArray, List.getElem_cons_succ, List.getElem_cons_zero]
                  rw [if_pos (by rfl)]
                  have mk := natDiv_spec w12 r70 r71
                  simp only [unhide EL0, unhide EL1, unhide EB2] at mk
                  refine wps2 59 (.tmp 32) (.tmp 34) _ rfl in_spec_NatDiv (.agg #[v70]) (.agg #[v71]) rfl rfl mk ?_
                  rintro e w14 ⟨v90, v91, rfl, r90, r91, k14⟩
                  refine ⟨_, rfl, ?_⟩
                  clear mk
                  replace r0 := r0.kept k14 (by omega)
                  replace r1 := r1.kept k14 (by omega)
                  replace r70 := r70.kept k14 (by omega)
                  replace r71 := r71.kept k14 (by omega)
                  replace kw := kw.trans k14
                  replace x0_f0 := k14.loose0 (World.block_lt_of_cell? _ _ x0_0) x0_f0
                  replace x1_f0 := k14.loose0 (World.block_lt_of_cell? _ _ x1_0) x1_f0
                  replace A0_0 := k14.cell0 A0_0
                  replace A1_0 := k14.cell0 A1_0
                  replace x0_0 := k14.cell0 x0_0
                  replace x1_0 := k14.cell0 x1_0
                  replace K := hide ((unhide K).trans k14)
                  have z15 := k14.size
                  obtain ⟨a90, d90, hv⟩ := Row.form' r90
                  subst hv
                  obtain ⟨a91, d91, hv⟩ := Row.form' r91
                  subst hv
                  clear k14
                  clear hHeld
                  refine hK.out _ _ ?_ (fun hHeld => ?_)
                  · exact ⟨A0_0, A1_0⟩
                  clear hK KK
                  try simp only [Act.put, List.getElem_toArray, List.getElem_cons_succ, List.getElem_cons_zero, List.setIfInBounds_toArray, List.set_cons_zero, List.set_cons_succ]
                  refine wpAnyH_take (i := 5) (oi := _) (v := .tuple #[.agg #[.slice a90 L0.length d90], .agg #[.slice a91 L1.length d91], .bool B2]) rfl (by kernel_rfl) (by kernel_rfl) (by kernel_rfl) (fun _ _ _ h => h) (Or.inl ⟨by rfl, ?_⟩) hHeld ?_
                  · intro wq hSw
                    try dsimp only at hSw
                    go_simp
                  try simp only [Act.put, List.getElem_toArray, List.getElem_cons_succ, List.getElem_cons_zero, List.setIfInBounds_toArray, List.set_cons_zero, List.set_cons_succ]
                  refine wpAnyH_take (i := 6) (oi := _) (v := .agg #[.slice a90 L0.length d90]) rfl (by kernel_rfl) (by kernel_rfl) (by kernel_rfl) (fun _ _ _ h => h) (Or.inl ⟨by rfl, ?_⟩) hHeld ?_
                  · intro wq hSw
                    try dsimp only at hSw
                    go_simp
                  try simp only [Act.put, List.getElem_toArray, List.getElem_cons_succ, List.getElem_cons_zero, List.setIfInBounds_toArray, List.set_cons_zero, List.set_cons_succ]
                  refine wpAnyH_take (i := 7) (oi := _) (v := .agg #[.slice a91 L1.length d91]) rfl (by kernel_rfl) (by kernel_rfl) (by kernel_rfl) (fun _ _ _ h => h) (Or.inl ⟨by rfl, ?_⟩) hHeld ?_
                  · intro wq hSw
                    try dsimp only at hSw
                    go_simp
                  try simp only [Act.put, List.getElem_toArray, List.getElem_cons_succ, List.getElem_cons_zero, List.setIfInBounds_toArray, List.set_cons_zero, List.set_cons_succ]
                  refine wpAnyH_take (i := 8) (oi := _) (v := .bool B2) rfl (by kernel_rfl) (by kernel_rfl) (by kernel_rfl) (fun _ _ _ h => h) (Or.inl ⟨by rfl, ?_⟩) hHeld ?_
                  · intro wq hSw
                    try dsimp only at hSw
                    go_simp
                  try simp only [Act.put, List.getElem_toArray, List.getElem_cons_succ, List.getElem_cons_zero, List.setIfInBounds_toArray, List.set_cons_zero, List.set_cons_succ]
                  refine wpAnyH_ready (rs := [11]) (by kernel_rfl) (by simp) ?_
                  refine AllReadyH.cons rfl (fun KK hK => ?_) AllReadyH.nil
                  simp only [List.getElem_toArray, List.getElem_cons_succ, List.getElem_cons_zero]
                  rw [if_pos (by rfl)]
                  go_simp
                  clear hHeld
                  refine hK.out _ _ ?_ (fun hHeld => ?_)
                  · exact ⟨(cell_aside _ (by have := unhide S0; dsimp only; omega) A0_0), (cell_aside _ (by have := unhide S0; dsimp only; omega) A1_0)⟩
                  clear hK KK
                  try simp only [Act.put, List.getElem_toArray, List.getElem_cons_succ, List.getElem_cons_zero, List.setIfInBounds_toArray, List.set_cons_zero, List.set_cons_succ]
                  refine wpAnyH_ready (rs := [12]) (by kernel_rfl) (by simp) ?_
                  refine AllReadyH.cons rfl (fun KK hK => ?_) AllReadyH.nil
                  simp only [List.getElem_toArray, List.getElem_cons_succ, List.getElem_cons_zero]
                  rw [if_pos (by rfl)]
                  go_simp
                  clear hHeld
                  refine hK.out _ _ ?_ (fun hHeld => ?_)
                  · exact ⟨(cell_aside _ (by have := unhide S0; dsimp only; omega) (cell_aside _ (by have := unhide S0; dsimp only; omega) A0_0)), (cell_aside _ (by have := unhide S0; dsimp only; omega) (cell_aside _ (by have := unhide S0; dsimp only; omega) A1_0))⟩
                  clear hK KK
                  try simp only [Act.put, List.getElem_toArray, List.getElem_cons_succ, List.getElem_cons_zero, List.setIfInBounds_toArray, List.set_cons_zero, List.set_cons_succ]
                  refine wpAnyH_take (i := 13) (oi := _) (v := .bool B2) rfl (by kernel_rfl) (by kernel_rfl) (by kernel_rfl) (fun _ _ _ h => h) (Or.inl ⟨by rfl, ?_⟩) hHeld ?_
                  · intro wq hSw
                    try dsimp only at hSw
                    go_simp
                  try simp only [Act.put, List.getElem_toArray, List.getElem_cons_succ, List.getElem_cons_zero, List.setIfInBounds_toArray, List.set_cons_zero, List.set_cons_succ]
                  refine wpAnyH_done (by kernel_rfl) ?_ _
                  clear hHeld
                  go_wp2_with fail
                  go_meet
                  exact ⟨_, _, _, _, rfl, rfl, rfl, law_setNN kw x0_0 x1_0 r90 r91 (by omega) (by omega) (by omega) (by omega) (by omega) (by omega) (by omega) (by omega) (by omega)⟩
      · as_aux_lemma =>
          simp only [List.getElem_toArray, List.getElem_cons_succ, List.getElem_cons_zero]
          rw [if_pos (by rfl)]
          go_simp
          have kn := (Kept.refl 0 0 w6).alloc (.cells #[.slice none 0 0] 26)
          replace r0 := r0.kept kn (by omega)
          replace r1 := r1.kept kn (by omega)
          replace r70 := r70.kept kn (by omega)
          replace kw := kw.trans kn
          replace A0_0 := kn.cell0 A0_0
          replace A1_0 := kn.cell0 A1_0
          replace K := hide ((unhide K).trans kn)
          have z9 := kn.size
          clear kn
          have szx1_ : w6.heap.size < (w6.alloc (.cells #[.slice none 0 0] 26)).heap.size := by simp
          have x1_0 : (w6.alloc (.cells #[.slice none 0 0] 26)).cell? ⟨w6.heap.size, 0, none⟩ = some (.slice none 0 0) := new_cell2 _ _ _ _ _ _ rfl rfl
          have x1_f0 : (w6.alloc (.cells #[.slice none 0 0] 26)).frozen? ⟨w6.heap.size, 0, none⟩ = false := new_loose2 _ _ _ _ _ rfl
          clear hHeld
          refine hK.out _ _ ?_ (fun hHeld => ?_)
          · exact ⟨A0_0, A1_0⟩
          clear hK KK
          try simp only [Act.put, List.getElem_toArray, List.getElem_cons_succ, List.getElem_cons_zero, List.setIfInBounds_toArray, List.set_cons_zero, List.set_cons_succ]
          generalize w6.alloc (.cells #[.slice none 0 0] 26) = w8 at *
          refine wpAnyH_ready (rs := [3, 9]) (by kernel_rfl) (by simp) ?_
          refine AllReadyH.cons rfl (fun KK hK => ?_) (AllReadyH.cons rfl (fun KK hK => ?_) AllReadyH.nil)
          · simp only [List.getElem_toArray, List.getElem_cons_succ, List.getElem_cons_zero]
            rw [if_pos (by rfl)]
            refine wps1 60 (.tmp 33) _ rfl in_toN (.agg #[.slice a1 z1.length c1]) rfl (toNat_any _ hn1 r1) ?_
            rintro e w10 ⟨v71, rfl, r71, k10⟩
            refine ⟨_, rfl, ?_⟩
            replace r0 := r0.kept k10 (by omega)
            replace r1 := r1.kept k10 (by omega)
            replace r70 := r70.kept k10 (by omega)
            replace kw := kw.trans k10
            replace x1_f0 := k10.loose0 (World.block_lt_of_cell? _ _ x1_0) x1_f0
            replace A0_0 := k10.cell0 A0_0
            replace A1_0 := k10.cell0 A1_0
            replace x1_0 := k10.cell0 x1_0
            replace K := hide ((unhide K).trans k10)
            have z11 := k10.size
            clear k10
            clear hHeld
            refine hK.out _ _ ?_ (fun hHeld => ?_)
            · exact ⟨A0_0, A1_0⟩
            clear hK KK
            try simp only [Act.put, List.getElem_toArray, List.getElem_cons_succ, List.getElem_cons_zero, List.setIfInBounds_toArray, List.set_cons_zero, List.set_cons_succ]
            refine wpAnyH_ready (rs := [4, 9]) (by kernel_rfl) (by simp) ?_
            refine AllReadyH.cons rfl (fun KK hK => ?_) (AllReadyH.cons rfl (fun KK hK => ?_) AllReadyH.nil)
            · as_aux_lemma =>
                simp only [List.getElem_toArray, List.getElem_cons_succ, List.getElem_cons_zero]
                rw [if_pos (by rfl)]
                have mk := natDiv_spec w10 r70 r71
                simp only [unhide EL0, unhide EL1, unhide EB2] at mk
                refine wps2 59 (.tmp 32) (.tmp 34) _ rfl in_spec_NatDiv (.agg #[v70]) (.agg #[v71]) rfl rfl mk ?_
                rintro e w12 ⟨v90, v91, rfl, r90, r91, k12⟩
                refine ⟨_, rfl, ?_⟩
                clear mk
                replace r0 := r0.kept k12 (by omega)
                replace r1 := r1.kept k12 (by omega)
                replace r70 := r70.kept k12 (by omega)
                replace r71 := r71.kept k12 (by omega)
                replace kw := kw.trans k12
                replace x1_f0 := k12.loose0 (World.block_lt_of_cell? _ _ x1_0) x1_f0
                replace A0_0 := k12.cell0 A0_0
                replace A1_0 := k12.cell0 A1_0
                replace x1_0 := k12.cell0 x1_0
                replace K := hide ((unhide K).trans k12)
                have z13 := k12.size
                obtain ⟨a90, d90, hv⟩ := Row.form' r90
                subst hv
                obtain ⟨a91, d91, hv⟩ := Row.form' r91
                subst hv
                clear k12
                clear hHeld
                refine hK.out _ _ ?_ (fun hHeld => ?_)
                · exact ⟨A0_0, A1_0⟩
                clear hK KK
                try simp only [Act.put, List.getElem_toArray, List.getElem_cons_succ, List.getElem_cons_zero, List.setIfInBounds_toArray, List.set_cons_zero, List.set_cons_succ]
                refine wpAnyH_take (i := 5) (oi := _) (v := .tuple #[.agg #[.slice a90 L0.length d90], .agg #[.slice a91 L1.length d91], .bool B2]) rfl (by kernel_rfl) (by kernel_rfl) (by kernel_rfl) (fun _ _ _ h => h) (Or.inl ⟨by rfl, ?_⟩) hHeld ?_
                · intro wq hSw
                  try dsimp only at hSw
                  go_simp
                try simp only [Act.put, List.getElem_toArray, List.getElem_cons_succ, List.getElem_cons_zero, List.setIfInBounds_toArray, List.set_cons_zero, List.set_cons_succ]
                refine wpAnyH_take (i := 6) (oi := _) (v := .agg #[.slice a90 L0.length d90]) rfl (by kernel_rfl) (by kernel_rfl) (by kernel_rfl) (fun _ _ _ h => h) (Or.inl ⟨by rfl, ?_⟩) hHeld ?_
                · intro wq hSw
                  try dsimp only at hSw
                  go_simp
                try simp only [Act.put, List.getElem_toArray, List.getElem_cons_succ, List.getElem_cons_zero, List.setIfInBounds_toArray, List.set_cons_zero, List.set_cons_succ]
                refine wpAnyH_take (i := 7) (oi := _) (v := .agg #[.slice a91 L1.length d91]) rfl (by kernel_rfl) (by kernel_rfl) (by kernel_rfl) (fun _ _ _ h => h) (Or.inl ⟨by rfl, ?_⟩) hHeld ?_
                · intro wq hSw
                  try dsimp only at hSw
                  go_simp
                try simp only [Act.put, List.getElem_toArray, List.getElem_cons_succ, List.getElem_cons_zero, List.setIfInBounds_toArray, List.set_cons_zero, List.set_cons_succ]
                refine wpAnyH_take (i := 8) (oi := _) (v := .bool B2) rfl (by kernel_rfl) (by kernel_rfl) (by kernel_rfl) (fun _ _ _ h => h) (Or.inl ⟨by rfl, ?_⟩) hHeld ?_
                · intro wq hSw
                  try dsimp only at hSw
                  go_simp
                try simp only [Act.put, List.getElem_toArray, List.getElem_cons_succ, List.getElem_cons_zero, List.setIfInBounds_toArray, List.set_cons_zero, List.set_cons_succ]
                refine wpAnyH_ready (rs := [9]) (by kernel_rfl) (by simp) ?_
                refine AllReadyH.cons rfl (fun KK hK => ?_) AllReadyH.nil
                · simp only [List.getElem_toArray, List.getElem_cons_succ, List.getElem_cons_zero]
                  rw [if_pos (by rfl)]
                  go_simp
                  have kn := (Kept.refl 0 0 w12).alloc (.cells #[.slice none 0 0] 26)
                  replace r0 := r0.kept kn (by omega)
                  replace r1 := r1.kept kn (by omega)
                  replace r70 := r70.kept kn (by omega)
                  replace r71 := r71.kept kn (by omega)
                  replace r90 := r90.kept kn (by omega)
                  replace r91 := r91.kept kn (by omega)
                  replace kw := kw.trans kn
                  replace x1_f0 := kn.loose0 (World.block_lt_of_cell? _ _ x1_0) x1_f0
                  replace A0_0 := kn.cell0 A0_0
                  replace A1_0 := kn.cell0 A1_0
                  replace x1_0 := kn.cell0 x1_0
                  replace K := hide ((unhide K).trans kn)
                  have z15 := kn.size
                  clear kn
                  have szx0_ : w12.heap.size < (w12.alloc (.cells #[.slice none 0 0] 26)).heap.size := by simp
                  have x0_0 : (w12.alloc (.cells #[.slice none 0 0] 26)).cell? ⟨w12.heap.size, 0, none⟩ = some (.slice none 0 0) := new_cell2 _ _ _ _ _ _ rfl rfl
                  have x0_f0 : (w12.alloc (.cells #[.slice none 0 0] 26)).frozen? ⟨w12.heap.size, 0, none⟩ = false := new_loose2 _ _ _ _ _ rfl
                  clear hHeld
                  refine hK.out _ _ ?_ (fun hHeld => ?_)
                  · exact ⟨A0_0, A1_0⟩
                  clear hK KK
                  try simp only [Act.put, List.getElem_toArray, List.getElem_cons_succ, List.getElem_cons_zero, List.setIfInBounds_toArray, List.set_cons_zero, List.set_cons_succ]
                  generalize w12.alloc (.cells #[.slice none 0 0] 26) = w14 at *
                  refine wpAnyH_ready (rs := [11]) (by kernel_rfl) (by simp) ?_
                  refine AllReadyH.cons rfl (fun KK hK => ?_) AllReadyH.nil
                  simp only [List.getElem_toArray, List.getElem_cons_succ, List.getElem_cons_zero]
                  rw [if_pos (by rfl)]
                  go_simp
                  clear hHeld
                  refine hK.out _ _ ?_ (fun hHeld => ?_)
                  · exact ⟨(cell_aside _ (by have := unhide S0; dsimp only; omega) A0_0), (cell_aside _ (by have := unhide S0; dsimp only; omega) A1_0)⟩
                  clear hK KK
                  try simp only [Act.put, List.getElem_toArray, List.getElem_cons_succ, List.getElem_cons_zero, List.setIfInBounds_toArray, List.set_cons_zero, List.set_cons_succ]
                  refine wpAnyH_ready (rs := [12]) (by kernel_rfl) (by simp) ?_
                  refine AllReadyH.cons rfl (fun KK hK => ?_) AllReadyH.nil
                  simp only [List.getElem_toArray, List.getElem_cons_succ, List.getElem_cons_zero]
                  rw [if_pos (by rfl)]
                  go_simp
                  clear hHeld
                  refine hK.out _ _ ?_ (fun hHeld => ?_)
                  · exact ⟨(cell_aside _ (by have := unhide S0; dsimp only; omega) (cell_aside _ (by have := unhide S0; dsimp only; omega) A0_0)), (cell_aside _ (by have := unhide S0; dsimp only; omega) (cell_aside _ (by have := unhide S0; dsimp only; omega) A1_0))⟩
                  clear hK KK
                  try simp only [Act.put, List.getElem_toArray, List.getElem_cons_succ, List.getElem_cons_zero, List.setIfInBounds_toArray, List.set_cons_zero, List.set_cons_succ]
                  refine wpAnyH_take (i := 13) (oi := _) (v := .bool B2) rfl (by kernel_rfl) (by kernel_rfl) (by kernel_rfl) (fun _ _ _ h => h) (Or.inl ⟨by rfl, ?_⟩) hHeld ?_
                  · intro wq hSw
                    try dsimp only at hSw
                    go_simp
                  try simp only [Act.put, List.getElem_toArray, List.getElem_cons_succ, List.getElem_cons_zero, List.setIfInBounds_toArray, List.set_cons_zero, List.set_cons_succ]
                  refine wpAnyH_done (by kernel_rfl) ?_ _
                  clear hHeld
                  go_wp2_with fail
                  go_meet
                  exact ⟨_, _, _, _, rfl, rfl, rfl, law_setNN kw x0_0 x1_0 r90 r91 (by omega) (by omega) (by omega) (by omega) (by omega) (by omega) (by omega) (by omega) (by omega)⟩
            · as_aux_lemma =>
                simp only [List.getElem_toArray, List.getElem_cons_succ, List.getElem_cons_zero]
                rw [if_pos (by rfl)]
                go_simp
                have kn := (Kept.refl 0 0 w10).alloc (.cells #[.slice none 0 0] 26)
                replace r0 := r0.kept kn (by omega)
                replace r1 := r1.kept kn (by omega)
                replace r70 := r70.kept kn (by omega)
                replace r71 := r71.kept kn (by omega)
                replace kw := kw.trans kn
                replace x1_f0 := kn.loose0 (World.block_lt_of_cell? _ _ x1_0) x1_f0
                replace A0_0 := kn.cell0 A0_0
                replace A1_0 := kn.cell0 A1_0
                replace x1_0 := kn.cell0 x1_0
                replace K := hide ((unhide K).trans kn)
                have z13 := kn.size
                clear kn
                have szx0_ : w10.heap.size < (w10.alloc (.cells #[.slice none 0 0] 26)).heap.size := by simp
                have x0_0 : (w10.alloc (.cells #[.slice none 0 0] 26)).cell? ⟨w10.heap.size, 0, none⟩ = some (.slice none 0 0) := new_cell2 _ _ _ _ _ _ rfl rfl
                have x0_f0 : (w10.alloc (.cells #[.slice none 0 0] 26)).frozen? ⟨w10.heap.size, 0, none⟩ = false := new_loose2 _ _ _ _ _ rfl
                clear hHeld
                refine hK.out _ _ ?_ (fun hHeld => ?_)
                · exact ⟨A0_0, A1_0⟩
                clear hK KK
                try simp only [Act.put, List.getElem_toArray, List.getElem_cons_succ, List.getElem_cons_zero, List.setIfInBounds_toArray, List.set_cons_zero, List.set_cons_succ]
                generalize w10.alloc (.cells #[.slice none 0 0] 26) = w12 at *
                refine wpAnyH_ready (rs := [4]) (by kernel_rfl) (by simp) ?_
                refine AllReadyH.cons rfl (fun KK hK => ?_) AllReadyH.nil
                · simp only [List.getElem_toArray, List.getElem_cons_succ, List.getElem_cons_zero]
                  rw [if_pos (by rfl)]
                  have mk := natDiv_spec w12 r70 r71
                  simp only [unhide EL0, unhide EL1, unhide EB2] at mk
                  refine wps2 59 (.tmp 32) (.tmp 34) _ rfl in_spec_NatDiv (.agg #[v70]) (.agg #[v71]) rfl rfl mk ?_
                  rintro e w14 ⟨v90, v91, rfl, r90, r91, k14⟩
                  refine ⟨_, rfl, ?_⟩
                  clear mk
                  replace r0 := r0.kept k14 (by omega)
                  replace r1 := r1.kept k14 (by omega)
                  replace r70 := r70.kept k14 (by omega)
                  replace r71 := r71.kept k14 (by omega)
                  replace kw := kw.trans k14
                  replace x1_f0 := k14.loose0 (World.block_lt_of_cell? _ _ x1_0) x1_f0
                  replace x0_f0 := k14.loose0 (World.block_lt_of_cell? _ _ x0_0) x0_f0
                  replace A0_0 := k14.cell0 A0_0
                  replace A1_0 := k14.cell0 A1_0
                  replace x1_0 := k14.cell0 x1_0
                  replace x0_0 := k14.cell0 x0_0
                  replace K := hide ((unhide K).trans k14)
                  have z15 := k14.size
                  obtain ⟨a90, d90, hv⟩ := Row.form' r90
                  subst hv
                  obtain ⟨a91, d91, hv⟩ := Row.form' r91
                  subst hv
                  clear k14
                  clear hHeld
                  refine hK.out _ _ ?_ (fun hHeld => ?_)
                  · exact ⟨A0_0, A1_0⟩
                  clear hK KK
                  try simp only [Act.put, List.getElem_toArray, List.getElem_cons_succ, List.getElem_cons_zero, List.setIfInBounds_toArray, List.set_cons_zero, List.set_cons_succ]
                  refine wpAnyH_take (i := 5) (oi := _) (v := .tuple #[.agg #[.slice a90 L0.length d90], .agg #[.slice a91 L1.length d91], .bool B2]) rfl (by kernel_rfl) (by kernel_rfl) (by kernel_rfl) (fun _ _ _ h => h) (Or.inl ⟨by rfl, ?_⟩) hHeld ?_
                  · intro wq hSw
                    try dsimp only at hSw
                    go_simp
                  try simp only [Act.put, List.getElem_toArray, List.getElem_cons_succ, List.getElem_cons_zero, List.setIfInBounds_toArray, List.set_cons_zero, List.set_cons_succ]
                  refine wpAnyH_take (i := 6) (oi := _) (v := .agg #[.slice a90 L0.length d90]) rfl (by kernel_rfl) (by kernel_rfl) (by kernel_rfl) (fun _ _ _ h => h) (Or.inl ⟨by rfl, ?_⟩) hHeld ?_
                  · intro wq hSw
                    try dsimp only at hSw
                    go_simp
                  try simp only [Act.put, List.getElem_toArray, List.getElem_cons_succ, List.getElem_cons_zero, List.setIfInBounds_toArray, List.set_cons_zero, List.set_cons_succ]
                  refine wpAnyH_take (i := 7) (oi := _) (v := .agg #[.slice a91 L1.length d91]) rfl (by kernel_rfl) (by kernel_rfl) (by kernel_rfl) (fun _ _ _ h => h) (Or.inl ⟨by rfl, ?_⟩) hHeld ?_
                  · intro wq hSw
                    try dsimp only at hSw
                    go_simp
                  try simp only [Act.put, List.getElem_toArray, List.getElem_cons_succ, List.getElem_cons_zero, List.setIfInBounds_toArray, List.set_cons_zero, List.set_cons_succ]
                  refine wpAnyH_take (i := 8) (oi := _) (v := .bool B2) rfl (by kernel_rfl) (by kernel_rfl) (by kernel_rfl) (fun _ _ _ h => h) (Or.inl ⟨by rfl, ?_⟩) hHeld ?_
                  · intro wq hSw
                    try dsimp only at hSw
                    go_simp
                  try simp only [Act.put, List.getElem_toArray, List.getElem_cons_succ, List.getElem_cons_zero, List.setIfInBounds_toArray, List.set_cons_zero, List.set_cons_succ]
                  refine wpAnyH_ready (rs := [11]) (by kernel_rfl) (by simp) ?_
                  refine AllReadyH.cons rfl (fun KK hK => ?_) AllReadyH.nil
                  simp only [List.getElem_toArray, List.getElem_cons_succ, List.getElem_cons_zero]
                  rw [if_pos (by rfl)]
                  go_simp
                  clear hHeld
                  refine hK.out _ _ ?_ (fun hHeld => ?_)
                  · exact ⟨(cell_aside _ (by have := unhide S0; dsimp only; omega) A0_0), (cell_aside _ (by have := unhide S0; dsimp only; omega) A1_0)⟩
                  clear hK KK
                  try simp only [Act.put, List.getElem_toArray, List.getElem_cons_succ, List.getElem_cons_zero, List.setIfInBounds_toArray, List.set_cons_zero, List.set_cons_succ]
                  refine wpAnyH_ready (rs := [12]) (by kernel_rfl) (by simp) ?_
                  refine AllReadyH.cons rfl (fun KK hK => ?_) AllReadyH.nil
                  simp only [List.getElem_toArray, List.getElem_cons_succ, List.getElem_cons_zero]
                  rw [if_pos (by rfl)]
                  go_simp
                  clear hHeld
                  refine hK.out _ _ ?_ (fun hHeld => ?_)
                  · exact ⟨(cell_aside _ (by have := unhide S0; dsimp only; omega) (cell_aside _ (by have := unhide S0; dsimp only; omega) A0_0)), (cell_aside _ (by have := unhide S0; dsimp only; omega) (cell_aside _ (by have := unhide S0; dsimp only; omega) A1_0))⟩
                  clear hK KK
                  try simp only [Act.put, List.getElem_toArray, List.getElem_cons_succ, List.getElem_cons_zero, List.setIfInBounds_toArray, List.set_cons_zero, List.set_cons_succ]
                  refine wpAnyH_take (i := 13) (oi := _) (v := .bool B2) rfl (by kernel_rfl) (by kernel_rfl) (by kernel_rfl) (fun _ _ _ h => h) (Or.inl ⟨by rfl, ?_⟩) hHeld ?_
                  · intro wq hSw
                    try dsimp only at hSw
                    go_simp
                  try simp only [Act.put, List.getElem_toArray, List.getElem_cons_succ, List.getElem_cons_zero, List.setIfInBounds_toArray, List.set_cons_zero, List.set_cons_succ]
                  refine wpAnyH_done (by kernel_rfl) ?_ _
                  clear hHeld
                  go_wp2_with fail
                  go_meet
                  exact ⟨_, _, _, _, rfl, rfl, rfl, law_setNN kw x0_0 x1_0 r90 r91 (by omega) (by omega) (by omega) (by omega) (by omega) (by omega) (by omega) (by omega) (by omega)⟩
          · simp only [List.getElem_toArray, List.getElem_cons_succ, List.getElem_cons_zero]
            rw [if_pos (by rfl)]
            go_simp
            have kn := (Kept.refl 0 0 w8).alloc (.cells #[.slice none 0 0] 26)
            replace r0 := r0.kept kn (by omega)
            replace r1 := r1.kept kn (by omega)
            replace r70 := r70.kept kn (by omega)
            replace kw := kw.trans kn
            replace x1_f0 := kn.loose0 (World.block_lt_of_cell? _ _ x1_0) x1_f0
            replace A0_0 := kn.cell0 A0_0
            replace A1_0 := kn.cell0 A1_0
            replace x1_0 := kn.cell0 x1_0
            replace K := hide ((unhide K).trans kn)
            have z11 := kn.size
            clear kn
            have szx0_ : w8.heap.size < (w8.alloc (.cells #[.slice none 0 0] 26)).heap.size := by simp
            have x0_0 : (w8.alloc (.cells #[.slice none 0 0] 26)).cell? ⟨w8.heap.size, 0, none⟩ = some (.slice none 0 0) := new_cell2 _ _ _ _ _ _ rfl rfl
            have x0_f0 : (w8.alloc (.cells #[.slice none 0 0] 26)).frozen? ⟨w8.heap.size, 0, none⟩ = false := new_loose2 _ _ _ _ _ rfl
            clear hHeld
            refine hK.out _ _ ?_ (fun hHeld => ?_)
            · exact ⟨A0_0, A1_0⟩
            clear hK KK
            try simp only [Act.put, List.getElem_toArray, List.getElem_cons_succ, List.getElem_cons_zero, List.setIfInBounds_toArray, List.set_cons_zero, List.set_cons_succ]
            generalize w8.alloc (.cells #[.slice none 0 0] 26) = w10 at *
            refine wpAnyH_ready (rs := [3]) (by kernel_rfl) (by simp) ?_
            refine AllReadyH.cons rfl (fun KK hK => ?_) AllReadyH.nil
            · as_aux_lemma =>
                simp only [List.getElem_toArray, List.getElem_cons_succ, List.getElem_cons_zero]
                rw [if_pos (by rfl)]
                refine wps1 60 (.tmp 33) _ rfl in_toN (.agg #[.slice a1 z1.length c1]) rfl (toNat_any _ hn1 r1) ?_
                rintro e w12 ⟨v71, rfl, r71, k12⟩
                refine ⟨_, rfl, ?_⟩
                replace r0 := r0.kept k12 (by omega)
                replace r1 := r1.kept k12 (by omega)
                replace r70 := r70.kept k12 (by omega)
                replace kw := kw.trans k12
                replace x1_f0 := k12.loose0 (World.block_lt_of_cell? _ _ x1_0) x1_f0
                replace x0_f0 := k12.loose0 (World.block_lt_of_cell? _ _ x0_0) x0_f0
                replace A0_0 := k12.cell0 A0_0
                replace A1_0 := k12.cell0 A1_0
                replace x1_0 := k12.cell0 x1_0
                replace x0_0 := k12.cell0 x0_0
                replace K := hide ((unhide K).trans k12)
                have z13 := k12.size
                clear k12
                clear hHeld
                refine hK.out _ _ ?_ (fun hHeld => ?_)
                · exact ⟨A0_0, A1_0⟩
                clear hK KK
                try simp only [Act.put, List.getElem_toArray, List.getElem_cons_succ, List.getElem_cons_zero, List.setIfInBounds_toArray, List.set_cons_zero, List.set_cons_succ]
                refine wpAnyH_ready (rs := [4]) (by kernel_rfl) (by simp) ?_
                refine AllReadyH.cons rfl (fun KK hK => ?_) AllReadyH.nil
                · simp only [List.getElem_toArray, List.getElem_cons_succ, List.getElem_cons_zero]
                  rw [if_pos (by rfl)]
                  have mk := natDiv_spec w12 r70 r71
                  simp only [unhide EL0, unhide EL1, unhide EB2] at mk
                  refine wps2 59 (.tmp 32) (.tmp 34) _ rfl in_spec_NatDiv (.agg #[v70]) (.agg #[v71]) rfl rfl mk ?_
                  rintro e w14 ⟨v90, v91, rfl, r90, r91, k14⟩
                  refine ⟨_, rfl, ?_⟩
                  clear mk
                  replace r0 := r0.kept k14 (by omega)
                  replace r1 := r1.kept k14 (by omega)
                  replace r70 := r70.kept k14 (by omega)
                  replace r71 := r71.kept k14 (by omega)
                  replace kw := kw.trans k14
                  replace x1_f0 := k14.loose0 (World.block_lt_of_cell? _ _ x1_0) x1_f0
                  replace x0_f0 := k14.loose0 (World.block_lt_of_cell? _ _ x0_0) x0_f0
                  replace A0_0 := k14.cell0 A0_0
                  replace A1_0 := k14.cell0 A1_0
                  replace x1_0 := k14.cell0 x1_0
                  replace x0_0 := k14.cell0 x0_0
                  replace K := hide ((unhide K).trans k14)
                  have z15 := k14.size
                  obtain ⟨a90, d90, hv⟩ := Row.form' r90
                  subst hv
                  obtain ⟨a91, d91, hv⟩ := Row.form' r91
                  subst hv
                  clear k14
                  clear hHeld
                  refine hK.out _ _ ?_ (fun hHeld => ?_)
                  · exact ⟨A0_0, A1_0⟩
                  clear hK KK
                  try simp only [Act.put, List.getElem_toArray, List.getElem_cons_succ, List.getElem_cons_zero, List.setIfInBounds_toArray, List.set_cons_zero, List.set_cons_succ]
                  refine wpAnyH_take (i := 5) (oi := _) (v := .tuple #[.agg #[.slice a90 L0.length d90], .agg #[.slice a91 L1.length d91], .bool B2]) rfl (by kernel_rfl) (by kernel_rfl) (by kernel_rfl) (fun _ _ _ h => h) (Or.inl ⟨by rfl, ?_⟩) hHeld ?_
                  · intro wq hSw
                    try dsimp only at hSw
                    go_simp
                  try simp only [Act.put, List.getElem_toArray, List.getElem_cons_succ, List.getElem_cons_zero, List.setIfInBounds_toArray, List.set_cons_zero, List.set_cons_succ]
                  refine wpAnyH_take (i := 6) (oi := _) (v := .agg #[.slice a90 L0.length d90]) rfl (by kernel_rfl) (by kernel_rfl) (by kernel_rfl) (fun _ _ _ h => h) (Or.inl ⟨by rfl, ?_⟩) hHeld ?_
                  · intro wq hSw
                    try dsimp only at hSw
                    go_simp
                  try simp only [Act.put, List.getElem_toArray, List.getElem_cons_succ, List.getElem_cons_zero, List.setIfInBounds_toArray, List.set_cons_zero, List.set_cons_succ]
                  refine wpAnyH_take (i := 7) (oi := _) (v := .agg #[.slice a91 L1.length d91]) rfl (by kernel_rfl) (by kernel_rfl) (by kernel_rfl) (fun _ _ _ h => h) (Or.inl ⟨by rfl, ?_⟩) hHeld ?_
                  · intro wq hSw
                    try dsimp only at hSw
                    go_simp
                  try simp only [Act.put, List.getElem_toArray, List.getElem_cons_succ, List.getElem_cons_zero, List.setIfInBounds_toArray, List.set_cons_zero, List.set_cons_succ]
                  refine wpAnyH_take (i := 8) (oi := _) (v := .bool B2) rfl (by kernel_rfl) (by kernel_rfl) (by kernel_rfl) (fun _ _ _ h => h) (Or.inl ⟨by rfl, ?_⟩) hHeld ?_
                  · intro wq hSw
                    try dsimp only at hSw
                    go_simp
                  try simp only [Act.put, List.getElem_toArray, List.getElem_cons_succ, List.getElem_cons_zero, List.setIfInBounds_toArray, List.set_cons_zero, List.set_cons_succ]
                  refine wpAnyH_ready (rs := [11]) (by kernel_rfl) (by simp) ?_
                  refine AllReadyH.cons rfl (fun KK hK => ?_) AllReadyH.nil
                  simp only [List.getElem_toArray, List.getElem_cons_succ, List.getElem_cons_zero]
                  rw [if_pos (by rfl)]
                  go_simp
                  clear hHeld
                  refine hK.out _ _ ?_ (fun hHeld => ?_)
                  · exact ⟨(cell_aside _ (by have := unhide S0; dsimp only; omega) A0_0), (cell_aside _ (by have := unhide S0; dsimp only; omega) A1_0)⟩
                  clear hK KK
                  try simp only [Act.put, List.getElem_toArray, List.getElem_cons_succ, List.getElem_cons_zero, List.setIfInBounds_toArray, List.set_cons_zero, List.set_cons_succ]
                  refine wpAnyH_ready (rs := [12]) (by kernel_rfl) (by simp) ?_
                  refine AllReadyH.cons rfl (fun KK hK => ?_) AllReadyH.nil
                  simp only [List.getElem_toArray, List.getElem_cons_succ, List.getElem_cons_zero]
                  rw [if_pos (by rfl)]
                  go_simp
                  clear hHeld
                  refine hK.out _ _ ?_ (fun hHeld => ?_)
                  · exact ⟨(cell_aside _ (by have := unhide S0; dsimp only; omega) (cell_aside _ (by have := unhide S0; dsimp only; omega) A0_0)), (cell_aside _ (by have := unhide S0; dsimp only; omega) (cell_aside _ (by have := unhide S0; dsimp only; omega) A1_0))⟩
                  clear hK KK
                  try simp only [Act.put, List.getElem_toArray, List.getElem_cons_succ, List.getElem_cons_zero, List.setIfInBounds_toArray, List.set_cons_zero, List.set_cons_succ]
                  refine wpAnyH_take (i := 13) (oi := _) (v := .bool B2) rfl (by kernel_rfl) (by kernel_rfl) (by kernel_rfl) (fun _ _ _ h => h) (Or.inl ⟨by rfl, ?_⟩) hHeld ?_
                  · intro wq hSw
                    try dsimp only at hSw
                    go_simp
                  try simp only [Act.put, List.getElem_toArray, List.getElem_cons_succ, List.getElem_cons_zero, List.setIfInBounds_toArray, List.set_cons_zero, List.set_cons_succ]
                  refine wpAnyH_done (by kernel_rfl) ?_ _
                  clear hHeld
                  go_wp2_with fail
                  go_meet
                  exact ⟨_, _, _, _, rfl, rfl, rfl, law_setNN kw x0_0 x1_0 r90 r91 (by omega) (by omega) (by omega) (by omega) (by omega) (by omega) (by omega) (by omega) (by omega)⟩
    · simp only [List.getElem_toArray, List.getElem_cons_succ, List.getElem_cons_zero]
      rw [if_pos (by rfl)]
      go_simp
      have kn := (Kept.refl 0 0 wd).alloc (.cells #[.slice none 0 0] 26)
      replace r0 := r0.kept kn (by omega)
      replace r1 := r1.kept kn (by omega)
      replace kw := kw.trans kn
      replace A0_0 := kn.cell0 A0_0
      replace A1_0 := kn.cell0 A1_0
      replace K := hide ((unhide K).trans kn)
      have z7 := kn.size
      clear kn
      have szx0_ : wd.heap.size < (wd.alloc (.cells #[.slice none 0 0] 26)).heap.size := by simp
      have x0_0 : (wd.alloc (.cells #[.slice none 0 0] 26)).cell? ⟨wd.heap.size, 0, none⟩ = some (.slice none 0 0) := new_cell2 _ _ _ _ _ _ rfl rfl
      have x0_f0 : (wd.alloc (.cells #[.slice none 0 0] 26)).frozen? ⟨wd.heap.size, 0, none⟩ = false := new_loose2 _ _ _ _ _ rfl
      clear hHeld
      refine hK.out _ _ ?_ (fun hHeld => ?_)
      · exact ⟨A0_0, A1_0⟩
      clear hK KK
      try simp only [Act.put, List.getElem_toArray, List.getElem_cons_succ, List.getElem_cons_zero, List.setIfInBounds_toArray, List.set_cons_zero, List.set_cons_succ]
      generalize wd.alloc (.cells #[.slice none 0 0] 26) = w6 at *
      refine wpAnyH_ready (rs := [1, 10]) (by kernel_rfl) (by simp) ?_
      refine AllReadyH.cons rfl (fun KK hK => ?_) (AllReadyH.cons rfl (fun KK hK => ?_) AllReadyH.nil)
      · as_aux_lemma =>
          simp only [List.getElem_toArray, List.getElem_cons_succ, List.getElem_cons_zero]
          rw [if_pos (by rfl)]
          refine wps1 60 (.tmp 31) _ rfl in_toN (.agg #[.slice a0 z0.length c0]) rfl (toNat_any _ hn0 r0) ?_
          rintro e w8 ⟨v70, rfl, r70, k8⟩
          refine ⟨_, rfl, ?_⟩
          replace r0 := r0.kept k8 (by omega)
          replace r1 := r1.kept k8 (by omega)
          replace kw := kw.trans k8
          replace x0_f0 := k8.loose0 (World.block_lt_of_cell? _ _ x0_0) x0_f0
          replace A0_0 := k8.cell0 A0_0
          replace A1_0 := k8.cell0 A1_0
          replace x0_0 := k8.cell0 x0_0
          replace K := hide ((unhide K).trans k8)
          have z9 := k8.size
          clear k8
          clear hHeld
          refine hK.out _ _ ?_ (fun hHeld => ?_)
          · exact ⟨A0_0, A1_0⟩
          clear hK KK
          try simp only [Act.put, List.getElem_toArray, List.getElem_cons_succ, List.getElem_cons_zero, List.setIfInBounds_toArray, List.set_cons_zero, List.set_cons_succ]
          refine wpAnyH_ready (rs := [3, 10]) (by kernel_rfl) (by simp) ?_
          refine AllReadyH.cons rfl (fun KK hK => ?_) (AllReadyH.cons rfl (fun KK hK => ?_) AllReadyH.nil)
          · simp only [List.getElem_toArray, List.getElem_cons_succ, List.getElem_cons_zero]
            rw [if_pos (by rfl)]
            refine wps1 60 (.tmp 33) _ rfl in_toN (.agg #[.slice a1 z1.length c1]) rfl (toNat_any _ hn1 r1) ?_
            rintro e w10 ⟨v71, rfl, r71, k10⟩
            refine ⟨_, rfl, ?_⟩
            replace r0 := r0.kept k10 (by omega)
            replace r1 := r1.kept k10 (by omega)
            replace r70 := r70.kept k10 (by omega)
            replace kw := kw.trans k10
            replace x0_f0 := k10.loose0 (World.block_lt_of_cell? _ _ x0_0) x0_f0
            replace A0_0 := k10.cell0 A0_0
            replace A1_0 := k10.cell0 A1_0
            replace x0_0 := k10.cell0 x0_0
            replace K := hide ((unhide K).trans k10)
            have z11 := k10.size
            clear k10
            clear hHeld
            refine hK.out _ _ ?_ (fun hHeld => ?_)
            · exact ⟨A0_0, A1_0⟩
            clear hK KK
            try simp only [Act.put, List.getElem_toArray, List.getElem_cons_succ, List.getElem_cons_zero, List.setIfInBounds_toArray, List.set_cons_zero, List.set_cons_succ]
            refine wpAnyH_ready (rs := [4, 10]) (by kernel_rfl) (by simp) ?_
            refine AllReadyH.cons rfl (fun KK hK => ?_) (AllReadyH.cons rfl (fun KK hK => ?_) AllReadyH.nil)
            · as_aux_lemma =>
                simp only [List.getElem_toArray, List.getElem_cons_succ, List.getElem_cons_zero]
                rw [if_pos (by rfl)]
                have mk := natDiv_spec w10 r70 r71
                simp only [unhide EL0, unhide EL1, unhide EB2] at mk
                refine wps2 59 (.tmp 32) (.tmp 34) _ rfl in_spec_NatDiv (.agg #[v70]) (.agg #[v71]) rfl rfl mk ?_
                rintro e w12 ⟨v90, v91, rfl, r90, r91, k12⟩
                refine ⟨_, rfl, ?_⟩
                clear mk
                replace r0 := r0.kept k12 (by omega)
                replace r1 := r1.kept k12 (by omega)
                replace r70 := r70.kept k12 (by omega)
                replace r71 := r71.kept k12 (by omega)
                replace kw := kw.trans k12
                replace x0_f0 := k12.loose0 (World.block_lt_of_cell? _ _ x0_0) x0_f0
                replace A0_0 := k12.cell0 A0_0
                replace A1_0 := k12.cell0 A1_0
                replace x0_0 := k12.cell0 x0_0
                replace K := hide ((unhide K).trans k12)
                have z13 := k12.size
                obtain ⟨a90, d90, hv⟩ := Row.form' r90
                subst hv
                obtain ⟨a91, d91, hv⟩ := Row.form' r91
                subst hv
                clear k12
                clear hHeld
                refine hK.out _ _ ?_ (fun hHeld => ?_)
                · exact ⟨A0_0, A1_0⟩
                clear hK KK
                try simp only [Act.put, List.getElem_toArray, List.getElem_cons_succ, List.getElem_cons_zero, List.setIfInBounds_toArray, List.set_cons_zero, List.set_cons_succ]
                refine wpAnyH_take (i := 5) (oi := _) (v := .tuple #[.agg #[.slice a90 L0.length d90], .agg #[.slice a91 L1.length d91], .bool B2]) rfl (by kernel_rfl) (by kernel_rfl) (by kernel_rfl) (fun _ _ _ h => h) (Or.inl ⟨by rfl, ?_⟩) hHeld ?_
                · intro wq hSw
                  try dsimp only at hSw
                  go_simp
                try simp only [Act.put, List.getElem_toArray, List.getElem_cons_succ, List.getElem_cons_zero, List.setIfInBounds_toArray, List.set_cons_zero, List.set_cons_succ]
                refine wpAnyH_take (i := 6) (oi := _) (v := .agg #[.slice a90 L0.length d90]) rfl (by kernel_rfl) (by kernel_rfl) (by kernel_rfl) (fun _ _ _ h => h) (Or.inl ⟨by rfl, ?_⟩) hHeld ?_
                · intro wq hSw
                  try dsimp only at hSw
                  go_simp
                try simp only [Act.put, List.getElem_toArray, List.getElem_cons_succ, List.getElem_cons_zero, List.setIfInBounds_toArray, List.set_cons_zero, List.set_cons_succ]
                refine wpAnyH_take (i := 7) (oi := _) (v := .agg #[.slice a91 L1.length d91]) rfl (by kernel_rfl) (by kernel_rfl) (by kernel_rfl) (fun _ _ _ h => h) (Or.inl ⟨by rfl, ?_⟩) hHeld ?_
                · intro wq hSw
                  try dsimp only at hSw
                  go_simp
                try simp only [Act.put, List.getElem_toArray, List.getElem_cons_succ, List.getElem_cons_zero, List.setIfInBounds_toArray, List.set_cons_zero, List.set_cons_succ]
                refine wpAnyH_take (i := 8) (oi := _) (v := .bool B2) rfl (by kernel_rfl) (by kernel_rfl) (by kernel_rfl) (fun _ _ _ h => h) (Or.inl ⟨by rfl, ?_⟩) hHeld ?_
                · intro wq hSw
                  try dsimp only at hSw
                  go_simp
                try simp only [Act.put, List.getElem_toArray, List.getElem_cons_succ, List.getElem_cons_zero, List.setIfInBounds_toArray, List.set_cons_zero, List.set_cons_succ]
                refine wpAnyH_ready (rs := [10]) (by kernel_rfl) (by simp) ?_
                refine AllReadyH.cons rfl (fun KK hK => ?_) AllReadyH.nil
                · simp only [List.getElem_toArray, List.getElem_cons_succ, List.getElem_cons_zero]
                  rw [if_pos (by rfl)]
                  go_simp
                  have kn := (Kept.refl 0 0 w12).alloc (.cells #[.slice none 0 0] 26)
                  replace r0 := r0.kept kn (by omega)
                  replace r1 := r1.kept kn (by omega)
                  replace r70 := r70.kept kn (by omega)
                  replace r71 := r71.kept kn (by omega)
                  replace r90 := r90.kept kn (by omega)
                  replace r91 := r91.kept kn (by omega)
                  replace kw := kw.trans kn
                  replace x0_f0 := kn.loose0 (World.block_lt_of_cell? _ _ x0_0) x0_f0
                  replace A0_0 := kn.cell0 A0_0
                  replace A1_0 := kn.cell0 A1_0
                  replace x0_0 := kn.cell0 x0_0
                  replace K := hide ((unhide K).trans kn)
                  have z15 := kn.size
                  clear kn
                  have szx1_ : w12.heap.size < (w12.alloc (.cells #[.slice none 0 0] 26)).heap.size := by simp
                  have x1_0 : (w12.alloc (.cells #[.slice none 0 0] 26)).cell? ⟨w12.heap.size, 0, none⟩ = some (.slice none 0 0) := new_cell2 _ _ _ _ _ _ rfl rfl
                  have x1_f0 : (w12.alloc (.cells #[.slice none 0 0] 26)).frozen? ⟨w12.heap.size, 0, none⟩ = false := new_loose2 _ _ _ _ _ rfl
                  clear hHeld
                  refine hK.out _ _ ?_ (fun hHeld => ?_)
                  · exact ⟨A0_0, A1_0⟩
                  clear hK KK
                  try simp only [Act.put, List.getElem_toArray, List.getElem_cons_succ, List.getElem_cons_zero, List.setIfInBounds_toArray, List.set_cons_zero, List.set_cons_succ]
                  generalize w12.alloc (.cells #[.slice none 0 0] 26) = w14 at *
                  refine wpAnyH_ready (rs := [11]) (by kernel_rfl) (by simp) ?_
                  refine AllReadyH.cons rfl (fun KK hK => ?_) AllReadyH.nil
                  simp only [List.getElem_toArray, List.getElem_cons_succ, List.getElem_cons_zero]
                  rw [if_pos (by rfl)]
                  go_simp
                  clear hHeld
                  refine hK.out _ _ ?_ (fun hHeld => ?_)
                  · exact ⟨(cell_aside _ (by have := unhide S0; dsimp only; omega) A0_0), (cell_aside _ (by have := unhide S0; dsimp only; omega) A1_0)⟩
                  clear hK KK
                  try simp only [Act.put, List.getElem_toArray, List.getElem_cons_succ, List.getElem_cons_zero, List.setIfInBounds_toArray, List.set_cons_zero, List.set_cons_succ]
                  refine wpAnyH_ready (rs := [12]) (by kernel_rfl) (by simp) ?_
                  refine AllReadyH.cons rfl (fun KK hK => ?_) AllReadyH.nil
                  simp only [List.getElem_toArray, List.getElem_cons_succ, List.getElem_cons_zero]
                  rw [if_pos (by rfl)]
                  go_simp
                  clear hHeld
                  refine hK.out _ _ ?_ (fun hHeld => ?_)
                  · exact ⟨(cell_aside _ (by have := unhide S0; dsimp only; omega) (cell_aside _ (by have := unhide S0; dsimp only; omega) A0_0)), (cell_aside _ (by have := unhide S0; dsimp only; omega) (cell_aside _ (by have := unhide S0; dsimp only; omega) A1_0))⟩
                  clear hK KK
                  try simp only [Act.put, List.getElem_toArray, List.getElem_cons_succ, List.getElem_cons_zero, List.setIfInBounds_toArray, List.set_cons_zero, List.set_cons_succ]
                  refine wpAnyH_take (i := 13) (oi := _) (v := .bool B2) rfl (by kernel_rfl) (by kernel_rfl) (by kernel_rfl) (fun _ _ _ h => h) (Or.inl ⟨by rfl, ?_⟩) hHeld ?_
                  · intro wq hSw
                    try dsimp only at hSw
                    go_simp
                  try simp only [Act.put, List.getElem_toArray, List.getElem_cons_succ, List.getElem_cons_zero, List.setIfInBounds_toArray, List.set_cons_zero, List.set_cons_succ]
                  refine wpAnyH_done (by kernel_rfl) ?_ _
                  clear hHeld
                  go_wp2_with fail
                  go_meet
                  exact ⟨_, _, _, _, rfl, rfl, rfl, law_setNN kw x0_0 x1_0 r90 r91 (by omega) (by omega) (by omega) (by omega) (by omega) (by omega) (by omega) (by omega) (by omega)⟩
            · as_aux_lemma =>
                simp only [List.getElem_toArray, List.getElem_cons_succ, List.getElem_cons_zero]
                rw [if_pos (by rfl)]
                go_simp
                have kn := (Kept.refl 0 0 w10).alloc (.cells #[.slice none 0 0] 26)
                replace r0 := r0.kept kn (by omega)
                replace r1 := r1.kept kn (by omega)
                replace r70 := r70.kept kn (by omega)
                replace r71 := r71.kept kn (by omega)
                replace kw := kw.trans kn
                replace x0_f0 := kn.loose0 (World.block_lt_of_cell? _ _ x0_0) x0_f0
                replace A0_0 := kn.cell0 A0_0
                replace A1_0 := kn.cell0 A1_0
                replace x0_0 := kn.cell0 x0_0
                replace K := hide ((unhide K).trans kn)
                have z13 := kn.size
                clear kn
                have szx1_ : w10.heap.size < (w10.alloc (.cells #[.slice none 0 0] 26)).heap.size := by simp
                have x1_0 : (w10.alloc (.cells #[.slice none 0 0] 26)).cell? ⟨w10.heap.size, 0, none⟩ = some (.slice none 0 0) := new_cell2 _ _ _ _ _ _ rfl rfl
                have x1_f0 : (w10.alloc (.cells #[.slice none 0 0] 26)).frozen? ⟨w10.heap.size, 0, none⟩ = false := new_loose2 _ _ _ _ _ rfl
                clear hHeld
                refine hK.out _ _ ?_ (fun hHeld => ?_)
                · exact ⟨A0_0, A1_0⟩
                clear hK KK
                try simp only [Act.put, List.getElem_toArray, List.getElem_cons_succ, List.getElem_cons_zero, List.setIfInBounds_toArray, List.set_cons_zero, List.set_cons_succ]
                generalize w10.alloc (.cells #[.slice none 0 0] 26) = w12 at *
                refine wpAnyH_ready (rs := [4]) (by kernel_rfl) (by simp) ?_
                refine AllReadyH.cons rfl (fun KK hK => ?_) AllReadyH.nil
                · simp only [List.getElem_toArray, List.getElem_cons_succ, List.getElem_cons_zero]
                  rw [if_pos (by rfl)]
                  have mk := natDiv_spec w12 r70 r71
                  simp only [unhide EL0, unhide EL1, unhide EB2] at mk
                  refine wps2 59 (.tmp 32) (.tmp 34) _ rfl in_spec_NatDiv (.agg #[v70]) (.agg #[v71]) rfl rfl mk ?_
                  rintro e w14 ⟨v90, v91, rfl, r90, r91, k14⟩
                  refine ⟨_, rfl, ?_⟩
                  clear mk
                  replace r0 := r0.kept k14 (by omega)
                  replace r1 := r1.kept k14 (by omega)
                  replace r70 := r70.kept k14 (by omega)
                  replace r71 := r71.kept k14 (by omega)
                  replace kw := kw.trans k14
                  replace x0_f0 := k14.loose0 (World.block_lt_of_cell? _ _ x0_0) x0_f0
                  replace x1_f0 := k14.loose0 (World.block_lt_of_cell? _ _ x1_0) x1_f0
                  replace A0_0 := k14.cell0 A0_0
                  replace A1_0 := k14.cell0 A1_0
                  replace x0_0 := k14.cell0 x0_0
                  replace x1_0 := k14.cell0 x1_0
                  replace K := hide ((unhide K).trans k14)
                  have z15 := k14.size
                  obtain ⟨a90, d90, hv⟩ := Row.form' r90
                  subst hv
                  obtain ⟨a91, d91, hv⟩ := Row.form' r91
                  subst hv
                  clear k14
                  clear hHeld
                  refine hK.out _ _ ?_ (fun hHeld => ?_)
                  · exact ⟨A0_0, A1_0⟩
                  clear hK KK
                  try simp only [Act.put, List.getElem_toArray, List.getElem_cons_succ, List.getElem_cons_zero, List.setIfInBounds_toArray, List.set_cons_zero, List.set_cons_succ]
                  refine wpAnyH_take (i := 5) (oi := _) (v := .tuple #[.agg #[.slice a90 L0.length d90], .agg #[.slice a91 L1.length d91], .bool B2]) rfl (by kernel_rfl) (by kernel_rfl) (by kernel_rfl) (fun _ _ _ h => h) (Or.inl ⟨by rfl, ?_⟩) hHeld ?_
                  · intro wq hSw
                    try dsimp only at hSw
                    go_simp
                  try simp only [Act.put, List.getElem_toArray, List.getElem_cons_succ, List.getElem_cons_zero, List.setIfInBounds_toArray, List.set_cons_zero, List.set_cons_succ]
                  refine wpAnyH_take (i := 6) (oi := _) (v := .agg #[.slice a90 L0.length d90]) rfl (by kernel_rfl) (by kernel_rfl) (by kernel_rfl) (fun _ _ _ h => h) (Or.inl ⟨by rfl, ?_⟩) hHeld ?_
                  · intro wq hSw
                    try dsimp only at hSw
                    go_simp
                  try simp only [Act.put, List.getElem_toArray, List.getElem_cons_succ, List.getElem_cons_zero, List.setIfInBounds_toArray, List.set_cons_zero, List.set_cons_succ]
                  refine wpAnyH_take (i := 7) (oi := _) (v := .agg #[.slice a91 L1.length d91]) rfl (by kernel_rfl) (by kernel_rfl) (by kernel_rfl) (fun _ _ _ h => h) (Or.inl ⟨by rfl, ?_⟩) hHeld ?_
                  · intro wq hSw
                    try dsimp only at hSw
                    go_simp
                  try simp only [Act.put, List.getElem_toArray, List.getElem_cons_succ, List.getElem_cons_zero, List.setIfInBounds_toArray, List.set_cons_zero, List.set_cons_succ]
                  refine wpAnyH_take (i := 8) (oi := _) (v := .bool B2) rfl (by kernel_rfl) (by kernel_rfl) (by kernel_rfl) (fun _ _ _ h => h) (Or.inl ⟨by rfl, ?_⟩) hHeld ?_
                  · intro wq hSw
                    try dsimp only at hSw
                    go_simp
                  try simp only [Act.put, List.getElem_toArray, List.getElem_cons_succ, List.getElem_cons_zero, List.setIfInBounds_toArray, List.set_cons_zero, List.set_cons_succ]
                  refine wpAnyH_ready (rs := [11]) (by kernel_rfl) (by simp) ?_
                  refine AllReadyH.cons rfl (fun KK hK => ?_) AllReadyH.nil
                  simp only [List.getElem_toArray, List.getElem_cons_succ, List.getElem_cons_zero]
                  rw [if_pos (by rfl)]
                  go_simp
                  clear hHeld
                  refine hK.out _ _ ?_ (fun hHeld => ?_)
                  · exact ⟨(cell_aside _ (by have := unhide S0; dsimp only; omega) A0_0), (cell_aside _ (by have := unhide S0; dsimp only; omega) A1_0)⟩
                  clear hK KK
                  try simp only [Act.put, List.getElem_toArray, List.getElem_cons_succ, List.getElem_cons_zero, List.setIfInBounds_toArray, List.set_cons_zero, List.set_cons_succ]
                  refine wpAnyH_ready (rs := [12]) (by kernel_rfl) (by simp) ?_
                  refine AllReadyH.cons rfl (fun KK hK => ?_) AllReadyH.nil
                  simp only [List.getElem_toArray, List.getElem_cons_succ, List.getElem_cons_zero]
                  rw [if_pos (by rfl)]
                  go_simp
                  clear hHeld
                  refine hK.out _ _ ?_ (fun hHeld => ?_)
                  · exact ⟨(cell_aside _ (by have := unhide S0; dsimp only; omega) (cell_aside _ (by have := unhide S0; dsimp only; omega) A0_0)), (cell_aside _ (by have := unhide S0; dsimp only; omega) (cell_aside _ (by have := unhide S0; dsimp only; omega) A1_0))⟩
                  clear hK KK
                  try simp only [Act.put, List.getElem_toArray, List.getElem_cons_succ, List.getElem_cons_zero, List.setIfInBounds_toArray, List.set_cons_zero, List.set_cons_succ]
                  refine wpAnyH_take (i := 13) (oi := _) (v := .bool B2) rfl (by kernel_rfl) (by kernel_rfl) (by kernel_rfl) (fun _ _ _ h => h) (Or.inl ⟨by rfl, ?_⟩) hHeld ?_
                  · intro wq hSw
                    try dsimp only at hSw
                    go_simp
                  try simp only [Act.put, List.getElem_toArray, List.getElem_cons_succ, List.getElem_cons_zero, List.setIfInBounds_toArray, List.set_cons_zero, List.set_cons_succ]
                  refine wpAnyH_done (by kernel_rfl) ?_ _
                  clear hHeld
                  go_wp2_with fail
                  go_meet
                  exact ⟨_, _, _, _, rfl, rfl, rfl, law_setNN kw x0_0 x1_0 r90 r91 (by omega) (by omega) (by omega) (by omega) (by omega) (by omega) (by omega) (by omega) (by omega)⟩
          · simp only [List.getElem_toArray, List.getElem_cons_succ, List.getElem_cons_zero]
            rw [if_pos (by rfl)]
            go_simp
            have kn := (Kept.refl 0 0 w8).alloc (.cells #[.slice none 0 0] 26)
            replace r0 := r0.kept kn (by omega)
            replace r1 := r1.kept kn (by omega)
            replace r70 := r70.kept kn (by omega)
            replace kw := kw.trans kn
            replace x0_f0 := kn.loose0 (World.block_lt_of_cell? _ _ x0_0) x0_f0
            replace A0_0 := kn.cell0 A0_0
            replace A1_0 := kn.cell0 A1_0
            replace x0_0 := kn.cell0 x0_0
            replace K := hide ((unhide K).trans kn)
            have z11 := kn.size
            clear kn
            have szx1_ : w8.heap.size < (w8.alloc (.cells #[.slice none 0 0] 26)).heap.size := by simp
            have x1_0 : (w8.alloc (.cells #[.slice none 0 0] 26)).cell? ⟨w8.heap.size, 0, none⟩ = some (.slice none 0 0) := new_cell2 _ _ _ _ _ _ rfl rfl
            have x1_f0 : (w8.alloc (.cells #[.slice none 0 0] 26)).frozen? ⟨w8.heap.size, 0, none⟩ = false := new_loose2 _ _ _ _ _ rfl
            clear hHeld
            refine hK.out _ _ ?_ (fun hHeld => ?_)
            · exact ⟨A0_0, A1_0⟩
            clear hK KK
            try simp only [Act.put, List.getElem_toArray, List.getElem_cons_succ, List.getElem_cons_zero, List.setIfInBounds_toArray, List.set_cons_zero, List.set_cons_succ]
            generalize w8.alloc (.cells #[.slice none 0 0] 26) = w10 at *
            refine wpAnyH_ready (rs := [3]) (by kernel_rfl) (by simp) ?_
            refine AllReadyH.cons rfl (fun KK hK => ?_) AllReadyH.nil
            · as_aux_lemma =>
                simp only [List.getElem_toArray, List.getElem_cons_succ, List.getElem_cons_zero]
                rw [if_pos (by rfl)]
                refine wps1 60 (.tmp 33) _ rfl in_toN (.agg #[.slice a1 z1.length c1]) rfl (toNat_any _ hn1 r1) ?_
                rintro e w12 ⟨v71, rfl, r71, k12⟩
                refine ⟨_, rfl, ?_⟩
                replace r0 := r0.kept k12 (by omega)
                replace r1 := r1.kept k12 (by omega)
                replace r70 := r70.kept k12 (by omega)
                replace kw := kw.trans k12
                replace x0_f0 := k12.loose0 (World.block_lt_of_cell? _ _ x0_0) x0_f0
                replace x1_f0 := k12.loose0 (World.block_lt_of_cell? _ _ x1_0) x1_f0
                replace A0_0 := k12.cell0 A0_0
                replace A1_0 := k12.cell0 A1_0
                replace x0_0 := k12.cell0 x0_0
                replace x1_0 := k12.cell0 x1_0
                replace K := hide ((unhide K).trans k12)
                have z13 := k12.size
                clear k12
                clear hHeld
                refine hK.out _ _ ?_ (fun hHeld => ?_)
                · exact ⟨A0_0, A1_0⟩
                clear hK KK
                try simp only [Act.put, List.getElem_toArray, List.getElem_cons_succ, List.getElem_cons_zero, List.setIfInBounds_toArray, List.set_cons_zero, List.set_cons_succ]
                refine wpAnyH_ready (rs := [4]) (by kernel_rfl) (by simp) ?_
                refine AllReadyH.cons rfl (fun KK hK => ?_) AllReadyH.nil
                · simp only [List.getElem_toArray, List.getElem_cons_succ, List.getElem_cons_zero]
                  rw [if_pos (by rfl)]
                  have mk := natDiv_spec w12 r70 r71
                  simp only [unhide EL0, unhide EL1, unhide EB2] at mk
                  refine wps2 59 (.tmp 32) (.tmp 34) _ rfl in_spec_NatDiv (.agg #[v70]) (.agg #[v71]) rfl rfl mk ?_
                  rintro e w14 ⟨v90, v91, rfl, r90, r91, k14⟩
                  refine ⟨_, rfl, ?_⟩
                  clear mk
                  replace r0 := r0.kept k14 (by omega)
                  replace r1 := r1.kept k14 (by omega)
                  replace r70 := r70.kept k14 (by omega)
                  replace r71 := r71.kept k14 (by omega)
                  replace kw := kw.trans k14
                  replace x0_f0 := k14.loose0 (World.block_lt_of_cell? _ _ x0_0) x0_f0
                  replace x1_f0 := k14.loose0 (World.block_lt_of_cell? _ _ x1_0) x1_f0
                  replace A0_0 := k14.cell0 A0_0
                  replace A1_0 := k14.cell0 A1_0
                  replace x0_0 := k14.cell0 x0_0
                  replace x1_0 := k14.cell0 x1_0
                  replace K := hide ((unhide K).trans k14)
                  have z15 := k14.size
                  obtain ⟨a90, d90, hv⟩ := Row.form' r90
                  subst hv
                  obtain ⟨a91, d91, hv⟩ := Row.form' r91
                  subst hv
                  clear k14
                  clear hHeld
                  refine hK.out _ _ ?_ (fun hHeld => ?_)
                  · exact ⟨A0_0, A1_0⟩
                  clear hK KK
                  try simp only [Act.put, List.getElem_toArray, List.getElem_cons_succ, List.getElem_cons_zero, List.setIfInBounds_toArray, List.set_cons_zero, List.set_cons_succ]
                  refine wpAnyH_take (i := 5) (oi := _) (v := .tuple #[.agg #[.slice a90 L0.length d90], .agg #[.slice a91 L1.length d91], .bool B2]) rfl (by kernel_rfl) (by kernel_rfl) (by kernel_rfl) (fun _ _ _ h => h) (Or.inl ⟨by rfl, ?_⟩) hHeld ?_
                  · intro wq hSw
                    try dsimp only at hSw
                    go_simp
                  try simp only [Act.put, List.getElem_toArray, List.getElem_cons_succ, List.getElem_cons_zero, List.setIfInBounds_toArray, List.set_cons_zero, List.set_cons_succ]
                  refine wpAnyH_take (i := 6) (oi := _) (v := .agg #[.slice a90 L0.length d90]) rfl (by kernel_rfl) (by kernel_rfl) (by kernel_rfl) (fun _ _ _ h => h) (Or.inl ⟨by rfl, ?_⟩) hHeld ?_
                  · intro wq hSw
                    try dsimp only at hSw
                    go_simp
                  try simp only [Act.put, List.getElem_toArray, List.getElem_cons_succ, List.getElem_cons_zero, List.setIfInBounds_toArray, List.set_cons_zero, List.set_cons_succ]
                  refine wpAnyH_take (i := 7) (oi := _) (v := .agg #[.slice a91 L1.length d91]) rfl (by kernel_rfl) (by kernel_rfl) (by kernel_rfl) (fun _ _ _ h => h) (Or.inl ⟨by rfl, ?_⟩) hHeld ?_
                  · intro wq hSw
                    try dsimp only at hSw
                    go_simp
                  try simp only [Act.put, List.getElem_toArray, List.getElem_cons_succ, List.getElem_cons_zero, List.setIfInBounds_toArray, List.set_cons_zero, List.set_cons_succ]
                  refine wpAnyH_take (i := 8) (oi := _) (v := .bool B2) rfl (by kernel_rfl) (by kernel_rfl) (by kernel_rfl) (fun _ _ _ h => h) (Or.inl ⟨by rfl, ?_⟩) hHeld ?_
                  · intro wq hSw
                    try dsimp only at hSw
                    go_simp
                  try simp only [Act.put, List.getElem_toArray, List.getElem_cons_succ, List.getElem_cons_zero, List.setIfInBounds_toArray, List.set_cons_zero, List.set_cons_succ]
                  refine wpAnyH_ready (rs := [11]) (by kernel_rfl) (by simp) ?_
                  refine AllReadyH.cons rfl (fun KK hK => ?_) AllReadyH.nil
                  simp only [List.getElem_toArray, List.getElem_cons_succ, List.getElem_cons_zero]
                  rw [if_pos (by rfl)]
                  go_simp
                  clear hHeld
                  refine hK.out _ _ ?_ (fun hHeld => ?_)
                  · exact ⟨(cell_aside _ (by have := unhide S0; dsimp only; omega) A0_0), (cell_aside _ (by have := unhide S0; dsimp only; omega) A1_0)⟩
                  clear hK KK
                  try simp only [Act.put, List.getElem_toArray, List.getElem_cons_succ, List.getElem_cons_zero, List.setIfInBounds_toArray, List.set_cons_zero, List.set_cons_succ]
                  refine wpAnyH_ready (rs := [12]) (by kernel_rfl) (by simp) ?_
                  refine AllReadyH.cons rfl (fun KK hK => ?_) AllReadyH.nil
                  simp only [List.getElem_toArray, List.getElem_cons_succ, List.getElem_cons_zero]
                  rw [if_pos (by rfl)]
                  go_simp
                  clear hHeld
                  refine hK.out _ _ ?_ (fun hHeld => ?_)
                  · exact ⟨(cell_aside _ (by have := unhide S0; dsimp only; omega) (cell_aside _ (by have := unhide S0; dsimp only; omega) A0_0)), (cell_aside _ (by have := unhide S0; dsimp only; omega) (cell_aside _ (by have := unhide S0; dsimp only; omega) A1_0))⟩
                  clear hK KK
                  try simp only [Act.put, List.getElem_toArray, List.getElem_cons_succ, List.getElem_cons_zero, List.setIfInBounds_toArray, List.set_cons_zero, List.set_cons_succ]
                  refine wpAnyH_take (i := 13) (oi := _) (v := .bool B2) rfl (by kernel_rfl) (by kernel_rfl) (by kernel_rfl) (fun _ _ _ h => h) (Or.inl ⟨by rfl, ?_⟩) hHeld ?_
                  · intro wq hSw
                    try dsimp only at hSw
                    go_simp
                  try simp only [Act.put, List.getElem_toArray, List.getElem_cons_succ, List.getElem_cons_zero, List.setIfInBounds_toArray, List.set_cons_zero, List.set_cons_succ]
                  refine wpAnyH_done (by kernel_rfl) ?_ _
                  clear hHeld
                  go_wp2_with fail
                  go_meet
                  exact ⟨_, _, _, _, rfl, rfl, rfl, law_setNN kw x0_0 x1_0 r90 r91 (by omega) (by omega) (by omega) (by omega) (by omega) (by omega) (by omega) (by omega) (by omega)⟩
      · as_aux_lemma =>
          simp only [List.getElem_toArray, List.getElem_cons_succ, List.getElem_cons_zero]
          rw [if_pos (by rfl)]
          go_simp
          have kn := (Kept.refl 0 0 w6).alloc (.cells #[.slice none 0 0] 26)
          replace r0 := r0.kept kn (by omega)
          replace r1 := r1.kept kn (by omega)
          replace kw := kw.trans kn
          replace x0_f0 := kn.loose0 (World.block_lt_of_cell? _ _ x0_0) x0_f0
          replace A0_0 := kn.cell0 A0_0
          replace A1_0 := kn.cell0 A1_0
          replace x0_0 := kn.cell0 x0_0
          replace K := hide ((unhide K).trans kn)
          have z9 := kn.size
          clear kn
          have szx1_ : w6.heap.size < (w6.alloc (.cells #[.slice none 0 0] 26)).heap.size := by simp
          have x1_0 : (w6.alloc (.cells #[.slice none 0 0] 26)).cell? ⟨w6.heap.size, 0, none⟩ = some (.slice none 0 0) := new_cell2 _ _ _ _ _ _ rfl rfl
          have x1_f0 : (w6.alloc (.cells #[.slice none 0 0] 26)).frozen? ⟨w6.heap.size, 0, none⟩ = false := new_loose2 _ _ _ _ _ rfl
          clear hHeld
          refine hK.out _ _ ?_ (fun hHeld => ?_)
          · exact ⟨A0_0, A1_0⟩
          clear hK KK
          try simp only [Act.put, List.getElem_toArray, List.getElem_cons_succ, List.getElem_cons_zero, List.setIfInBounds_toArray, List.set_cons_zero, List.set_cons_succ]
          generalize w6.alloc (.cells #[.slice none 0 0] 26) = w8 at *
          refine wpAnyH_ready (rs := [1]) (by kernel_rfl) (by simp) ?_
          refine AllReadyH.cons rfl (fun KK hK => ?_) AllReadyH.nil
          · simp only [List.getElem_toArray, List.getElem_cons_succ, List.getElem_cons_zero]
            rw [if_pos (by rfl)]
            refine wps1 60 (.tmp 31) _ rfl in_toN (.agg #[.slice a0 z0.length c0]) rfl (toNat_any _ hn0 r0) ?_
            rintro e w10 ⟨v70, rfl, r70, k10⟩
            refine ⟨_, rfl, ?_⟩
            replace r0 := r0.kept k10 (by omega)
            replace r1 := r1.kept k10 (by omega)
            replace kw := kw.trans k10
            replace x0_f0 := k10.loose0 (World.block_lt_of_cell? _ _ x0_0) x0_f0
            replace x1_f0 := k10.loose0 (World.block_lt_of_cell? _ _ x1_0) x1_f0
            replace A0_0 := k10.cell0 A0_0
            replace A1_0 := k10.cell0 A1_0
            replace x0_0 := k10.cell0 x0_0
            replace x1_0 := k10.cell0 x1_0
            replace K := hide ((unhide K).trans k10)
            have z11 := k10.size
            clear k10
            clear hHeld
            refine hK.out _ _ ?_ (fun hHeld => ?_)
            · exact ⟨A0_0, A1_0⟩
            clear hK KK
            try simp only [Act.put, List.getElem_toArray, List.getElem_cons_succ, List.getElem_cons_zero, List.setIfInBounds_toArray, List.set_cons_zero, List.set_cons_succ]
            refine wpAnyH_ready (rs := [3]) (by kernel_rfl) (by simp) ?_
            refine AllReadyH.cons rfl (fun KK hK => ?_) AllReadyH.nil
            · as_aux_lemma =>
                simp only [List.getElem_toArray, List.getElem_cons_succ, List.getElem_cons_zero]
                rw [if_pos (by rfl)]
                refine wps1 60 (.tmp 33) _ rfl in_toN (.agg #[.slice a1 z1.length c1]) rfl (toNat_any _ hn1 r1) ?_
                rintro e w12 ⟨v71, rfl, r71, k12⟩
                refine ⟨_, rfl, ?_⟩
                replace r0 := r0.kept k12 (by omega)
                replace r1 := r1.kept k12 (by omega)
                replace r70 := r70.kept k12 (by omega)
                replace kw := kw.trans k12
                replace x0_f0 := k12.loose0 (World.block_lt_of_cell? _ _ x0_0) x0_f0
                replace x1_f0 := k12.loose0 (World.block_lt_of_cell? _ _ x1_0) x1_f0
                replace A0_0 := k12.cell0 A0_0
                replace A1_0 := k12.cell0 A1_0
                replace x0_0 := k12.cell0 x0_0
                replace x1_0 := k12.cell0 x1_0
                replace K := hide ((unhide K).trans k12)
                have z13 := k12.size
                clear k12
                clear hHeld
                refine hK.out _ _ ?_ (fun hHeld => ?_)
                · exact ⟨A0_0, A1_0⟩
                clear hK KK
                try simp only [Act.put, List.getElem_toArray, List.getElem_cons_succ, List.getElem_cons_zero, List.setIfInBounds_toArray, List.set_cons_zero, List.set_cons_succ]
                refine wpAnyH_ready (rs := [4]) (by kernel_rfl) (by simp) ?_
                refine AllReadyH.cons rfl (fun KK hK => ?_) AllReadyH.nil
                · simp only [List.getElem_toArray, List.getElem_cons_succ, List.getElem_cons_zero]
                  rw [if_pos (by rfl)]
                  have mk := natDiv_spec w12 r70 r71
                  simp only [unhide EL0, unhide EL1, unhide EB2] at mk
                  refine wps2 59 (.tmp 32) (.tmp 34) _ rfl in_spec_NatDiv (.agg #[v70]) (.agg #[v71]) rfl rfl mk ?_
                  rintro e w14 ⟨v90, v91, rfl, r90, r91, k14⟩
                  refine ⟨_, rfl, ?_⟩
                  clear mk
                  replace r0 := r0.kept k14 (by omega)
                  replace r1 := r1.kept k14 (by omega)
                  replace r70 := r70.kept k14 (by omega)
                  replace r71 := r71.kept k14 (by omega)
                  replace kw := kw.trans k14
                  replace x0_f0 := k14.loose0 (World.block_lt_of_cell? _ _ x0_0) x0_f0
                  replace x1_f0 := k14.loose0 (World.block_lt_of_cell? _ _ x1_0) x1_f0
                  replace A0_0 := k14.cell0 A0_0
                  replace A1_0 := k14.cell0 A1_0
                  replace x0_0 := k14.cell0 x0_0
                  replace x1_0 := k14.cell0 x1_0
                  replace K := hide ((unhide K).trans k14)
                  have z15 := k14.size
                  obtain ⟨a90, d90, hv⟩ := Row.form' r90
                  subst hv
                  obtain ⟨a91, d91, hv⟩ := Row.form' r91
                  subst hv
                  clear k14
                  clear hHeld
                  refine hK.out _ _ ?_ (fun hHeld => ?_)
                  · exact ⟨A0_0, A1_0⟩
                  clear hK KK
                  try simp only [Act.put, List.getElem_toArray, List.getElem_cons_succ, List.getElem_cons_zero, List.setIfInBounds_toArray, List.set_cons_zero, List.set_cons_succ]
                  refine wpAnyH_take (i := 5) (oi := _) (v := .tuple #[.agg #[.slice a90 L0.length d90], .agg #[.slice a91 L1.length d91], .bool B2]) rfl (by kernel_rfl) (by kernel_rfl) (by kernel_rfl) (fun _ _ _ h => h) (Or.inl ⟨by rfl, ?_⟩) hHeld ?_
                  · intro wq hSw
                    try dsimp only at hSw
                    go_simp
                  try simp only [Act.put, List.getElem_toArray, List.getElem_cons_succ, List.getElem_cons_zero, List.setIfInBounds_toArray, List.set_cons_zero, List.set_cons_succ]
                  refine wpAnyH_take (i := 6) (oi := _) (v := .agg #[.slice a90 L0.length d90]) rfl (by kernel_rfl) (by kernel_rfl) (by kernel_rfl) (fun _ _ _ h => h) (Or.inl ⟨by rfl, ?_⟩) hHeld ?_
                  · intro wq hSw
                    try dsimp only at hSw
                    go_simp
                  try simp only [Act.put, List.getElem_toArray, List.getElem_cons_succ, List.getElem_cons_zero, List.setIfInBounds_toArray, List.set_cons_zero, List.set_cons_succ]
                  refine wpAnyH_take (i := 7) (oi := _) (v := .agg #[.slice a91 L1.length d91]) rfl (by kernel_rfl) (by kernel_rfl) (by kernel_rfl) (fun _ _ _ h => h) (Or.inl ⟨by rfl, ?_⟩) hHeld ?_
                  · intro wq hSw
                    try dsimp only at hSw
                    go_simp
                  try simp only [Act.put, List.getElem_toArray, List.getElem_cons_succ, List.getElem_cons_zero, List.setIfInBounds_toArray, List.set_cons_zero, List.set_cons_succ]
                  refine wpAnyH_take (i := 8) (oi := _) (v := .bool B2) rfl (by kernel_rfl) (by kernel_rfl) (by kernel_rfl) (fun _ _ _ h => h) (Or.inl ⟨by rfl, ?_⟩) hHeld ?_
                  · intro wq hSw
                    try dsimp only at hSw
                    go_simp
                  try simp only [Act.put, List.getElem_toArray, List.getElem_cons_succ, List.getElem_cons_zero, List.setIfInBounds_toArray, List.set_cons_zero, List.set_cons_succ]
                  refine wpAnyH_ready (rs := [11]) (by kernel_rfl) (by simp) ?_
                  refine AllReadyH.cons rfl (fun KK hK => ?_) AllReadyH.nil
                  simp only [List.getElem_toArray, List.getElem_cons_succ, List.getElem_cons_zero]
                  rw [if_pos (by rfl)]
                  go_simp
                  clear hHeld
                  refine hK.out _ _ ?_ (fun hHeld => ?_)
                  · exact ⟨(cell_aside _ (by have := unhide S0; dsimp only; omega) A0_0), (cell_aside _ (by have := unhide S0; dsimp only; omega) A1_0)⟩
                  clear hK KK
                  try simp only [Act.put, List.getElem_toArray, List.getElem_cons_succ, List.getElem_cons_zero, List.setIfInBounds_toArray, List.set_cons_zero, List.set_cons_succ]
                  refine wpAnyH_ready (rs := [12]) (by kernel_rfl) (by simp) ?_
                  refine AllReadyH.cons rfl (fun KK hK => ?_) AllReadyH.nil
                  simp only [List.getElem_toArray, List.getElem_cons_succ, List.getElem_cons_zero]
                  rw [if_pos (by rfl)]
                  go_simp
                  clear hHeld
                  refine hK.out _ _ ?_ (fun hHeld => ?_)
                  · exact ⟨(cell_aside _ (by have := unhide S0; dsimp only; omega) (cell_aside _ (by have := unhide S0; dsimp only; omega) A0_0)), (cell_aside _ (by have := unhide S0; dsimp only; omega) (cell_aside _ (by have := unhide S0; dsimp only; omega) A1_0))⟩
                  clear hK KK
                  try simp only [Act.put, List.getElem_toArray, List.getElem_cons_succ, List.getElem_cons_zero, List.setIfInBounds_toArray, List.set_cons_zero, List.set_cons_succ]
                  refine wpAnyH_take (i := 13) (oi := _) (v := .bool B2) rfl (by kernel_rfl) (by kernel_rfl) (by kernel_rfl) (fun _ _ _ h => h) (Or.inl ⟨by rfl, ?_⟩) hHeld ?_
                  · intro wq hSw
                    try dsimp only at hSw
                    go_simp
                  try simp only [Act.put, List.getElem_toArray, List.getElem_cons_succ, List.getElem_cons_zero, List.setIfInBounds_toArray, List.set_cons_zero, List.set_cons_succ]
                  refine wpAnyH_done (by kernel_rfl) ?_ _
                  clear hHeld
                  go_wp2_with fail
                  go_meet
                  exact ⟨_, _, _, _, rfl, rfl, rfl, law_setNN kw x0_0 x1_0 r90 r91 (by omega) (by omega) (by omega) (by omega) (by omega) (by omega) (by omega) (by omega) (by omega)⟩
    · simp only [List.getElem_toArray, List.getElem_cons_succ, List.getElem_cons_zero]
      rw [if_pos (by rfl)]
      go_simp
      have kn := (Kept.refl 0 0 wd).alloc (.cells #[.slice none 0 0] 26)
      replace r0 := r0.kept kn (by omega)
      replace r1 := r1.kept kn (by omega)
      replace kw := kw.trans kn
      replace A0_0 := kn.cell0 A0_0
      replace A1_0 := kn.cell0 A1_0
      replace K := hide ((unhide K).trans kn)
      have z7 := kn.size
      clear kn
      have szx1_ : wd.heap.size < (wd.alloc (.cells #[.slice none 0 0] 26)).heap.size := by simp
      have x1_0 : (wd.alloc (.cells #[.slice none 0 0] 26)).cell? ⟨wd.heap.size, 0, none⟩ = some (.slice none 0 0) := new_cell2 _ _ _ _ _ _ rfl rfl
      have x1_f0 : (wd.alloc (.cells #[.slice none 0 0] 26)).frozen? ⟨wd.heap.size, 0, none⟩ = false := new_loose2 _ _ _ _ _ rfl
      clear hHeld
      refine hK.out _ _ ?_ (fun hHeld => ?_)
      · exact ⟨A0_0, A1_0⟩
      clear hK KK
      try simp only [Act.put, List.getElem_toArray, List.getElem_cons_succ, List.getElem_cons_zero, List.setIfInBounds_toArray, List.set_cons_zero, List.set_cons_succ]
      generalize wd.alloc (.cells #[.slice none 0 0] 26) = w6 at *
      refine wpAnyH_ready (rs := [1, 9]) (by kernel_rfl) (by simp) ?_
      refine AllReadyH.cons rfl (fun KK hK => ?_) (AllReadyH.cons rfl (fun KK hK => ?_) AllReadyH.nil)
      · as_aux_lemma =>
          simp only [List.getElem_toArray, List.getElem_cons_succ, List.getElem_cons_zero]
          rw [if_pos (by rfl)]
          refine wps1 60 (.tmp 31) _ rfl in_toN (.agg #[.slice a0 z0.length c0]) rfl (toNat_any _ hn0 r0) ?_
          rintro e w8 ⟨v70, rfl, r70, k8⟩
          refine ⟨_, rfl, ?_⟩
          replace r0 := r0.kept k8 (by omega)
          replace r1 := r1.kept k8 (by omega)
          replace kw := kw.trans k8
          replace x1_f0 := k8.loose0 (World.block_lt_of_cell? _ _ x1_0) x1_f0
          replace A0_0 := k8.cell0 A0_0
          replace A1_0 := k8.cell0 A1_0
          replace x1_0 := k8.cell0 x1_0
          replace K := hide ((unhide K).trans k8)
          have z9 := k8.size
          clear k8
          clear hHeld
          refine hK.out _ _ ?_ (fun hHeld => ?_)
          · exact ⟨A0_0, A1_0⟩
          clear hK KK
          try simp only [Act.put, List.getElem_toArray, List.getElem_cons_succ, List.getElem_cons_zero, List.setIfInBounds_toArray, List.set_cons_zero, List.set_cons_succ]
          refine wpAnyH_ready (rs := [3, 9]) (by kernel_rfl) (by simp) ?_
          refine AllReadyH.cons rfl (fun KK hK => ?_) (AllReadyH.cons rfl (fun KK hK => ?_) AllReadyH.nil)
          · simp only [List.getElem_toArray, List.getElem_cons_succ, List.getElem_cons_zero]
            rw [if_pos (by rfl)]
            refine wps1 60 (.tmp 33) _ rfl in_toN (.agg #[.slice a1 z1.length c1]) rfl (toNat_any _ hn1 r1) ?_
            rintro e w10 ⟨v71, rfl, r71, k10⟩
            refine ⟨_, rfl, ?_⟩
            replace r0 := r0.kept k10 (by omega)
            replace r1 := r1.kept k10 (by omega)
            replace r70 := r70.kept k10 (by omega)
            replace kw := kw.trans k10
            replace x1_f0 := k10.loose0 (World.block_lt_of_cell? _ _ x1_0) x1_f0
            replace A0_0 := k10.cell0 A0_0
            replace A1_0 := k10.cell0 A1_0
            replace x1_0 := k10.cell0 x1_0
            replace K := hide ((unhide K).trans k10)
            have z11 := k10.size
            clear k10
            clear hHeld
            refine hK.out _ _ ?_ (fun hHeld => ?_)
            · exact ⟨A0_0, A1_0⟩
            clear hK KK
            try simp only [Act.put, List.getElem_toArray, List.getElem_cons_succ, List.getElem_cons_zero, List.setIfInBounds_toArray, List.set_cons_zero, List.set_cons_succ]
            refine wpAnyH_ready (rs := [4, 9]) (by kernel_rfl) (by simp) ?_
            refine AllReadyH.cons rfl (fun KK hK => ?_) (AllReadyH.cons rfl (fun KK hK => ?_) AllReadyH.nil)
            · as_aux_lemma =>
                simp only [List.getElem_toArray, List.getElem_cons_succ, List.getElem_cons_zero]
                rw [if_pos (by rfl)]
                have mk := natDiv_spec w10 r70 r71
                simp only [unhide EL0, unhide EL1, unhide EB2] at mk
                refine wps2 59 (.tmp 32) (.tmp 34) _ rfl in_spec_NatDiv (.agg #[v70]) (.agg #[v71]) rfl rfl mk ?_
                rintro e w12 ⟨v90, v91, rfl, r90, r91, k12⟩
                refine ⟨_, rfl, ?_⟩
                clear mk
                replace r0 := r0.kept k12 (by omega)
                replace r1 := r1.kept k12 (by omega)
                replace r70 := r70.kept k12 (by omega)
                replace r71 := r71.kept k12 (by omega)
                replace kw := kw.trans k12
                replace x1_f0 := k12.loose0 (World.block_lt_of_cell? _ _ x1_0) x1_f0
                replace A0_0 := k12.cell0 A0_0
                replace A1_0 := k12.cell0 A1_0
                replace x1_0 := k12.cell0 x1_0
                replace K := hide ((unhide K).trans k12)
                have z13 := k12.size
                obtain ⟨a90, d90, hv⟩ := Row.form' r90
                subst hv
                obtain ⟨a91, d91, hv⟩ := Row.form' r91
                subst hv
                clear k12
                clear hHeld
                refine hK.out _ _ ?_ (fun hHeld => ?_)
                · exact ⟨A0_0, A1_0⟩
                clear hK KK
                try simp only [Act.put, List.getElem_toArray, List.getElem_cons_succ, List.getElem_cons_zero, List.setIfInBounds_toArray, List.set_cons_zero, List.set_cons_succ]
                refine wpAnyH_take (i := 5) (oi := _) (v := .tuple #[.agg #[.slice a90 L0.length d90], .agg #[.slice a91 L1.length d91], .bool B2]) rfl (by kernel_rfl) (by kernel_rfl) (by kernel_rfl) (fun _ _ _ h => h) (Or.inl ⟨by rfl, ?_⟩) hHeld ?_
                · intro wq hSw
                  try dsimp only at hSw
                  go_simp
                try simp only [Act.put, List.getElem_toArray, List.getElem_cons_succ, List.getElem_cons_zero, List.setIfInBounds_toArray, List.set_cons_zero, List.set_cons_succ]
                refine wpAnyH_take (i := 6) (oi := _) (v := .agg #[.slice a90 L0.length d90]) rfl (by kernel_rfl) (by kernel_rfl) (by kernel_rfl) (fun _ _ _ h => h) (Or.inl ⟨by rfl, ?_⟩) hHeld ?_
                · intro wq hSw
                  try dsimp only at hSw
                  go_simp
                try simp only [Act.put, List.getElem_toArray, List.getElem_cons_succ, List.getElem_cons_zero, List.setIfInBounds_toArray, List.set_cons_zero, List.set_cons_succ]
                refine wpAnyH_take (i := 7) (oi := _) (v := .agg #[.slice a91 L1.length d91]) rfl (by kernel_rfl) (by kernel_rfl) (by kernel_rfl) (fun _ _ _ h => h) (Or.inl ⟨by rfl, ?_⟩) hHeld ?_
                · intro wq hSw
                  try dsimp only at hSw
                  go_simp
                try simp only [Act.put, List.getElem_toArray, List.getElem_cons_succ, List.getElem_cons_zero, List.setIfInBounds_toArray, List.set_cons_zero, List.set_cons_succ]
                refine wpAnyH_take (i := 8) (oi := _) (v := .bool B2) rfl (by kernel_rfl) (by kernel_rfl) (by kernel_rfl) (fun _ _ _ h => h) (Or.inl ⟨by rfl, ?_⟩) hHeld ?_
                · intro wq hSw
                  try dsimp only at hSw
                  go_simp
                try simp only [Act.put, List.getElem_toArray, List.getElem_cons_succ, List.getElem_cons_zero, List.setIfInBounds_toArray, List.set_cons_zero, List.set_cons_succ]
                refine wpAnyH_ready (rs := [9]) (by kernel_rfl) (by simp) ?_
                refine AllReadyH.cons rfl (fun KK hK => ?_) AllReadyH.nil
                · simp only [List.getElem_toArray, List.getElem_cons_succ, List.getElem_cons_zero]
                  rw [if_pos (by rfl)]
                  go_simp
                  have kn := (Kept.refl 0 0 w12).alloc (.cells #[.slice none 0 0] 26)
                  replace r0 := r0.kept kn (by omega)
                  replace r1 := r1.kept kn (by omega)
                  replace r70 := r70.kept kn (by omega)
                  replace r71 := r71.kept kn (by omega)
                  replace r90 := r90.kept kn (by omega)
                  replace r91 := r91.kept kn (by omega)
                  replace kw := kw.trans kn
                  replace x1_f0 := kn.loose0 (World.block_lt_of_cell? _ _ x1_0) x1_f0
                  replace A0_0 := kn.cell0 A0_0
                  replace A1_0 := kn.cell0 A1_0
                  replace x1_0 := kn.cell0 x1_0
                  replace K := hide ((unhide K).trans kn)
                  have z15 := kn.size
                  clear kn
                  have szx0_ : w12.heap.size < (w12.alloc (.cells #[.slice none 0 0] 26)).heap.size := by simp
                  have x0_0 : (w12.alloc (.cells #[.slice none 0 0] 26)).cell? ⟨w12.heap.size, 0, none⟩ = some (.slice none 0 0) := new_cell2 _ _ _ _ _ _ rfl rfl
                  have x0_f0 : (w12.alloc (.cells #[.slice none 0 0] 26)).frozen? ⟨w12.heap.size, 0, none⟩ = false := new_loose2 _ _ _ _ _ rfl
                  clear hHeld
                  refine hK.out _ _ ?_ (fun hHeld => ?_)
                  · exact ⟨A0_0, A1_0⟩
                  clear hK KK
                  try simp only [Act.put, List.getElem_toArray, List.getElem_cons_succ, List.getElem_cons_zero, List.setIfInBounds_toArray, List.set_cons_zero, List.set_cons_succ]
                  generalize w12.alloc (.cells #[.slice none 0 0] 26) = w14 at *
                  refine wpAnyH_ready (rs := [11]) (by kernel_rfl) (by simp) ?_
                  refine AllReadyH.cons rfl (fun KK hK => ?_) AllReadyH.nil
                  simp only [List.getElem_toArray, List.getElem_cons_succ, List.getElem_cons_zero]
                  rw [if_pos (by rfl)]
                  go_simp
                  clear hHeld
                  refine hK.out _ _ ?_ (fun hHeld => ?_)
                  · exact ⟨(cell_aside _ (by have := unhide S0; dsimp only; omega) A0_0), (cell_aside _ (by have := unhide S0; dsimp only; omega) A1_0)⟩
                  clear hK KK
                  try simp only [Act.put, List.getElem_toArray, List.getElem_cons_succ, List.getElem_cons_zero, List.setIfInBounds_toArray, List.set_cons_zero, List.set_cons_succ]
                  refine wpAnyH_ready (rs := [12]) (by kernel_rfl) (by simp) ?_
                  refine AllReadyH.cons rfl (fun KK hK => ?_) AllReadyH.nil
                  simp only [List.getElem_toArray, List.getElem_cons_succ, List.getElem_cons_zero]
                  rw [if_pos (by rfl)]
                  go_simp
                  clear hHeld
                  refine hK.out _ _ ?_ (fun hHeld => ?_)
                  · exact ⟨(cell_aside _ (by have := unhide S0; dsimp only; omega) (cell_aside _ (by have := unhide S0; dsimp only; omega) A0_0)), (cell_aside _ (by have := unhide S0; dsimp only; omega) (cell_aside _ (by have := unhide S0; dsimp only; omega) A1_0))⟩
                  clear hK KK
                  try simp only [Act.put, List.getElem_toArray, List.getElem_cons_succ, List.getElem_cons_zero, List.setIfInBounds_toArray, List.set_cons_zero, List.set_cons_succ]
                  refine wpAnyH_take (i := 13) (oi := _) (v := .bool B2) rfl (by kernel_rfl) (by kernel_rfl) (by kernel_rfl) (fun _ _ _ h => h) (Or.inl ⟨by rfl, ?_⟩) hHeld ?_
                  · intro wq hSw
                    try dsimp only at hSw
                    go_simp
                  try simp only [Act.put, List.getElem_toArray, List.getElem_cons_succ, List.getElem_cons_zero, List.setIfInBounds_toArray, List.set_cons_zero, List.set_cons_succ]
                  refine wpAnyH_done (by kernel_rfl) ?_ _
                  clear hHeld
                  go_wp2_with fail
                  go_meet
                  exact ⟨_, _, _, _, rfl, rfl, rfl, law_setNN kw x0_0 x1_0 r90 r91 (by omega) (by omega) (by omega) (by omega) (by omega) (by omega) (by omega) (by omega) (by omega)⟩
            · as_aux_lemma =>
                simp only [List.getElem_toArray, List.getElem_cons_succ, List.getElem_cons_zero]
                rw [if_pos (by rfl)]
                go_simp
                have kn := (Kept.refl 0 0 w10).alloc (.cells #[.slice none 0 0] 26)
                replace r0 := r0.kept kn (by omega)
                replace r1 := r1.kept kn (by omega)
                replace r70 := r70.kept kn (by omega)
                replace r71 := r71.kept kn (by omega)
                replace kw := kw.trans kn
                replace x1_f0 := kn.loose0 (World.block_lt_of_cell? _ _ x1_0) x1_f0
                replace A0_0 := kn.cell0 A0_0
                replace A1_0 := kn.cell0 A1_0
                replace x1_0 := kn.cell0 x1_0
                replace K := hide ((unhide K).trans kn)
                have z13 := kn.size
                clear kn
                have szx0_ : w10.heap.size < (w10.alloc (.cells #[.slice none 0 0] 26)).heap.size := by simp
                have x0_0 : (w10.alloc (.cells #[.slice none 0 0] 26)).cell? ⟨w10.heap.size, 0, none⟩ = some (.slice none 0 0) := new_cell2 _ _ _ _ _ _ rfl rfl
                have x0_f0 : (w10.alloc (.cells #[.slice none 0 0] 26)).frozen? ⟨w10.heap.size, 0, none⟩ = false := new_loose2 _ _ _ _ _ rfl
                clear hHeld
                refine hK.out _ _ ?_ (fun hHeld => ?_)
                · exact ⟨A0_0, A1_0⟩
                clear hK KK
                try simp only [Act.put, List.getElem_toArray, List.getElem_cons_succ, List.getElem_cons_zero, List.setIfInBounds_toArray, List.set_cons_zero, List.set_cons_succ]
                generalize w10.alloc (.cells #[.slice none 0 0] 26) = w12 at *
                refine wpAnyH_ready (rs := [4]) (by kernel_rfl) (by simp) ?_
                refine AllReadyH.cons rfl (fun KK hK => ?_) AllReadyH.nil
                · simp only [List.getElem_toArray, List.getElem_cons_succ, List.getElem_cons_zero]
                  rw [if_pos (by rfl)]
                  have mk := natDiv_spec w12 r70 r71
                  simp only [unhide EL0, unhide EL1, unhide EB2] at mk
                  refine wps2 59 (.tmp 32) (.tmp 34) _ rfl in_spec_NatDiv (.agg #[v70]) (.agg #[v71]) rfl rfl mk ?_
                  rintro e w14 ⟨v90, v91, rfl, r90, r91, k14⟩
                  refine ⟨_, rfl, ?_⟩
                  clear mk
                  replace r0 := r0.kept k14 (by omega)
                  replace r1 := r1.kept k14 (by omega)
                  replace r70 := r70.kept k14 (by omega)
                  replace r71 := r71.kept k14 (by omega)
                  replace kw := kw.trans k14
                  replace x1_f0 := k14.loose0 (World.block_lt_of_cell? _ _ x1_0) x1_f0
                  replace x0_f0 := k14.loose0 (World.block_lt_of_cell? _ _ x0_0) x0_f0
                  replace A0_0 := k14.cell0 A0_0
                  replace A1_0 := k14.cell0 A1_0
                  replace x1_0 := k14.cell0 x1_0
                  replace x0_0 := k14.cell0 x0_0
                  replace K := hide ((unhide K).trans k14)
                  have z15 := k14.size
                  obtain ⟨a90, d90, hv⟩ := Row.form' r90
                  subst hv
                  obtain ⟨a91, d91, hv⟩ := Row.form' r91
                  subst hv
                  clear k14
                  clear hHeld
                  refine hK.out _ _ ?_ (fun hHeld => ?_)
                  · exact ⟨A0_0, A1_0⟩
                  clear hK KK
                  try simp only [Act.put, List.getElem_toArray, List.getElem_cons_succ, List.getElem_cons_zero, List.setIfInBounds_toArray, List.set_cons_zero, List.set_cons_succ]
                  refine wpAnyH_take (i := 5) (oi := _) (v := .tuple #[.agg #[.slice a90 L0.length d90], .agg #[.slice a91 L1.length d91], .bool B2]) rfl (by kernel_rfl) (by kernel_rfl) (by kernel_rfl) (fun _ _ _ h => h) (Or.inl ⟨by rfl, ?_⟩) hHeld ?_
                  · intro wq hSw
                    try dsimp only at hSw
                    go_simp
                  try simp only [Act.put, List.getElem_toArray, List.getElem_cons_succ, List.getElem_cons_zero, List.setIfInBounds_toArray, List.set_cons_zero, List.set_cons_succ]
                  refine wpAnyH_take (i := 6) (oi := _) (v := .agg #[.slice a90 L0.length d90]) rfl (by kernel_rfl) (by kernel_rfl) (by kernel_rfl) (fun _ _ _ h => h) (Or.inl ⟨by rfl, ?_⟩) hHeld ?_
                  · intro wq hSw
                    try dsimp only at hSw
                    go_simp
                  try simp only [Act.put, List.getElem_toArray, List.getElem_cons_succ, List.getElem_cons_zero, List.setIfInBounds_toArray, List.set_cons_zero, List.set_cons_succ]
                  refine wpAnyH_take (i := 7) (oi := _) (v := .agg #[.slice a91 L1.length d91]) rfl (by kernel_rfl) (by kernel_rfl) (by kernel_rfl) (fun _ _ _ h => h) (Or.inl ⟨by rfl, ?_⟩) hHeld ?_
                  · intro wq hSw
                    try dsimp only at hSw
                    go_simp
                  try simp only [Act.put, List.getElem_toArray, List.getElem_cons_succ, List.getElem_cons_zero, List.setIfInBounds_toArray, List.set_cons_zero, List.set_cons_succ]
                  refine wpAnyH_take (i := 8) (oi := _) (v := .bool B2) rfl (by kernel_rfl) (by kernel_rfl) (by kernel_rfl) (fun _ _ _ h => h) (Or.inl ⟨by rfl, ?_⟩) hHeld ?_
                  · intro wq hSw
                    try dsimp only at hSw
                    go_simp
                  try simp only [Act.put, List.getElem_toArray, List.getElem_cons_succ, List.getElem_cons_zero, List.setIfInBounds_toArray, List.set_cons_zero, List.set_cons_succ]
                  refine wpAnyH_ready (rs := [11]) (by kernel_rfl) (by simp) ?_
                  refine AllReadyH.cons rfl (fun KK hK => ?_) AllReadyH.nil
                  simp only [List.getElem_toArray, List.getElem_cons_succ, List.getElem_cons_zero]
                  rw [if_pos (by rfl)]
                  go_simp
                  clear hHeld
                  refine hK.out _ _ ?_ (fun hHeld => ?_)
                  · exact ⟨(cell_aside _ (by have := unhide S0; dsimp only; omega) A0_0), (cell_aside _ (by have := unhide S0; dsimp only; omega) A1_0)⟩
                  clear hK KK
                  try simp only [Act.put, List.getElem_toArray, List.getElem_cons_succ, List.getElem_cons_zero, List.setIfInBounds_toArray, List.set_cons_zero, List.set_cons_succ]
                  refine wpAnyH_ready (rs := [12]) (by kernel_rfl) (by simp) ?_
                  refine AllReadyH.cons rfl (fun KK hK => ?_) AllReadyH.nil
                  simp only [List.getElem_toArray, List.getElem_cons_succ, List.getElem_cons_zero]
                  rw [if_pos (by rfl)]
                  go_simp
                  clear hHeld
                  refine hK.out _ _ ?_ (fun hHeld => ?_)
                  · exact ⟨(cell_aside _ (by have := unhide S0; dsimp only; omega) (cell_aside _ (by have := unhide S0; dsimp only; omega) A0_0)), (cell_aside _ (by have := unhide S0; dsimp only; omega) (cell_aside _ (by have := unhide S0; dsimp only; omega) A1_0))⟩
                  clear hK KK
                  try simp only [Act.put, List.getElem_toArray, List.getElem_cons_succ, List.getElem_cons_zero, List.setIfInBounds_toArray, List.set_cons_zero, List.set_cons_succ]
                  refine wpAnyH_take (i := 13) (oi := _) (v := .bool B2) rfl (by kernel_rfl) (by kernel_rfl) (by kernel_rfl) (fun _ _ _ h => h) (Or.inl ⟨by rfl, ?_⟩) hHeld ?_
                  · intro wq hSw
                    try dsimp only at hSw
                    go_simp
                  try simp only [Act.put, List.getElem_toArray, List.getElem_cons_succ, List.getElem_cons_zero, List.setIfInBounds_toArray, List.set_cons_zero, List.set_cons_succ]
                  refine wpAnyH_done (by kernel_rfl) ?_ _
                  clear hHeld
                  go_wp2_with fail
                  go_meet
                  exact ⟨_, _, _, _, rfl, rfl, rfl, law_setNN kw x0_0 x1_0 r90 r91 (by omega) (by omega) (by omega) (by omega) (by omega) (by omega) (by omega) (by omega) (by omega)⟩
          · simp only [List.getElem_toArray, List.getElem_cons_succ, List.getElem_cons_zero]
            rw [if_pos (by rfl)]
            go_simp
            have kn := (Kept.refl 0 0 w8).alloc (.cells #[.slice none 0 0] 26)
            replace r0 := r0.kept kn (by omega)
            replace r1 := r1.kept kn (by omega)
            replace r70 := r70.kept kn (by omega)
            replace kw := kw.trans kn
            replace x1_f0 := kn.loose0 (World.block_lt_of_cell? _ _ x1_0) x1_f0
            replace A0_0 := kn.cell0 A0_0
            replace A1_0 := kn.cell0 A1_0
            replace x1_0 := kn.cell0 x1_0
            replace K := hide ((unhide K).trans kn)
            have z11 := kn.size
            clear kn
            have szx0_ : w8.heap.size < (w8.alloc (.cells #[.slice none 0 0] 26)).heap.size := by simp
            have x0_0 : (w8.alloc (.cells #[.slice none 0 0] 26)).cell? ⟨w8.heap.size, 0, none⟩ = some (.slice none 0 0) := new_cell2 _ _ _ _ _ _ rfl rfl
            have x0_f0 : (w8.alloc (.cells #[.slice none 0 0] 26)).frozen? ⟨w8.heap.size, 0, none⟩ = false := new_loose2 _ _ _ _ _ rfl
            clear hHeld
            refine hK.out _ _ ?_ (fun hHeld => ?_)
            · exact ⟨A0_0, A1_0⟩
            clear hK KK
            try simp only [Act.put, List.getElem_toArray, List.getElem_cons_succ, List.getElem_cons_zero, List.setIfInBounds_toArray, List.set_cons_zero, List.set_cons_succ]
            generalize w8.alloc (.cells #[.slice none 0 0] 26) = w10 at *
            refine wpAnyH_ready (rs := [3]) (by kernel_rfl) (by simp) ?_
            refine AllReadyH.cons rfl (fun KK hK => ?_) AllReadyH.nil
            · as_aux_lemma =>
                simp only [List.getElem_toArray, List.getElem_cons_succ, List.getElem_cons_zero]
                rw [if_pos (by rfl)]
                refine wps1 60 (.tmp 33) _ rfl in_toN (.agg #[.slice a1 z1.length c1]) rfl (toNat_any _ hn1 r1) ?_
                rintro e w12 ⟨v71, rfl, r71, k12⟩
                refine ⟨_, rfl, ?_⟩
                replace r0 := r0.kept k12 (by omega)
                replace r1 := r1.kept k12 (by omega)
                replace r70 := r70.kept k12 (by omega)
                replace kw := kw.trans k12
                replace x1_f0 := k12.loose0 (World.block_lt_of_cell? _ _ x1_0) x1_f0
                replace x0_f0 := k12.loose0 (World.block_lt_of_cell? _ _ x0_0) x0_f0
                replace A0_0 := k12.cell0 A0_0
                replace A1_0 := k12.cell0 A1_0
                replace x1_0 := k12.cell0 x1_0
                replace x0_0 := k12.cell0 x0_0
                replace K := hide ((unhide K).trans k12)
                have z13 := k12.size
                clear k12
                clear hHeld
                refine hK.out _ _ ?_ (fun hHeld => ?_)
                · exact ⟨A0_0, A1_0⟩
                clear hK KK
                try simp only [Act.put, List.getElem_toArray, List.getElem_cons_succ, List.getElem_cons_zero, List.setIfInBounds_toArray, List.set_cons_zero, List.set_cons_succ]
                refine wpAnyH_ready (rs := [4]) (by kernel_rfl) (by simp) ?_
                refine AllReadyH.cons rfl (fun KK hK => ?_) AllReadyH.nil
                · simp only [List.getElem_toArray, List.getElem_cons_succ, List.getElem_cons_zero]
                  rw [if_pos (by rfl)]
                  have mk := natDiv_spec w12 r70 r71
                  simp only [unhide EL0, unhide EL1, unhide EB2] at mk
                  refine wps2 59 (.tmp 32) (.tmp 34) _ rfl in_spec_NatDiv (.agg #[v70]) (.agg #[v71]) rfl rfl mk ?_
                  rintro e w14 ⟨v90, v91, rfl, r90, r91, k14⟩
                  refine ⟨_, rfl, ?_⟩
                  clear mk
                  replace r0 := r0.kept k14 (by omega)
                  replace r1 := r1.kept k14 (by omega)
                  replace r70 := r70.kept k14 (by omega)
                  replace r71 := r71.kept k14 (by omega)
                  replace kw := kw.trans k14
                  replace x1_f0 := k14.loose0 (World.block_lt_of_cell? _ _ x1_0) x1_f0
                  replace x0_f0 := k14.loose0 (World.block_lt_of_cell? _ _ x0_0) x0_f0
                  replace A0_0 := k14.cell0 A0_0
                  replace A1_0 := k14.cell0 A1_0
                  replace x1_0 := k14.cell0 x1_0
                  replace x0_0 := k14.cell0 x0_0
                  replace K := hide ((unhide K).trans k14)
                  have z15 := k14.size
                  obtain ⟨a90, d90, hv⟩ := Row.form' r90
                  subst hv
                  obtain ⟨a91, d91, hv⟩ := Row.form' r91
                  subst hv
                  clear k14
                  clear hHeld
                  refine hK.out _ _ ?_ (fun hHeld => ?_)
                  · exact ⟨A0_0, A1_0⟩
                  clear hK KK
                  try simp only [Act.put, List.getElem_toArray, List.getElem_cons_succ, List.getElem_cons_zero, List.setIfInBounds_toArray, List.set_cons_zero, List.set_cons_succ]
                  refine wpAnyH_take (i := 5) (oi := _) (v := .tuple #[.agg #[.slice a90 L0.length d90], .agg #[.slice a91 L1.length d91], .bool B2]) rfl (by kernel_rfl) (by kernel_rfl) (by kernel_rfl) (fun _ _ _ h => h) (Or.inl ⟨by rfl, ?_⟩) hHeld ?_
                  · intro wq hSw
                    try dsimp only at hSw
                    go_simp
                  try simp only [Act.put, List.getElem_toArray, List.getElem_cons_succ, List.getElem_cons_zero, List.setIfInBounds_toArray, List.set_cons_zero, List.set_cons_succ]
                  refine wpAnyH_take (i := 6) (oi := _) (v := .agg #[.slice a90 L0.length d90]) rfl (by kernel_rfl) (by kernel_rfl) (by kernel_rfl) (fun _ _ _ h => h) (Or.inl ⟨by rfl, ?_⟩) hHeld ?_
                  · intro wq hSw
                    try dsimp only at hSw
                    go_simp
                  try simp only [Act.put, List.getElem_toArray, List.getElem_cons_succ, List.getElem_cons_zero, List.setIfInBounds_toArray, List.set_cons_zero, List.set_cons_succ]
                  refine wpAnyH_take (i := 7) (oi := _) (v := .agg #[.slice a91 L1.length d91]) rfl (by kernel_rfl) (by kernel_rfl) (by kernel_rfl) (fun _ _ _ h => h) (Or.inl ⟨by rfl, ?_⟩) hHeld ?_
                  · intro wq hSw
                    try dsimp only at hSw
                    go_simp
                  try simp only [Act.put, List.getElem_toArray, List.getElem_cons_succ, List.getElem_cons_zero, List.setIfInBounds_toArray, List.set_cons_zero, List.set_cons_succ]
                  refine wpAnyH_take (i := 8) (oi := _) (v := .bool B2) rfl (by kernel_rfl) (by kernel_rfl) (by kernel_rfl) (fun _ _ _ h => h) (Or.inl ⟨by rfl, ?_⟩) hHeld ?_
                  · intro wq hSw
                    try dsimp only at hSw
                    go_simp
                  try simp only [Act.put, List.getElem_toArray, List.getElem_cons_succ, List.getElem_cons_zero, List.setIfInBounds_toArray, List.set_cons_zero, List.set_cons_succ]
                  refine wpAnyH_ready (rs := [11]) (by kernel_rfl) (by simp) ?_
                  refine AllReadyH.cons rfl (fun KK hK => ?_) AllReadyH.nil
                  simp only [List.getElem_toArray, List.getElem_cons_succ, List.getElem_cons_zero]
                  rw [if_pos (by rfl)]
                  go_simp
                  clear hHeld
                  refine hK.out _ _ ?_ (fun hHeld => ?_)
                  · exact ⟨(cell_aside _ (by have := unhide S0; dsimp only; omega) A0_0), (cell_aside _ (by have := unhide S0; dsimp only; omega) A1_0)⟩
                  clear hK KK
                  try simp only [Act.put, List.getElem_toArray, List.getElem_cons_succ, List.getElem_cons_zero, List.setIfInBounds_toArray, List.set_cons_zero, List.set_cons_succ]
                  refine wpAnyH_ready (rs := [12]) (by kernel_rfl) (by simp) ?_
                  refine AllReadyH.cons rfl (fun KK hK => ?_) AllReadyH.nil
                  simp only [List.getElem_toArray, List.getElem_cons_succ, List.getElem_cons_zero]
                  rw [if_pos (by rfl)]
                  go_simp
                  clear hHeld
                  refine hK.out _ _ ?_ (fun hHeld => ?_)
                  · exact ⟨(cell_aside _ (by have := unhide S0; dsimp only; omega) (cell_aside _ (by have := unhide S0; dsimp only; omega) A0_0)), (cell_aside _ (by have := unhide S0; dsimp only; omega) (cell_aside _ (by have := unhide S0; dsimp only; omega) A1_0))⟩
                  clear hK KK
                  try simp only [Act.put, List.getElem_toArray, List.getElem_cons_succ, List.getElem_cons_zero, List.setIfInBounds_toArray, List.set_cons_zero, List.set_cons_succ]
                  refine wpAnyH_take (i := 13) (oi := _) (v := .bool B2) rfl (by kernel_rfl) (by kernel_rfl) (by kernel_rfl) (fun _ _ _ h => h) (Or.inl ⟨by rfl, ?_⟩) hHeld ?_
                  · intro wq hSw
                    try dsimp only at hSw
                    go_simp
                  try simp only [Act.put, List.getElem_toArray, List.getElem_cons_succ, List.getElem_cons_zero, List.setIfInBounds_toArray, List.set_cons_zero, List.set_cons_succ]
                  refine wpAnyH_done (by kernel_rfl) ?_ _
                  clear hHeld
                  go_wp2_with fail
                  go_meet
                  exact ⟨_, _, _, _, rfl, rfl, rfl, law_setNN kw x0_0 x1_0 r90 r91 (by omega) (by omega) (by omega) (by omega) (by omega) (by omega) (by omega) (by omega) (by omega)⟩
      · as_aux_lemma =>
          simp only [List.getElem_toArray, List.getElem_cons_succ, List.getElem_cons_zero]
          rw [if_pos (by rfl)]
          go_simp
          have kn := (Kept.refl 0 0 w6).alloc (.cells #[.slice none 0 0] 26)
          replace r0 := r0.kept kn (by omega)
          replace r1 := r1.kept kn (by omega)
          replace kw := kw.trans kn
          replace x1_f0 := kn.loose0 (World.block_lt_of_cell? _ _ x1_0) x1_f0
          replace A0_0 := kn.cell0 A0_0
          replace A1_0 := kn.cell0 A1_0
          replace x1_0 := kn.cell0 x1_0
          replace K := hide ((unhide K).trans kn)
          have z9 := kn.size
          clear kn
          have szx0_ : w6.heap.size < (w6.alloc (.cells #[.slice none 0 0] 26)).heap.size := by simp
          have x0_0 : (w6.alloc (.cells #[.slice none 0 0] 26)).cell? ⟨w6.heap.size, 0, none⟩ = some (.slice none 0 0) := new_cell2 _ _ _ _ _ _ rfl rfl
          have x0_f0 : (w6.alloc (.cells #[.slice none 0 0] 26)).frozen? ⟨w6.heap.size, 0, none⟩ = false := new_loose2 _ _ _ _ _ rfl
          clear hHeld
          refine hK.out _ _ ?_ (fun hHeld => ?_)
          · exact ⟨A0_0, A1_0⟩
          clear hK KK
          try simp only [Act.put, List.getElem_toArray, List.getElem_cons_succ, List.getElem_cons_zero, List.setIfInBounds_toArray, List.set_cons_zero, List.set_cons_succ]
          generalize w6.alloc (.cells #[.slice none 0 0] 26) = w8 at *
          refine wpAnyH_ready (rs := [1]) (by kernel_rfl) (by simp) ?_
          refine AllReadyH.cons rfl (fun KK hK => ?_) AllReadyH.nil
          · simp only [List.getElem_toArray, List.getElem_cons_succ, List.getElem_cons_zero]
            rw [if_pos (by rfl)]
            refine wps1 60 (.tmp 31) _ rfl in_toN (.agg #[.slice a0 z0.length c0]) rfl (toNat_any _ hn0 r0) ?_
            rintro e w10 ⟨v70, rfl, r70, k10⟩
            refine ⟨_, rfl, ?_⟩
            replace r0 := r0.kept k10 (by omega)
            replace r1 := r1.kept k10 (by omega)
            replace kw := kw.trans k10
            replace x1_f0 := k10.loose0 (World.block_lt_of_cell? _ _ x1_0) x1_f0
            replace x0_f0 := k10.loose0 (World.block_lt_of_cell? _ _ x0_0) x0_f0
            replace A0_0 := k10.cell0 A0_0
            replace A1_0 := k10.cell0 A1_0
            replace x1_0 := k10.cell0 x1_0
            replace x0_0 := k10.cell0 x0_0
            replace K := hide ((unhide K).trans k10)
            have z11 := k10.size
            clear k10
            clear hHeld
            refine hK.out _ _ ?_ (fun hHeld => ?_)
            · exact ⟨A0_0, A1_0⟩
            clear hK KK
            try simp only [Act.put, List.getElem_toArray, List.getElem_cons_succ, List.getElem_cons_zero, List.setIfInBounds_toArray, List.set_cons_zero, List.set_cons_succ]
            refine wpAnyH_ready (rs := [3]) (by kernel_rfl) (by simp) ?_
            refine AllReadyH.cons rfl (fun KK hK => ?_) AllReadyH.nil
            · as_aux_lemma =>
                simp only [List.getElem_toArray, List.getElem_cons_succ, List.getElem_cons_zero]
                rw [if_pos (by rfl)]
                refine wps1 60 (.tmp 33) _ rfl in_toN (.agg #[.slice a1 z1.length c1]) rfl (toNat_any _ hn1 r1) ?_
                rintro e w12 ⟨v71, rfl, r71, k12⟩
                refine ⟨_, rfl, ?_⟩
                replace r0 := r0.kept k12 (by omega)
                replace r1 := r1.kept k12 (by omega)
                replace r70 := r70.kept k12 (by omega)
                replace kw := kw.trans k12
                replace x1_f0 := k12.loose0 (World.block_lt_of_cell? _ _ x1_0) x1_f0
                replace x0_f0 := k12.loose0 (World.block_lt_of_cell? _ _ x0_0) x0_f0
                replace A0_0 := k12.cell0 A0_0
                replace A1_0 := k12.cell0 A1_0
                replace x1_0 := k12.cell0 x1_0
                replace x0_0 := k12.cell0 x0_0
                replace K := hide ((unhide K).trans k12)
                have z13 := k12.size
                clear k12
                clear hHeld
                refine hK.out _ _ ?_ (fun hHeld => ?_)
                · exact ⟨A0_0, A1_0⟩
                clear hK KK
                try simp only [Act.put, List.getElem_toArray, List.getElem_cons_succ, List.getElem_cons_zero, List.setIfInBounds_toArray, List.set_cons_zero, List.set_cons_succ]
                refine wpAnyH_ready (rs := [4]) (by kernel_rfl) (by simp) ?_
                refine AllReadyH.cons rfl (fun KK hK => ?_) AllReadyH.nil
                · simp only [List.getElem_toArray, List.getElem_cons_succ, List.getElem_cons_zero]
                  rw [if_pos (by rfl)]
                  have mk := natDiv_spec w12 r70 r71
                  simp only [unhide EL0, unhide EL1, unhide EB2] at mk
                  refine wps2 59 (.tmp 32) (.tmp 34) _ rfl in_spec_NatDiv (.agg #[v70]) (.agg #[v71]) rfl rfl mk ?_
                  rintro e w14 ⟨v90, v91, rfl, r90, r91, k14⟩
                  refine ⟨_, rfl, ?_⟩
                  clear mk
                  replace r0 := r0.kept k14 (by omega)
                  replace r1 := r1.kept k14 (by omega)
                  replace r70 := r70.kept k14 (by omega)
                  replace r71 := r71.kept k14 (by omega)
                  replace kw := kw.trans k14
                  replace x1_f0 := k14.loose0 (World.block_lt_of_cell? _ _ x1_0) x1_f0
                  replace x0_f0 := k14.loose0 (World.block_lt_of_cell? _ _ x0_0) x0_f0
                  replace A0_0 := k14.cell0 A0_0
                  replace A1_0 := k14.cell0 A1_0
                  replace x1_0 := k14.cell0 x1_0
                  replace x0_0 := k14.cell0 x0_0
                  replace K := hide ((unhide K).trans k14)
                  have z15 := k14.size
                  obtain ⟨a90, d90, hv⟩ := Row.form' r90
                  subst hv
                  obtain ⟨a91, d91, hv⟩ := Row.form' r91
                  subst hv
                  clear k14
                  clear hHeld
                  refine hK.out _ _ ?_ (fun hHeld => ?_)
                  · exact ⟨A0_0, A1_0⟩
                  clear hK KK
                  try simp only [Act.put, List.getElem_toArray, List.getElem_cons_succ, List.getElem_cons_zero, List.setIfInBounds_toArray, List.set_cons_zero, List.set_cons_succ]
                  refine wpAnyH_take (i := 5) (oi := _) (v := .tuple #[.agg #[.slice a90 L0.length d90], .agg #[.slice a91 L1.length d91], .bool B2]) rfl (by kernel_rfl) (by kernel_rfl) (by kernel_rfl) (fun _ _ _ h => h) (Or.inl ⟨by rfl, ?_⟩) hHeld ?_
                  · intro wq hSw
                    try dsimp only at hSw
                    go_simp
                  try simp only [Act.put, List.getElem_toArray, List.getElem_cons_succ, List.getElem_cons_zero, List.setIfInBounds_toArray, List.set_cons_zero, List.set_cons_succ]
                  refine wpAnyH_take (i := 6) (oi := _) (v := .agg #[.slice a90 L0.length d90]) rfl (by kernel_rfl) (by kernel_rfl) (by kernel_rfl) (fun _ _ _ h => h) (Or.inl ⟨by rfl, ?_⟩) hHeld ?_
                  · intro wq hSw
                    try dsimp only at hSw
                    go_simp
                  try simp only [Act.put, List.getElem_toArray, List.getElem_cons_succ, List.getElem_cons_zero, List.setIfInBounds_toArray, List.set_cons_zero, List.set_cons_succ]
                  refine wpAnyH_take (i := 7) (oi := _) (v := .agg #[.slice a91 L1.length d91]) rfl (by kernel_rfl) (by kernel_rfl) (by kernel_rfl) (fun _ _ _ h => h) (Or.inl ⟨by rfl, ?_⟩) hHeld ?_
                  · intro wq hSw
                    try dsimp only at hSw
                    go_simp
                  try simp only [Act.put, List.getElem_toArray, List.getElem_cons_succ, List.getElem_cons_zero, List.setIfInBounds_toArray, List.set_cons_zero, List.set_cons_succ]
                  refine wpAnyH_take (i := 8) (oi := _) (v := .bool B2) rfl (by kernel_rfl) (by kernel_rfl) (by kernel_rfl) (fun _ _ _ h => h) (Or.inl ⟨by rfl, ?_⟩) hHeld ?_
                  · intro wq hSw
                    try dsimp only at hSw
                    go_simp
                  try simp only [Act.put, List.getElem_toArray, List.getElem_cons_succ, List.getElem_cons_zero, List.setIfInBounds_toArray, List.set_cons_zero, List.set_cons_succ]
                  refine wpAnyH_ready (rs := [11]) (by kernel_rfl) (by simp) ?_
                  refine AllReadyH.cons rfl (fun KK hK => ?_) AllReadyH.nil
                  simp only [List.getElem_toArray, List.getElem_cons_succ, List.getElem_cons_zero]
                  rw [if_pos (by rfl)]
                  go_simp
                  clear hHeld
                  refine hK.out _ _ ?_ (fun hHeld => ?_)
                  · exact ⟨(cell_aside _ (by have := unhide S0; dsimp only; omega) A0_0), (cell_aside _ (by have := unhide S0; dsimp only; omega) A1_0)⟩
                  clear hK KK
                  try simp only [Act.put, List.getElem_toArray, List.getElem_cons_succ, List.getElem_cons_zero, List.setIfInBounds_toArray, List.set_cons_zero, List.set_cons_succ]
                  refine wpAnyH_ready (rs := [12]) (by kernel_rfl) (by simp) ?_
                  refine AllReadyH.cons rfl (fun KK hK => ?_) AllReadyH.nil
                  simp only [List.getElem_toArray, List.getElem_cons_succ, List.getElem_cons_zero]
                  rw [if_pos (by rfl)]
                  go_simp
                  clear hHeld
                  refine hK.out _ _ ?_ (fun hHeld => ?_)
                  · exact ⟨(cell_aside _ (by have := unhide S0; dsimp only; omega) (cell_aside _ (by have := unhide S0; dsimp only; omega) A0_0)), (cell_aside _ (by have := unhide S0; dsimp only; omega) (cell_aside _ (by have := unhide S0; dsimp only; omega) A1_0))⟩
                  clear hK KK
                  try simp only [Act.put, List.getElem_toArray, List.getElem_cons_succ, List.getElem_cons_zero, List.setIfInBounds_toArray, List.set_cons_zero, List.set_cons_succ]
                  refine wpAnyH_take (i := 13) (oi := _) (v := .bool B2) rfl (by kernel_rfl) (by kernel_rfl) (by kernel_rfl) (fun _ _ _ h => h) (Or.inl ⟨by rfl, ?_⟩) hHeld ?_
                  · intro wq hSw
                    try dsimp only at hSw
                    go_simp
                  try simp only [Act.put, List.getElem_toArray, List.getElem_cons_succ, List.getElem_cons_zero, List.setIfInBounds_toArray, List.set_cons_zero, List.set_cons_succ]
                  refine wpAnyH_done (by kernel_rfl) ?_ _
                  clear hHeld
                  go_wp2_with fail
                  go_meet
                  exact ⟨_, _, _, _, rfl, rfl, rfl, law_setNN kw x0_0 x1_0 r90 r91 (by omega) (by omega) (by omega) (by omega) (by omega) (by omega) (by omega) (by omega) (by omega)⟩
  case rest =>
    obtain ⟨Xw0, vw0, Xw1, vw1, rfl, rfl, rfl, cw0_0, rw0, hXw0, hYw0, cw1_0, rw1, hXw1, hYw1, kk⟩ := hcut
    replace r0 := r0.kept kk (by omega)
    replace r1 := r1.kept kk (by omega)
    replace A0_0 := kk.cell0 A0_0
    replace A1_0 := kk.cell0 A1_0
    replace K := hide ((unhide K).trans kk)
    have z5 := kk.size
    clear kk
    obtain ⟨aw0, dw0, hv⟩ := Row.form' rw0
    subst hv
    obtain ⟨aw1, dw1, hv⟩ := Row.form' rw1
    subst hv
    generalize hwc : wc = we6 at *
    clear hwc
    go_wp2_with fail
    refine (toNat_any _ hn0 r0).mono ?_
    rintro e w7 ⟨vx0, rfl, rx0, k7⟩
    replace r0 := r0.kept k7 (by omega)
    replace r1 := r1.kept k7 (by omega)
    replace rw0 := rw0.kept k7 (by omega)
    replace rw1 := rw1.kept k7 (by omega)
    replace A0_0 := k7.cell0 A0_0
    replace A1_0 := k7.cell0 A1_0
    replace cw0_0 := k7.cell0 cw0_0
    replace cw1_0 := k7.cell0 cw1_0
    replace K := hide ((unhide K).trans k7)
    have z8 := k7.size
    clear k7
    obtain ⟨ax0, dx0, hv⟩ := Row.form' rx0
    subst hv
    have kn := (Kept.refl 0 0 w7).alloc (.cells #[.slice ax0 z0.length dx0] 26)
    have cx0_0 : (w7.alloc (.cells #[.slice ax0 z0.length dx0] 26)).cell? ⟨w7.heap.size, 0, none⟩ = some (.slice ax0 z0.length dx0) := new_cell2 _ _ _ _ _ _ rfl rfl
    have t9 : w7.heap.size + 1 ≤ (w7.alloc (.cells #[.slice ax0 z0.length dx0] 26)).heap.size := by simp
    replace r0 := r0.kept kn (by omega)
    replace r1 := r1.kept kn (by omega)
    replace rw0 := rw0.kept kn (by omega)
    replace rw1 := rw1.kept kn (by omega)
    replace rx0 := rx0.kept kn (by omega)
    replace A0_0 := kn.cell0 A0_0
    replace A1_0 := kn.cell0 A1_0
    replace cw0_0 := kn.cell0 cw0_0
    replace cw1_0 := kn.cell0 cw1_0
    replace K := hide ((unhide K).trans kn)
    have z10 := kn.size
    clear kn
    go_wp2_with fail
    generalize w7.alloc (.cells #[.slice ax0 z0.length dx0] 26) = wm9 at *
    refine (toNat_any _ hn1 r1).mono ?_
    rintro e w11 ⟨vx1, rfl, rx1, k11⟩
    replace r0 := r0.kept k11 (by omega)
    replace r1 := r1.kept k11 (by omega)
    replace rw0 := rw0.kept k11 (by omega)
    replace rw1 := rw1.kept k11 (by omega)
    replace rx0 := rx0.kept k11 (by omega)
    replace A0_0 := k11.cell0 A0_0
    replace A1_0 := k11.cell0 A1_0
    replace cw0_0 := k11.cell0 cw0_0
    replace cw1_0 := k11.cell0 cw1_0
    replace cx0_0 := k11.cell0 cx0_0
    replace K := hide ((unhide K).trans k11)
    have z12 := k11.size
    clear k11
    obtain ⟨ax1, dx1, hv⟩ := Row.form' rx1
    subst hv
    have kn := (Kept.refl 0 0 w11).alloc (.cells #[.slice ax1 z1.length dx1] 26)
    have cx1_0 : (w11.alloc (.cells #[.slice ax1 z1.length dx1] 26)).cell? ⟨w11.heap.size, 0, none⟩ = some (.slice ax1 z1.length dx1) := new_cell2 _ _ _ _ _ _ rfl rfl
    have t13 : w11.heap.size + 1 ≤ (w11.alloc (.cells #[.slice ax1 z1.length dx1] 26)).heap.size := by simp
    replace r0 := r0.kept kn (by omega)
    replace r1 := r1.kept kn (by omega)
    replace rw0 := rw0.kept kn (by omega)
    replace rw1 := rw1.kept kn (by omega)
    replace rx0 := rx0.kept kn (by omega)
    replace rx1 := rx1.kept kn (by omega)
    replace A0_0 := kn.cell0 A0_0
    replace A1_0 := kn.cell0 A1_0
    replace cw0_0 := kn.cell0 cw0_0
    replace cw1_0 := kn.cell0 cw1_0
    replace cx0_0 := kn.cell0 cx0_0
    replace K := hide ((unhide K).trans kn)
    have z14 := kn.size
    clear kn
    go_wp2_with fail
    generalize w11.alloc (.cells #[.slice ax1 z1.length dx1] 26) = wm13 at *
    have mk := natDiv_impl wm13 rx0 rx1
    simp only [unhide EL0, unhide EL1, unhide EB2] at mk
    refine (mk).mono ?_
    rintro e w15 ⟨vg0, vg1, mmg, rfl, rg0, rg1, hmag, hmbg, k15⟩
    replace r0 := r0.kept k15 (by omega)
    replace r1 := r1.kept k15 (by omega)
    replace rw0 := rw0.kept k15 (by omega)
    replace rw1 := rw1.kept k15 (by omega)
    replace rx0 := rx0.kept k15 (by omega)
    replace rx1 := rx1.kept k15 (by omega)
    replace A0_0 := k15.cell0 A0_0
    replace A1_0 := k15.cell0 A1_0
    replace cw0_0 := k15.cell0 cw0_0
    replace cw1_0 := k15.cell0 cw1_0
    replace cx0_0 := k15.cell0 cx0_0
    replace cx1_0 := k15.cell0 cx1_0
    replace K := hide ((unhide K).trans k15)
    have z16 := k15.size
    clear k15
    clear mk
    obtain ⟨ag0, dg0, hv⟩ := Row.form' rg0
    subst hv
    obtain ⟨ag1, dg1, hv⟩ := Row.form' rg1
    subst hv
    have kn := (Kept.refl 0 0 w15).alloc (.cells #[.slice ag0 L0.length dg0] 26)
    have cg0_0 : (w15.alloc (.cells #[.slice ag0 L0.length dg0] 26)).cell? ⟨w15.heap.size, 0, none⟩ = some (.slice ag0 L0.length dg0) := new_cell2 _ _ _ _ _ _ (by simp) rfl
    have t17 : w15.heap.size + 1 ≤ (w15.alloc (.cells #[.slice ag0 L0.length dg0] 26)).heap.size := by simp
    replace r0 := r0.kept kn (by omega)
    replace r1 := r1.kept kn (by omega)
    replace rw0 := rw0.kept kn (by omega)
    replace rw1 := rw1.kept kn (by omega)
    replace rx0 := rx0.kept kn (by omega)
    replace rx1 := rx1.kept kn (by omega)
    replace rg0 := rg0.kept kn (by omega)
    replace rg1 := rg1.kept kn (by omega)
    replace A0_0 := kn.cell0 A0_0
    replace A1_0 := kn.cell0 A1_0
    replace cw0_0 := kn.cell0 cw0_0
    replace cw1_0 := kn.cell0 cw1_0
    replace cx0_0 := kn.cell0 cx0_0
    replace cx1_0 := kn.cell0 cx1_0
    replace K := hide ((unhide K).trans kn)
    have z18 := kn.size
    clear kn
    have kn := (Kept.refl 0 0 (w15.alloc (.cells #[.slice ag0 L0.length dg0] 26))).alloc (.cells #[.slice ag1 L1.length dg1] 26)
    have cg1_0 : ((w15.alloc (.cells #[.slice ag0 L0.length dg0] 26)).alloc (.cells #[.slice ag1 L1.length dg1] 26)).cell? ⟨w15.heap.size + 1, 0, none⟩ = some (.slice ag1 L1.length dg1) := new_cell2 _ _ _ _ _ _ (by simp) rfl
    have t19 : (w15.alloc (.cells #[.slice ag0 L0.length dg0] 26)).heap.size + 1 ≤ ((w15.alloc (.cells #[.slice ag0 L0.length dg0] 26)).alloc (.cells #[.slice ag1 L1.length dg1] 26)).heap.size := by simp
    replace r0 := r0.kept kn (by omega)
    replace r1 := r1.kept kn (by omega)
    replace rw0 := rw0.kept kn (by omega)
    replace rw1 := rw1.kept kn (by omega)
    replace rx0 := rx0.kept kn (by omega)
    replace rx1 := rx1.kept kn (by omega)
    replace rg0 := rg0.kept kn (by omega)
    replace rg1 := rg1.kept kn (by omega)
    replace A0_0 := kn.cell0 A0_0
    replace A1_0 := kn.cell0 A1_0
    replace cw0_0 := kn.cell0 cw0_0
    replace cw1_0 := kn.cell0 cw1_0
    replace cx0_0 := kn.cell0 cx0_0
    replace cx1_0 := kn.cell0 cx1_0
    replace cg0_0 := kn.cell0 cg0_0
    replace K := hide ((unhide K).trans kn)
    have z20 := kn.size
    clear kn
    go_wp2_with fail
    generalize ((w15.alloc (.cells #[.slice ag0 L0.length dg0] 26)).alloc (.cells #[.slice ag1 L1.length dg1] 26)) = wm21 at *
    refine (eqNat_same _ rg0 rw0).mono ?_
    rintro e w22 ⟨rfl, k22⟩
    replace r0 := r0.kept k22 (by omega)
    replace r1 := r1.kept k22 (by omega)
    replace rw0 := rw0.kept k22 (by omega)
    replace rw1 := rw1.kept k22 (by omega)
    replace rx0 := rx0.kept k22 (by omega)
    replace rx1 := rx1.kept k22 (by omega)
    replace rg0 := rg0.kept k22 (by omega)
    replace rg1 := rg1.kept k22 (by omega)
    replace A0_0 := k22.cell0 A0_0
    replace A1_0 := k22.cell0 A1_0
    replace cw0_0 := k22.cell0 cw0_0
    replace cw1_0 := k22.cell0 cw1_0
    replace cx0_0 := k22.cell0 cx0_0
    replace cx1_0 := k22.cell0 cx1_0
    replace cg0_0 := k22.cell0 cg0_0
    replace cg1_0 := k22.cell0 cg1_0
    replace K := hide ((unhide K).trans k22)
    have z23 := k22.size
    clear k22
    go_wp2_with fail
    refine (eqNat_same _ rg1 rw1).mono ?_
    rintro e w24 ⟨rfl, k24⟩
    replace r0 := r0.kept k24 (by omega)
    replace r1 := r1.kept k24 (by omega)
    replace rw0 := rw0.kept k24 (by omega)
    replace rw1 := rw1.kept k24 (by omega)
    replace rx0 := rx0.kept k24 (by omega)
    replace rx1 := rx1.kept k24 (by omega)
    replace rg0 := rg0.kept k24 (by omega)
    replace rg1 := rg1.kept k24 (by omega)
    replace A0_0 := k24.cell0 A0_0
    replace A1_0 := k24.cell0 A1_0
    replace cw0_0 := k24.cell0 cw0_0
    replace cw1_0 := k24.cell0 cw1_0
    replace cx0_0 := k24.cell0 cx0_0
    replace cx1_0 := k24.cell0 cx1_0
    replace cg0_0 := k24.cell0 cg0_0
    replace cg1_0 := k24.cell0 cg1_0
    replace K := hide ((unhide K).trans k24)
    have z25 := k24.size
    clear k24
    go_wp2_with fail
    have kd := (Kept.refl 0 0 w24).drew
    replace r0 := r0.kept kd (by omega)
    replace r1 := r1.kept kd (by omega)
    replace rw0 := rw0.kept kd (by omega)
    replace rw1 := rw1.kept kd (by omega)
    replace rx0 := rx0.kept kd (by omega)
    replace rx1 := rx1.kept kd (by omega)
    replace rg0 := rg0.kept kd (by omega)
    replace rg1 := rg1.kept kd (by omega)
    replace A0_0 := kd.cell0 A0_0
    replace A1_0 := kd.cell0 A1_0
    replace cw0_0 := kd.cell0 cw0_0
    replace cw1_0 := kd.cell0 cw1_0
    replace cx0_0 := kd.cell0 cx0_0
    replace cx1_0 := kd.cell0 cx1_0
    replace cg0_0 := kd.cell0 cg0_0
    replace cg1_0 := kd.cell0 cg1_0
    replace K := hide ((unhide K).trans kd)
    have z26 := kd.size
    clear kd
    refine wp_region_held_drew (S := (fun w' => w'.cell? ⟨w.heap.size, 0, none⟩ = some (.slice a0 z0.length c0) ∧ w'.cell? ⟨w7.heap.size, 0, none⟩ = some (.slice ax0 z0.length dx0))) (by kernel_rfl) ?_ (fun hHeld => ?_)
    · exact ⟨A0_0, cx0_0⟩
    refine wpAnyH_take (i := 0) (oi := _) (v := .agg #[.slice ax0 z0.length dx0]) rfl (by kernel_rfl) (by kernel_rfl) (by kernel_rfl) (fun _ _ _ h => h) (Or.inl ⟨by rfl, ?_⟩) hHeld ?_
    · intro wq hSw
      try dsimp only at hSw
      go_simp
    try simp only [Act.put, List.getElem_toArray, List.getElem_cons_succ, List.getElem_cons_zero, List.setIfInBounds_toArray, List.set_cons_zero, List.set_cons_succ]
    refine wpAnyH_take (i := 1) (oi := _) (v := .agg #[.slice a0 z0.length c0]) rfl (by kernel_rfl) (by kernel_rfl) (by kernel_rfl) (fun _ _ _ h => h) (Or.inl ⟨by rfl, ?_⟩) hHeld ?_
    · intro wq hSw
      try dsimp only at hSw
      go_simp
    try simp only [Act.put, List.getElem_toArray, List.getElem_cons_succ, List.getElem_cons_zero, List.setIfInBounds_toArray, List.set_cons_zero, List.set_cons_succ]
    refine wpAnyH_ready (rs := [2]) (by kernel_rfl) (by simp) ?_
    refine AllReadyH.cons rfl (fun KK hK => ?_) AllReadyH.nil
    simp only [List.getElem_toArray, List.getElem_cons_succ, List.getElem_cons_zero]
    rw [if_pos (by rfl)]
    refine wps1 60 (.tmp 66) _ rfl in_toN (.agg #[.slice a0 z0.length c0]) rfl (toNat_any _ hn0 r0) ?_
    rintro e w27 ⟨v7, rfl, r7, k27⟩
    refine ⟨_, rfl, ?_⟩
    replace r0 := r0.kept k27 (by omega)
    replace r1 := r1.kept k27 (by omega)
    replace rw0 := rw0.kept k27 (by omega)
    replace rw1 := rw1.kept k27 (by omega)
    replace rx0 := rx0.kept k27 (by omega)
    replace rx1 := rx1.kept k27 (by omega)
    replace rg0 := rg0.kept k27 (by omega)
    replace rg1 := rg1.kept k27 (by omega)
    replace A0_0 := k27.cell0 A0_0
    replace A1_0 := k27.cell0 A1_0
    replace cw0_0 := k27.cell0 cw0_0
    replace cw1_0 := k27.cell0 cw1_0
    replace cx0_0 := k27.cell0 cx0_0
    replace cx1_0 := k27.cell0 cx1_0
    replace cg0_0 := k27.cell0 cg0_0
    replace cg1_0 := k27.cell0 cg1_0
    replace K := hide ((unhide K).trans k27)
    have z28 := k27.size
    clear k27
    clear hHeld
    refine hK.out _ _ ?_ (fun hHeld => ?_)
    · exact ⟨A0_0, cx0_0⟩
    clear hK KK
    try simp only [Act.put, List.getElem_toArray, List.getElem_cons_succ, List.getElem_cons_zero, List.setIfInBounds_toArray, List.set_cons_zero, List.set_cons_succ]
    refine wpAnyH_ready (rs := [3]) (by kernel_rfl) (by simp) ?_
    refine AllReadyH.cons rfl (fun KK hK => ?_) AllReadyH.nil
    simp only [List.getElem_toArray, List.getElem_cons_succ, List.getElem_cons_zero]
    rw [if_pos (by rfl)]
    refine wps2 61 (.tmp 65) (.tmp 67) _ rfl in_eqN (.agg #[.slice ax0 z0.length dx0]) (.agg #[v7]) rfl rfl (eqNat_same _ rx0 r7) ?_
    rintro e w29 ⟨rfl, k29⟩
    refine ⟨_, rfl, ?_⟩
    replace r0 := r0.kept k29 (by omega)
    replace r1 := r1.kept k29 (by omega)
    replace rw0 := rw0.kept k29 (by omega)
    replace rw1 := rw1.kept k29 (by omega)
    replace rx0 := rx0.kept k29 (by omega)
    replace rx1 := rx1.kept k29 (by omega)
    replace rg0 := rg0.kept k29 (by omega)
    replace rg1 := rg1.kept k29 (by omega)
    replace r7 := r7.kept k29 (by omega)
    replace A0_0 := k29.cell0 A0_0
    replace A1_0 := k29.cell0 A1_0
    replace cw0_0 := k29.cell0 cw0_0
    replace cw1_0 := k29.cell0 cw1_0
    replace cx0_0 := k29.cell0 cx0_0
    replace cx1_0 := k29.cell0 cx1_0
    replace cg0_0 := k29.cell0 cg0_0
    replace cg1_0 := k29.cell0 cg1_0
    replace K := hide ((unhide K).trans k29)
    have z30 := k29.size
    clear k29
    clear hHeld
    refine hK.out _ _ ?_ (fun hHeld => ?_)
    · exact ⟨A0_0, cx0_0⟩
    clear hK KK
    try simp only [Act.put, List.getElem_toArray, List.getElem_cons_succ, List.getElem_cons_zero, List.setIfInBounds_toArray, List.set_cons_zero, List.set_cons_succ]
    refine wpAnyH_take (i := 4) (oi := _) (v := .bool false) rfl (by kernel_rfl) (by kernel_rfl) (by kernel_rfl) (fun _ _ _ h => h) (Or.inl ⟨by rfl, ?_⟩) hHeld ?_
    · intro wq hSw
      try dsimp only at hSw
      go_simp
    try simp only [Act.put, List.getElem_toArray, List.getElem_cons_succ, List.getElem_cons_zero, List.setIfInBounds_toArray, List.set_cons_zero, List.set_cons_succ]
    refine wpAnyH_done (by kernel_rfl) ?_ _
    clear hHeld
    clear r7
    go_wp2_with fail
    have kd := (Kept.refl 0 0 w29).drew
    replace r0 := r0.kept kd (by omega)
    replace r1 := r1.kept kd (by omega)
    replace rw0 := rw0.kept kd (by omega)
    replace rw1 := rw1.kept kd (by omega)
    replace rx0 := rx0.kept kd (by omega)
    replace rx1 := rx1.kept kd (by omega)
    replace rg0 := rg0.kept kd (by omega)
    replace rg1 := rg1.kept kd (by omega)
    replace A0_0 := kd.cell0 A0_0
    replace A1_0 := kd.cell0 A1_0
    replace cw0_0 := kd.cell0 cw0_0
    replace cw1_0 := kd.cell0 cw1_0
    replace cx0_0 := kd.cell0 cx0_0
    replace cx1_0 := kd.cell0 cx1_0
    replace cg0_0 := kd.cell0 cg0_0
    replace cg1_0 := kd.cell0 cg1_0
    replace K := hide ((unhide K).trans kd)
    have z31 := kd.size
    clear kd
    refine wp_region_held_drew (S := (fun w' => w'.cell? ⟨w.heap.size + 1, 0, none⟩ = some (.slice a1 z1.length c1) ∧ w'.cell? ⟨w11.heap.size, 0, none⟩ = some (.slice ax1 z1.length dx1))) (by kernel_rfl) ?_ (fun hHeld => ?_)
    · exact ⟨A1_0, cx1_0⟩
    refine wpAnyH_take (i := 0) (oi := _) (v := .agg #[.slice ax1 z1.length dx1]) rfl (by kernel_rfl) (by kernel_rfl) (by kernel_rfl) (fun _ _ _ h => h) (Or.inl ⟨by rfl, ?_⟩) hHeld ?_
    · intro wq hSw
      try dsimp only at hSw
      go_simp
    try simp only [Act.put, List.getElem_toArray, List.getElem_cons_succ, List.getElem_cons_zero, List.setIfInBounds_toArray, List.set_cons_zero, List.set_cons_succ]
    refine wpAnyH_take (i := 1) (oi := _) (v := .agg #[.slice a1 z1.length c1]) rfl (by kernel_rfl) (by kernel_rfl) (by kernel_rfl) (fun _ _ _ h => h) (Or.inl ⟨by rfl, ?_⟩) hHeld ?_
    · intro wq hSw
      try dsimp only at hSw
      go_simp
    try simp only [Act.put, List.getElem_toArray, List.getElem_cons_succ, List.getElem_cons_zero, List.setIfInBounds_toArray, List.set_cons_zero, List.set_cons_succ]
    refine wpAnyH_ready (rs := [2]) (by kernel_rfl) (by simp) ?_
    refine AllReadyH.cons rfl (fun KK hK => ?_) AllReadyH.nil
    simp only [List.getElem_toArray, List.getElem_cons_succ, List.getElem_cons_zero]
    rw [if_pos (by rfl)]
    refine wps1 60 (.tmp 71) _ rfl in_toN (.agg #[.slice a1 z1.length c1]) rfl (toNat_any _ hn1 r1) ?_
    rintro e w32 ⟨v7, rfl, r7, k32⟩
    refine ⟨_, rfl, ?_⟩
    replace r0 := r0.kept k32 (by omega)
    replace r1 := r1.kept k32 (by omega)
    replace rw0 := rw0.kept k32 (by omega)
    replace rw1 := rw1.kept k32 (by omega)
    replace rx0 := rx0.kept k32 (by omega)
    replace rx1 := rx1.kept k32 (by omega)
    replace rg0 := rg0.kept k32 (by omega)
    replace rg1 := rg1.kept k32 (by omega)
    replace A0_0 := k32.cell0 A0_0
    replace A1_0 := k32.cell0 A1_0
    replace cw0_0 := k32.cell0 cw0_0
    replace cw1_0 := k32.cell0 cw1_0
    replace cx0_0 := k32.cell0 cx0_0
    replace cx1_0 := k32.cell0 cx1_0
    replace cg0_0 := k32.cell0 cg0_0
    replace cg1_0 := k32.cell0 cg1_0
    replace K := hide ((unhide K).trans k32)
    have z33 := k32.size
    clear k32
    clear hHeld
    refine hK.out _ _ ?_ (fun hHeld => ?_)
    · exact ⟨A1_0, cx1_0⟩
    clear hK KK
    try simp only [Act.put, List.getElem_toArray, List.getElem_cons_succ, List.getElem_cons_zero, List.setIfInBounds_toArray, List.set_cons_zero, List.set_cons_succ]
    refine wpAnyH_ready (rs := [3]) (by kernel_rfl) (by simp) ?_
    refine AllReadyH.cons rfl (fun KK hK => ?_) AllReadyH.nil
    simp only [List.getElem_toArray, List.getElem_cons_succ, List.getElem_cons_zero]
    rw [if_pos (by rfl)]
    refine wps2 61 (.tmp 70) (.tmp 72) _ rfl in_eqN (.agg #[.slice ax1 z1.length dx1]) (.agg #[v7]) rfl rfl (eqNat_same _ rx1 r7) ?_
    rintro e w34 ⟨rfl, k34⟩
    refine ⟨_, rfl, ?_⟩
    replace r0 := r0.kept k34 (by omega)
    replace r1 := r1.kept k34 (by omega)
    replace rw0 := rw0.kept k34 (by omega)
    replace rw1 := rw1.kept k34 (by omega)
    replace rx0 := rx0.kept k34 (by omega)
    replace rx1 := rx1.kept k34 (by omega)
    replace rg0 := rg0.kept k34 (by omega)
    replace rg1 := rg1.kept k34 (by omega)
    replace r7 := r7.kept k34 (by omega)
    replace A0_0 := k34.cell0 A0_0
    replace A1_0 := k34.cell0 A1_0
    replace cw0_0 := k34.cell0 cw0_0
    replace cw1_0 := k34.cell0 cw1_0
    replace cx0_0 := k34.cell0 cx0_0
    replace cx1_0 := k34.cell0 cx1_0
    replace cg0_0 := k34.cell0 cg0_0
    replace cg1_0 := k34.cell0 cg1_0
    replace K := hide ((unhide K).trans k34)
    have z35 := k34.size
    clear k34
    clear hHeld
    refine hK.out _ _ ?_ (fun hHeld => ?_)
    · exact ⟨A1_0, cx1_0⟩
    clear hK KK
    try simp only [Act.put, List.getElem_toArray, List.getElem_cons_succ, List.getElem_cons_zero, List.setIfInBounds_toArray, List.set_cons_zero, List.set_cons_succ]
    refine wpAnyH_take (i := 4) (oi := _) (v := .bool false) rfl (by kernel_rfl) (by kernel_rfl) (by kernel_rfl) (fun _ _ _ h => h) (Or.inl ⟨by rfl, ?_⟩) hHeld ?_
    · intro wq hSw
      try dsimp only at hSw
      go_simp
    try simp only [Act.put, List.getElem_toArray, List.getElem_cons_succ, List.getElem_cons_zero, List.setIfInBounds_toArray, List.set_cons_zero, List.set_cons_succ]
    refine wpAnyH_done (by kernel_rfl) ?_ _
    clear hHeld
    clear r7
    have S0' := unhide S0
    go_wp2_with fail
    refine (markNat_wide _ (1) (by omega) (by omega) hn0 rx0).mono ?_
    rintro e w36 ⟨rfl, -, k36⟩
    replace r0 := r0.kept k36 (by omega)
    replace r1 := r1.kept k36 (by omega)
    replace rw0 := rw0.kept k36 (by omega)
    replace rw1 := rw1.kept k36 (by omega)
    replace rx1 := rx1.kept k36 (by omega)
    replace rg0 := rg0.kept k36 (by omega)
    replace rg1 := rg1.kept k36 (by omega)
    replace A0_0 := k36.cellOut (by dsimp only; omega) A0_0
    replace A1_0 := k36.cellOut (by dsimp only; omega) A1_0
    replace cw0_0 := k36.cellOut (by dsimp only; omega) cw0_0
    replace cw1_0 := k36.cellOut (by dsimp only; omega) cw1_0
    replace cx0_0 := k36.cellOut (by dsimp only; omega) cx0_0
    replace cx1_0 := k36.cellOut (by dsimp only; omega) cx1_0
    replace cg0_0 := k36.cellOut (by dsimp only; omega) cg0_0
    replace cg1_0 := k36.cellOut (by dsimp only; omega) cg1_0
    replace K := hide ((unhide K).wide k36 (by omega))
    have z36 := k36.size
    clear k36 rx0
    go_wp2_with fail
    refine (markNat_wide _ ((1 + (z0.length : Int))) (by omega) (by omega) hn1 rx1).mono ?_
    rintro e w37 ⟨rfl, -, k37⟩
    replace r0 := r0.kept k37 (by omega)
    replace r1 := r1.kept k37 (by omega)
    replace rw0 := rw0.kept k37 (by omega)
    replace rw1 := rw1.kept k37 (by omega)
    replace rg0 := rg0.kept k37 (by omega)
    replace rg1 := rg1.kept k37 (by omega)
    replace A0_0 := k37.cellOut (by dsimp only; omega) A0_0
    replace A1_0 := k37.cellOut (by dsimp only; omega) A1_0
    replace cw0_0 := k37.cellOut (by dsimp only; omega) cw0_0
    replace cw1_0 := k37.cellOut (by dsimp only; omega) cw1_0
    replace cx0_0 := k37.cellOut (by dsimp only; omega) cx0_0
    replace cx1_0 := k37.cellOut (by dsimp only; omega) cx1_0
    replace cg0_0 := k37.cellOut (by dsimp only; omega) cg0_0
    replace cg1_0 := k37.cellOut (by dsimp only; omega) cg1_0
    replace K := hide ((unhide K).wide k37 (by omega))
    have z37 := k37.size
    clear k37 rx1
    have nk : ¬ ((1 + (z0.length : Int)) + (z1.length : Int)) < 0 := by omega
    go_wp2_with fail
    refine (eqNat_same _ rg0 rw0).mono ?_
    rintro e w38 ⟨rfl, k38⟩
    replace r0 := r0.kept k38 (by omega)
    replace r1 := r1.kept k38 (by omega)
    replace rw0 := rw0.kept k38 (by omega)
    replace rw1 := rw1.kept k38 (by omega)
    replace rg0 := rg0.kept k38 (by omega)
    replace rg1 := rg1.kept k38 (by omega)
    replace A0_0 := k38.cell0 A0_0
    replace A1_0 := k38.cell0 A1_0
    replace cw0_0 := k38.cell0 cw0_0
    replace cw1_0 := k38.cell0 cw1_0
    replace cx0_0 := k38.cell0 cx0_0
    replace cx1_0 := k38.cell0 cx1_0
    replace cg0_0 := k38.cell0 cg0_0
    replace cg1_0 := k38.cell0 cg1_0
    replace K := hide ((unhide K).trans k38)
    have z39 := k38.size
    clear k38
    go_wp2_with fail
    refine (eqNat_same _ rg1 rw1).mono ?_
    rintro e w40 ⟨rfl, k40⟩
    replace r0 := r0.kept k40 (by omega)
    replace r1 := r1.kept k40 (by omega)
    replace rw0 := rw0.kept k40 (by omega)
    replace rw1 := rw1.kept k40 (by omega)
    replace rg0 := rg0.kept k40 (by omega)
    replace rg1 := rg1.kept k40 (by omega)
    replace A0_0 := k40.cell0 A0_0
    replace A1_0 := k40.cell0 A1_0
    replace cw0_0 := k40.cell0 cw0_0
    replace cw1_0 := k40.cell0 cw1_0
    replace cx0_0 := k40.cell0 cx0_0
    replace cx1_0 := k40.cell0 cx1_0
    replace cg0_0 := k40.cell0 cg0_0
    replace cg1_0 := k40.cell0 cg1_0
    replace K := hide ((unhide K).trans k40)
    have z41 := k40.size
    clear k40
    go_wp2_with fail
    refine (markNat_wide _ (1) (by omega) (by omega) hq0 rg0).mono ?_
    rintro e w42 ⟨rfl, rm0, k42⟩
    replace r0 := r0.kept k42 (by omega)
    replace r1 := r1.kept k42 (by omega)
    replace rw0 := rw0.kept k42 (by omega)
    replace rw1 := rw1.kept k42 (by omega)
    replace rg1 := rg1.kept k42 (by omega)
    replace A0_0 := k42.cellOut (by dsimp only; omega) A0_0
    replace A1_0 := k42.cellOut (by dsimp only; omega) A1_0
    replace cw0_0 := k42.cellOut (by dsimp only; omega) cw0_0
    replace cw1_0 := k42.cellOut (by dsimp only; omega) cw1_0
    replace cx0_0 := k42.cellOut (by dsimp only; omega) cx0_0
    replace cx1_0 := k42.cellOut (by dsimp only; omega) cx1_0
    replace cg0_0 := k42.cellOut (by dsimp only; omega) cg0_0
    replace cg1_0 := k42.cellOut (by dsimp only; omega) cg1_0
    replace K := hide ((unhide K).wide k42 (by omega))
    have z42 := k42.size
    clear k42 rg0
    go_wp2_with fail
    refine (markNat_wide _ ((1 + (L0.length : Int))) (by omega) (by omega) hq1 rg1).mono ?_
    rintro e w43 ⟨rfl, rm1, k43⟩
    replace r0 := r0.kept k43 (by omega)
    replace r1 := r1.kept k43 (by omega)
    replace rw0 := rw0.kept k43 (by omega)
    replace rw1 := rw1.kept k43 (by omega)
    replace rm0 := rm0.kept k43 (by omega)
    replace A0_0 := k43.cellOut (by dsimp only; omega) A0_0
    replace A1_0 := k43.cellOut (by dsimp only; omega) A1_0
    replace cw0_0 := k43.cellOut (by dsimp only; omega) cw0_0
    replace cw1_0 := k43.cellOut (by dsimp only; omega) cw1_0
    replace cx0_0 := k43.cellOut (by dsimp only; omega) cx0_0
    replace cx1_0 := k43.cellOut (by dsimp only; omega) cx1_0
    replace cg0_0 := k43.cellOut (by dsimp only; omega) cg0_0
    replace cg1_0 := k43.cellOut (by dsimp only; omega) cg1_0
    replace K := hide ((unhide K).wide k43 (by omega))
    have z43 := k43.size
    clear k43 rg1
    go_wp2_with fail
    refine (heldNat_any _ (1) (by omega) (by omega) hq0 rm0).mono ?_
    rintro e w44 ⟨rfl, k44⟩
    replace r0 := r0.kept k44 (by omega)
    replace r1 := r1.kept k44 (by omega)
    replace rw0 := rw0.kept k44 (by omega)
    replace rw1 := rw1.kept k44 (by omega)
    replace rm0 := rm0.kept k44 (by omega)
    replace rm1 := rm1.kept k44 (by omega)
    replace A0_0 := k44.cell0 A0_0
    replace A1_0 := k44.cell0 A1_0
    replace cw0_0 := k44.cell0 cw0_0
    replace cw1_0 := k44.cell0 cw1_0
    replace cx0_0 := k44.cell0 cx0_0
    replace cx1_0 := k44.cell0 cx1_0
    replace cg0_0 := k44.cell0 cg0_0
    replace cg1_0 := k44.cell0 cg1_0
    replace K := hide ((unhide K).trans k44)
    have z45 := k44.size
    clear k44
    have nq045 : ¬ (1 + (L0.length : Int)) < 0 := by omega
    go_wp2_with fail
    refine (heldNat_any _ ((1 + (L0.length : Int))) (by omega) (by omega) hq1 rm1).mono ?_
    rintro e w46 ⟨rfl, k46⟩
    replace r0 := r0.kept k46 (by omega)
    replace r1 := r1.kept k46 (by omega)
    replace rw0 := rw0.kept k46 (by omega)
    replace rw1 := rw1.kept k46 (by omega)
    replace rm0 := rm0.kept k46 (by omega)
    replace rm1 := rm1.kept k46 (by omega)
    replace A0_0 := k46.cell0 A0_0
    replace A1_0 := k46.cell0 A1_0
    replace cw0_0 := k46.cell0 cw0_0
    replace cw1_0 := k46.cell0 cw1_0
    replace cx0_0 := k46.cell0 cx0_0
    replace cx1_0 := k46.cell0 cx1_0
    replace cg0_0 := k46.cell0 cg0_0
    replace cg1_0 := k46.cell0 cg1_0
    replace K := hide ((unhide K).trans k46)
    have z47 := k46.size
    clear k46
    have nq147 : ¬ ((1 + (L0.length : Int)) + (L1.length : Int)) < 0 := by omega
    go_upto_region 35 with fail
    go_cut [17, 18, 19] (fun q0 q1 q2 wx => ∃ X0 v0 X1 v1, q0 = .pointer (some ⟨X0, 0, none⟩) ∧ q1 = .pointer (some ⟨X1, 0, none⟩) ∧ q2 = .bool B2 ∧ wx.cell? ⟨X0, 0, none⟩ = some v0 ∧ Row .i64 true w46.heap.size wx.heap.size wx v0 L0 ∧ w46.heap.size ≤ X0 ∧ X0 < wx.heap.size ∧ wx.cell? ⟨X1, 0, none⟩ = some v1 ∧ Row .i64 true w46.heap.size wx.heap.size wx v1 L1 ∧ w46.heap.size ≤ X1 ∧ X1 < wx.heap.size ∧ Kept 0 0 w46 wx)
    case first =>
      have kw := Kept.refl 0 0 w46
      have kd := (Kept.refl 0 0 w46).drew
      replace r0 := r0.kept kd (by omega)
      replace r1 := r1.kept kd (by omega)
      replace rw0 := rw0.kept kd (by omega)
      replace rw1 := rw1.kept kd (by omega)
      replace rm0 := rm0.kept kd (by omega)
      replace rm1 := rm1.kept kd (by omega)
      replace kw := kw.trans kd
      replace A0_0 := kd.cell0 A0_0
      replace A1_0 := kd.cell0 A1_0
      replace cw0_0 := kd.cell0 cw0_0
      replace cw1_0 := kd.cell0 cw1_0
      replace cx0_0 := kd.cell0 cx0_0
      replace cx1_0 := kd.cell0 cx1_0
      replace cg0_0 := kd.cell0 cg0_0
      replace cg1_0 := kd.cell0 cg1_0
      replace K := hide ((unhide K).trans kd)
      have z48 := kd.size
      clear kd
      refine wp_region_held_drew (S := (fun w' => w'.cell? ⟨w.heap.size, 0, none⟩ = some (.slice a0 z0.length c0) ∧ w'.cell? ⟨w.heap.size + 1, 0, none⟩ = some (.slice a1 z1.length c1))) (by kernel_rfl) ?_ (fun hHeld => ?_)
      · exact ⟨A0_0, A1_0⟩
      generalize w46.drew = wd at *
      refine wpAnyH_take (i := 0) (oi := _) (v := .agg #[.slice a0 z0.length c0]) rfl (by kernel_rfl) (by kernel_rfl) (by kernel_rfl) (fun _ _ _ h => h) (Or.inl ⟨by rfl, ?_⟩) hHeld ?_
      · intro wq hSw
        try dsimp only at hSw
        go_simp
      try simp only [Act.put, List.getElem_toArray, List.getElem_cons_succ, List.getElem_cons_zero, List.setIfInBounds_toArray, List.set_cons_zero, List.set_cons_succ]
      refine wpAnyH_take (i := 2) (oi := _) (v := .agg #[.slice a1 z1.length c1]) rfl (by kernel_rfl) (by kernel_rfl) (by kernel_rfl) (fun _ _ _ h => h) (Or.inl ⟨by rfl, ?_⟩) hHeld ?_
      · intro wq hSw
        try dsimp only at hSw
        go_simp
      try simp only [Act.put, List.getElem_toArray, List.getElem_cons_succ, List.getElem_cons_zero, List.setIfInBounds_toArray, List.set_cons_zero, List.set_cons_succ]
      refine wpAnyH_ready (rs := [1, 9, 10]) (by kernel_rfl) (by simp) ?_
      refine AllReadyH.cons rfl (fun KK hK => ?_) (AllReadyH.cons rfl (fun KK hK => ?_) (AllReadyH.cons rfl (fun KK hK => ?_) AllReadyH.nil))
      · simp only [List.getElem_toArray, List.getElem_cons_succ, List.getElem_cons_zero]
        rw [if_pos (by rfl)]
        refine wps1 60 (.tmp 120) _ rfl in_toN (.agg #[.slice a0 z0.length c0]) rfl (toNat_any _ hn0 r0) ?_
        rintro e w49 ⟨v70, rfl, r70, k49⟩
        refine ⟨_, rfl, ?_⟩
        replace r0 := r0.kept k49 (by omega)
        replace r1 := r1.kept k49 (by omega)
        replace rw0 := rw0.kept k49 (by omega)
        replace rw1 := rw1.kept k49 (by omega)
        replace rm0 := rm0.kept k49 (by omega)
        replace rm1 := rm1.kept k49 (by omega)
        replace kw := kw.trans k49
        replace A0_0 := k49.cell0 A0_0
        replace A1_0 := k49.cell0 A1_0
        replace cw0_0 := k49.cell0 cw0_0
        replace cw1_0 := k49.cell0 cw1_0
        replace cx0_0 := k49.cell0 cx0_0
        replace cx1_0 := k49.cell0 cx1_0
        replace cg0_0 := k49.cell0 cg0_0
        replace cg1_0 := k49.cell0 cg1_0
        replace K := hide ((unhide K).trans k49)
        have z50 := k49.size
        clear k49
        clear hHeld
        refine hK.out _ _ ?_ (fun hHeld => ?_)
        · exact ⟨A0_0, A1_0⟩
        clear hK KK
        try simp only [Act.put, List.getElem_toArray, List.getElem_cons_succ, List.getElem_cons_zero, List.setIfInBounds_toArray, List.set_cons_zero, List.set_cons_succ]
        refine wpAnyH_ready (rs := [3, 9, 10]) (by kernel_rfl) (by simp) ?_
        refine AllReadyH.cons rfl (fun KK hK => ?_) (AllReadyH.cons rfl (fun KK hK => ?_) (AllReadyH.cons rfl (fun KK hK => ?_) AllReadyH.nil))
        · as_aux_lemma =>
            simp only [List.getElem_toArray, List.getElem_cons_succ, List.getElem_cons_zero]
            rw [if_pos (by rfl)]
            refine wps1 60 (.tmp 122) _ rfl in_toN (.agg #[.slice a1 z1.length c1]) rfl (toNat_any _ hn1 r1) ?_
            rintro e w51 ⟨v71, rfl, r71, k51⟩
            refine ⟨_, rfl, ?_⟩
            replace r0 := r0.kept k51 (by omega)
            replace r1 := r1.kept k51 (by omega)
            replace rw0 := rw0.kept k51 (by omega)
            replace rw1 := rw1.kept k51 (by omega)
            replace rm0 := rm0.kept k51 (by omega)
            replace rm1 := rm1.kept k51 (by omega)
            replace r70 := r70.kept k51 (by omega)
            replace kw := kw.trans k51
            replace A0_0 := k51.cell0 A0_0
            replace A1_0 := k51.cell0 A1_0
            replace cw0_0 := k51.cell0 cw0_0
            replace cw1_0 := k51.cell0 cw1_0
            replace cx0_0 := k51.cell0 cx0_0
            replace cx1_0 := k51.cell0 cx1_0
            replace cg0_0 := k51.cell0 cg0_0
            replace cg1_0 := k51.cell0 cg1_0
            replace K := hide ((unhide K).trans k51)
            have z52 := k51.size
            clear k51
            clear hHeld
            refine hK.out _ _ ?_ (fun hHeld => ?_)
            · exact ⟨A0_0, A1_0⟩
            clear hK KK
            try simp only [Act.put, List.getElem_toArray, List.getElem_cons_succ, List.getElem_cons_zero, List.setIfInBounds_toArray, List.set_cons_zero, List.set_cons_succ]
            refine wpAnyH_ready (rs := [4, 9, 10]) (by kernel_rfl) (by simp) ?_
            refine AllReadyH.cons rfl (fun KK hK => ?_) (AllReadyH.cons rfl (fun KK hK => ?_) (AllReadyH.cons rfl (fun KK hK => ?_) AllReadyH.nil))
            · simp only [List.getElem_toArray, List.getElem_cons_succ, List.getElem_cons_zero]
              rw [if_pos (by rfl)]
              have mk := natDiv_impl w51 r70 r71
              simp only [unhide EL0, unhide EL1, unhide EB2] at mk
              refine wps2 34 (.tmp 121) (.tmp 123) _ rfl in_impl_NatDiv (.agg #[v70]) (.agg #[v71]) rfl rfl mk ?_
              rintro e w53 ⟨v90, v91, mm9, rfl, r90, r91, hma9, hmb9, k53⟩
              refine ⟨_, rfl, ?_⟩
              clear mk
              replace r0 := r0.kept k53 (by omega)
              replace r1 := r1.kept k53 (by omega)
              replace rw0 := rw0.kept k53 (by omega)
              replace rw1 := rw1.kept k53 (by omega)
              replace rm0 := rm0.kept k53 (by omega)
              replace rm1 := rm1.kept k53 (by omega)
              replace r70 := r70.kept k53 (by omega)
              replace r71 := r71.kept k53 (by omega)
              replace kw := kw.trans k53
              replace A0_0 := k53.cell0 A0_0
              replace A1_0 := k53.cell0 A1_0
              replace cw0_0 := k53.cell0 cw0_0
              replace cw1_0 := k53.cell0 cw1_0
              replace cx0_0 := k53.cell0 cx0_0
              replace cx1_0 := k53.cell0 cx1_0
              replace cg0_0 := k53.cell0 cg0_0
              replace cg1_0 := k53.cell0 cg1_0
              replace K := hide ((unhide K).trans k53)
              have z54 := k53.size
              obtain ⟨a90, d90, hv⟩ := Row.form' r90
              subst hv
              obtain ⟨a91, d91, hv⟩ := Row.form' r91
              subst hv
              clear k53
              clear hHeld
              refine hK.out _ _ ?_ (fun hHeld => ?_)
              · exact ⟨A0_0, A1_0⟩
              clear hK KK
              try simp only [Act.put, List.getElem_toArray, List.getElem_cons_succ, List.getElem_cons_zero, List.setIfInBounds_toArray, List.set_cons_zero, List.set_cons_succ]
              refine wpAnyH_take (i := 5) (oi := _) (v := .tuple #[.agg #[.slice a90 L0.length d90], .agg #[.slice a91 L1.length d91], .bool B2]) rfl (by kernel_rfl) (by kernel_rfl) (by kernel_rfl) (fun _ _ _ h => h) (Or.inl ⟨by rfl, ?_⟩) hHeld ?_
              · intro wq hSw
                try dsimp only at hSw
                go_simp
              try simp only [Act.put, List.getElem_toArray, List.getElem_cons_succ, List.getElem_cons_zero, List.setIfInBounds_toArray, List.set_cons_zero, List.set_cons_succ]
              refine wpAnyH_take (i := 6) (oi := _) (v := .agg #[.slice a90 L0.length d90]) rfl (by kernel_rfl) (by kernel_rfl) (by kernel_rfl) (fun _ _ _ h => h) (Or.inl ⟨by rfl, ?_⟩) hHeld ?_
              · intro wq hSw
                try dsimp only at hSw
                go_simp
              try simp only [Act.put, List.getElem_toArray, List.getElem_cons_succ, List.getElem_cons_zero, List.setIfInBounds_toArray, List.set_cons_zero, List.set_cons_succ]
              refine wpAnyH_take (i := 7) (oi := _) (v := .agg #[.slice a91 L1.length d91]) rfl (by kernel_rfl) (by kernel_rfl) (by kernel_rfl) (fun _ _ _ h => h) (Or.inl ⟨by rfl, ?_⟩) hHeld ?_
              · intro wq hSw
                try dsimp only at hSw
                go_simp
              try simp only [Act.put, List.getElem_toArray, List.getElem_cons_succ, List.getElem_cons_zero, List.setIfInBounds_toArray, List.set_cons_zero, List.set_cons_succ]
              refine wpAnyH_take (i := 8) (oi := _) (v := .bool B2) rfl (by kernel_rfl) (by kernel_rfl) (by kernel_rfl) (fun _ _ _ h => h) (Or.inl ⟨by rfl, ?_⟩) hHeld ?_
              · intro wq hSw
                try dsimp only at hSw
                go_simp
              try simp only [Act.put, List.getElem_toArray, List.getElem_cons_succ, List.getElem_cons_zero, List.setIfInBounds_toArray, List.set_cons_zero, List.set_cons_succ]
              refine wpAnyH_ready (rs := [9, 10]) (by kernel_rfl) (by simp) ?_
              refine AllReadyH.cons rfl (fun KK hK => ?_) (AllReadyH.cons rfl (fun KK hK => ?_) AllReadyH.nil)
              · as_aux_lemma =>
                  simp only [List.getElem_toArray, List.getElem_cons_succ, List.getElem_cons_zero]
                  rw [if_pos (by rfl)]
                  go_simp
                  have kn := (Kept.refl 0 0 w53).alloc (.cells #[.slice none 0 0] 26)
                  replace r0 := r0.kept kn (by omega)
                  replace r1 := r1.kept kn (by omega)
                  replace rw0 := rw0.kept kn (by omega)
                  replace rw1 := rw1.kept kn (by omega)
                  replace rm0 := rm0.kept kn (by omega)
                  replace rm1 := rm1.kept kn (by omega)
                  replace r70 := r70.kept kn (by omega)
                  replace r71 := r71.kept kn (by omega)
                  replace r90 := r90.kept kn (by omega)
                  replace r91 := r91.kept kn (by omega)
                  replace kw := kw.trans kn
                  replace A0_0 := kn.cell0 A0_0
                  replace A1_0 := kn.cell0 A1_0
                  replace cw0_0 := kn.cell0 cw0_0
                  replace cw1_0 := kn.cell0 cw1_0
                  replace cx0_0 := kn.cell0 cx0_0
                  replace cx1_0 := kn.cell0 cx1_0
                  replace cg0_0 := kn.cell0 cg0_0
                  replace cg1_0 := kn.cell0 cg1_0
                  replace K := hide ((unhide K).trans kn)
                  have z56 := kn.size
                  clear kn
                  have szx0_ : w53.heap.size < (w53.alloc (.cells #[.slice none 0 0] 26)).heap.size := by simp
                  have x0_0 : (w53.alloc (.cells #[.slice none 0 0] 26)).cell? ⟨w53.heap.size, 0, none⟩ = some (.slice none 0 0) := new_cell2 _ _ _ _ _ _ rfl rfl
                  have x0_f0 : (w53.alloc (.cells #[.slice none 0 0] 26)).frozen? ⟨w53.heap.size, 0, none⟩ = false := new_loose2 _ _ _ _ _ rfl
                  clear hHeld
                  refine hK.out _ _ ?_ (fun hHeld => ?_)
                  · exact ⟨A0_0, A1_0⟩
                  clear hK KK
                  try simp only [Act.put, List.getElem_toArray, List.getElem_cons_succ, List.getElem_cons_zero, List.setIfInBounds_toArray, List.set_cons_zero, List.set_cons_succ]
                  generalize w53.alloc (.cells #[.slice none 0 0] 26) = w55 at *
                  refine wpAnyH_ready (rs := [10]) (by kernel_rfl) (by simp) ?_
                  refine AllReadyH.cons rfl (fun KK hK => ?_) AllReadyH.nil
                  · simp only [List.getElem_toArray, List.getElem_cons_succ, List.getElem_cons_zero]
                    rw [if_pos (by rfl)]
                    go_simp
                    have kn := (Kept.refl 0 0 w55).alloc (.cells #[.slice none 0 0] 26)
                    replace r0 := r0.kept kn (by omega)
                    replace r1 := r1.kept kn (by omega)
                    replace rw0 := rw0.kept kn (by omega)
                    replace rw1 := rw1.kept kn (by omega)
                    replace rm0 := rm0.kept kn (by omega)
                    replace rm1 := rm1.kept kn (by omega)
                    replace r70 := r70.kept kn (by omega)
                    replace r71 := r71.kept kn (by omega)
                    replace r90 := r90.kept kn (by omega)
                    replace r91 := r91.kept kn (by omega)
                    replace kw := kw.trans kn
                    replace x0_f0 := kn.loose0 (World.block_lt_of_cell? _ _ x0_0) x0_f0
                    replace A0_0 := kn.cell0 A0_0
                    replace A1_0 := kn.cell0 A1_0
                    replace cw0_0 := kn.cell0 cw0_0
                    replace cw1_0 := kn.cell0 cw1_0
                    replace cx0_0 := kn.cell0 cx0_0
                    replace cx1_0 := kn.cell0 cx1_0
                    replace cg0_0 := kn.cell0 cg0_0
                    replace cg1_0 := kn.cell0 cg1_0
                    replace x0_0 := kn.cell0 x0_0
                    replace K := hide ((unhide K).trans kn)
                    have z58 := kn.size
                    clear kn
                    have szx1_ : w55.heap.size < (w55.alloc (.cells #[.slice none 0 0] 26)).heap.size := by simp
                    have x1_0 : (w55.alloc (.cells #[.slice none 0 0] 26)).cell? ⟨w55.heap.size, 0, none⟩ = some (.slice none 0 0) := new_cell2 _ _ _ _ _ _ rfl rfl
                    have x1_f0 : (w55.alloc (.cells #[.slice none 0 0] 26)).frozen? ⟨w55.heap.size, 0, none⟩ = false := new_loose2 _ _ _ _ _ rfl
                    clear hHeld
                    refine hK.out _ _ ?_ (fun hHeld => ?_)
                    · exact ⟨A0_0, A1_0⟩
                    clear hK KK
                    try simp only [Act.put, List.getElem_toArray, List.getElem_cons_succ, List.getElem_cons_zero, List.setIfInBounds_toArray, List.set_cons_zero, List.set_cons_succ]
                    generalize w55.alloc (.cells #[.slice none 0 0] 26) = w57 at *
                    refine wpAnyH_ready (rs := [11]) (by kernel_rfl) (by simp) ?_
                    refine AllReadyH.cons rfl (fun KK hK => ?_) AllReadyH.nil
                    simp only [List.getElem_toArray, List.getElem_cons_succ, List.getElem_cons_zero]
                    rw [if_pos (by rfl)]
                    go_simp
                    clear hHeld
                    refine hK.out _ _ ?_ (fun hHeld => ?_)
                    · exact ⟨(cell_aside _ (by have := unhide S0; dsimp only; omega) A0_0), (cell_aside _ (by have := unhide S0; dsimp only; omega) A1_0)⟩
                    clear hK KK
                    try simp only [Act.put, List.getElem_toArray, List.getElem_cons_succ, List.getElem_cons_zero, List.setIfInBounds_toArray, List.set_cons_zero, List.set_cons_succ]
                    refine wpAnyH_ready (rs := [12]) (by kernel_rfl) (by simp) ?_
                    refine AllReadyH.cons rfl (fun KK hK => ?_) AllReadyH.nil
                    simp only [List.getElem_toArray, List.getElem_cons_succ, List.getElem_cons_zero]
                    rw [if_pos (by rfl)]
                    go_simp
                    clear hHeld
                    refine hK.out _ _ ?_ (fun hHeld => ?_)
                    · exact ⟨(cell_aside _ (by have := unhide S0; dsimp only; omega) (cell_aside _ (by have := unhide S0; dsimp only; omega) A0_0)), (cell_aside _ (by have := unhide S0; dsimp only; omega) (cell_aside _ (by have := unhide S0; dsimp only; omega) A1_0))⟩
                    clear hK KK
                    try simp only [Act.put, List.getElem_toArray, List.getElem_cons_succ, List.getElem_cons_zero, List.setIfInBounds_toArray, List.set_cons_zero, List.set_cons_succ]
                    refine wpAnyH_take (i := 13) (oi := _) (v := .bool B2) rfl (by kernel_rfl) (by kernel_rfl) (by kernel_rfl) (fun _ _ _ h => h) (Or.inl ⟨by rfl, ?_⟩) hHeld ?_
                    · intro wq hSw
                      try dsimp only at hSw
                      go_simp
                    try simp only [Act.put, List.getElem_toArray, List.getElem_cons_succ, List.getElem_cons_zero, List.setIfInBounds_toArray, List.set_cons_zero, List.set_cons_succ]
                    refine wpAnyH_done (by kernel_rfl) ?_ _
                    clear hHeld
                    go_wp2_with fail
                    go_meet
                    exact ⟨_, _, _, _, rfl, rfl, rfl, law_setNN kw x0_0 x1_0 r90 r91 (by omega) (by omega) (by omega) (by omega) (by omega) (by omega) (by omega) (by omega) (by omega)⟩
              · as_aux_lemma =>
                  simp only [List.getElem_toArray, List.getElem_cons_succ, List.getElem_cons_zero]
                  rw [if_pos (by rfl)]
                  go_simp
                  have kn := (Kept.refl 0 0 w53).alloc (.cells #[.slice none 0 0] 26)
                  replace r0 := r0.kept kn (by omega)
                  replace r1 := r1.kept kn (by omega)
                  replace rw0 := rw0.kept kn (by omega)
                  replace rw1 := rw1.kept kn (by omega)
                  replace rm0 := rm0.kept kn (by omega)
                  replace rm1 := rm1.kept kn (by omega)
                  replace r70 := r70.kept kn (by omega)
                  replace r71 := r71.kept kn (by omega)
                  replace r90 := r90.kept kn (by omega)
                  replace r91 := r91.kept kn (by omega)
                  replace kw := kw.trans kn
                  replace A0_0 := kn.cell0 A0_0
                  replace A1_0 := kn.cell0 A1_0
                  replace cw0_0 := kn.cell0 cw0_0
                  replace cw1_0 := kn.cell0 cw1_0
                  replace cx0_0 := kn.cell0 cx0_0
                  replace cx1_0 := kn.cell0 cx1_0
                  replace cg0_0 := kn.cell0 cg0_0
                  replace cg1_0 := kn.cell0 cg1_0
                  replace K := hide ((unhide K).trans kn)
                  have z56 := kn.size
                  clear kn
                  have szx1_ : w53.heap.size < (w53.alloc (.cells #[.slice none 0 0] 26)).heap.size := by simp
                  have x1_0 : (w53.alloc (.cells #[.slice none 0 0] 26)).cell? ⟨w53.heap.size, 0, none⟩ = some (.slice none 0 0) := new_cell2 _ _ _ _ _ _ rfl rfl
                  have x1_f0 : (w53.alloc (.cells #[.slice none 0 0] 26)).frozen? ⟨w53.heap.size, 0, none⟩ = false := new_loose2 _ _ _ _ _ rfl
                  clear hHeld
                  refine hK.out _ _ ?_ (fun hHeld => ?_)
                  · exact ⟨A0_0, A1_0⟩
                  clear hK KK
                  try simp only [Act.put, List.getElem_toArray, List.getElem_cons_succ, List.getElem_cons_zero, List.setIfInBounds_toArray, List.set_cons_zero, List.set_cons_succ]
                  generalize w53.alloc (.cells #[.slice none 0 0] 26) = w55 at *
                  refine wpAnyH_ready (rs := [9]) (by kernel_rfl) (by simp) ?_
                  refine AllReadyH.cons rfl (fun KK hK => ?_) AllReadyH.nil
                  · simp only [List.getElem_toArray, List.getElem_cons_succ, List.getElem_cons_zero]
                    rw [if_pos (by rfl)]
                    go_simp
                    have kn := (Kept.refl 0 0 w55).alloc (.cells #[.slice none 0 0] 26)
                    replace r0 := r0.kept kn (by omega)
                    replace r1 := r1.kept kn (by omega)
                    replace rw0 := rw0.kept kn (by omega)
                    replace rw1 := rw1.kept kn (by omega)
                    replace rm0 := rm0.kept kn (by omega)
                    replace rm1 := rm1.kept kn (by omega)
                    replace r70 := r70.kept kn (by omega)
                    replace r71 := r71.kept kn (by omega)
                    replace r90 := r90.kept kn (by omega)
                    replace r91 := r91.kept kn (by omega)
                    replace kw := kw.trans kn
                    replace x1_f0 := kn.loose0 (World.block_lt_of_cell? _ _ x1_0) x1_f0
                    replace A0_0 := kn.cell0 A0_0
                    replace A1_0 := kn.cell0 A1_0
                    replace cw0_0 := kn.cell0 cw0_0
                    replace cw1_0 := kn.cell0 cw1_0
                    replace cx0_0 := kn.cell0 cx0_0
                    replace cx1_0 := kn.cell0 cx1_0
                    replace cg0_0 := kn.cell0 cg0_0
                    replace cg1_0 := kn.cell0 cg1_0
                    replace x1_0 := kn.cell0 x1_0
                    replace K := hide ((unhide K).trans kn)
                    have z58 := kn.size
                    clear kn
                    have szx0_ : w55.heap.size < (w55.alloc (.cells #[.slice none 0 0] 26)).heap.size := by simp
                    have x0_0 : (w55.alloc (.cells #[.slice none 0 0] 26)).cell? ⟨w55.heap.size, 0, none⟩ = some (.slice none 0 0) := new_cell2 _ _ _ _ _ _ rfl rfl
                    have x0_f0 : (w55.alloc (.cells #[.slice none 0 0] 26)).frozen? ⟨w55.heap.size, 0, none⟩ = false := new_loose2 _ _ _ _ _ rfl
                    clear hHeld
                    refine hK.out _ _ ?_ (fun hHeld => ?_)
                    · exact ⟨A0_0, A1_0⟩
                    clear hK KK
                    try simp only [Act.put, List.getElem_toArray, List.getElem_cons_succ, List.getElem_cons_zero, List.setIfInBounds_toArray, List.set_cons_zero, List.set_cons_succ]
                    generalize w55.alloc (.cells #[.slice none 0 0] 26) = w57 at *
                    refine wpAnyH_ready (rs := [11]) (by kernel_rfl) (by simp) ?_
                    refine AllReadyH.cons rfl (fun KK hK => ?_) AllReadyH.nil
                    simp only [List.getElem_toArray, List.getElem_cons_succ, List.getElem_cons_zero]
                    rw [if_pos (by rfl)]
                    go_simp
                    clear hHeld
                    refine hK.out _ _ ?_ (fun hHeld => ?_)
                    · exact ⟨(cell_aside _ (by have := unhide S0; dsimp only; omega) A0_0), (cell_aside _ (by have := unhide S0; dsimp only; omega) A1_0)⟩
                    clear hK KK
                    try simp only [Act.put, List.getElem_toArray, List.getElem_cons_succ, List.getElem_cons_zero, List.setIfInBounds_toArray, List.set_cons_zero, List.set_cons_succ]
                    refine wpAnyH_ready (rs := [12]) (by kernel_rfl) (by simp) ?_
                    refine AllReadyH.cons rfl (fun KK hK => ?_) AllReadyH.nil
                    simp only [List.getElem_toArray, List.getElem_cons_succ, List.getElem_cons_zero]
                    rw [if_pos (by rfl)]
                    go_simp
                    clear hHeld
                    refine hK.out _ _ ?_ (fun hHeld => ?_)
                    · exact ⟨(cell_aside _ (by have := unhide S0; dsimp only; omega) (cell_aside _ (by have := unhide S0; dsimp only; omega) A0_0)), (cell_aside _ (by have := unhide S0; dsimp only; omega) (cell_aside _ (by have := unhide S0; dsimp only; omega) A1_0))⟩
                    clear hK KK
                    try simp only [Act.put, List.getElem_toArray, List.getElem_cons_succ, List.getElem_cons_zero, List.setIfInBounds_toArray, List.set_cons_zero, List.set_cons_succ]
                    refine wpAnyH_take (i := 13) (oi := _) (v := .bool B2) rfl (by kernel_rfl) (by kernel_rfl) (by kernel_rfl) (fun _ _ _ h => h) (Or.inl ⟨by rfl, ?_⟩) hHeld ?_
                    · intro wq hSw
                      try dsimp only at hSw
                      go_simp
                    try simp only [Act.put, List.getElem_toArray, List.getElem_cons_succ, List.getElem_cons_zero, List.setIfInBounds_toArray, List.set_cons_zero, List.set_cons_succ]
                    refine wpAnyH_done (by kernel_rfl) ?_ _
                    clear hHeld
                    go_wp2_with fail
                    go_meet
                    exact ⟨_, _, _, _, rfl, rfl, rfl, law_setNN kw x0_0 x1_0 r90 r91 (by omega) (by omega) (by omega) (by omega) (by omega) (by omega) (by omega) (by omega) (by omega)⟩
            · simp only [List.getElem_toArray, List.getElem_cons_succ, List.getElem_cons_zero]
              rw [if_pos (by rfl)]
              go_simp
              have kn := (Kept.refl 0 0 w51).alloc (.cells #[.slice none 0 0] 26)
              replace r0 := r0.kept kn (by omega)
              replace r1 := r1.kept kn (by omega)
              replace rw0 := rw0.kept kn (by omega)
              replace rw1 := rw1.kept kn (by omega)
              replace rm0 := rm0.kept kn (by omega)
              replace rm1 := rm1.kept kn (by omega)
              replace r70 := r70.kept kn (by omega)
              replace r71 := r71.kept kn (by omega)
              replace kw := kw.trans kn
              replace A0_0 := kn.cell0 A0_0
              replace A1_0 := kn.cell0 A1_0
              replace cw0_0 := kn.cell0 cw0_0
              replace cw1_0 := kn.cell0 cw1_0
              replace cx0_0 := kn.cell0 cx0_0
              replace cx1_0 := kn.cell0 cx1_0
              replace cg0_0 := kn.cell0 cg0_0
              replace cg1_0 := kn.cell0 cg1_0
              replace K := hide ((unhide K).trans kn)
              have z54 := kn.size
              clear kn
              have szx0_ : w51.heap.size < (w51.alloc (.cells #[.slice none 0 0] 26)).heap.size := by simp
              have x0_0 : (w51.alloc (.cells #[.slice none 0 0] 26)).cell? ⟨w51.heap.size, 0, none⟩ = some (.slice none 0 0) := new_cell2 _ _ _ _ _ _ rfl rfl
              have x0_f0 : (w51.alloc (.cells #[.slice none 0 0] 26)).frozen? ⟨w51.heap.size, 0, none⟩ = false := new_loose2 _ _ _ _ _ rfl
              clear hHeld
              refine hK.out _ _ ?_ (fun hHeld => ?_)
              · exact ⟨A0_0, A1_0⟩
              clear hK KK
              try simp only [Act.put, List.getElem_toArray, List.getElem_cons_succ, List.getElem_cons_zero, List.setIfInBounds_toArray, List.set_cons_zero, List.set_cons_succ]
              generalize w51.alloc (.cells #[.slice none 0 0] 26) = w53 at *
              refine wpAnyH_ready (rs := [4, 10]) (by kernel_rfl) (by simp) ?_
              refine AllReadyH.cons rfl (fun KK hK => ?_) (AllReadyH.cons rfl (fun KK hK => ?_) AllReadyH.nil)
              · as_aux_lemma =>
                  simp only [List.getElem_toArray, List.getElem_cons_succ, List.getElem_cons_zero]
                  rw [if_pos (by rfl)]
                  have mk := natDiv_impl w53 r70 r71
                  simp only [unhide EL0, unhide EL1, unhide EB2] at mk
                  refine wps2 34 (.tmp 121) (.tmp 123) _ rfl in_impl_NatDiv (.agg #[v70]) (.agg #[v71]) rfl rfl mk ?_
                  rintro e w55 ⟨v90, v91, mm9, rfl, r90, r91, hma9, hmb9, k55⟩
                  refine ⟨_, rfl, ?_⟩
                  clear mk
                  replace r0 := r0.kept k55 (by omega)
                  replace r1 := r1.kept k55 (by omega)
                  replace rw0 := rw0.kept k55 (by omega)
                  replace rw1 := rw1.kept k55 (by omega)
                  replace rm0 := rm0.kept k55 (by omega)
                  replace rm1 := rm1.kept k55 (by omega)
                  replace r70 := r70.kept k55 (by omega)
                  replace r71 := r71.kept k55 (by omega)
                  replace kw := kw.trans k55
                  replace x0_f0 := k55.loose0 (World.block_lt_of_cell? _ _ x0_0) x0_f0
                  replace A0_0 := k55.cell0 A0_0
                  replace A1_0 := k55.cell0 A1_0
                  replace cw0_0 := k55.cell0 cw0_0
                  replace cw1_0 := k55.cell0 cw1_0
                  replace cx0_0 := k55.cell0 cx0_0
                  replace cx1_0 := k55.cell0 cx1_0
                  replace cg0_0 := k55.cell0 cg0_0
                  replace cg1_0 := k55.cell0 cg1_0
                  replace x0_0 := k55.cell0 x0_0
                  replace K := hide ((unhide K).trans k55)
                  have z56 := k55.size
                  obtain ⟨a90, d90, hv⟩ := Row.form' r90
                  subst hv
                  obtain ⟨a91, d91, hv⟩ := Row.form' r91
                  subst hv
                  clear k55
                  clear hHeld
                  refine hK.out _ _ ?_ (fun hHeld => ?_)
                  · exact ⟨A0_0, A1_0⟩
                  clear hK KK
                  try simp only [Act.put, List.getElem_toArray, List.getElem_cons_succ, List.getElem_cons_zero, List.setIfInBounds_toArray, List.set_cons_zero, List.set_cons_succ]
                  refine wpAnyH_take (i := 5) (oi := _) (v := .tuple #[.agg #[.slice a90 L0.length d90], .agg #[.slice a91 L1.length d91], .bool B2]) rfl (by kernel_rfl) (by kernel_rfl) (by kernel_rfl) (fun _ _ _ h => h) (Or.inl ⟨by rfl, ?_⟩) hHeld ?_
                  · intro wq hSw
                    try dsimp only at hSw
                    go_simp
                  try simp only [Act.put, List.getElem_toArray, List.getElem_cons_succ, List.getElem_cons_zero, List.setIfInBounds_toArray, List.set_cons_zero, List.set_cons_succ]
                  refine wpAnyH_take (i := 6) (oi := _) (v := .agg #[.slice a90 L0.length d90]) rfl (by kernel_rfl) (by kernel_rfl) (by kernel_rfl) (fun _ _ _ h => h) (Or.inl ⟨by rfl, ?_⟩) hHeld ?_
                  · intro wq hSw
                    try dsimp only at hSw
                    go_simp
                  try simp only [Act.put, List.getElem_toArray, List.getElem_cons_succ, List.getElem_cons_zero, List.setIfInBounds_toArray, List.set_cons_zero, List.set_cons_succ]
                  refine wpAnyH_take (i := 7) (oi := _) (v := .agg #[.slice a91 L1.length d91]) rfl (by kernel_rfl) (by kernel_rfl) (by kernel_rfl) (fun _ _ _ h => h) (Or.inl ⟨by rfl, ?_⟩) hHeld ?_
                  · intro wq hSw
                    try dsimp only at hSw
                    go_simp
                  try simp only [Act.put, List.getElem_toArray, List.getElem_cons_succ, List.getElem_cons_zero, List.setIfInBounds_toArray, List.set_cons_zero, List.set_cons_succ]
                  refine wpAnyH_take (i := 8) (oi := _) (v := .bool B2) rfl (by kernel_rfl) (by kernel_rfl) (by kernel_rfl) (fun _ _ _ h => h) (Or.inl ⟨by rfl, ?_⟩) hHeld ?_
                  · intro wq hSw
                    try dsimp only at hSw
                    go_simp
                  try simp only [Act.put, List.getElem_toArray, List.getElem_cons_succ, List.getElem_cons_zero, List.setIfInBounds_toArray, List.set_cons_zero, List.set_cons_succ]
                  refine wpAnyH_ready (rs := [10]) (by kernel_rfl) (by simp) ?_
                  refine AllReadyH.cons rfl (fun KK hK => ?_) AllReadyH.nil
                  · simp only [List.getElem_toArray, List.getElem_cons_succ, List.getElem_cons_zero]
                    rw [if_pos (by rfl)]
                    go_simp
                    have kn := (Kept.refl 0 0 w55).alloc (.cells #[.slice none 0 0] 26)
                    replace r0 := r0.kept kn (by omega)
                    replace r1 := r1.kept kn (by omega)
                    replace rw0 := rw0.kept kn (by omega)
                    replace rw1 := rw1.kept kn (by omega)
                    replace rm0 := rm0.kept kn (by omega)
                    replace rm1 := rm1.kept kn (by omega)
                    replace r70 := r70.kept kn (by omega)
                    replace r71 := r71.kept kn (by omega)
                    replace r90 := r90.kept kn (by omega)
                    replace r91 := r91.kept kn (by omega)
                    replace kw := kw.trans kn
                    replace x0_f0 := kn.loose0 (World.block_lt_of_cell? _ _ x0_0) x0_f0
                    replace A0_0 := kn.cell0 A0_0
                    replace A1_0 := kn.cell0 A1_0
                    replace cw0_0 := kn.cell0 cw0_0
                    replace cw1_0 := kn.cell0 cw1_0
                    replace cx0_0 := kn.cell0 cx0_0
                    replace cx1_0 := kn.cell0 cx1_0
                    replace cg0_0 := kn.cell0 cg0_0
                    replace cg1_0 := kn.cell0 cg1_0
                    replace x0_0 := kn.cell0 x0_0
                    replace K := hide ((unhide K).trans kn)
                    have z58 := kn.size
                    clear kn
                    have szx1_ : w55.heap.size < (w55.alloc (.cells #[.slice none 0 0] 26)).heap.size := by simp
                    have x1_0 : (w55.alloc (.cells #[.slice none 0 0] 26)).cell? ⟨w55.heap.size, 0, none⟩ = some (.slice none 0 0) := new_cell2 _ _ _ _ _ _ rfl rfl
                    have x1_f0 : (w55.alloc (.cells #[.slice none 0 0] 26)).frozen? ⟨w55.heap.size, 0, none⟩ = false := new_loose2 _ _ _ _ _ rfl
                    clear hHeld
                    refine hK.out _ _ ?_ (fun hHeld => ?_)
                    · exact ⟨A0_0, A1_0⟩
                    clear hK KK
                    try simp only [Act.put, List.getElem_toArray, List.getElem_cons_succ, List.getElem_cons_zero, List.setIfInBounds_toArray, List.set_cons_zero, List.set_cons_succ]
                    generalize w55.alloc (.cells #[.slice none 0 0] 26) = w57 at *
                    refine wpAnyH_ready (rs := [11]) (by kernel_rfl) (by simp) ?_
                    refine AllReadyH.cons rfl (fun KK hK => ?_) AllReadyH.nil
                    simp only [List.getElem_toArray, List.getElem_cons_succ, List.getElem_cons_zero]
                    rw [if_pos (by rfl)]
                    go_simp
                    clear hHeld
                    refine hK.out _ _ ?_ (fun hHeld => ?_)
                    · exact ⟨(cell_aside _ (by have := unhide S0; dsimp only; omega) A0_0), (cell_aside _ (by have := unhide S0; dsimp only; omega) A1_0)⟩
                    clear hK KK
                    try simp only [Act.put, List.getElem_toArray, List.getElem_cons_succ, List.getElem_cons_zero, List.setIfInBounds_toArray, List.set_cons_zero, List.set_cons_succ]
                    refine wpAnyH_ready (rs := [12]) (by kernel_rfl) (by simp) ?_
                    refine AllReadyH.cons rfl (fun KK hK => ?_) AllReadyH.nil
                    simp only [List.getElem_toArray, List.getElem_cons_succ, List.getElem_cons_zero]
                    rw [if_pos (by rfl)]
                    go_simp
                    clear hHeld
                    refine hK.out _ _ ?_ (fun hHeld => ?_)
                    · exact ⟨(cell_aside _ (by have := unhide S0; dsimp only; omega) (cell_aside _ (by have := unhide S0; dsimp only; omega) A0_0)), (cell_aside _ (by have := unhide S0; dsimp only; omega) (cell_aside _ (by have := unhide S0; dsimp only; omega) A1_0))⟩
                    clear hK KK
                    try simp only [Act.put, List.getElem_toArray, List.getElem_cons_succ, List.getElem_cons_zero, List.setIfInBounds_toArray, List.set_cons_zero, List.set_cons_succ]
                    refine wpAnyH_take (i := 13) (oi := _) (v := .bool B2) rfl (by kernel_rfl) (by kernel_rfl) (by kernel_rfl) (fun _ _ _ h => h) (Or.inl ⟨by rfl, ?_⟩) hHeld ?_
                    · intro wq hSw
                      try dsimp only at hSw
                      go_simp
                    try simp only [Act.put, List.getElem_toArray, List.getElem_cons_succ, List.getElem_cons_zero, List.setIfInBounds_toArray, List.set_cons_zero, List.set_cons_succ]
                    refine wpAnyH_done (by kernel_rfl) ?_ _
                    clear hHeld
                    go_wp2_with fail
                    go_meet
                    exact ⟨_, _, _, _, rfl, rfl, rfl, law_setNN kw x0_0 x1_0 r90 r91 (by omega) (by omega) (by omega) (by omega) (by omega) (by omega) (by omega) (by omega) (by omega)⟩
              · as_aux_lemma =>
                  simp only [List.getElem_toArray, List.getElem_cons_succ, List.getElem_cons_zero]
                  rw [if_pos (by rfl)]
                  go_simp
                  have kn := (Kept.refl 0 0 w53).alloc (.cells #[.slice none 0 0] 26)
                  replace r0 := r0.kept kn (by omega)
                  replace r1 := r1.kept kn (by omega)
                  replace rw0 := rw0.kept kn (by omega)
                  replace rw1 := rw1.kept kn (by omega)
                  replace rm0 := rm0.kept kn (by omega)
                  replace rm1 := rm1.kept kn (by omega)
                  replace r70 := r70.kept kn (by omega)
                  replace r71 := r71.kept kn (by omega)
                  replace kw := kw.trans kn
                  replace x0_f0 := kn.loose0 (World.block_lt_of_cell? _ _ x0_0) x0_f0
                  replace A0_0 := kn.cell0 A0_0
                  replace A1_0 := kn.cell0 A1_0
                  replace cw0_0 := kn.cell0 cw0_0
                  replace cw1_0 := kn.cell0 cw1_0
                  replace cx0_0 := kn.cell0 cx0_0
                  replace cx1_0 := kn.cell0 cx1_0
                  replace cg0_0 := kn.cell0 cg0_0
                  replace cg1_0 := kn.cell0 cg1_0
                  replace x0_0 := kn.cell0 x0_0
                  replace K := hide ((unhide K).trans kn)
                  have z56 := kn.size
                  clear kn
                  have szx1_ : w53.heap.size < (w53.alloc (.cells #[.slice none 0 0] 26)).heap.size := by simp
                  have x1_0 : (w53.alloc (.cells #[.slice none 0 0] 26)).cell? ⟨w53.heap.size, 0, none⟩ = some (.slice none 0 0) := new_cell2 _ _ _ _ _ _ rfl rfl
                  have x1_f0 : (w53.alloc (.cells #[.slice none 0 0] 26)).frozen? ⟨w53.heap.size, 0, none⟩ = false := new_loose2 _ _ _ _ _ rfl
                  clear hHeld
                  refine hK.out _ _ ?_ (fun hHeld => ?_)
                  · exact ⟨A0_0, A1_0⟩
                  clear hK KK
                  try simp only [Act.put, List.getElem_toArray, List.getElem_cons_succ, List.getElem_cons_zero, List.setIfInBounds_toArray, List.set_cons_zero, List.set_cons_succ]
                  generalize w53.alloc (.cells #[.slice none 0 0] 26) = w55 at *
                  refine wpAnyH_ready (rs := [4]) (by kernel_rfl) (by simp) ?_
                  refine AllReadyH.cons rfl (fun KK hK => ?_) AllReadyH.nil
                  · simp only [List.getElem_toArray, List.getElem_cons_succ, List.getElem_cons_zero]
                    rw [if_pos (by rfl)]
                    have mk := natDiv_impl w55 r70 r71
                    simp only [unhide EL0, unhide EL1, unhide EB2] at mk
                    refine wps2 34 (.tmp 121) (.tmp 123) _ rfl in_impl_NatDiv (.agg #[v70]) (.agg #[v71]) rfl rfl mk ?_
                    rintro e w57 ⟨v90, v91, mm9, rfl, r90, r91, hma9, hmb9, k57⟩
                    refine ⟨_, rfl, ?_⟩
                    clear mk
                    replace r0 := r0.kept k57 (by omega)
                    replace r1 := r1.kept k57 (by omega)
                    replace rw0 := rw0.kept k57 (by omega)
                    replace rw1 := rw1.kept k57 (by omega)
                    replace rm0 := rm0.kept k57 (by omega)
                    replace rm1 := rm1.kept k57 (by omega)
                    replace r70 := r70.kept k57 (by omega)
                    replace r71 := r71.kept k57 (by omega)
                    replace kw := kw.trans k57
                    replace x0_f0 := k57.loose0 (World.block_lt_of_cell? _ _ x0_0) x0_f0
                    replace x1_f0 := k57.loose0 (World.block_lt_of_cell? _ _ x1_0) x1_f0
                    replace A0_0 := k57.cell0 A0_0
                    replace A1_0 := k57.cell0 A1_0
                    replace cw0_0 := k57.cell0 cw0_0
                    replace cw1_0 := k57.cell0 cw1_0
                    replace cx0_0 := k57.cell0 cx0_0
                    replace cx1_0 := k57.cell0 cx1_0
                    replace cg0_0 := k57.cell0 cg0_0
                    replace cg1_0 := k57.cell0 cg1_0
                    replace x0_0 := k57.cell0 x0_0
                    replace x1_0 := k57.cell0 x1_0
                    replace K := hide ((unhide K).trans k57)
                    have z58 := k57.size
                    obtain ⟨a90, d90, hv⟩ := Row.form' r90
                    subst hv
                    obtain ⟨a91, d91, hv⟩ := Row.form' r91
                    subst hv
                    clear k57
                    clear hHeld
                    refine hK.out _ _ ?_ (fun hHeld => ?_)
                    · exact ⟨A0_0, A1_0⟩
                    clear hK KK
                    try simp only [Act.put, List.getElem_toArray, List.getElem_cons_succ, List.getElem_cons_zero, List.setIfInBounds_toArray, List.set_cons_zero, List.set_cons_succ]
                    refine wpAnyH_take (i := 5) (oi := _) (v := .tuple #[.agg #[.slice a90 L0.length d90], .agg #[.slice a91 L1.length d91], .bool B2]) rfl (by kernel_rfl) (by kernel_rfl) (by kernel_rfl) (fun _ _ _ h => h) (Or.inl ⟨by rfl, ?_⟩) hHeld ?_
                    · intro wq hSw
                      try dsimp only at hSw
                      go_simp
                    try simp only [Act.put, List.getElem_toArray, List.getElem_cons_succ, List.getElem_cons_zero, List.setIfInBounds_toArray, List.set_cons_zero, List.set_cons_succ]
                    refine wpAnyH_take (i := 6) (oi := _) (v := .agg #[.slice a90 L0.length d90]) rfl (by kernel_rfl) (by kernel_rfl) (by kernel_rfl) (fun _ _ _ h => h) (Or.inl ⟨by rfl, ?_⟩) hHeld ?_
                    · intro wq hSw
                      try dsimp only at hSw
                      go_simp
                    try simp only [Act.put, List.getElem_toArray, List.getElem_cons_succ, List.getElem_cons_zero, List.setIfInBounds_toArray, List.set_cons_zero, List.set_cons_succ]
                    refine wpAnyH_take (i := 7) (oi := _) (v := .agg #[.slice a91 L1.length d91]) rfl (by kernel_rfl) (by kernel_rfl) (by kernel_rfl) (fun _ _ _ h => h) (Or.inl ⟨by rfl, ?_⟩) hHeld ?_
                    · intro wq hSw
                      try dsimp only at hSw
                      go_simp
                    try simp only [Act.put, List.getElem_toArray, List.getElem_cons_succ, List.getElem_cons_zero, List.setIfInBounds_toArray, List.set_cons_zero, List.set_cons_succ]
                    refine wpAnyH_take (i := 8) (oi := _) (v := .bool B2) rfl (by kernel_rfl) (by kernel_rfl) (by kernel_rfl) (fun _ _ _ h => h) (Or.inl ⟨by rfl, ?_⟩) hHeld ?_
                    · intro wq hSw
                      try dsimp only at hSw
                      go_simp
                    try simp only [Act.put, List.getElem_toArray, List.getElem_cons_succ, List.getElem_cons_zero, List.setIfInBounds_toArray, List.set_cons_zero, List.set_cons_succ]
                    refine wpAnyH_ready (rs := [11]) (by kernel_rfl) (by simp) ?_
                    refine AllReadyH.cons rfl (fun KK hK => ?_) AllReadyH.nil
                    simp only [List.getElem_toArray, List.getElem_cons_succ, List.getElem_cons_zero]
                    rw [if_pos (by rfl)]
                    go_simp
                    clear hHeld
                    refine hK.out _ _ ?_ (fun hHeld => ?_)
                    · exact ⟨(cell_aside _ (by have := unhide S0; dsimp only; omega) A0_0), (cell_aside _ (by have := unhide S0; dsimp only; omega) A1_0)⟩
                    clear hK KK
                    try simp only [Act.put, List.getElem_toArray, List.getElem_cons_succ, List.getElem_cons_zero, List.setIfInBounds_toArray, List.set_cons_zero, List.set_cons_succ]
                    refine wpAnyH_ready (rs := [12]) (by kernel_rfl) (by simp) ?_
                    refine AllReadyH.cons rfl (fun KK hK => ?_) AllReadyH.nil
                    simp only [List.getElem_toArray, List.getElem_cons_succ, List.getElem_cons_zero]
                    rw [if_pos (by rfl)]
                    go_simp
                    clear hHeld
                    refine hK.out _ _ ?_ (fun hHeld => ?_)
                    · exact ⟨(cell_aside _ (by have := unhide S0; dsimp only; omega) (cell_aside _ (by have := unhide S0; dsimp only; omega) A0_0)), (cell_aside _ (by have := unhide S0; dsimp only; omega) (cell_aside _ (by have := unhide S0; dsimp only; omega) A1_0))⟩
                    clear hK KK
                    try simp only [Act.put, List.getElem_toArray, List.getElem_cons_succ, List.getElem_cons_zero, List.setIfInBounds_toArray, List.set_cons_zero, List.set_cons_succ]
                    refine wpAnyH_take (i := 13) (oi := _) (v := .bool B2) rfl (by kernel_rfl) (by kernel_rfl) (by kernel_rfl) (fun _ _ _ h => h) (Or.inl ⟨by rfl, ?_⟩) hHeld ?_
                    · intro wq hSw
                      try dsimp only at hSw
                      go_simp
                    try simp only [Act.put, List.getElem_toArray, List.getElem_cons_succ, List.getElem_cons_zero, List.setIfInBounds_toArray, List.set_cons_zero, List.set_cons_succ]
                    refine wpAnyH_done (by kernel_rfl) ?_ _
                    clear hHeld
                    go_wp2_with fail
                    go_meet
                    exact ⟨_, _, _, _, rfl, rfl, rfl, law_setNN kw x0_0 x1_0 r90 r91 (by omega) (by omega) (by omega) (by omega) (by omega) (by omega) (by omega) (by omega) (by omega)⟩
            · simp only [List.getElem_toArray, List.getElem_cons_succ, List.getElem_cons_zero]
              rw [if_pos (by rfl)]
              go_simp
              have kn := (Kept.refl 0 0 w51).alloc (.cells #[.slice none 0 0] 26)
              replace r0 := r0.kept kn (by omega)
              replace r1 := r1.kept kn (by omega)
              replace rw0 := rw0.kept kn (by omega)
              replace rw1 := rw1.kept kn (by omega)
              replace rm0 := rm0.kept kn (by omega)
              replace rm1 := rm1.kept kn (by omega)
              replace r70 := r70.kept kn (by omega)
              replace r71 := r71.kept kn (by omega)
              replace kw := kw.trans kn
              replace A0_0 := kn.cell0 A0_0
              replace A1_0 := kn.cell0 A1_0
              replace cw0_0 := kn.cell0 cw0_0
              replace cw1_0 := kn.cell0 cw1_0
              replace cx0_0 := kn.cell0 cx0_0
              replace cx1_0 := kn.cell0 cx1_0
              replace cg0_0 := kn.cell0 cg0_0
              replace cg1_0 := kn.cell0 cg1_0
              replace K := hide ((unhide K).trans kn)
              have z54 := kn.size
              clear kn
              have szx1_ : w51.heap.size < (w51.alloc (.cells #[.slice none 0 0] 26)).heap.size := by simp
              have x1_0 : (w51.alloc (.cells #[.slice none 0 0] 26)).cell? ⟨w51.heap.size, 0, none⟩ = some (.slice none 0 0) := new_cell2 _ _ _ _ _ _ rfl rfl
              have x1_f0 : (w51.alloc (.cells #[.slice none 0 0] 26)).frozen? ⟨w51.heap.size, 0, none⟩ = false := new_loose2 _ _ _ _ _ rfl
              clear hHeld
              refine hK.out _ _ ?_ (fun hHeld => ?_)
              · exact ⟨A0_0, A1_0⟩
              clear hK KK
              try simp only [Act.put, List.getElem_toArray, List.getElem_cons_succ, List.getElem_cons_zero, List.setIfInBounds_toArray, List.set_cons_zero, List.set_cons_succ]
              generalize w51.alloc (.cells #[.slice none 0 0] 26) = w53 at *
              refine wpAnyH_ready (rs := [4, 9]) (by kernel_rfl) (by simp) ?_
              refine AllReadyH.cons rfl (fun KK hK => ?_) (AllReadyH.cons rfl (fun KK hK => ?_) AllReadyH.nil)
              · as_aux_lemma =>
                  simp only [List.getElem_toArray, List.getElem_cons_succ, List.getElem_cons_zero]
                  rw [if_pos (by rfl)]
                  have mk := natDiv_impl w53 r70 r71
                  simp only [unhide EL0, unhide EL1, unhide EB2] at mk
                  refine wps2 34 (.tmp 121) (.tmp 123) _ rfl in_impl_NatDiv (.agg #[v70]) (.agg #[v71]) rfl rfl mk ?_
                  rintro e w55 ⟨v90, v91, mm9, rfl, r90, r91, hma9, hmb9, k55⟩
                  refine ⟨_, rfl, ?_⟩
                  clear mk
                  replace r0 := r0.kept k55 (by omega)
                  replace r1 := r1.kept k55 (by omega)
                  replace rw0 := rw0.kept k55 (by omega)
                  replace rw1 := rw1.kept k55 (by omega)
                  replace rm0 := rm0.kept k55 (by omega)
                  replace rm1 := rm1.kept k55 (by omega)
                  replace r70 := r70.kept k55 (by omega)
                  replace r71 := r71.kept k55 (by omega)
                  replace kw := kw.trans k55
                  replace x1_f0 := k55.loose0 (World.block_lt_of_cell? _ _ x1_0) x1_f0
                  replace A0_0 := k55.cell0 A0_0
                  replace A1_0 := k55.cell0 A1_0
                  replace cw0_0 := k55.cell0 cw0_0
                  replace cw1_0 := k55.cell0 cw1_0
                  replace cx0_0 := k55.cell0 cx0_0
                  replace cx1_0 := k55.cell0 cx1_0
                  replace cg0_0 := k55.cell0 cg0_0
                  replace cg1_0 := k55.cell0 cg1_0
                  replace x1_0 := k55.cell0 x1_0
                  replace K := hide ((unhide K).trans k55)
                  have z56 := k55.size
                  obtain ⟨a90, d90, hv⟩ := Row.form' r90
                  subst hv
                  obtain ⟨a91, d91, hv⟩ := Row.form' r91
                  subst hv
                  clear k55
                  clear hHeld
                  refine hK.out _ _ ?_ (fun hHeld => ?_)
                  · exact ⟨A0_0, A1_0⟩
                  clear hK KK
                  try simp only [Act.put, List.getElem_toArray, List.getElem_cons_succ, List.getElem_cons_zero, List.setIfInBounds_toArray, List.set_cons_zero, List.set_cons_succ]
                  refine wpAnyH_take (i := 5) (oi := _) (v := .tuple #[.agg #[.slice a90 L0.length d90], .agg #[.slice a91 L1.length d91], .bool B2]) rfl (by kernel_rfl) (by kernel_rfl) (by kernel_rfl) (fun _ _ _ h => h) (Or.inl ⟨by rfl, ?_⟩) hHeld ?_
                  · intro wq hSw
                    try dsimp only at hSw
                    go_simp
                  try simp only [Act.put, List.getElem_toArray, List.getElem_cons_succ, List.getElem_cons_zero, List.setIfInBounds_toArray, List.set_cons_zero, List.set_cons_succ]
                  refine wpAnyH_take (i := 6) (oi := _) (v := .agg #[.slice a90 L0.length d90]) rfl (by kernel_rfl) (by kernel_rfl) (by kernel_rfl) (fun _ _ _ h => h) (Or.inl ⟨by rfl, ?_⟩) hHeld ?_
                  · intro wq hSw
                    try dsimp only at hSw
                    go_simp
                  try simp only [Act.put, List.getElem_toArray, List.getElem_cons_succ, List.getElem_cons_zero, List.setIfInBounds_toArray, List.set_cons_zero, List.set_cons_succ]
                  refine wpAnyH_take (i := 7) (oi := _) (v := .agg #[.slice a91 L1.length d91]) rfl (by kernel_rfl) (by kernel_rfl) (by kernel_rfl) (fun _ _ _ h => h) (Or.inl ⟨by rfl, ?_⟩) hHeld ?_
                  · intro wq hSw
                    try dsimp only at hSw
                    go_simp
                  try simp only [Act.put, List.getElem_toArray, List.getElem_cons_succ, List.getElem_cons_zero, List.setIfInBounds_toArray, List.set_cons_zero, List.set_cons_succ]
                  refine wpAnyH_take (i := 8) (oi := _) (v := .bool B2) rfl (by kernel_rfl) (by kernel_rfl) (by kernel_rfl) (fun _ _ _ h => h) (Or.inl ⟨by rfl, ?_⟩) hHeld ?_
                  · intro wq hSw
                    try dsimp only at hSw
                    go_simp
                  try simp only [Act.put, List.getElem_toArray, List.getElem_cons_succ, List.getElem_cons_zero, List.setIfInBounds_toArray, List.set_cons_zero, List.set_cons_succ]
                  refine wpAnyH_ready (rs := [9]) (by kernel_rfl) (by simp) ?_
                  refine AllReadyH.cons rfl (fun KK hK => ?_) AllReadyH.nil
                  · simp only [List.getElem_toArray, List.getElem_cons_succ, List.getElem_cons_zero]
                    rw [if_pos (by rfl)]
                    go_simp
                    have kn := (Kept.refl 0 0 w55).alloc (.cells #[.slice none 0 0] 26)
                    replace r0 := r0.kept kn (by omega)
                    replace r1 := r1.kept kn (by omega)
                    replace rw0 := rw0.kept kn (by omega)
                    replace rw1 := rw1.kept kn (by omega)
                    replace rm0 := rm0.kept kn (by omega)
                    replace rm1 := rm1.kept kn (by omega)
                    replace r70 := r70.kept kn (by omega)
                    replace r71 := r71.kept kn (by omega)
                    replace r90 := r90.kept kn (by omega)
                    replace r91 := r91.kept kn (by omega)
                    replace kw := kw.trans kn
                    replace x1_f0 := kn.loose0 (World.block_lt_of_cell? _ _ x1_0) x1_f0
                    replace A0_0 := kn.cell0 A0_0
                    replace A1_0 := kn.cell0 A1_0
                    replace cw0_0 := kn.cell0 cw0_0
                    replace cw1_0 := kn.cell0 cw1_0
                    replace cx0_0 := kn.cell0 cx0_0
                    replace cx1_0 := kn.cell0 cx1_0
                    replace cg0_0 := kn.cell0 cg0_0
                    replace cg1_0 := kn.cell0 cg1_0
                    replace x1_0 := kn.cell0 x1_0
                    replace K := hide ((unhide K).trans kn)
                    have z58 := kn.size
                    clear kn
                    have szx0_ : w55.heap.size < (w55.alloc (.cells #[.slice none 0 0] 26)).heap.size := by simp
                    have x0_0 : (w55.alloc (.cells #[.slice none 0 0] 26)).cell? ⟨w55.heap.size, 0, none⟩ = some (.slice none 0 0) := new_cell2 _ _ _ _ _ _ rfl rfl
                    have x0_f0 : (w55.alloc (.cells #[.slice none 0 0] 26)).frozen? ⟨w55.heap.size, 0, none⟩ = false := new_loose2 _ _ _ _ _ rfl
                    clear hHeld
                    refine hK.out _ _ ?_ (fun hHeld => ?_)
                    · exact ⟨A0_0, A1_0⟩
                    clear hK KK
                    try simp only [Act.put, List.getElem_toArray, List.getElem_cons_succ, List.getElem_cons_zero, List.setIfInBounds_toArray, List.set_cons_zero, List.set_cons_succ]
                    generalize w55.alloc (.cells #[.slice none 0 0] 26) = w57 at *
                    refine wpAnyH_ready (rs := [11]) (by kernel_rfl) (by simp) ?_
                    refine AllReadyH.cons rfl (fun KK hK => ?_) AllReadyH.nil
                    simp only [List.getElem_toArray, List.getElem_cons_succ, List.getElem_cons_zero]
                    rw [if_pos (by rfl)]
                    go_simp
                    clear hHeld
                    refine hK.out _ _ ?_ (fun hHeld => ?_)
                    · exact ⟨(cell_aside _ (by have := unhide S0; dsimp only; omega) A0_0), (cell_aside _ (by have := unhide S0; dsimp only; omega) A1_0)⟩
                    clear hK KK
                    try simp only [Act.put, List.getElem_toArray, List.getElem_cons_succ, List.getElem_cons_zero, List.setIfInBounds_toArray, List.set_cons_zero, List.set_cons_succ]
                    refine wpAnyH_ready (rs := [12]) (by kernel_rfl) (by simp) ?_
                    refine AllReadyH.cons rfl (fun KK hK => ?_) AllReadyH.nil
                    simp only [List.getElem_toArray, List.getElem_cons_succ, List.getElem_cons_zero]
                    rw [if_pos (by rfl)]
                    go_simp
                    clear hHeld
                    refine hK.out _ _ ?_ (fun hHeld => ?_)
                    · exact ⟨(cell_aside _ (by have := unhide S0; dsimp only; omega) (cell_aside _ (by have := unhide S0; dsimp only; omega) A0_0)), (cell_aside _ (by have := unhide S0; dsimp only; omega) (cell_aside _ (by have := unhide S0; dsimp only; omega) A1_0))⟩
                    clear hK KK
                    try simp only [Act.put, List.getElem_toArray, List.getElem_cons_succ, List.getElem_cons_zero, List.setIfInBounds_toArray, List.set_cons_zero, List.set_cons_succ]
                    refine wpAnyH_take (i := 13) (oi := _) (v := .bool B2) rfl (by kernel_rfl) (by kernel_rfl) (by kernel_rfl) (fun _ _ _ h => h) (Or.inl ⟨by rfl, ?_⟩) hHeld ?_
                    · intro wq hSw
                      try dsimp only at hSw
                      go_simp
                    try simp only [Act.put, List.getElem_toArray, List.getElem_cons_succ, List.getElem_cons_zero, List.setIfInBounds_toArray, List.set_cons_zero, List.set_cons_succ]
                    refine wpAnyH_done (by kernel_rfl) ?_ _
                    clear hHeld
                    go_wp2_with fail
                    go_meet
                    exact ⟨_, _, _, _, rfl, rfl, rfl, law_setNN kw x0_0 x1_0 r90 r91 (by omega) (by omega) (by omega) (by omega) (by omega) (by omega) (by omega) (by omega) (by omega)⟩
              · as_aux_lemma =>
                  simp only [List.getElem_toArray, List.getElem_cons_succ, List.getElem_cons_zero]
                  rw [if_pos (by rfl)]
                  go_simp
                  have kn := (Kept.refl 0 0 w53).alloc (.cells #[.slice none 0 0] 26)
                  replace r0 := r0.kept kn (by omega)
                  replace r1 := r1.kept kn (by omega)
                  replace rw0 := rw0.kept kn (by omega)
                  replace rw1 := rw1.kept kn (by omega)
                  replace rm0 := rm0.kept kn (by omega)
                  replace rm1 := rm1.kept kn (by omega)
                  replace r70 := r70.kept kn (by omega)
                  replace r71 := r71.kept kn (by omega)
                  replace kw := kw.trans kn
                  replace x1_f0 := kn.loose0 (World.block_lt_of_cell? _ _ x1_0) x1_f0
                  replace A0_0 := kn.cell0 A0_0
                  replace A1_0 := kn.cell0 A1_0
                  replace cw0_0 := kn.cell0 cw0_0
                  replace cw1_0 := kn.cell0 cw1_0
                  replace cx0_0 := kn.cell0 cx0_0
                  replace cx1_0 := kn.cell0 cx1_0
                  replace cg0_0 := kn.cell0 cg0_0
                  replace cg1_0 := kn.cell0 cg1_0
                  replace x1_0 := kn.cell0 x1_0
                  replace K := hide ((unhide K).trans kn)
                  have z56 := kn.size
                  clear kn
                  have szx0_ : w53.heap.size < (w53.alloc (.cells #[.slice none 0 0] 26)).heap.size := by simp
                  have x0_0 : (w53.alloc (.cells #[.slice none 0 0] 26)).cell? ⟨w53.heap.size, 0, none⟩ = some (.slice none 0 0) := new_cell2 _ _ _ _ _ _ rfl rfl
                  have x0_f0 : (w53.alloc (.cells #[.slice none 0 0] 26)).frozen? ⟨w53.heap.size, 0, none⟩ = false := new_loose2 _ _ _ _ _ rfl
                  clear hHeld
                  refine hK.out _ _ ?_ (fun hHeld => ?_)
                  · exact ⟨A0_0, A1_0⟩
                  clear hK KK
                  try simp only [Act.put, List.getElem_toArray, List.getElem_cons_succ, List.getElem_cons_zero, List.setIfInBounds_toArray, List.set_cons_zero, List.set_cons_succ]
                  generalize w53.alloc (.cells #[.slice none 0 0] 26) = w55 at *
                  refine wpAnyH_ready (rs := [4]) (by kernel_rfl) (by simp) ?_
                  refine AllReadyH.cons rfl (fun KK hK => ?_) AllReadyH.nil
                  · simp only [List.getElem_toArray, List.getElem_cons_succ, List.getElem_cons_zero]
                    rw [if_pos (by rfl)]
                    have mk := natDiv_impl w55 r70 r71
                    simp only [unhide EL0, unhide EL1, unhide EB2] at mk
                    refine wps2 34 (.tmp 121) (.tmp 123) _ rfl in_impl_NatDiv (.agg #[v70]) (.agg #[v71]) rfl rfl mk ?_
                    rintro e w57 ⟨v90, v91, mm9, rfl, r90, r91, hma9, hmb9, k57⟩
                    refine ⟨_, rfl, ?_⟩
                    clear mk
                    replace r0 := r0.kept k57 (by omega)
                    replace r1 := r1.kept k57 (by omega)
                    replace rw0 := rw0.kept k57 (by omega)
                    replace rw1 := rw1.kept k57 (by omega)
                    replace rm0 := rm0.kept k57 (by omega)
                    replace rm1 := rm1.kept k57 (by omega)
                    replace r70 := r70.kept k57 (by omega)
                    replace r71 := r71.kept k57 (by omega)
                    replace kw := kw.trans k57
                    replace x1_f0 := k57.loose0 (World.block_lt_of_cell? _ _ x1_0) x1_f0
                    replace x0_f0 := k57.loose0 (World.block_lt_of_cell? _ _ x0_0) x0_f0
                    replace A0_0 := k57.cell0 A0_0
                    replace A1_0 := k57.cell0 A1_0
                    replace cw0_0 := k57.cell0 cw0_0
                    replace cw1_0 := k57.cell0 cw1_0
                    replace cx0_0 := k57.cell0 cx0_0
                    replace cx1_0 := k57.cell0 cx1_0
                    replace cg0_0 := k57.cell0 cg0_0
                    replace cg1_0 := k57.cell0 cg1_0
                    replace x1_0 := k57.cell0 x1_0
                    replace x0_0 := k57.cell0 x0_0
                    replace K := hide ((unhide K).trans k57)
                    have z58 := k57.size
                    obtain ⟨a90, d90, hv⟩ := Row.form' r90
                    subst hv
                    obtain ⟨a91, d91, hv⟩ := Row.form' r91
                    subst hv
                    clear k57
                    clear hHeld
                    refine hK.out _ _ ?_ (fun hHeld => ?_)
                    · exact ⟨A0_0, A1_0⟩
                    clear hK KK
                    try simp only [Act.put, List.getElem_toArray, List.getElem_cons_succ, List.getElem_cons_zero, List.setIfInBounds_toArray, List.set_cons_zero, List.set_cons_succ]
                    refine wpAnyH_take (i := 5) (oi := _) (v := .tuple #[.agg #[.slice a90 L0.length d90], .agg #[.slice a91 L1.length d91], .bool B2]) rfl (by kernel_rfl) (by kernel_rfl) (by kernel_rfl) (fun _ _ _ h => h) (Or.inl ⟨by rfl, ?_⟩) hHeld ?_
                    · intro wq hSw
                      try dsimp only at hSw
                      go_simp
                    try simp only [Act.put, List.getElem_toArray, List.getElem_cons_succ, List.getElem_cons_zero, List.setIfInBounds_toArray, List.set_cons_zero, List.set_cons_succ]
                    refine wpAnyH_take (i := 6) (oi := _) (v := .agg #[.slice a90 L0.length d90]) rfl (by kernel_rfl) (by kernel_rfl) (by kernel_rfl) (fun _ _ _ h => h) (Or.inl ⟨by rfl, ?_⟩) hHeld ?_
                    · intro wq hSw
                      try dsimp only at hSw
                      go_simp
                    try simp only [Act.put, List.getElem_toArray, List.getElem_cons_succ, List.getElem_cons_zero, List.setIfInBounds_toArray, List.set_cons_zero, List.set_cons_succ]
                    refine wpAnyH_take (i := 7) (oi := _) (v := .agg #[.slice a91 L1.length d91]) rfl (by kernel_rfl) (by kernel_rfl) (by kernel_rfl) (fun _ _ _ h => h) (Or.inl ⟨by rfl, ?_⟩) hHeld ?_
                    · intro wq hSw
                      try dsimp only at hSw
                      go_simp
                    try simp only [Act.put, List.getElem_toArray, List.getElem_cons_succ, List.getElem_cons_zero, List.setIfInBounds_toArray, List.set_cons_zero, List.set_cons_succ]
                    refine wpAnyH_take (i := 8) (oi := _) (v := .bool B2) rfl (by kernel_rfl) (by kernel_rfl) (by kernel_rfl) (fun _ _ _ h => h) (Or.inl ⟨by rfl, ?_⟩) hHeld ?_
                    · intro wq hSw
                      try dsimp only at hSw
                      go_simp
                    try simp only [Act.put, List.getElem_toArray, List.getElem_cons_succ, List.getElem_cons_zero, List.setIfInBounds_toArray, List.set_cons_zero, List.set_cons_succ]
                    refine wpAnyH_ready (rs := [11]) (by kernel_rfl) (by simp) ?_
                    refine AllReadyH.cons rfl (fun KK hK => ?_) AllReadyH.nil
                    simp only [List.getElem_toArray, List.getElem_cons_succ, List.getElem_cons_zero]
                    rw [if_pos (by rfl)]
                    go_simp
                    clear hHeld
                    refine hK.out _ _ ?_ (fun hHeld => ?_)
                    · exact ⟨(cell_aside _ (by have := unhide S0; dsimp only; omega) A0_0), (cell_aside _ (by have := unhide S0; dsimp only; omega) A1_0)⟩
                    clear hK KK
                    try simp only [Act.put, List.getElem_toArray, List.getElem_cons_succ, List.getElem_cons_zero, List.setIfInBounds_toArray, List.set_cons_zero, List.set_cons_succ]
                    refine wpAnyH_ready (rs := [12]) (by kernel_rfl) (by simp) ?_
                    refine AllReadyH.cons rfl (fun KK hK => ?_) AllReadyH.nil
                    simp only [List.getElem_toArray, List.getElem_cons_succ, List.getElem_cons_zero]
                    rw [if_pos (by rfl)]
                    go_simp
                    clear hHeld
                    refine hK.out _ _ ?_ (fun hHeld => ?_)
                    · exact ⟨(cell_aside _ (by have := unhide S0; dsimp only; omega) (cell_aside _ (by have := unhide S0; dsimp only; omega) A0_0)), (cell_aside _ (by have := unhide S0; dsimp only; omega) (cell_aside _ (by have := unhide S0; dsimp only; omega) A1_0))⟩
                    clear hK KK
                    try simp only [Act.put, List.getElem_toArray, List.getElem_cons_succ, List.getElem_cons_zero, List.setIfInBounds_toArray, List.set_cons_zero, List.set_cons_succ]
                    refine wpAnyH_take (i := 13) (oi := _) (v := .bool B2) rfl (by kernel_rfl) (by kernel_rfl) (by kernel_rfl) (fun _ _ _ h => h) (Or.inl ⟨by rfl, ?_⟩) hHeld ?_
                    · intro wq hSw
                      try dsimp only at hSw
                      go_simp
                    try simp only [Act.put, List.getElem_toArray, List.getElem_cons_succ, List.getElem_cons_zero, List.setIfInBounds_toArray, List.set_cons_zero, List.set_cons_succ]
                    refine wpAnyH_done (by kernel_rfl) ?_ _
                    clear hHeld
                    go_wp2_with fail
                    go_meet
                    exact ⟨_, _, _, _, rfl, rfl, rfl, law_setNN kw x0_0 x1_0 r90 r91 (by omega) (by omega) (by omega) (by omega) (by omega) (by omega) (by omega) (by omega) (by omega)⟩
        · as_aux_lemma =>
            simp only [List.getElem_toArray, List.getElem_cons_succ, List.getElem_cons_zero]
            rw [if_pos (by rfl)]
            go_simp
            have kn := (Kept.refl 0 0 w49).alloc (.cells #[.slice none 0 0] 26)
            replace r0 := r0.kept kn (by omega)
            replace r1 := r1.kept kn (by omega)
            replace rw0 := rw0.kept kn (by omega)
            replace rw1 := rw1.kept kn (by omega)
            replace rm0 := rm0.kept kn (by omega)
            replace rm1 := rm1.kept kn (by omega)
            replace r70 := r70.kept kn (by omega)
            replace kw := kw.trans kn
            replace A0_0 := kn.cell0 A0_0
            replace A1_0 := kn.cell0 A1_0
            replace cw0_0 := kn.cell0 cw0_0
            replace cw1_0 := kn.cell0 cw1_0
            replace cx0_0 := kn.cell0 cx0_0
            replace cx1_0 := kn.cell0 cx1_0
            replace cg0_0 := kn.cell0 cg0_0
            replace cg1_0 := kn.cell0 cg1_0
            replace K := hide ((unhide K).trans kn)
            have z52 := kn.size
            clear kn
            have szx0_ : w49.heap.size < (w49.alloc (.cells #[.slice none 0 0] 26)).heap.size := by simp
            have x0_0 : (w49.alloc (.cells #[.slice none 0 0] 26)).cell? ⟨w49.heap.size, 0, none⟩ = some (.slice none 0 0) := new_cell2 _ _ _ _ _ _ rfl rfl
            have x0_f0 : (w49.alloc (.cells #[.slice none 0 0] 26)).frozen? ⟨w49.heap.size, 0, none⟩ = false := new_loose2 _ _ _ _ _ rfl
            clear hHeld
            refine hK.out _ _ ?_ (fun hHeld => ?_)
            · exact ⟨A0_0, A1_0⟩
            clear hK KK
            try simp only [Act.put, List.getElem_toArray, List.getElem_cons_succ, List.getElem_cons_zero, List.setIfInBounds_toArray, List.set_cons_zero, List.set_cons_succ]
            generalize w49.alloc (.cells #[.slice none 0 0] 26) = w51 at *
            refine wpAnyH_ready (rs := [3, 10]) (by kernel_rfl) (by simp) ?_
            refine AllReadyH.cons rfl (fun KK hK => ?_) (AllReadyH.cons rfl (fun KK hK => ?_) AllReadyH.nil)
            · simp only [List.getElem_toArray, List.getElem_cons_succ, List.getElem_cons_zero]
              rw [if_pos (by rfl)]
              refine wps1 60 (.tmp 122) _ rfl in_toN (.agg #[.slice a1 z1.length c1]) rfl (toNat_any _ hn1 r1) ?_
              rintro e w53 ⟨v71, rfl, r71, k53⟩
              refine ⟨_, rfl, ?_⟩
              replace r0 := r0.kept k53 (by omega)
              replace r1 := r1.kept k53 (by omega)
              replace rw0 := rw0.kept k53 (by omega)
              replace rw1 := rw1.kept k53 (by omega)
              replace rm0 := rm0.kept k53 (by omega)
              replace rm1 := rm1.kept k53 (by omega)
              replace r70 := r70.kept k53 (by omega)
              replace kw := kw.trans k53
              replace x0_f0 := k53.loose0 (World.block_lt_of_cell? _ _ x0_0) x0_f0
              replace A0_0 := k53.cell0 A0_0
              replace A1_0 := k53.cell0 A1_0
              replace cw0_0 := k53.cell0 cw0_0
              replace cw1_0 := k53.cell0 cw1_0
              replace cx0_0 := k53.cell0 cx0_0
              replace cx1_0 := k53.cell0 cx1_0
              replace cg0_0 := k53.cell0 cg0_0
              replace cg1_0 := k53.cell0 cg1_0
              replace x0_0 := k53.cell0 x0_0
              replace K := hide ((unhide K).trans k53)
              have z54 := k53.size
              clear k53
              clear hHeld
              refine hK.out _ _ ?_ (fun hHeld => ?_)
              · exact ⟨A0_0, A1_0⟩
              clear hK KK
              try simp only [Act.put, List.getElem_toArray, List.getElem_cons_succ, List.getElem_cons_zero, List.setIfInBounds_toArray, List.set_cons_zero, List.set_cons_succ]
              refine wpAnyH_ready (rs := [4, 10]) (by kernel_rfl) (by simp) ?_
              refine AllReadyH.cons rfl (fun KK hK => ?_) (AllReadyH.cons rfl (fun KK hK => ?_) AllReadyH.nil)
              · as_aux_lemma =>
                  simp only [List.getElem_toArray, List.getElem_cons_succ, List.getElem_cons_zero]
                  rw [if_pos (by rfl)]
                  have mk := natDiv_impl w53 r70 r71
                  simp only [unhide EL0, unhide EL1, unhide EB2] at mk
                  refine wps2 34 (.tmp 121) (.tmp 123) _ rfl in_impl_NatDiv (.agg #[v70]) (.agg #[v71]) rfl rfl mk ?_
                  rintro e w55 ⟨v90, v91, mm9, rfl, r90, r91, hma9, hmb9, k55⟩
                  refine ⟨_, rfl, ?_⟩
                  clear mk
                  replace r0 := r0.kept k55 (by omega)
                  replace r1 := r1.kept k55 (by omega)
                  replace rw0 := rw0.kept k55 (by omega)
                  replace rw1 := rw1.kept k55 (by omega)
                  replace rm0 := rm0.kept k55 (by omega)
                  replace rm1 := rm1.kept k55 (by omega)
                  replace r70 := r70.kept k55 (by omega)
                  replace r71 := r71.kept k55 (by omega)
                  replace kw := kw.trans k55
                  replace x0_f0 := k55.loose0 (World.block_lt_of_cell? _ _ x0_0) x0_f0
                  replace A0_0 := k55.cell0 A0_0
                  replace A1_0 := k55.cell0 A1_0
                  replace cw0_0 := k55.cell0 cw0_0
                  replace cw1_0 := k55.cell0 cw1_0
                  replace cx0_0 := k55.cell0 cx0_0
                  replace cx1_0 := k55.cell0 cx1_0
                  replace cg0_0 := k55.cell0 cg0_0
                  replace cg1_0 := k55.cell0 cg1_0
                  replace x0_0 := k55.cell0 x0_0
                  replace K := hide ((unhide K).trans k55)
                  have z56 := k55.size
                  obtain ⟨a90, d90, hv⟩ := Row.form' r90
                  subst hv
                  obtain ⟨a91, d91, hv⟩ := Row.form' r91
                  subst hv
                  clear k55
                  clear hHeld
                  refine hK.out _ _ ?_ (fun hHeld => ?_)
                  · exact ⟨A0_0, A1_0⟩
                  clear hK KK
                  try simp only [Act.put, List.getElem_toArray, List.getElem_cons_succ, List.getElem_cons_zero, List.setIfInBounds_toArray, List.set_cons_zero, List.set_cons_succ]
                  refine wpAnyH_take (i := 5) (oi := _) (v := .tuple #[.agg #[.slice a90 L0.length d90], .agg #[.slice a91 L1.length d91], .bool B2]) rfl (by kernel_rfl) (by kernel_rfl) (by kernel_rfl) (fun _ _ _ h => h) (Or.inl ⟨by rfl, ?_⟩) hHeld ?_
                  · intro wq hSw
                    try dsimp only at hSw
                    go_simp
                  try simp only [Act.put, List.getElem_toArray, List.getElem_cons_succ, List.getElem_cons_zero, List.setIfInBounds_toArray, List.set_cons_zero, List.set_cons_succ]
                  refine wpAnyH_take (i := 6) (oi := _) (v := .agg #[.slice a90 L0.length d90]) rfl (by kernel_rfl) (by kernel_rfl) (by kernel_rfl) (fun _ _ _ h => h) (Or.inl ⟨by rfl, ?_⟩) hHeld ?_
                  · intro wq hSw
                    try dsimp only at hSw
                    go_simp
                  try simp only [Act.put, List.getElem_toArray, List.getElem_cons_succ, List.getElem_cons_zero, List.setIfInBounds_toArray, List.set_cons_zero, List.set_cons_succ]
                  refine wpAnyH_take (i := 7) (oi := _) (v := .agg #[.slice a91 L1.length d91]) rfl (by kernel_rfl) (by kernel_rfl) (by kernel_rfl) (fun _ _ _ h => h) (Or.inl ⟨by rfl, ?_⟩) hHeld ?_
                  · intro wq hSw
                    try dsimp only at hSw
                    go_simp
                  try simp only [Act.put, List.getElem_toArray, List.getElem_cons_succ, List.getElem_cons_zero, List.setIfInBounds_toArray, List.set_cons_zero, List.set_cons_succ]
                  refine wpAnyH_take (i := 8) (oi := _) (v := .bool B2) rfl (by kernel_rfl) (by kernel_rfl) (by kernel_rfl) (fun _ _ _ h => h) (Or.inl ⟨by rfl, ?_⟩) hHeld ?_
                  · intro wq hSw
                    try dsimp only at hSw
                    go_simp
                  try simp only [Act.put, List.getElem_toArray, List.getElem_cons_succ, List.getElem_cons_zero, List.setIfInBounds_toArray, List.set_cons_zero, List.set_cons_succ]
                  refine wpAnyH_ready (rs := [10]) (by kernel_rfl) (by simp) ?_
                  refine AllReadyH.cons rfl (fun KK hK => ?_) AllReadyH.nil
                  · simp only [List.getElem_toArray, List.getElem_cons_succ, List.getElem_cons_zero]
                    rw [if_pos (by rfl)]
                    go_simp
                    have kn := (Kept.refl 0 0 w55).alloc (.cells #[.slice none 0 0] 26)
                    replace r0 := r0.kept kn (by omega)
                    replace r1 := r1.kept kn (by omega)
                    replace rw0 := rw0.kept kn (by omega)
                    replace rw1 := rw1.kept kn (by omega)
                    replace rm0 := rm0.kept kn (by omega)
                    replace rm1 := rm1.kept kn (by omega)
                    replace r70 := r70.kept kn (by omega)
                    replace r71 := r71.kept kn (by omega)
                    replace r90 := r90.kept kn (by omega)
                    replace r91 := r91.kept kn (by omega)
                    replace kw := kw.trans kn
                    replace x0_f0 := kn.loose0 (World.block_lt_of_cell? _ _ x0_0) x0_f0
                    replace A0_0 := kn.cell0 A0_0
                    replace A1_0 := kn.cell0 A1_0
                    replace cw0_0 := kn.cell0 cw0_0
                    replace cw1_0 := kn.cell0 cw1_0
                    replace cx0_0 := kn.cell0 cx0_0
                    replace cx1_0 := kn.cell0 cx1_0
                    replace cg0_0 := kn.cell0 cg0_0
                    replace cg1_0 := kn.cell0 cg1_0
                    replace x0_0 := kn.cell0 x0_0
                    replace K := hide ((unhide K).trans kn)
                    have z58 := kn.size
                    clear kn
                    have szx1_ : w55.heap.size < (w55.alloc (.cells #[.slice none 0 0] 26)).heap.size := by simp
                    have x1_0 : (w55.alloc (.cells #[.slice none 0 0] 26)).cell? ⟨w55.heap.size, 0, none⟩ = some (.slice none 0 0) := new_cell2 _ _ _ _ _ _ rfl rfl
                    have x1_f0 : (w55.alloc (.cells #[.slice none 0 0] 26)).frozen? ⟨w55.heap.size, 0, none⟩ = false := new_loose2 _ _ _ _ _ rfl
                    clear hHeld
                    refine hK.out _ _ ?_ (fun hHeld => ?_)
                    · exact ⟨A0_0, A1_0⟩
                    clear hK KK
                    try simp only [Act.put, List.getElem_toArray, List.getElem_cons_succ, List.getElem_cons_zero, List.setIfInBounds_toArray, List.set_cons_zero, List.set_cons_succ]
                    generalize w55.alloc (.cells #[.slice none 0 0] 26) = w57 at *
                    refine wpAnyH_ready (rs := [11]) (by kernel_rfl) (by simp) ?_
                    refine AllReadyH.cons rfl (fun KK hK => ?_) AllReadyH.nil
                    simp only [List.getElem_toArray, List.getElem_cons_succ, List.getElem_cons_zero]
                    rw [if_pos (by rfl)]
                    go_simp
                    clear hHeld
                    refine hK.out _ _ ?_ (fun hHeld => ?_)
                    · exact ⟨(cell_aside _ (by have := unhide S0; dsimp only; omega) A0_0), (cell_aside _ (by have := unhide S0; dsimp only; omega) A1_0)⟩
                    clear hK KK
                    try simp only [Act.put, List.getElem_toArray, List.getElem_cons_succ, List.getElem_cons_zero, List.setIfInBounds_toArray, List.set_cons_zero, List.set_cons_succ]
                    refine wpAnyH_ready (rs := [12]) (by kernel_rfl) (by simp) ?_
                    refine AllReadyH.cons rfl (fun KK hK => ?_) AllReadyH.nil
                    simp only [List.getElem_toArray, List.getElem_cons_succ, List.getElem_cons_zero]
                    rw [if_pos (by rfl)]
                    go_simp
                    clear hHeld
                    refine hK.out _ _ ?_ (fun hHeld => ?_)
                    · exact ⟨(cell_aside _ (by have := unhide S0; dsimp only; omega) (cell_aside _ (by have := unhide S0; dsimp only; omega) A0_0)), (cell_aside _ (by have := unhide S0; dsimp only; omega) (cell_aside _ (by have := unhide S0; dsimp only; omega) A1_0))⟩
                    clear hK KK
                    try simp only [Act.put, List.getElem_toArray, List.getElem_cons_succ, List.getElem_cons_zero, List.setIfInBounds_toArray, List.set_cons_zero, List.set_cons_succ]
                    refine wpAnyH_take (i := 13) (oi := _) (v := .bool B2) rfl (by kernel_rfl) (by kernel_rfl) (by kernel_rfl) (fun _ _ _ h => h) (Or.inl ⟨by rfl, ?_⟩) hHeld ?_
                    · intro wq hSw
                      try dsimp only at hSw
                      go_simp
                    try simp only [Act.put, List.getElem_toArray, List.getElem_cons_succ, List.getElem_cons_zero, List.setIfInBounds_toArray, List.set_cons_zero, List.set_cons_succ]
                    refine wpAnyH_done (by kernel_rfl) ?_ _
                    clear hHeld
                    go_wp2_with fail
                    go_meet
                    exact ⟨_, _, _, _, rfl, rfl, rfl, law_setNN kw x0_0 x1_0 r90 r91 (by omega) (by omega) (by omega) (by omega) (by omega) (by omega) (by omega) (by omega) (by omega)⟩
              · as_aux_lemma =>
                  simp only [List.getElem_toArray, List.getElem_cons_succ, List.getElem_cons_zero]
                  rw [if_pos (by rfl)]
                  go_simp
                  have kn := (Kept.refl 0 0 w53).alloc (.cells #[.slice none 0 0] 26)
                  replace r0 := r0.kept kn (by omega)
                  replace r1 := r1.kept kn (by omega)
                  replace rw0 := rw0.kept kn (by omega)
                  replace rw1 := rw1.kept kn (by omega)
                  replace rm0 := rm0.kept kn (by omega)
                  replace rm1 := rm1.kept kn (by omega)
                  replace r70 := r70.kept kn (by omega)
                  replace r71 := r71.kept kn (by omega)
                  replace kw := kw.trans kn
                  replace x0_f0 := kn.loose0 (World.block_lt_of_cell? _ _ x0_0) x0_f0
                  replace A0_0 := kn.cell0 A0_0
                  replace A1_0 := kn.cell0 A1_0
                  replace cw0_0 := kn.cell0 cw0_0
                  replace cw1_0 := kn.cell0 cw1_0
                  replace cx0_0 := kn.cell0 cx0_0
                  replace cx1_0 := kn.cell0 cx1_0
                  replace cg0_0 := kn.cell0 cg0_0
                  replace cg1_0 := kn.cell0 cg1_0
                  replace x0_0 := kn.cell0 x0_0
                  replace K := hide ((unhide K).trans kn)
                  have z56 := kn.size
                  clear kn
                  have szx1_ : w53.heap.size < (w53.alloc (.cells #[.slice none 0 0] 26)).heap.size := by simp
                  have x1_0 : (w53.alloc (.cells #[.slice none 0 0] 26)).cell? ⟨w53.heap.size, 0, none⟩ = some (.slice none 0 0) := new_cell2 _ _ _ _ _ _ rfl rfl
                  have x1_f0 : (w53.alloc (.cells #[.slice none 0 0] 26)).frozen? ⟨w53.heap.size, 0, none⟩ = false := new_loose2 _ _ _ _ _ rfl
                  clear hHeld
                  refine hK.out _ _ ?_ (fun hHeld => ?_)
                  · exact ⟨A0_0, A1_0⟩
                  clear hK KK
                  try simp only [Act.put, List.getElem_toArray, List.getElem_cons_succ, List.getElem_cons_zero, List.setIfInBounds_toArray, List.set_cons_zero, List.set_cons_succ]
                  generalize w53.alloc (.cells #[.slice none 0 0] 26) = w55 at *
                  refine wpAnyH_ready (rs := [4]) (by kernel_rfl) (by simp) ?_
                  refine AllReadyH.cons rfl (fun KK hK => ?_) AllReadyH.nil
                  · simp only [List.getElem_toArray, List.getElem_cons_succ, List.getElem_cons_zero]
                    rw [if_pos (by rfl)]
                    have mk := natDiv_impl w55 r70 r71
                    simp only [unhide EL0, unhide EL1, unhide EB2] at mk
                    refine wps2 34 (.tmp 121) (.tmp 123) _ rfl in_impl_NatDiv (.agg #[v70]) (.agg #[v71]) rfl rfl mk ?_
                    rintro e w57 ⟨v90, v91, mm9, rfl, r90, r91, hma9, hmb9, k57⟩
                    refine ⟨_, rfl, ?_⟩
                    clear mk
                    replace r0 := r0.kept k57 (by omega)
                    replace r1 := r1.kept k57 (by omega)
                    replace rw0 := rw0.kept k57 (by omega)
                    replace rw1 := rw1.kept k57 (by omega)
                    replace rm0 := rm0.kept k57 (by omega)
                    replace rm1 := rm1.kept k57 (by omega)
                    replace r70 := r70.kept k57 (by omega)
                    replace r71 := r71.kept k57 (by omega)
                    replace kw := kw.trans k57
                    replace x0_f0 := k57.loose0 (World.block_lt_of_cell? _ _ x0_0) x0_f0
                    replace x1_f0 := k57.loose0 (World.block_lt_of_cell? _ _ x1_0) x1_f0
                    replace A0_0 := k57.cell0 A0_0
                    replace A1_0 := k57.cell0 A1_0
                    replace cw0_0 := k57.cell0 cw0_0
                    replace cw1_0 := k57.cell0 cw1_0
                    replace cx0_0 := k57.cell0 cx0_0
                    replace cx1_0 := k57.cell0 cx1_0
                    replace cg0_0 := k57.cell0 cg0_0
                    replace cg1_0 := k57.cell0 cg1_0
                    replace x0_0 := k57.cell0 x0_0
                    replace x1_0 := k57.cell0 x1_0
                    replace K := hide ((unhide K).trans k57)
                    have z58 := k57.size
                    obtain ⟨a90, d90, hv⟩ := Row.form' r90
                    subst hv
                    obtain ⟨a91, d91, hv⟩ := Row.form' r91
                    subst hv
                    clear k57
                    clear hHeld
                    refine hK.out _ _ ?_ (fun hHeld => ?_)
                    · exact ⟨A0_0, A1_0⟩
                    clear hK KK
                    try simp only [Act.put, List.getElem_toArray, List.getElem_cons_succ, List.getElem_cons_zero, List.setIfInBounds_toArray, List.set_cons_zero, List.set_cons_succ]
                    refine wpAnyH_take (i := 5) (oi := _) (v := .tuple #[.agg #[.slice a90 L0.length d90], .agg #[.slice a91 L1.length d91], .bool B2]) rfl (by kernel_rfl) (by kernel_rfl) (by kernel_rfl) (fun _ _ _ h => h) (Or.inl ⟨by rfl, ?_⟩) hHeld ?_
                    · intro wq hSw
                      try dsimp only at hSw
                      go_simp
                    try simp only [Act.put, List.getElem_toArray, List.getElem_cons_succ, List.getElem_cons_zero, List.setIfInBounds_toArray, List.set_cons_zero, List.set_cons_succ]
                    refine wpAnyH_take (i := 6) (oi := _) (v := .agg #[.slice a90 L0.length d90]) rfl (by kernel_rfl) (by kernel_rfl) (by kernel_rfl) (fun _ _ _ h => h) (Or.inl ⟨by rfl, ?_⟩) hHeld ?_
                    · intro wq hSw
                      try dsimp only at hSw
                      go_simp
                    try simp only [Act.put, List.getElem_toArray, List.getElem_cons_succ, List.getElem_cons_zero, List.setIfInBounds_toArray, List.set_cons_zero, List.set_cons_succ]
                    refine wpAnyH_take (i := 7) (oi := _) (v := .agg #[.slice a91 L1.length d91]) rfl (by kernel_rfl) (by kernel_rfl) (by kernel_rfl) (fun _ _ _ h => h) (Or.inl ⟨by rfl, ?_⟩) hHeld ?_
                    · intro wq hSw
                      try dsimp only at hSw
                      go_simp
                    try simp only [Act.put, List.getElem_toArray, List.getElem_cons_succ, List.getElem_cons_zero, List.setIfInBounds_toArray, List.set_cons_zero, List.set_cons_succ]
                    refine wpAnyH_take (i := 8) (oi := _) (v := .bool B2) rfl (by kernel_rfl) (by kernel_rfl) (by kernel_rfl) (fun _ _ _ h => h) (Or.inl ⟨by rfl, ?_⟩) hHeld ?_
                    · intro wq hSw
                      try dsimp only at hSw
                      go_simp
                    try simp only [Act.put, List.getElem_toArray, List.getElem_cons_succ, List.getElem_cons_zero, List.setIfInBounds_toArray, List.set_cons_zero, List.set_cons_succ]
                    refine wpAnyH_ready (rs := [11]) (by kernel_rfl) (by simp) ?_
                    refine AllReadyH.cons rfl (fun KK hK => ?_) AllReadyH.nil
                    simp only [List.getElem_toArray, List.getElem_cons_succ, List.getElem_cons_zero]
                    rw [if_pos (by rfl)]
                    go_simp
                    clear hHeld
                    refine hK.out _ _ ?_ (fun hHeld => ?_)
                    · exact ⟨(cell_aside _ (by have := unhide S0; dsimp only; omega) A0_0), (cell_aside _ (by have := unhide S0; dsimp only; omega) A1_0)⟩
                    clear hK KK
                    try simp only [Act.put, List.getElem_toArray, List.getElem_cons_succ, List.getElem_cons_zero, List.setIfInBounds_toArray, List.set_cons_zero, List.set_cons_succ]
                    refine wpAnyH_ready (rs := [12]) (by kernel_rfl) (by simp) ?_
                    refine AllReadyH.cons rfl (fun KK hK => ?_) AllReadyH.nil
                    simp only [List.getElem_toArray, List.getElem_cons_succ, List.getElem_cons_zero]
                    rw [if_pos (by rfl)]
                    go_simp
                    clear hHeld
                    refine hK.out _ _ ?_ (fun hHeld => ?_)
                    · exact ⟨(cell_aside _ (by have := unhide S0; dsimp only; omega) (cell_aside _ (by have := unhide S0; dsimp only; omega) A0_0)), (cell_aside _ (by have := unhide S0; dsimp only; omega) (cell_aside _ (by have := unhide S0; dsimp only; omega) A1_0))⟩
                    clear hK KK
                    try simp only [Act.put, List.getElem_toArray, List.getElem_cons_succ, List.getElem_cons_zero, List.setIfInBounds_toArray, List.set_cons_zero, List.set_cons_succ]
                    refine wpAnyH_take (i := 13) (oi := _) (v := .bool B2) rfl (by kernel_rfl) (by kernel_rfl) (by kernel_rfl) (fun _ _ _ h => h) (Or.inl ⟨by rfl, ?_⟩) hHeld ?_
                    · intro wq hSw
                      try dsimp only at hSw
                      go_simp
                    try simp only [Act.put, List.getElem_toArray, List.getElem_cons_succ, List.getElem_cons_zero, List.setIfInBounds_toArray, List.set_cons_zero, List.set_cons_succ]
                    refine wpAnyH_done (by kernel_rfl) ?_ _
                    clear hHeld
                    go_wp2_with fail
                    go_meet
                    exact ⟨_, _, _, _, rfl, rfl, rfl, law_setNN kw x0_0 x1_0 r90 r91 (by omega) (by omega) (by omega) (by omega) (by omega) (by omega) (by omega) (by omega) (by omega)⟩
            · simp only [List.getElem_toArray, List.getElem_cons_succ, List.getElem_cons_zero]
              rw [if_pos (by rfl)]
              go_simp
              have kn := (Kept.refl 0 0 w51).alloc (.cells #[.slice none 0 0] 26)
              replace r0 := r0.kept kn (by omega)
              replace r1 := r1.kept kn (by omega)
              replace rw0 := rw0.kept kn (by omega)
              replace rw1 := rw1.kept kn (by omega)
              replace rm0 := rm0.kept kn (by omega)
              replace rm1 := rm1.kept kn (by omega)
              replace r70 := r70.kept kn (by omega)
              replace kw := kw.trans kn
              replace x0_f0 := kn.loose0 (World.block_lt_of_cell? _ _ x0_0) x0_f0
              replace A0_0 := kn.cell0 A0_0
              replace A1_0 := kn.cell0 A1_0
              replace cw0_0 := kn.cell0 cw0_0
              replace cw1_0 := kn.cell0 cw1_0
              replace cx0_0 := kn.cell0 cx0_0
              replace cx1_0 := kn.cell0 cx1_0
              replace cg0_0 := kn.cell0 cg0_0
              replace cg1_0 := kn.cell0 cg1_0
              replace x0_0 := kn.cell0 x0_0
              replace K := hide ((unhide K).trans kn)
              have z54 := kn.size
              clear kn
              have szx1_ : w51.heap.size < (w51.alloc (.cells #[.slice none 0 0] 26)).heap.size := by simp
              have x1_0 : (w51.alloc (.cells #[.slice none 0 0] 26)).cell? ⟨w51.heap.size, 0, none⟩ = some (.slice none 0 0) := new_cell2 _ _ _ _ _ _ rfl rfl
              have x1_f0 : (w51.alloc (.cells #[.slice none 0 0] 26)).frozen? ⟨w51.heap.size, 0, none⟩ = false := new_loose2 _ _ _ _ _ rfl
              clear hHeld
              refine hK.out _ _ ?_ (fun hHeld => ?_)
              · exact ⟨A0_0, A1_0⟩
              clear hK KK
              try simp only [Act.put, List.getElem_toArray, List.getElem_cons_succ, List.getElem_cons_zero, List.setIfInBounds_toArray, List.set_cons_zero, List.set_cons_succ]
              generalize w51.alloc (.cells #[.slice none 0 0] 26) = w53 at *
              refine wpAnyH_ready (rs := [3]) (by kernel_rfl) (by simp) ?_
              refine AllReadyH.cons rfl (fun KK hK => ?_) AllReadyH.nil
              · as_aux_lemma =>
                  simp only [List.getElem_toArray, List.getElem_cons_succ, List.getElem_cons_zero]
                  rw [if_pos (by rfl)]
                  refine wps1 60 (.tmp 122) _ rfl in_toN (.agg #[.slice a1 z1.length c1]) rfl (toNat_any _ hn1 r1) ?_
                  rintro e w55 ⟨v71, rfl, r71, k55⟩
                  refine ⟨_, rfl, ?_⟩
                  replace r0 := r0.kept k55 (by omega)
                  replace r1 := r1.kept k55 (by omega)
                  replace rw0 := rw0.kept k55 (by omega)
                  replace rw1 := rw1.kept k55 (by omega)
                  replace rm0 := rm0.kept k55 (by omega)
                  replace rm1 := rm1.kept k55 (by omega)
                  replace r70 := r70.kept k55 (by omega)
                  replace kw := kw.trans k55
                  replace x0_f0 := k55.loose0 (World.block_lt_of_cell? _ _ x0_0) x0_f0
                  replace x1_f0 := k55.loose0 (World.block_lt_of_cell? _ _ x1_0) x1_f0
                  replace A0_0 := k55.cell0 A0_0
                  replace A1_0 := k55.cell0 A1_0
                  replace cw0_0 := k55.cell0 cw0_0
                  replace cw1_0 := k55.cell0 cw1_0
                  replace cx0_0 := k55.cell0 cx0_0
                  replace cx1_0 := k55.cell0 cx1_0
                  replace cg0_0 := k55.cell0 cg0_0
                  replace cg1_0 := k55.cell0 cg1_0
                  replace x0_0 := k55.cell0 x0_0
                  replace x1_0 := k55.cell0 x1_0
                  replace K := hide ((unhide K).trans k55)
                  have z56 := k55.size
                  clear k55
                  clear hHeld
                  refine hK.out _ _ ?_ (fun hHeld => ?_)
                  · exact ⟨A0_0, A1_0⟩
                  clear hK KK
                  try simp only [Act.put, List.getElem_toArray, List.getElem_cons_succ, List.getElem_cons_zero, List.setIfInBounds_toArray, List.set_cons_zero, List.set_cons_succ]
                  refine wpAnyH_ready (rs := [4]) (by kernel_rfl) (by simp) ?_
                  refine AllReadyH.cons rfl (fun KK hK => ?_) AllReadyH.nil
                  · simp only [List.getElem_toArray, List.getElem_cons_succ, List.getElem_cons_zero]
                    rw [if_pos (by rfl)]
                    have mk := natDiv_impl w55 r70 r71
                    simp only [unhide EL0, unhide EL1, unhide EB2] at mk
                    refine wps2 34 (.tmp 121) (.tmp 123) _ rfl in_impl_NatDiv (.agg #[v70]) (.agg #[v71]) rfl rfl mk ?_
                    rintro e w57 ⟨v90, v91, mm9, rfl, r90, r91, hma9, hmb9, k57⟩
                    refine ⟨_, rfl, ?_⟩
                    clear mk
                    replace r0 := r0.kept k57 (by omega)
                    replace r1 := r1.kept k57 (by omega)
                    replace rw0 := rw0.kept k57 (by omega)
                    replace rw1 := rw1.kept k57 (by omega)
                    replace rm0 := rm0.kept k57 (by omega)
                    replace rm1 := rm1.kept k57 (by omega)
                    replace r70 := r70.kept k57 (by omega)
                    replace r71 := r71.kept k57 (by omega)
                    replace kw := kw.trans k57
                    replace x0_f0 := k57.loose0 (World.block_lt_of_cell? _ _ x0_0) x0_f0
                    replace x1_f0 := k57.loose0 (World.block_lt_of_cell? _ _ x1_0) x1_f0
                    replace A0_0 := k57.cell0 A0_0
                    replace A1_0 := k57.cell0 A1_0
                    replace cw0_0 := k57.cell0 cw0_0
                    replace cw1_0 := k57.cell0 cw1_0
                    replace cx0_0 := k57.cell0 cx0_0
                    replace cx1_0 := k57.cell0 cx1_0
                    replace cg0_0 := k57.cell0 cg0_0
                    replace cg1_0 := k57.cell0 cg1_0
                    replace x0_0 := k57.cell0 x0_0
                    replace x1_0 := k57.cell0 x1_0
                    replace K := hide ((unhide K).trans k57)
                    have z58 := k57.size
                    obtain ⟨a90, d90, hv⟩ := Row.form' r90
                    subst hv
                    obtain ⟨a91, d91, hv⟩ := Row.form' r91
                    subst hv
                    clear k57
                    clear hHeld
                    refine hK.out _ _ ?_ (fun hHeld => ?_)
                    · exact ⟨A0_0, A1_0⟩
                    clear hK KK
                    try simp only [Act.put, List.getElem_toArray, List.getElem_cons_succ, List.getElem_cons_zero, List.setIfInBounds_toArray, List.set_cons_zero, List.set_cons_succ]
                    refine wpAnyH_take (i := 5) (oi := _) (v := .tuple #[.agg #[.slice a90 L0.length d90], .agg #[.slice a91 L1.length d91], .bool B2]) rfl (by kernel_rfl) (by kernel_rfl) (by kernel_rfl) (fun _ _ _ h => h) (Or.inl ⟨by rfl, ?_⟩) hHeld ?_
                    · intro wq hSw
                      try dsimp only at hSw
                      go_simp
                    try simp only [Act.put, List.getElem_toArray, List.getElem_cons_succ, List.getElem_cons_zero, List.setIfInBounds_toArray, List.set_cons_zero, List.set_cons_succ]
                    refine wpAnyH_take (i := 6) (oi := _) (v := .agg #[.slice a90 L0.length d90]) rfl (by kernel_rfl) (by kernel_rfl) (by kernel_rfl) (fun _ _ _ h => h) (Or.inl ⟨by rfl, ?_⟩) hHeld ?_
                    · intro wq hSw
                      try dsimp only at hSw
                      go_simp
                    try simp only [Act.put, List.getElem_toArray, List.getElem_cons_succ, List.getElem_cons_zero, List.setIfInBounds_toArray, List.set_cons_zero, List.set_cons_succ]
                    refine wpAnyH_take (i := 7) (oi := _) (v := .agg #[.slice a91 L1.length d91]) rfl (by kernel_rfl) (by kernel_rfl) (by kernel_rfl) (fun _ _ _ h => h) (Or.inl ⟨by rfl, ?_⟩) hHeld ?_
                    · intro wq hSw
                      try dsimp only at hSw
                      go_simp
                    try simp only [Act.put, List.getElem_toArray, List.getElem_cons_succ, List.getElem_cons_zero, List.setIfInBounds_toArray, List.set_cons_zero, List.set_cons_succ]
                    refine wpAnyH_take (i := 8) (oi := _) (v := .bool B2) rfl (by kernel_rfl) (by kernel_rfl) (by kernel_rfl) (fun _ _ _ h => h) (Or.inl ⟨by rfl, ?_⟩) hHeld ?_
                    · intro wq hSw
                      try dsimp only at hSw
                      go_simp
                    try simp only [Act.put, List.getElem_toArray, List.getElem_cons_succ, List.getElem_cons_zero, List.setIfInBounds_toArray, List.set_cons_zero, List.set_cons_succ]
                    refine wpAnyH_ready (rs := [11]) (by kernel_rfl) (by simp) ?_
                    refine AllReadyH.cons rfl (fun KK hK => ?_) AllReadyH.nil
                    simp only [List.getElem_toArray, List.getElem_cons_succ, List.getElem_cons_zero]
                    rw [if_pos (by rfl)]
                    go_simp
                    clear hHeld
                    refine hK.out _ _ ?_ (fun hHeld => ?_)
                    · exact ⟨(cell_aside _ (by have := unhide S0; dsimp only; omega) A0_0), (cell_aside _ (by have := unhide S0; dsimp only; omega) A1_0)⟩
                    clear hK KK
                    try simp only [Act.put, List.getElem_toArray, List.getElem_cons_succ, List.getElem_cons_zero, List.setIfInBounds_toArray, List.set_cons_zero, List.set_cons_succ]
                    refine wpAnyH_ready (rs := [12]) (by kernel_rfl) (by simp) ?_
                    refine AllReadyH.cons rfl (fun KK hK => ?_) AllReadyH.nil
                    simp only [List.getElem_toArray, List.getElem_cons_succ, List.getElem_cons_zero]
                    rw [if_pos (by rfl)]
                    go_simp
                    clear hHeld
                    refine hK.out _ _ ?_ (fun hHeld => ?_)
                    · exact ⟨(cell_aside _ (by have := unhide S0; dsimp only; omega) (cell_aside _ (by have := unhide S0; dsimp only; omega) A0_0)), (cell_aside _ (by have := unhide S0; dsimp only; omega) (cell_aside _ (by have := unhide S0; dsimp only; omega) A1_0))⟩
                    clear hK KK
                    try simp only [Act.put, List.getElem_toArray, List.getElem_cons_succ, List.getElem_cons_zero, List.setIfInBounds_toArray, List.set_cons_zero, List.set_cons_succ]
                    refine wpAnyH_take (i := 13) (oi := _) (v := .bool B2) rfl (by kernel_rfl) (by kernel_rfl) (by kernel_rfl) (fun _ _ _ h => h) (Or.inl ⟨by rfl, ?_⟩) hHeld ?_
                    · intro wq hSw
                      try dsimp only at hSw
                      go_simp
                    try simp only [Act.put, List.getElem_toArray, List.getElem_cons_succ, List.getElem_cons_zero, List.setIfInBounds_toArray, List.set_cons_zero, List.set_cons_succ]
                    refine wpAnyH_done (by kernel_rfl) ?_ _
                    clear hHeld
                    go_wp2_with fail
                    go_meet
                    exact ⟨_, _, _, _, rfl, rfl, rfl, law_setNN kw x0_0 x1_0 r90 r91 (by omega) (by omega) (by omega) (by omega) (by omega) (by omega) (by omega) (by omega) (by omega)⟩
        · as_aux_lemma =>
            simp only [List.getElem_toArray, List.getElem_cons_succ, List.getElem_cons_zero]
            rw [if_pos (by rfl)]
            go_simp
            have kn := (Kept.refl 0 0 w49).alloc (.cells #[.slice none 0 0] 26)
            replace r0 := r0.kept kn (by omega)
            replace r1 := r1.kept kn (by omega)
            replace rw0 := rw0.kept kn (by omega)
            replace rw1 := rw1.kept kn (by omega)
            replace rm0 := rm0.kept kn (by omega)
            replace rm1 := rm1.kept kn (by omega)
            replace r70 := r70.kept kn (by omega)
            replace kw := kw.trans kn
            replace A0_0 := kn.cell0 A0_0
            replace A1_0 := kn.cell0 A1_0
            replace cw0_0 := kn.cell0 cw0_0
            replace cw1_0 := kn.cell0 cw1_0
            replace cx0_0 := kn.cell0 cx0_0
            replace cx1_0 := kn.cell0 cx1_0
            replace cg0_0 := kn.cell0 cg0_0
            replace cg1_0 := kn.cell0 cg1_0
            replace K := hide ((unhide K).trans kn)
            have z52 := kn.size
            clear kn
            have szx1_ : w49.heap.size < (w49.alloc (.cells #[.slice none 0 0] 26)).heap.size := by simp
            have x1_0 : (w49.alloc (.cells #[.slice none 0 0] 26)).cell? ⟨w49.heap.size, 0, none⟩ = some (.slice none 0 0) := new_cell2 _ _ _ _ _ _ rfl rfl
            have x1_f0 : (w49.alloc (.cells #[.slice none 0 0] 26)).frozen? ⟨w49.heap.size, 0, none⟩ = false := new_loose2 _ _ _ _ _ rfl
            clear hHeld
            refine hK.out _ _ ?_ (fun hHeld => ?_)
            · exact ⟨A0_0, A1_0⟩
            clear hK KK
            try simp only [Act.put, List.getElem_toArray, List.getElem_cons_succ, List.getElem_cons_zero, List.setIfInBounds_toArray, List.set_cons_zero, List.set_cons_succ]
            generalize w49.alloc (.cells #[.slice none 0 0] 26) = w51 at *
            refine wpAnyH_ready (rs := [3, 9]) (by kernel_rfl) (by simp) ?_
            refine AllReadyH.cons rfl (fun KK hK => ?_) (AllReadyH.cons rfl (fun KK hK => ?_) AllReadyH.nil)
            · simp only [List.getElem_toArray, List.getElem_cons_succ, List.getElem_cons_zero]
              rw [if_pos (by rfl)]
              refine wps1 60 (.tmp 122) _ rfl in_toN (.agg #[.slice a1 z1.length c1]) rfl (toNat_any _ hn1 r1) ?_
              rintro e w53 ⟨v71, rfl, r71, k53⟩
              refine ⟨_, rfl, ?_⟩
              replace r0 := r0.kept k53 (by omega)
              replace r1 := r1.kept k53 (by omega)
              replace rw0 := rw0.kept k53 (by omega)
              replace rw1 := rw1.kept k53 (by omega)
              replace rm0 := rm0.kept k53 (by omega)
              replace rm1 := rm1.kept k53 (by omega)
              replace r70 := r70.kept k53 (by omega)
              replace kw := kw.trans k53
              replace x1_f0 := k53.loose0 (World.block_lt_of_cell? _ _ x1_0) x1_f0
              replace A0_0 := k53.cell0 A0_0
              replace A1_0 := k53.cell0 A1_0
              replace cw0_0 := k53.cell0 cw0_0
              replace cw1_0 := k53.cell0 cw1_0
              replace cx0_0 := k53.cell0 cx0_0
              replace cx1_0 := k53.cell0 cx1_0
              replace cg0_0 := k53.cell0 cg0_0
              replace cg1_0 := k53.cell0 cg1_0
              replace x1_0 := k53.cell0 x1_0
              replace K := hide ((unhide K).trans k53)
              have z54 := k53.size
              clear k53
              clear hHeld
              refine hK.out _ _ ?_ (fun hHeld => ?_)
              · exact ⟨A0_0, A1_0⟩
              clear hK KK
              try simp only [Act.put, List.getElem_toArray, List.getElem_cons_succ, List.getElem_cons_zero, List.setIfInBounds_toArray, List.set_cons_zero, List.set_cons_succ]
              refine wpAnyH_ready (rs := [4, 9]) (by kernel_rfl) (by simp) ?_
              refine AllReadyH.cons rfl (fun KK hK => ?_) (AllReadyH.cons rfl (fun KK hK => ?_) AllReadyH.nil)
              · as_aux_lemma =>
                  simp only [List.getElem_toArray, List.getElem_cons_succ, List.getElem_cons_zero]
                  rw [if_pos (by rfl)]
                  have mk := natDiv_impl w53 r70 r71
                  simp only [unhide EL0, unhide EL1, unhide EB2] at mk
                  refine wps2 34 (.tmp 121) (.tmp 123) _ rfl in_impl_NatDiv (.agg #[v70]) (.agg #[v71]) rfl rfl mk ?_
                  rintro e w55 ⟨v90, v91, mm9, rfl, r90, r91, hma9, hmb9, k55⟩
                  refine ⟨_, rfl, ?_⟩
                  clear mk
                  replace r0 := r0.kept k55 (by omega)
                  replace r1 := r1.kept k55 (by omega)
                  replace rw0 := rw0.kept k55 (by omega)
                  replace rw1 := rw1.kept k55 (by omega)
                  replace rm0 := rm0.kept k55 (by omega)
                  replace rm1 := rm1.kept k55 (by omega)
                  replace r70 := r70.kept k55 (by omega)
                  replace r71 := r71.kept k55 (by omega)
                  replace kw := kw.trans k55
                  replace x1_f0 := k55.loose0 (World.block_lt_of_cell? _ _ x1_0) x1_f0
                  replace A0_0 := k55.cell0 A0_0
                  replace A1_0 := k55.cell0 A1_0
                  replace cw0_0 := k55.cell0 cw0_0
                  replace cw1_0 := k55.cell0 cw1_0
                  replace cx0_0 := k55.cell0 cx0_0
                  replace cx1_0 := k55.cell0 cx1_0
                  replace cg0_0 := k55.cell0 cg0_0
                  replace cg1_0 := k55.cell0 cg1_0
                  replace x1_0 := k55.cell0 x1_0
                  replace K := hide ((unhide K).trans k55)
                  have z56 := k55.size
                  obtain ⟨a90, d90, hv⟩ := Row.form' r90
                  subst hv
                  obtain ⟨a91, d91, hv⟩ := Row.form' r91
                  subst hv
                  clear k55
                  clear hHeld
                  refine hK.out _ _ ?_ (fun hHeld => ?_)
                  · exact ⟨A0_0, A1_0⟩
                  clear hK KK
                  try simp only [Act.put, List.getElem_toArray, List.getElem_cons_succ, List.getElem_cons_zero, List.setIfInBounds_toArray, List.set_cons_zero, List.set_cons_succ]
                  refine wpAnyH_take (i := 5) (oi := _) (v := .tuple #[.agg #[.slice a90 L0.length d90], .agg #[.slice a91 L1.length d91], .bool B2]) rfl (by kernel_rfl) (by kernel_rfl) (by kernel_rfl) (fun _ _ _ h => h) (Or.inl ⟨by rfl, ?_⟩) hHeld ?_
                  · intro wq hSw
                    try dsimp only at hSw
                    go_simp
                  try simp only [Act.put, List.getElem_toArray, List.getElem_cons_succ, List.getElem_cons_zero, List.setIfInBounds_toArray, List.set_cons_zero, List.set_cons_succ]
                  refine wpAnyH_take (i := 6) (oi := _) (v := .agg #[.slice a90 L0.length d90]) rfl (by kernel_rfl) (by kernel_rfl) (by kernel_rfl) (fun _ _ _ h => h) (Or.inl ⟨by rfl, ?_⟩) hHeld ?_
                  · intro wq hSw
                    try dsimp only at hSw
                    go_simp
                  try simp only [Act.put, List.getElem_toArray, List.getElem_cons_succ, List.getElem_cons_zero, List.setIfInBounds_toArray, List.set_cons_zero, List.set_cons_succ]
                  refine wpAnyH_take (i := 7) (oi := _) (v := .agg #[.slice a91 L1.length d91]) rfl (by kernel_rfl) (by kernel_rfl) (by kernel_rfl) (fun _ _ _ h => h) (Or.inl ⟨by rfl, ?_⟩) hHeld ?_
                  · intro wq hSw
                    try dsimp only at hSw
                    go_simp
                  try simp only [Act.put, List.getElem_toArray, List.getElem_cons_succ, List.getElem_cons_zero, List.setIfInBounds_toArray, List.set_cons_zero, List.set_cons_succ]
                  refine wpAnyH_take (i := 8) (oi := _) (v := .bool B2) rfl (by kernel_rfl) (by kernel_rfl) (by kernel_rfl) (fun _ _ _ h => h) (Or.inl ⟨by rfl, ?_⟩) hHeld ?_
                  · intro wq hSw
                    try dsimp only at hSw
                    go_simp
                  try simp only [Act.put, List.getElem_toArray, List.getElem_cons_succ, List.getElem_cons_zero, List.setIfInBounds_toArray, List.set_cons_zero, List.set_cons_succ]
                  refine wpAnyH_ready (rs := [9]) (by kernel_rfl) (by simp) ?_
                  refine AllReadyH.cons rfl (fun KK hK => ?_) AllReadyH.nil
                  · simp only [List.getElem_toArray, List.getElem_cons_succ, List.getElem_cons_zero]
                    rw [if_pos (by rfl)]
                    go_simp
                    have kn := (Kept.refl 0 0 w55).alloc (.cells #[.slice none 0 0] 26)
                    replace r0 := r0.kept kn (by omega)
                    replace r1 := r1.kept kn (by omega)
                    replace rw0 := rw0.kept kn (by omega)
                    replace rw1 := rw1.kept kn (by omega)
                    replace rm0 := rm0.kept kn (by omega)
                    replace rm1 := rm1.kept kn (by omega)
                    replace r70 := r70.kept kn (by omega)
                    replace r71 := r71.kept kn (by omega)
                    replace r90 := r90.kept kn (by omega)
                    replace r91 := r91.kept kn (by omega)
                    replace kw := kw.trans kn
                    replace x1_f0 := kn.loose0 (World.block_lt_of_cell? _ _ x1_0) x1_f0
                    replace A0_0 := kn.cell0 A0_0
                    replace A1_0 := kn.cell0 A1_0
                    replace cw0_0 := kn.cell0 cw0_0
                    replace cw1_0 := kn.cell0 cw1_0
                    replace cx0_0 := kn.cell0 cx0_0
                    replace cx1_0 := kn.cell0 cx1_0
                    replace cg0_0 := kn.cell0 cg0_0
                    replace cg1_0 := kn.cell0 cg1_0
                    replace x1_0 := kn.cell0 x1_0
                    replace K := hide ((unhide K).trans kn)
                    have z58 := kn.size
                    clear kn
                    have szx0_ : w55.heap.size < (w55.alloc (.cells #[.slice none 0 0] 26)).heap.size := by simp
                    have x0_0 : (w55.alloc (.cells #[.slice none 0 0] 26)).cell? ⟨w55.heap.size, 0, none⟩ = some (.slice none 0 0) := new_cell2 _ _ _ _ _ _ rfl rfl
                    have x0_f0 : (w55.alloc (.cells #[.slice none 0 0] 26)).frozen? ⟨w55.heap.size, 0, none⟩ = false := new_loose2 _ _ _ _ _ rfl
                    clear hHeld
                    refine hK.out _ _ ?_ (fun hHeld => ?_)
                    · exact ⟨A0_0, A1_0⟩
                    clear hK KK
                    try simp only [Act.put, List.getElem_toArray, List.getElem_cons_succ, List.getElem_cons_zero, List.setIfInBounds_toArray, List.set_cons_zero, List.set_cons_succ]
                    generalize w55.alloc (.cells #[.slice none 0 0] 26) = w57 at *
                    refine wpAnyH_ready (rs := [11]) (by kernel_rfl) (by simp) ?_
                    refine AllReadyH.cons rfl (fun KK hK => ?_) AllReadyH.nil
                    simp only [List.getElem_toArray, List.getElem_cons_succ, List.getElem_cons_zero]
                    rw [if_pos (by rfl)]
                    go_simp
                    clear hHeld
                    refine hK.out _ _ ?_ (fun hHeld => ?_)
                    · exact ⟨(cell_aside _ (by have := unhide S0; dsimp only; omega) A0_0), (cell_aside _ (by have := unhide S0; dsimp only; omega) A1_0)⟩
                    clear hK KK
                    try simp only [Act.put, List.getElem_toArray, List.getElem_cons_succ, List.getElem_cons_zero, List.setIfInBounds_toArray, List.set_cons_zero, List.set_cons_succ]
                    refine wpAnyH_ready (rs := [12]) (by kernel_rfl) (by simp) ?_
                    refine AllReadyH.cons rfl (fun KK hK => ?_) AllReadyH.nil
                    simp only [List.getElem_toArray, List.getElem_cons_succ, List.getElem_cons_zero]
                    rw [if_pos (by rfl)]
                    go_simp
                    clear hHeld
                    refine hK.out _ _ ?_ (fun hHeld => ?_)
                    · exact ⟨(cell_aside _ (by have := unhide S0; dsimp only; omega) (cell_aside _ (by have := unhide S0; dsimp only; omega) A0_0)), (cell_aside _ (by have := unhide S0; dsimp only; omega) (cell_aside _ (by have := unhide S0; dsimp only; omega) A1_0))⟩
                    clear hK KK
                    try simp only [Act.put, List.getElem_toArray, List.getElem_cons_succ, List.getElem_cons_zero, List.setIfInBounds_toArray, List.set_cons_zero, List.set_cons_succ]
                    refine wpAnyH_take (i := 13) (oi := _) (v := .bool B2) rfl (by kernel_rfl) (by kernel_rfl) (by kernel_rfl) (fun _ _ _ h => h) (Or.inl ⟨by rfl, ?_⟩) hHeld ?_
                    · intro wq hSw
                      try dsimp only at hSw
                      go_simp
                    try simp only [Act.put, List.getElem_toArray, List.getElem_cons_succ, List.getElem_cons_zero, List.setIfInBounds_toArray, List.set_cons_zero, List.set_cons_succ]
                    refine wpAnyH_done (by kernel_rfl) ?_ _
                    clear hHeld
                    go_wp2_with fail
                    go_meet
                    exact ⟨_, _, _, _, rfl, rfl, rfl, law_setNN kw x0_0 x1_0 r90 r91 (by omega) (by omega) (by omega) (by omega) (by omega) (by omega) (by omega) (by omega) (by omega)⟩
              · as_aux_lemma =>
                  simp only [List.getElem_toArray, List.getElem_cons_succ, List.getElem_cons_zero]
                  rw [if_pos (by rfl)]
                  go_simp
                  have kn := (Kept.refl 0 0 w53).alloc (.cells #[.slice none 0 0] 26)
                  replace r0 := r0.kept kn (by omega)
                  replace r1 := r1.kept kn (by omega)
                  replace rw0 := rw0.kept kn (by omega)
                  replace rw1 := rw1.kept kn (by omega)
                  replace rm0 := rm0.kept kn (by omega)
                  replace rm1 := rm1.kept kn (by omega)
                  replace r70 := r70.kept kn (by omega)
                  replace r71 := r71.kept kn (by omega)
                  replace kw := kw.trans kn
                  replace x1_f0 := kn.loose0 (World.block_lt_of_cell? _ _ x1_0) x1_f0
                  replace A0_0 := kn.cell0 A0_0
                  replace A1_0 := kn.cell0 A1_0
                  replace cw0_0 := kn.cell0 cw0_0
                  replace cw1_0 := kn.cell0 cw1_0
                  replace cx0_0 := kn.cell0 cx0_0
                  replace cx1_0 := kn.cell0 cx1_0
                  replace cg0_0 := kn.cell0 cg0_0
                  replace cg1_0 := kn.cell0 cg1_0
                  replace x1_0 := kn.cell0 x1_0
                  replace K := hide ((unhide K).trans kn)
                  have z56 := kn.size
                  clear kn
                  have szx0_ : w53.heap.size < (w53.alloc (.cells #[.slice none 0 0] 26)).heap.size := by simp
                  have x0_0 : (w53.alloc (.cells #[.slice none 0 0] 26)).cell? ⟨w53.heap.size, 0, none⟩ = some (.slice none 0 0) := new_cell2 _ _ _ _ _ _ rfl rfl
                  have x0_f0 : (w53.alloc (.cells #[.slice none 0 0] 26)).frozen? ⟨w53.heap.size, 0, none⟩ = false := new_loose2 _ _ _ _ _ rfl
                  clear hHeld
                  refine hK.out _ _ ?_ (fun hHeld => ?_)
                  · exact ⟨A0_0, A1_0⟩
                  clear hK KK
                  try simp only [Act.put, List.getElem_toArray, List.getElem_cons_succ, List.getElem_cons_zero, List.setIfInBounds_toArray, List.set_cons_zero, List.set_cons_succ]
                  generalize w53.alloc (.cells #[.slice none 0 0] 26) = w55 at *
                  refine wpAnyH_ready (rs := [4]) (by kernel_rfl) (by simp) ?_
                  refine AllReadyH.cons rfl (fun KK hK => ?_) AllReadyH.nil
                  · simp only [List.getElem_toArray, List.getElem_cons_succ, List.getElem_cons_zero]
                    rw [if_pos (by rfl)]
                    have mk := natDiv_impl w55 r70 r71
                    simp only [unhide EL0, unhide EL1, unhide EB2] at mk
                    refine wps2 34 (.tmp 121) (.tmp 123) _ rfl in_impl_NatDiv (.agg #[v70]) (.agg #[v71]) rfl rfl mk ?_
                    rintro e w57 ⟨v90, v91, mm9, rfl, r90, r91, hma9, hmb9, k57⟩
                    refine ⟨_, rfl, ?_⟩
                    clear mk
                    replace r0 := r0.kept k57 (by omega)
                    replace r1 := r1.kept k57 (by omega)
                    replace rw0 := rw0.kept k57 (by omega)
                    replace rw1 := rw1.kept k57 (by omega)
                    replace rm0 := rm0.kept k57 (by omega)
                    replace rm1 := rm1.kept k57 (by omega)
                    replace r70 := r70.kept k57 (by omega)
                    replace r71 := r71.kept k57 (by omega)
                    replace kw := kw.trans k57
                    replace x1_f0 := k57.loose0 (World.block_lt_of_cell? _ _ x1_0) x1_f0
                    replace x0_f0 := k57.loose0 (World.block_lt_of_cell? _ _ x0_0) x0_f0
                    replace A0_0 := k57.cell0 A0_0
                    replace A1_0 := k57.cell0 A1_0
                    replace cw0_0 := k57.cell0 cw0_0
                    replace cw1_0 := k57.cell0 cw1_0
                    replace cx0_0 := k57.cell0 cx0_0
                    replace cx1_0 := k57.cell0 cx1_0
                    replace cg0_0 := k57.cell0 cg0_0
                    replace cg1_0 := k57.cell0 cg1_0
                    replace x1_0 := k57.cell0 x1_0
                    replace x0_0 := k57.cell0 x0_0
                    replace K := hide ((unhide K).trans k57)
                    have z58 := k57.size
                    obtain ⟨a90, d90, hv⟩ := Row.form' r90
                    subst hv
                    obtain ⟨a91, d91, hv⟩ := Row.form' r91
                    subst hv
                    clear k57
                    clear hHeld
                    refine hK.out _ _ ?_ (fun hHeld => ?_)
                    · exact ⟨A0_0, A1_0⟩
                    clear hK KK
                    try simp only [Act.put, List.getElem_toArray, List.getElem_cons_succ, List.getElem_cons_zero, List.setIfInBounds_toArray, List.set_cons_zero, List.set_cons_succ]
                    refine wpAnyH_take (i := 5) (oi := _) (v := .tuple #[.agg #[.slice a90 L0.length d90], .agg #[.slice a91 L1.length d91], .bool B2]) rfl (by kernel_rfl) (by kernel_rfl) (by kernel_rfl) (fun _ _ _ h => h) (Or.inl ⟨by rfl, ?_⟩) hHeld ?_
                    · intro wq hSw
                      try dsimp only at hSw
                      go_simp
                    try simp only [Act.put, List.getElem_toArray, List.getElem_cons_succ, List.getElem_cons_zero, List.setIfInBounds_toArray, List.set_cons_zero, List.set_cons_succ]
                    refine wpAnyH_take (i := 6) (oi := _) (v := .agg #[.slice a90 L0.length d90]) rfl (by kernel_rfl) (by kernel_rfl) (by kernel_rfl) (fun _ _ _ h => h) (Or.inl ⟨by rfl, ?_⟩) hHeld ?_
                    · intro wq hSw
                      try dsimp only at hSw
                      go_simp
                    try simp only [Act.put, List.getElem_toArray, List.getElem_cons_succ, List.getElem_cons_zero, List.setIfInBounds_toArray, List.set_cons_zero, List.set_cons_succ]
                    refine wpAnyH_take (i := 7) (oi := _) (v := .agg #[.slice a91 L1.length d91]) rfl (by kernel_rfl) (by kernel_rfl) (by kernel_rfl) (fun _ _ _ h => h) (Or.inl ⟨by rfl, ?_⟩) hHeld ?_
                    · intro wq hSw
                      try dsimp only at hSw
                      go_simp
                    try simp only [Act.put, List.getElem_toArray, List.getElem_cons_succ, List.getElem_cons_zero, List.setIfInBounds_toArray, List.set_cons_zero, List.set_cons_succ]
                    refine wpAnyH_take (i := 8) (oi := _) (v := .bool B2) rfl (by kernel_rfl) (by kernel_rfl) (by kernel_rfl) (fun _ _ _ h => h) (Or.inl ⟨by rfl, ?_⟩) hHeld ?_
                    · intro wq hSw
                      try dsimp only at hSw
                      go_simp
                    try simp only [Act.put, List.getElem_toArray, List.getElem_cons_succ, List.getElem_cons_zero, List.setIfInBounds_toArray, List.set_cons_zero, List.set_cons_succ]
                    refine wpAnyH_ready (rs := [11]) (by kernel_rfl) (by simp) ?_
                    refine AllReadyH.cons rfl (fun KK hK => ?_) AllReadyH.nil
                    simp only [List.getElem_toArray, List.getElem_cons_succ, List.getElem_cons_zero]
                    rw [if_pos (by rfl)]
                    go_simp
                    clear hHeld
                    refine hK.out _ _ ?_ (fun hHeld => ?_)
                    · exact ⟨(cell_aside _ (by have := unhide S0; dsimp only; omega) A0_0), (cell_aside _ (by have := unhide S0; dsimp only; omega) A1_0)⟩
                    clear hK KK
                    try simp only [Act.put, List.getElem_toArray, List.getElem_cons_succ, List.getElem_cons_zero, List.setIfInBounds_toArray, List.set_cons_zero, List.set_cons_succ]
                    refine wpAnyH_ready (rs := [12]) (by kernel_rfl) (by simp) ?_
                    refine AllReadyH.cons rfl (fun KK hK => ?_) AllReadyH.nil
                    simp only [List.getElem_toArray, List.getElem_cons_succ, List.getElem_cons_zero]
                    rw [if_pos (by rfl)]
                    go_simp
                    clear hHeld
                    refine hK.out _ _ ?_ (fun hHeld => ?_)
                    · exact ⟨(cell_aside _ (by have := unhide S0; dsimp only; omega) (cell_aside _ (by have := unhide S0; dsimp only; omega) A0_0)), (cell_aside _ (by have := unhide S0; dsimp only; omega) (cell_aside _ (by have := unhide S0; dsimp only; omega) A1_0))⟩
                    clear hK KK
                    try simp only [Act.put, List.getElem_toArray, List.getElem_cons_succ, List.getElem_cons_zero, List.setIfInBounds_toArray, List.set_cons_zero, List.set_cons_succ]
                    refine wpAnyH_take (i := 13) (oi := _) (v := .bool B2) rfl (by kernel_rfl) (by kernel_rfl) (by kernel_rfl) (fun _ _ _ h => h) (Or.inl ⟨by rfl, ?_⟩) hHeld ?_
                    · intro wq hSw
                      try dsimp only at hSw
                      go_simp
                    try simp only [Act.put, List.getElem_toArray, List.getElem_cons_succ, List.getElem_cons_zero, List.setIfInBounds_toArray, List.set_cons_zero, List.set_cons_succ]
                    refine wpAnyH_done (by kernel_rfl) ?_ _
                    clear hHeld
                    go_wp2_with fail
                    go_meet
                    exact ⟨_, _, _, _, rfl, rfl, rfl, law_setNN kw x0_0 x1_0 r90 r91 (by omega) (by omega) (by omega) (by omega) (by omega) (by omega) (by omega) (by omega) (by omega)⟩
            · simp only [List.getElem_toArray, List.getElem_cons_succ, List.getElem_cons_zero]
              rw [if_pos (by rfl)]
              go_simp
              have kn := (Kept.refl 0 0 w51).alloc (.cells #[.slice none 0 0] 26)
              replace r0 := r0.kept kn (by omega)
              replace r1 := r1.kept kn (by omega)
              replace rw0 := rw0.kept kn (by omega)
              replace rw1 := rw1.kept kn (by omega)
              replace rm0 := rm0.kept kn (by omega)
              replace rm1 := rm1.kept kn (by omega)
              replace r70 := r70.kept kn (by omega)
              replace kw := kw.trans kn
              replace x1_f0 := kn.loose0 (World.block_lt_of_cell? _ _ x1_0) x1_f0
              replace A0_0 := kn.cell0 A0_0
              replace A1_0 := kn.cell0 A1_0
              replace cw0_0 := kn.cell0 cw0_0
              replace cw1_0 := kn.cell0 cw1_0
              replace cx0_0 := kn.cell0 cx0_0
              replace cx1_0 := kn.cell0 cx1_0
              replace cg0_0 := kn.cell0 cg0_0
              replace cg1_0 := kn.cell0 cg1_0
              replace x1_0 := kn.cell0 x1_0
              replace K := hide ((unhide K).trans kn)
              have z54 := kn.size
              clear kn
              have szx0_ : w51.heap.size < (w51.alloc (.cells #[.slice none 0 0] 26)).heap.size := by simp
              have x0_0 : (w51.alloc (.cells #[.slice none 0 0] 26)).cell? ⟨w51.heap.size, 0, none⟩ = some (.slice none 0 0) := new_cell2 _ _ _ _ _ _ rfl rfl
              have x0_f0 : (w51.alloc (.cells #[.slice none 0 0] 26)).frozen? ⟨w51.heap.size, 0, none⟩ = false := new_loose2 _ _ _ _ _ rfl
              clear hHeld
              refine hK.out _ _ ?_ (fun hHeld => ?_)
              · exact ⟨A0_0, A1_0⟩
              clear hK KK
              try simp only [Act.put, List.getElem_toArray, List.getElem_cons_succ, List.getElem_cons_zero, List.setIfInBounds_toArray, List.set_cons_zero, List.set_cons_succ]
              generalize w51.alloc (.cells #[.slice none 0 0] 26) = w53 at *
              refine wpAnyH_ready (rs := [3]) (by kernel_rfl) (by simp) ?_
              refine AllReadyH.cons rfl (fun KK hK => ?_) AllReadyH.nil
              · as_aux_lemma =>
                  simp only [List.getElem_toArray, List.getElem_cons_succ, List.getElem_cons_zero]
                  rw [if_pos (by rfl)]
                  refine wps1 60 (.tmp 122) _ rfl in_toN (.agg #[.slice a1 z1.length c1]) rfl (toNat_any _ hn1 r1) ?_
                  rintro e w55 ⟨v71, rfl, r71, k55⟩
                  refine ⟨_, rfl, ?_⟩
                  replace r0 := r0.kept k55 (by omega)
                  replace r1 := r1.kept k55 (by omega)
                  replace rw0 := rw0.kept k55 (by omega)
                  replace rw1 := rw1.kept k55 (by omega)
                  replace rm0 := rm0.kept k55 (by omega)
                  replace rm1 := rm1.kept k55 (by omega)
                  replace r70 := r70.kept k55 (by omega)
                  replace kw := kw.trans k55
                  replace x1_f0 := k55.loose0 (World.block_lt_of_cell? _ _ x1_0) x1_f0
                  replace x0_f0 := k55.loose0 (World.block_lt_of_cell? _ _ x0_0) x0_f0
                  replace A0_0 := k55.cell0 A0_0
                  replace A1_0 := k55.cell0 A1_0
                  replace cw0_0 := k55.cell0 cw0_0
                  replace cw1_0 := k55.cell0 cw1_0
                  replace cx0_0 := k55.cell0 cx0_0
                  replace cx1_0 := k55.cell0 cx1_0
                  replace cg0_0 := k55.cell0 cg0_0
                  replace cg1_0 := k55.cell0 cg1_0
                  replace x1_0 := k55.cell0 x1_0
                  replace x0_0 := k55.cell0 x0_0
                  replace K := hide ((unhide K).trans k55)
                  have z56 := k55.size
                  clear k55
                  clear hHeld
                  refine hK.out _ _ ?_ (fun hHeld => ?_)
                  · exact ⟨A0_0, A1_0⟩
                  clear hK KK
                  try simp only [Act.put, List.getElem_toArray, List.getElem_cons_succ, List.getElem_cons_zero, List.setIfInBounds_toArray, List.set_cons_zero, List.set_cons_succ]
                  refine wpAnyH_ready (rs := [4]) (by kernel_rfl) (by simp) ?_
                  refine AllReadyH.cons rfl (fun KK hK => ?_) AllReadyH.nil
                  · simp only [List.getElem_toArray, List.getElem_cons_succ, List.getElem_cons_zero]
                    rw [if_pos (by rfl)]
                    have mk := natDiv_impl w55 r70 r71
                    simp only [unhide EL0, unhide EL1, unhide EB2] at mk
                    refine wps2 34 (.tmp 121) (.tmp 123) _ rfl in_impl_NatDiv (.agg #[v70]) (.agg #[v71]) rfl rfl mk ?_
                    rintro e w57 ⟨v90, v91, mm9, rfl, r90, r91, hma9, hmb9, k57⟩
                    refine ⟨_, rfl, ?_⟩
                    clear mk
                    replace r0 := r0.kept k57 (by omega)
                    replace r1 := r1.kept k57 (by omega)
                    replace rw0 := rw0.kept k57 (by omega)
                    replace rw1 := rw1.kept k57 (by omega)
                    replace rm0 := rm0.kept k57 (by omega)
                    replace rm1 := rm1.kept k57 (by omega)
                    replace r70 := r70.kept k57 (by omega)
                    replace r71 := r71.kept k57 (by omega)
                    replace kw := kw.trans k57
                    replace x1_f0 := k57.loose0 (World.block_lt_of_cell? _ _ x1_0) x1_f0
                    replace x0_f0 := k57.loose0 (World.block_lt_of_cell? _ _ x0_0) x0_f0
                    replace A0_0 := k57.cell0 A0_0
                    replace A1_0 := k57.cell0 A1_0
                    replace cw0_0 := k57.cell0 cw0_0
                    replace cw1_0 := k57.cell0 cw1_0
                    replace cx0_0 := k57.cell0 cx0_0
                    replace cx1_0 := k57.cell0 cx1_0
                    replace cg0_0 := k57.cell0 cg0_0
                    replace cg1_0 := k57.cell0 cg1_0
                    replace x1_0 := k57.cell0 x1_0
                    replace x0_0 := k57.cell0 x0_0
                    replace K := hide ((unhide K).trans k57)
                    have z58 := k57.size
                    obtain ⟨a90, d90, hv⟩ := Row.form' r90
                    subst hv
                    obtain ⟨a91, d91, hv⟩ := Row.form' r91
                    subst hv
                    clear k57
                    clear hHeld
                    refine hK.out _ _ ?_ (fun hHeld => ?_)
                    · exact ⟨A0_0, A1_0⟩
                    clear hK KK
                    try simp only [Act.put, List.getElem_toArray, List.getElem_cons_succ, List.getElem_cons_zero, List.setIfInBounds_toArray, List.set_cons_zero, List.set_cons_succ]
                    refine wpAnyH_take (i := 5) (oi := _) (v := .tuple #[.agg #[.slice a90 L0.length d90], .agg #[.slice a91 L1.length d91], .bool B2]) rfl (by kernel_rfl) (by kernel_rfl) (by kernel_rfl) (fun _ _ _ h => h) (Or.inl ⟨by rfl, ?_⟩) hHeld ?_
                    · intro wq hSw
                      try dsimp only at hSw
                      go_simp
                    try simp only [Act.put, List.getElem_toArray, List.getElem_cons_succ, List.getElem_cons_zero, List.setIfInBounds_toArray, List.set_cons_zero, List.set_cons_succ]
                    refine wpAnyH_take (i := 6) (oi := _) (v := .agg #[.slice a90 L0.length d90]) rfl (by kernel_rfl) (by kernel_rfl) (by kernel_rfl) (fun _ _ _ h => h) (Or.inl ⟨by rfl, ?_⟩) hHeld ?_
                    · intro wq hSw
                      try dsimp only at hSw
                      go_simp
                    try simp only [Act.put, List.getElem_toArray, List.getElem_cons_succ, List.getElem_cons_zero, List.setIfInBounds_toArray, List.set_cons_zero, List.set_cons_succ]
                    refine wpAnyH_take (i := 7) (oi := _) (v := .agg #[.slice a91 L1.length d91]) rfl (by kernel_rfl) (by kernel_rfl) (by kernel_rfl) (fun _ _ _ h => h) (Or.inl ⟨by rfl, ?_⟩) hHeld ?_
                    · intro wq hSw
                      try dsimp only at hSw
                      go_simp
                    try simp only [Act.put, List.getElem_toArray, List.getElem_cons_succ, List.getElem_cons_zero, List.setIfInBounds_toArray, List.set_cons_zero, List.set_cons_succ]
                    refine wpAnyH_take (i := 8) (oi := _) (v := .bool B2) rfl (by kernel_rfl) (by kernel_rfl) (by kernel_rfl) (fun _ _ _ h => h) (Or.inl ⟨by rfl, ?_⟩) hHeld ?_
                    · intro wq hSw
                      try dsimp only at hSw
                      go_simp
                    try simp only [Act.put, List.getElem_toArray, List.getElem_cons_succ, List.getElem_cons_zero, List.setIfInBounds_toArray, List.set_cons_zero, List.set_cons_succ]
                    refine wpAnyH_ready (rs := [11]) (by kernel_rfl) (by simp) ?_
                    refine AllReadyH.cons rfl (fun KK hK => ?_) AllReadyH.nil
                    simp only [List.getElem_toArray, List.getElem_cons_succ, List.getElem_cons_zero]
                    rw [if_pos (by rfl)]
                    go_simp
                    clear hHeld
                    refine hK.out _ _ ?_ (fun hHeld => ?_)
                    · exact ⟨(cell_aside _ (by have := unhide S0; dsimp only; omega) A0_0), (cell_aside _ (by have := unhide S0; dsimp only; omega) A1_0)⟩
                    clear hK KK
                    try simp only [Act.put, List.getElem_toArray, List.getElem_cons_succ, List.getElem_cons_zero, List.setIfInBounds_toArray, List.set_cons_zero, List.set_cons_succ]
                    refine wpAnyH_ready (rs := [12]) (by kernel_rfl) (by simp) ?_
                    refine AllReadyH.cons rfl (fun KK hK => ?_) AllReadyH.nil
                    simp only [List.getElem_toArray, List.getElem_cons_succ, List.getElem_cons_zero]
                    rw [if_pos (by rfl)]
                    go_simp
                    clear hHeld
                    refine hK.out _ _ ?_ (fun hHeld => ?_)
                    · exact ⟨(cell_aside _ (by have := unhide S0; dsimp only; omega) (cell_aside _ (by have := unhide S0; dsimp only; omega) A0_0)), (cell_aside _ (by have := unhide S0; dsimp only; omega) (cell_aside _ (by have := unhide S0; dsimp only; omega) A1_0))⟩
                    clear hK KK
                    try simp only [Act.put, List.getElem_toArray, List.getElem_cons_succ, List.getElem_cons_zero, List.setIfInBounds_toArray, List.set_cons_zero, List.set_cons_succ]
                    refine wpAnyH_take (i := 13) (oi := _) (v := .bool B2) rfl (by kernel_rfl) (by kernel_rfl) (by kernel_rfl) (fun _ _ _ h => h) (Or.inl ⟨by rfl, ?_⟩) hHeld ?_
                    · intro wq hSw
                      try dsimp only at hSw
                      go_simp
                    try simp only [Act.put, List.getElem_toArray, List.getElem_cons_succ, List.getElem_cons_zero, List.setIfInBounds_toArray, List.set_cons_zero, List.set_cons_succ]
                    refine wpAnyH_done (by kernel_rfl) ?_ _
                    clear hHeld
                    go_wp2_with fail
                    go_meet
                    exact ⟨_, _, _, _, rfl, rfl, rfl, law_setNN kw x0_0 x1_0 r90 r91 (by omega) (by omega) (by omega) (by omega) (by omega) (by omega) (by omega) (by omega) (by omega)⟩
      · simp only [List.getElem_toArray, List.getElem_cons_succ, List.getElem_cons_zero]
        rw [if_pos (by rfl)]
        go_simp
        have kn := (Kept.refl 0 0 wd).alloc (.cells #[.slice none 0 0] 26)
        replace r0 := r0.kept kn (by omega)
        replace r1 := r1.kept kn (by omega)
        replace rw0 := rw0.kept kn (by omega)
        replace rw1 := rw1.kept kn (by omega)
        replace rm0 := rm0.kept kn (by omega)
        replace rm1 := rm1.kept kn (by omega)
        replace kw := kw.trans kn
        replace A0_0 := kn.cell0 A0_0
        replace A1_0 := kn.cell0 A1_0
        replace cw0_0 := kn.cell0 cw0_0
        replace cw1_0 := kn.cell0 cw1_0
        replace cx0_0 := kn.cell0 cx0_0
        replace cx1_0 := kn.cell0 cx1_0
        replace cg0_0 := kn.cell0 cg0_0
        replace cg1_0 := kn.cell0 cg1_0
        replace K := hide ((unhide K).trans kn)
        have z50 := kn.size
        clear kn
        have szx0_ : wd.heap.size < (wd.alloc (.cells #[.slice none 0 0] 26)).heap.size := by simp
        have x0_0 : (wd.alloc (.cells #[.slice none 0 0] 26)).cell? ⟨wd.heap.size, 0, none⟩ = some (.slice none 0 0) := new_cell2 _ _ _ _ _ _ rfl rfl
        have x0_f0 : (wd.alloc (.cells #[.slice none 0 0] 26)).frozen? ⟨wd.heap.size, 0, none⟩ = false := new_loose2 _ _ _ _ _ rfl
        clear hHeld
        refine hK.out _ _ ?_ (fun hHeld => ?_)
        · exact ⟨A0_0, A1_0⟩
        clear hK KK
        try simp only [Act.put, List.getElem_toArray, List.getElem_cons_succ, List.getElem_cons_zero, List.setIfInBounds_toArray, List.set_cons_zero, List.set_cons_succ]
        generalize wd.alloc (.cells #[.slice none 0 0] 26) = w49 at *
        refine wpAnyH_ready (rs := [1, 10]) (by kernel_rfl) (by simp) ?_
        refine AllReadyH.cons rfl (fun KK hK => ?_) (AllReadyH.cons rfl (fun KK hK => ?_) AllReadyH.nil)
        · as_aux_lemma =>
            simp only [List.getElem_toArray, List.getElem_cons_succ, List.getElem_cons_zero]
            rw [if_pos (by rfl)]
            refine wps1 60 (.tmp 120) _ rfl in_toN (.agg #[.slice a0 z0.length c0]) rfl (toNat_any _ hn0 r0) ?_
            rintro e w51 ⟨v70, rfl, r70, k51⟩
            refine ⟨_, rfl, ?_⟩
            replace r0 := r0.kept k51 (by omega)
            replace r1 := r1.kept k51 (by omega)
            replace rw0 := rw0.kept k51 (by omega)
            replace rw1 := rw1.kept k51 (by omega)
            replace rm0 := rm0.kept k51 (by omega)
            replace rm1 := rm1.kept k51 (by omega)
            replace kw := kw.trans k51
            replace x0_f0 := k51.loose0 (World.block_lt_of_cell? _ _ x0_0) x0_f0
            replace A0_0 := k51.cell0 A0_0
            replace A1_0 := k51.cell0 A1_0
            replace cw0_0 := k51.cell0 cw0_0
            replace cw1_0 := k51.cell0 cw1_0
            replace cx0_0 := k51.cell0 cx0_0
            replace cx1_0 := k51.cell0 cx1_0
            replace cg0_0 := k51.cell0 cg0_0
            replace cg1_0 := k51.cell0 cg1_0
            replace x0_0 := k51.cell0 x0_0
            replace K := hide ((unhide K).trans k51)
            have z52 := k51.size
            clear k51
            clear hHeld
            refine hK.out _ _ ?_ (fun hHeld => ?_)
            · exact ⟨A0_0, A1_0⟩
            clear hK KK
            try simp only [Act.put, List.getElem_toArray, List.getElem_cons_succ, List.getElem_cons_zero, List.setIfInBounds_toArray, List.set_cons_zero, List.set_cons_succ]
            refine wpAnyH_ready (rs := [3, 10]) (by kernel_rfl) (by simp) ?_
            refine AllReadyH.cons rfl (fun KK hK => ?_) (AllReadyH.cons rfl (fun KK hK => ?_) AllReadyH.nil)
            · simp only [List.getElem_toArray, List.getElem_cons_succ, List.getElem_cons_zero]
              rw [if_pos (by rfl)]
              refine wps1 60 (.tmp 122) _ rfl in_toN (.agg #[.slice a1 z1.length c1]) rfl (toNat_any _ hn1 r1) ?_
              rintro e w53 ⟨v71, rfl, r71, k53⟩
              refine ⟨_, rfl, ?_⟩
              replace r0 := r0.kept k53 (by omega)
              replace r1 := r1.kept k53 (by omega)
              replace rw0 := rw0.kept k53 (by omega)
              replace rw1 := rw1.kept k53 (by omega)
              replace rm0 := rm0.kept k53 (by omega)
              replace rm1 := rm1.kept k53 (by omega)
              replace r70 := r70.kept k53 (by omega)
              replace kw := kw.trans k53
              replace x0_f0 := k53.loose0 (World.block_lt_of_cell? _ _ x0_0) x0_f0
              replace A0_0 := k53.cell0 A0_0
              replace A1_0 := k53.cell0 A1_0
              replace cw0_0 := k53.cell0 cw0_0
              replace cw1_0 := k53.cell0 cw1_0
              replace cx0_0 := k53.cell0 cx0_0
              replace cx1_0 := k53.cell0 cx1_0
              replace cg0_0 := k53.cell0 cg0_0
              replace cg1_0 := k53.cell0 cg1_0
              replace x0_0 := k53.cell0 x0_0
              replace K := hide ((unhide K).trans k53)
              have z54 := k53.size
              clear k53
              clear hHeld
              refine hK.out _ _ ?_ (fun hHeld => ?_)
              · exact ⟨A0_0, A1_0⟩
              clear hK KK
              try simp only [Act.put, List.getElem_toArray, List.getElem_cons_succ, List.getElem_cons_zero, List.setIfInBounds_toArray, List.set_cons_zero, List.set_cons_succ]
              refine wpAnyH_ready (rs := [4, 10]) (by kernel_rfl) (by simp) ?_
              refine AllReadyH.cons rfl (fun KK hK => ?_) (AllReadyH.cons rfl (fun KK hK => ?_) AllReadyH.nil)
              · as_aux_lemma =>
                  simp only [List.getElem_toArray, List.getElem_cons_succ, List.getElem_cons_zero]
                  rw [if_pos (by rfl)]
                  have mk := natDiv_impl w53 r70 r71
                  simp only [unhide EL0, unhide EL1, unhide EB2] at mk
                  refine wps2 34 (.tmp 121) (.tmp 123) _ rfl in_impl_NatDiv (.agg #[v70]) (.agg #[v71]) rfl rfl mk ?_
                  rintro e w55 ⟨v90, v91, mm9, rfl, r90, r91, hma9, hmb9, k55⟩
                  refine ⟨_, rfl, ?_⟩
                  clear mk
                  replace r0 := r0.kept k55 (by omega)
                  replace r1 := r1.kept k55 (by omega)
                  replace rw0 := rw0.kept k55 (by omega)
                  replace rw1 := rw1.kept k55 (by omega)
                  replace rm0 := rm0.kept k55 (by omega)
                  replace rm1 := rm1.kept k55 (by omega)
                  replace r70 := r70.kept k55 (by omega)
                  replace r71 := r71.kept k55 (by omega)
                  replace kw := kw.trans k55
                  replace x0_f0 := k55.loose0 (World.block_lt_of_cell? _ _ x0_0) x0_f0
                  replace A0_0 := k55.cell0 A0_0
                  replace A1_0 := k55.cell0 A1_0
                  replace cw0_0 := k55.cell0 cw0_0
                  replace cw1_0 := k55.cell0 cw1_0
                  replace cx0_0 := k55.cell0 cx0_0
                  replace cx1_0 := k55.cell0 cx1_0
                  replace cg0_0 := k55.cell0 cg0_0
                  replace cg1_0 := k55.cell0 cg1_0
                  replace x0_0 := k55.cell0 x0_0
                  replace K := hide ((unhide K).trans k55)
                  have z56 := k55.size
                  obtain ⟨a90, d90, hv⟩ := Row.form' r90
                  subst hv
                  obtain ⟨a91, d91, hv⟩ := Row.form' r91
                  subst hv
                  clear k55
                  clear hHeld
                  refine hK.out _ _ ?_ (fun hHeld => ?_)
                  · exact ⟨A0_0, A1_0⟩
                  clear hK KK
                  try simp only [Act.put, List.getElem_toArray, List.getElem_cons_succ, List.getElem_cons_zero, List.setIfInBounds_toArray, List.set_cons_zero, List.set_cons_succ]
                  refine wpAnyH_take (i := 5) (oi := _) (v := .tuple #[.agg #[.slice a90 L0.length d90], .agg #[.slice a91 L1.length d91], .bool B2]) rfl (by kernel_rfl) (by kernel_rfl) (by kernel_rfl) (fun _ _ _ h => h) (Or.inl ⟨by rfl, ?_⟩) hHeld ?_
                  · intro wq hSw
                    try dsimp only at hSw
                    go_simp
                  try simp only [Act.put, List.getElem_toArray, List.getElem_cons_succ, List.getElem_cons_zero, List.setIfInBounds_toArray, List.set_cons_zero, List.set_cons_succ]
                  refine wpAnyH_take (i := 6) (oi := _) (v := .agg #[.slice a90 L0.length d90]) rfl (by kernel_rfl) (by kernel_rfl) (by kernel_rfl) (fun _ _ _ h => h) (Or.inl ⟨by rfl, ?_⟩) hHeld ?_
                  · intro wq hSw
                    try dsimp only at hSw
                    go_simp
                  try simp only [Act.put, List.getElem_toArray, List.getElem_cons_succ, List.getElem_cons_zero, List.setIfInBounds_toArray, List.set_cons_zero, List.set_cons_succ]
                  refine wpAnyH_take (i := 7) (oi := _) (v := .agg #[.slice a91 L1.length d91]) rfl (by kernel_rfl) (by kernel_rfl) (by kernel_rfl) (fun _ _ _ h => h) (Or.inl ⟨by rfl, ?_⟩) hHeld ?_
                  · intro wq hSw
                    try dsimp only at hSw
                    go_simp
                  try simp only [Act.put, List.getElem_toArray, List.getElem_cons_succ, List.getElem_cons_zero, List.setIfInBounds_toArray, List.set_cons_zero, List.set_cons_succ]
                  refine wpAnyH_take (i := 8) (oi := _) (v := .bool B2) rfl (by kernel_rfl) (by kernel_rfl) (by kernel_rfl) (fun _ _ _ h => h) (Or.inl ⟨by rfl, ?_⟩) hHeld ?_
                  · intro wq hSw
                    try dsimp only at hSw
                    go_simp
                  try simp only [Act.put, List.getElem_toArray, List.getElem_cons_succ, List.getElem_cons_zero, List.setIfInBounds_toArray, List.set_cons_zero, List.set_cons_succ]
                  refine wpAnyH_ready (rs := [10]) (by kernel_rfl) (by simp) ?_
                  refine AllReadyH.cons rfl (fun KK hK => ?_) AllReadyH.nil
                  · simp only [List.getElem_toArray, List.getElem_cons_succ, List.getElem_cons_zero]
                    rw [if_pos (by rfl)]
                    go_simp
                    have kn := (Kept.refl 0 0 w55).alloc (.cells #[.slice none 0 0] 26)
                    replace r0 := r0.kept kn (by omega)
                    replace r1 := r1.kept kn (by omega)
                    replace rw0 := rw0.kept kn (by omega)
                    replace rw1 := rw1.kept kn (by omega)
                    replace rm0 := rm0.kept kn (by omega)
                    replace rm1 := rm1.kept kn (by omega)
                    replace r70 := r70.kept kn (by omega)
                    replace r71 := r71.kept kn (by omega)
                    replace r90 := r90.kept kn (by omega)
                    replace r91 := r91.kept kn (by omega)
                    replace kw := kw.trans kn
                    replace x0_f0 := kn.loose0 (World.block_lt_of_cell? _ _ x0_0) x0_f0
                    replace A0_0 := kn.cell0 A0_0
                    replace A1_0 := kn.cell0 A1_0
                    replace cw0_0 := kn.cell0 cw0_0
                    replace cw1_0 := kn.cell0 cw1_0
                    replace cx0_0 := kn.cell0 cx0_0
                    replace cx1_0 := kn.cell0 cx1_0
                    replace cg0_0 := kn.cell0 cg0_0
                    replace cg1_0 := kn.cell0 cg1_0
                    replace x0_0 := kn.cell0 x0_0
                    replace K := hide ((unhide K).trans kn)
                    have z58 := kn.size
                    clear kn
                    have szx1_ : w55.heap.size < (w55.alloc (.cells #[.slice none 0 0] 26)).heap.size := by simp
                    have x1_0 : (w55.alloc (.cells #[.slice none 0 0] 26)).cell? ⟨w55.heap.size, 0, none⟩ = some (.slice none 0 0) := new_cell2 _ _ _ _ _ _ rfl rfl
                    have x1_f0 : (w55.alloc (.cells #[.slice none 0 0] 26)).frozen? ⟨w55.heap.size, 0, none⟩ = false := new_loose2 _ _ _ _ _ rfl
                    clear hHeld
                    refine hK.out _ _ ?_ (fun hHeld => ?_)
                    · exact ⟨A0_0, A1_0⟩
                    clear hK KK
                    try simp only [Act.put, List.getElem_toArray, List.getElem_cons_succ, List.getElem_cons_zero, List.setIfInBounds_toArray, List.set_cons_zero, List.set_cons_succ]
                    generalize w55.alloc (.cells #[.slice none 0 0] 26) = w57 at *
                    refine wpAnyH_ready (rs := [11]) (by kernel_rfl) (by simp) ?_
                    refine AllReadyH.cons rfl (fun KK hK => ?_) AllReadyH.nil
                    simp only [List.getElem_toArray, List.getElem_cons_succ, List.getElem_cons_zero]
                    rw [if_pos (by rfl)]
                    go_simp
                    clear hHeld
                    refine hK.out _ _ ?_ (fun hHeld => ?_)
                    · exact ⟨(cell_aside _ (by have := unhide S0; dsimp only; omega) A0_0), (cell_aside _ (by have := unhide S0; dsimp only; omega) A1_0)⟩
                    clear hK KK
                    try simp only [Act.put, List.getElem_toArray, List.getElem_cons_succ, List.getElem_cons_zero, List.setIfInBounds_toArray, List.set_cons_zero, List.set_cons_succ]
                    refine wpAnyH_ready (rs := [12]) (by kernel_rfl) (by simp) ?_
                    refine AllReadyH.cons rfl (fun KK hK => ?_) AllReadyH.nil
                    simp only [List.getElem_toArray, List.getElem_cons_succ, List.getElem_cons_zero]
                    rw [if_pos (by rfl)]
                    go_simp
                    clear hHeld
                    refine hK.out _ _ ?_ (fun hHeld => ?_)
                    · exact ⟨(cell_aside _ (by have := unhide S0; dsimp only; omega) (cell_aside _ (by have := unhide S0; dsimp only; omega) A0_0)), (cell_aside _ (by have := unhide S0; dsimp only; omega) (cell_aside _ (by have := unhide S0; dsimp only; omega) A1_0))⟩
                    clear hK KK
                    try simp only [Act.put, List.getElem_toArray, List.getElem_cons_succ, List.getElem_cons_zero, List.setIfInBounds_toArray, List.set_cons_zero, List.set_cons_succ]
                    refine wpAnyH_take (i := 13) (oi := _) (v := .bool B2) rfl (by kernel_rfl) (by kernel_rfl) (by kernel_rfl) (fun _ _ _ h => h) (Or.inl ⟨by rfl, ?_⟩) hHeld ?_
                    · intro wq hSw
                      try dsimp only at hSw
                      go_simp
                    try simp only [Act.put, List.getElem_toArray, List.getElem_cons_succ, List.getElem_cons_zero, List.setIfInBounds_toArray, List.set_cons_zero, List.set_cons_succ]
                    refine wpAnyH_done (by kernel_rfl) ?_ _
                    clear hHeld
                    go_wp2_with fail
                    go_meet
                    exact ⟨_, _, _, _, rfl, rfl, rfl, law_setNN kw x0_0 x1_0 r90 r91 (by omega) (by omega) (by omega) (by omega) (by omega) (by omega) (by omega) (by omega) (by omega)⟩
              · as_aux_lemma =>
                  simp only [List.getElem_toArray, List.getElem_cons_succ, List.getElem_cons_zero]
                  rw [if_pos (by rfl)]
                  go_simp
                  have kn := (Kept.refl 0 0 w53).alloc (.cells #[.slice none 0 0] 26)
                  replace r0 := r0.kept kn (by omega)
                  replace r1 := r1.kept kn (by omega)
                  replace rw0 := rw0.kept kn (by omega)
                  replace rw1 := rw1.kept kn (by omega)
                  replace rm0 := rm0.kept kn (by omega)
                  replace rm1 := rm1.kept kn (by omega)
                  replace r70 := r70.kept kn (by omega)
                  replace r71 := r71.kept kn (by omega)
                  replace kw := kw.trans kn
                  replace x0_f0 := kn.loose0 (World.block_lt_of_cell? _ _ x0_0) x0_f0
                  replace A0_0 := kn.cell0 A0_0
                  replace A1_0 := kn.cell0 A1_0
                  replace cw0_0 := kn.cell0 cw0_0
                  replace cw1_0 := kn.cell0 cw1_0
                  replace cx0_0 := kn.cell0 cx0_0
                  replace cx1_0 := kn.cell0 cx1_0
                  replace cg0_0 := kn.cell0 cg0_0
                  replace cg1_0 := kn.cell0 cg1_0
                  replace x0_0 := kn.cell0 x0_0
                  replace K := hide ((unhide K).trans kn)
                  have z56 := kn.size
                  clear kn
                  have szx1_ : w53.heap.size < (w53.alloc (.cells #[.slice none 0 0] 26)).heap.size := by simp
                  have x1_0 : (w53.alloc (.cells #[.slice none 0 0] 26)).cell? ⟨w53.heap.size, 0, none⟩ = some (.slice none 0 0) := new_cell2 _ _ _ _ _ _ rfl rfl
                  have x1_f0 : (w53.alloc (.cells #[.slice none 0 0] 26)).frozen? ⟨w53.heap.size, 0, none⟩ = false := new_loose2 _ _ _ _ _ rfl
                  clear hHeld
                  refine hK.out _ _ ?_ (fun hHeld => ?_)
                  · exact ⟨A0_0, A1_0⟩
                  clear hK KK
                  try simp only [Act.put, List.getElem_toArray, List.getElem_cons_succ, List.getElem_cons_zero, List.setIfInBounds_toArray, List.set_cons_zero, List.set_cons_succ]
                  generalize w53.alloc (.cells #[.slice none 0 0] 26) = w55 at *
                  refine wpAnyH_ready (rs := [4]) (by kernel_rfl) (by simp) ?_
                  refine AllReadyH.cons rfl (fun KK hK => ?_) AllReadyH.nil
                  · simp only [List.getElem_toArray, List.getElem_cons_succ, List.getElem_cons_zero]
                    rw [if_pos (by rfl)]
                    have mk := natDiv_impl w55 r70 r71
                    simp only [unhide EL0, unhide EL1, unhide EB2] at mk
                    refine wps2 34 (.tmp 121) (.tmp 123) _ rfl in_impl_NatDiv (.agg #[v70]) (.agg #[v71]) rfl rfl mk ?_
                    rintro e w57 ⟨v90, v91, mm9, rfl, r90, r91, hma9, hmb9, k57⟩
                    refine ⟨_, rfl, ?_⟩
                    clear mk
                    replace r0 := r0.kept k57 (by omega)
                    replace r1 := r1.kept k57 (by omega)
                    replace rw0 := rw0.kept k57 (by omega)
                    replace rw1 := rw1.kept k57 (by omega)
                    replace rm0 := rm0.kept k57 (by omega)
                    replace rm1 := rm1.kept k57 (by omega)
                    replace r70 := r70.kept k57 (by omega)
                    replace r71 := r71.kept k57 (by omega)
                    replace kw := kw.trans k57
                    replace x0_f0 := k57.loose0 (World.block_lt_of_cell? _ _ x0_0) x0_f0
                    replace x1_f0 := k57.loose0 (World.block_lt_of_cell? _ _ x1_0) x1_f0
                    replace A0_0 := k57.cell0 A0_0
                    replace A1_0 := k57.cell0 A1_0
                    replace cw0_0 := k57.cell0 cw0_0
                    replace cw1_0 := k57.cell0 cw1_0
                    replace cx0_0 := k57.cell0 cx0_0
                    replace cx1_0 := k57.cell0 cx1_0
                    replace cg0_0 := k57.cell0 cg0_0
                    replace cg1_0 := k57.cell0 cg1_0
                    replace x0_0 := k57.cell0 x0_0
                    replace x1_0 := k57.cell0 x1_0
                    replace K := hide ((unhide K).trans k57)
                    have z58 := k57.size
                    obtain ⟨a90, d90, hv⟩ := Row.form' r90
                    subst hv
                    obtain ⟨a91, d91, hv⟩ := Row.form' r91
                    subst hv
                    clear k57
                    clear hHeld
                    refine hK.out _ _ ?_ (fun hHeld => ?_)
                    · exact ⟨A0_0, A1_0⟩
                    clear hK KK
                    try simp only [Act.put, List.getElem_toArray, List.getElem_cons_succ, List.getElem_cons_zero, List.setIfInBounds_toArray, List.set_cons_zero, List.set_cons_succ]
                    refine wpAnyH_take (i := 5) (oi := _) (v := .tuple #[.agg #[.slice a90 L0.length d90], .agg #[.slice a91 L1.length d91], .bool B2]) rfl (by kernel_rfl) (by kernel_rfl) (by kernel_rfl) (fun _ _ _ h => h) (Or.inl ⟨by rfl, ?_⟩) hHeld ?_
                    · intro wq hSw
                      try dsimp only at hSw
                      go_simp
                    try simp only [Act.put, List.getElem_toArray, List.getElem_cons_succ, List.getElem_cons_zero, List.setIfInBounds_toArray, List.set_cons_zero, List.set_cons_succ]
                    refine wpAnyH_take (i := 6) (oi := _) (v := .agg #[.slice a90 L0.length d90]) rfl (by kernel_rfl) (by kernel_rfl) (by kernel_rfl) (fun _ _ _ h => h) (Or.inl ⟨by rfl, ?_⟩) hHeld ?_
                    · intro wq hSw
                      try dsimp only at hSw
                      go_simp
                    try simp only [Act.put, List.getElem_toArray, List.getElem_cons_succ, List.getElem_cons_zero, List.setIfInBounds_toArray, List.set_cons_zero, List.set_cons_succ]
                    refine wpAnyH_take (i := 7) (oi := _) (v := .agg #[.slice a91 L1.length d91]) rfl (by kernel_rfl) (by kernel_rfl) (by kernel_rfl) (fun _ _ _ h => h) (Or.inl ⟨by rfl, ?_⟩) hHeld ?_
                    · intro wq hSw
                      try dsimp only at hSw
                      go_simp
                    try simp only [Act.put, List.getElem_toArray, List.getElem_cons_succ, List.getElem_cons_zero, List.setIfInBounds_toArray, List.set_cons_zero, List.set_cons_succ]
                    refine wpAnyH_take (i := 8) (oi := _) (v := .bool B2) rfl (by kernel_rfl) (by kernel_rfl) (by kernel_rfl) (fun _ _ _ h => h) (Or.inl ⟨by rfl, ?_⟩) hHeld ?_
                    · intro wq hSw
                      try dsimp only at hSw
                      go_simp
                    try simp only [Act.put, List.getElem_toArray, List.getElem_cons_succ, List.getElem_cons_zero, List.setIfInBounds_toArray, List.set_cons_zero, List.set_cons_succ]
                    refine wpAnyH_ready (rs := [11]) (by kernel_rfl) (by simp) ?_
                    refine AllReadyH.cons rfl (fun KK hK => ?_) AllReadyH.nil
                    simp only [List.getElem_toArray, List.getElem_cons_succ, List.getElem_cons_zero]
                    rw [if_pos (by rfl)]
                    go_simp
                    clear hHeld
                    refine hK.out _ _ ?_ (fun hHeld => ?_)
                    · exact ⟨(cell_aside _ (by have := unhide S0; dsimp only; omega) A0_0), (cell_aside _ (by have := unhide S0; dsimp only; omega) A1_0)⟩
                    clear hK KK
                    try simp only [Act.put, List.getElem_toArray, List.getElem_cons_succ, List.getElem_cons_zero, List.setIfInBounds_toArray, List.set_cons_zero, List.set_cons_succ]
                    refine wpAnyH_ready (rs := [12]) (by kernel_rfl) (by simp) ?_
                    refine AllReadyH.cons rfl (fun KK hK => ?_) AllReadyH.nil
                    simp only [List.getElem_toArray, List.getElem_cons_succ, List.getElem_cons_zero]
                    rw [if_pos (by rfl)]
                    go_simp
                    clear hHeld
                    refine hK.out _ _ ?_ (fun hHeld => ?_)
                    · exact ⟨(cell_aside _ (by have := unhide S0; dsimp only; omega) (cell_aside _ (by have := unhide S0; dsimp only; omega) A0_0)), (cell_aside _ (by have := unhide S0; dsimp only; omega) (cell_aside _ (by have := unhide S0; dsimp only; omega) A1_0))⟩
                    clear hK KK
                    try simp only [Act.put, List.getElem_toArray, List.getElem_cons_succ, List.getElem_cons_zero, List.setIfInBounds_toArray, List.set_cons_zero, List.set_cons_succ]
                    refine wpAnyH_take (i := 13) (oi := _) (v := .bool B2) rfl (by kernel_rfl) (by kernel_rfl) (by kernel_rfl) (fun _ _ _ h => h) (Or.inl ⟨by rfl, ?_⟩) hHeld ?_
                    · intro wq hSw
                      try dsimp only at hSw
                      go_simp
                    try simp only [Act.put, List.getElem_toArray, List.getElem_cons_succ, List.getElem_cons_zero, List.setIfInBounds_toArray, List.set_cons_zero, List.set_cons_succ]
                    refine wpAnyH_done (by kernel_rfl) ?_ _
                    clear hHeld
                    go_wp2_with fail
                    go_meet
                    exact ⟨_, _, _, _, rfl, rfl, rfl, law_setNN kw x0_0 x1_0 r90 r91 (by omega) (by omega) (by omega) (by omega) (by omega) (by omega) (by omega) (by omega) (by omega)⟩
            · simp only [List.getElem_toArray, List.getElem_cons_succ, List.getElem_cons_zero]
              rw [if_pos (by rfl)]
              go_simp
              have kn := (Kept.refl 0 0 w51).alloc (.cells #[.slice none 0 0] 26)
              replace r0 := r0.kept kn (by omega)
              replace r1 := r1.kept kn (by omega)
              replace rw0 := rw0.kept kn (by omega)
              replace rw1 := rw1.kept kn (by omega)
              replace rm0 := rm0.kept kn (by omega)
              replace rm1 := rm1.kept kn (by omega)
              replace r70 := r70.kept kn (by omega)
              replace kw := kw.trans kn
              replace x0_f0 := kn.loose0 (World.block_lt_of_cell? _ _ x0_0) x0_f0
              replace A0_0 := kn.cell0 A0_0
              replace A1_0 := kn.cell0 A1_0
              replace cw0_0 := kn.cell0 cw0_0
              replace cw1_0 := kn.cell0 cw1_0
              replace cx0_0 := kn.cell0 cx0_0
              replace cx1_0 := kn.cell0 cx1_0
              replace cg0_0 := kn.cell0 cg0_0
              replace cg1_0 := kn.cell0 cg1_0
              replace x0_0 := kn.cell0 x0_0
              replace K := hide ((unhide K).trans kn)
              have z54 := kn.size
              clear kn
              have szx1_ : w51.heap.size < (w51.alloc (.cells #[.slice none 0 0] 26)).heap.size := by simp
              have x1_0 : (w51.alloc (.cells #[.slice none 0 0] 26)).cell? ⟨w51.heap.size, 0, none⟩ = some (.slice none 0 0) := new_cell2 _ _ _ _ _ _ rfl rfl
              have x1_f0 : (w51.alloc (.cells #[.slice none 0 0] 26)).frozen? ⟨w51.heap.size, 0, none⟩ = false := new_loose2 _ _ _ _ _ rfl
              clear hHeld
              refine hK.out _ _ ?_ (fun hHeld => ?_)
              · exact ⟨A0_0, A1_0⟩
              clear hK KK
              try simp only [Act.put, List.getElem_toArray, List.getElem_cons_succ, List.getElem_cons_zero, List.setIfInBounds_toArray, List.set_cons_zero, List.set_cons_succ]
              generalize w51.alloc (.cells #[.slice none 0 0] 26) = w53 at *
              refine wpAnyH_ready (rs := [3]) (by kernel_rfl) (by simp) ?_
              refine AllReadyH.cons rfl (fun KK hK => ?_) AllReadyH.nil
              · as_aux_lemma =>
                  simp only [List.getElem_toArray, List.getElem_cons_succ, List.getElem_cons_zero]
                  rw [if_pos (by rfl)]
                  refine wps1 60 (.tmp 122) _ rfl in_toN (.agg #[.slice a1 z1.length c1]) rfl (toNat_any _ hn1 r1) ?_
                  rintro e w55 ⟨v71, rfl, r71, k55⟩
                  refine ⟨_, rfl, ?_⟩
                  replace r0 := r0.kept k55 (by omega)
                  replace r1 := r1.kept k55 (by omega)
                  replace rw0 := rw0.kept k55 (by omega)
                  replace rw1 := rw1.kept k55 (by omega)
                  replace rm0 := rm0.kept k55 (by omega)
                  replace rm1 := rm1.kept k55 (by omega)
                  replace r70 := r70.kept k55 (by omega)
                  replace kw := kw.trans k55
                  replace x0_f0 := k55.loose0 (World.block_lt_of_cell? _ _ x0_0) x0_f0
                  replace x1_f0 := k55.loose0 (World.block_lt_of_cell? _ _ x1_0) x1_f0
                  replace A0_0 := k55.cell0 A0_0
                  replace A1_0 := k55.cell0 A1_0
                  replace cw0_0 := k55.cell0 cw0_0
                  replace cw1_0 := k55.cell0 cw1_0
                  replace cx0_0 := k55.cell0 cx0_0
                  replace cx1_0 := k55.cell0 cx1_0
                  replace cg0_0 := k55.cell0 cg0_0
                  replace cg1_0 := k55.cell0 cg1_0
                  replace x0_0 := k55.cell0 x0_0
                  replace x1_0 := k55.cell0 x1_0
                  replace K := hide ((unhide K).trans k55)
                  have z56 := k55.size
                  clear k55
                  clear hHeld
                  refine hK.out _ _ ?_ (fun hHeld => ?_)
                  · exact ⟨A0_0, A1_0⟩
                  clear hK KK
                  try simp only [Act.put, List.getElem_toArray, List.getElem_cons_succ, List.getElem_cons_zero, List.setIfInBounds_toArray, List.set_cons_zero, List.set_cons_succ]
                  refine wpAnyH_ready (rs := [4]) (by kernel_rfl) (by simp) ?_
                  refine AllReadyH.cons rfl (fun KK hK => ?_) AllReadyH.nil
                  · simp only [List.getElem_toArray, List.getElem_cons_succ, List.getElem_cons_zero]
                    rw [if_pos (by rfl)]
                    have mk := natDiv_impl w55 r70 r71
                    simp only [unhide EL0, unhide EL1, unhide EB2] at mk
                    refine wps2 34 (.tmp 121) (.tmp 123) _ rfl in_impl_NatDiv (.agg #[v70]) (.agg #[v71]) rfl rfl mk ?_
                    rintro e w57 ⟨v90, v91, mm9, rfl, r90, r91, hma9, hmb9, k57⟩
                    refine ⟨_, rfl, ?_⟩
                    clear mk
                    replace r0 := r0.kept k57 (by omega)
                    replace r1 := r1.kept k57 (by omega)
                    replace rw0 := rw0.kept k57 (by omega)
                    replace rw1 := rw1.kept k57 (by omega)
                    replace rm0 := rm0.kept k57 (by omega)
                    replace rm1 := rm1.kept k57 (by omega)
                    replace r70 := r70.kept k57 (by omega)
                    replace r71 := r71.kept k57 (by omega)
                    replace kw := kw.trans k57
                    replace x0_f0 := k57.loose0 (World.block_lt_of_cell? _ _ x0_0) x0_f0
                    replace x1_f0 := k57.loose0 (World.block_lt_of_cell? _ _ x1_0) x1_f0
                    replace A0_0 := k57.cell0 A0_0
                    replace A1_0 := k57.cell0 A1_0
                    replace cw0_0 := k57.cell0 cw0_0
                    replace cw1_0 := k57.cell0 cw1_0
                    replace cx0_0 := k57.cell0 cx0_0
                    replace cx1_0 := k57.cell0 cx1_0
                    replace cg0_0 := k57.cell0 cg0_0
                    replace cg1_0 := k57.cell0 cg1_0
                    replace x0_0 := k57.cell0 x0_0
                    replace x1_0 := k57.cell0 x1_0
                    replace K := hide ((unhide K).trans k57)
                    have z58 := k57.size
                    obtain ⟨a90, d90, hv⟩ := Row.form' r90
                    subst hv
                    obtain ⟨a91, d91, hv⟩ := Row.form' r91
                    subst hv
                    clear k57
                    clear hHeld
                    refine hK.out _ _ ?_ (fun hHeld => ?_)
                    · exact ⟨A0_0, A1_0⟩
                    clear hK KK
                    try simp only [Act.put, List.getElem_toArray, List.getElem_cons_succ, List.getElem_cons_zero, List.setIfInBounds_toArray, List.set_cons_zero, List.set_cons_succ]
                    refine wpAnyH_take (i := 5) (oi := _) (v := .tuple #[.agg #[.slice a90 L0.length d90], .agg #[.slice a91 L1.length d91], .bool B2]) rfl (by kernel_rfl) (by kernel_rfl) (by kernel_rfl) (fun _ _ _ h => h) (Or.inl ⟨by rfl, ?_⟩) hHeld ?_
                    · intro wq hSw
                      try dsimp only at hSw
                      go_simp
                    try simp only [Act.put, List.getElem_toArray, List.getElem_cons_succ, List.getElem_cons_zero, List.setIfInBounds_toArray, List.set_cons_zero, List.set_cons_succ]
                    refine wpAnyH_take (i := 6) (oi := _) (v := .agg #[.slice a90 L0.length d90]) rfl (by kernel_rfl) (by kernel_rfl) (by kernel_rfl) (fun _ _ _ h => h) (Or.inl ⟨by rfl, ?_⟩) hHeld ?_
                    · intro wq hSw
                      try dsimp only at hSw
                      go_simp
                    try simp only [Act.put, List.getElem_toArray, List.getElem_cons_succ, List.getElem_cons_zero, List.setIfInBounds_toArray, List.set_cons_zero, List.set_cons_succ]
                    refine wpAnyH_take (i := 7) (oi := _) (v := .agg #[.slice a91 L1.length d91]) rfl (by kernel_rfl) (by kernel_rfl) (by kernel_rfl) (fun _ _ _ h => h) (Or.inl ⟨by rfl, ?_⟩) hHeld ?_
                    · intro wq hSw
                      try dsimp only at hSw
                      go_simp
                    try simp only [Act.put, List.getElem_toArray, List.getElem_cons_succ, List.getElem_cons_zero, List.setIfInBounds_toArray, List.set_cons_zero, List.set_cons_succ]
                    refine wpAnyH_take (i := 8) (oi := _) (v := .bool B2) rfl (by kernel_rfl) (by kernel_rfl) (by kernel_rfl) (fun _ _ _ h => h) (Or.inl ⟨by rfl, ?_⟩) hHeld ?_
                    · intro wq hSw
                      try dsimp only at hSw
                      go_simp
                    try simp only [Act.put, List.getElem_toArray, List.getElem_cons_succ, List.getElem_cons_zero, List.setIfInBounds_toArray, List.set_cons_zero, List.set_cons_succ]
                    refine wpAnyH_ready (rs := [11]) (by kernel_rfl) (by simp) ?_
                    refine AllReadyH.cons rfl (fun KK hK => ?_) AllReadyH.nil
                    simp only [List.getElem_toArray, List.getElem_cons_succ, List.getElem_cons_zero]
                    rw [if_pos (by rfl)]
                    go_simp
                    clear hHeld
                    refine hK.out _ _ ?_ (fun hHeld => ?_)
                    · exact ⟨(cell_aside _ (by have := unhide S0; dsimp only; omega) A0_0), (cell_aside _ (by have := unhide S0; dsimp only; omega) A1_0)⟩
                    clear hK KK
                    try simp only [Act.put, List.getElem_toArray, List.getElem_cons_succ, List.getElem_cons_zero, List.setIfInBounds_toArray, List.set_cons_zero, List.set_cons_succ]
                    refine wpAnyH_ready (rs := [12]) (by kernel_rfl) (by simp) ?_
                    refine AllReadyH.cons rfl (fun KK hK => ?_) AllReadyH.nil
                    simp only [List.getElem_toArray, List.getElem_cons_succ, List.getElem_cons_zero]
                    rw [if_pos (by rfl)]
                    go_simp
                    clear hHeld
                    refine hK.out _ _ ?_ (fun hHeld => ?_)
                    · exact ⟨(cell_aside _ (by have := unhide S0; dsimp only; omega) (cell_aside _ (by have := unhide S0; dsimp only; omega) A0_0)), (cell_aside _ (by have := unhide S0; dsimp only; omega) (cell_aside _ (by have := unhide S0; dsimp only; omega) A1_0))⟩
                    clear hK KK
                    try simp only [Act.put, List.getElem_toArray, List.getElem_cons_succ, List.getElem_cons_zero, List.setIfInBounds_toArray, List.set_cons_zero, List.set_cons_succ]
                    refine wpAnyH_take (i := 13) (oi := _) (v := .bool B2) rfl (by kernel_rfl) (by kernel_rfl) (by kernel_rfl) (fun _ _ _ h => h) (Or.inl ⟨by rfl, ?_⟩) hHeld ?_
                    · intro wq hSw
                      try dsimp only at hSw
                      go_simp
                    try simp only [Act.put, List.getElem_toArray, List.getElem_cons_succ, List.getElem_cons_zero, List.setIfInBounds_toArray, List.set_cons_zero, List.set_cons_succ]
                    refine wpAnyH_done (by kernel_rfl) ?_ _
                    clear hHeld
                    go_wp2_with fail
                    go_meet
                    exact ⟨_, _, _, _, rfl, rfl, rfl, law_setNN kw x0_0 x1_0 r90 r91 (by omega) (by omega) (by omega) (by omega) (by omega) (by omega) (by omega) (by omega) (by omega)⟩
        · as_aux_lemma =>
            simp only [List.getElem_toArray, List.getElem_cons_succ, List.getElem_cons_zero]
            rw [if_pos (by rfl)]
            go_simp
            have kn := (Kept.refl 0 0 w49).alloc (.cells #[.slice none 0 0] 26)
            replace r0 := r0.kept kn (by omega)
            replace r1 := r1.kept kn (by omega)
            replace rw0 := rw0.kept kn (by omega)
            replace rw1 := rw1.kept kn (by omega)
            replace rm0 := rm0.kept kn (by omega)
            replace rm1 := rm1.kept kn (by omega)
            replace kw := kw.trans kn
            replace x0_f0 := kn.loose0 (World.block_lt_of_cell? _ _ x0_0) x0_f0
            replace A0_0 := kn.cell0 A0_0
            replace A1_0 := kn.cell0 A1_0
            replace cw0_0 := kn.cell0 cw0_0
            replace cw1_0 := kn.cell0 cw1_0
            replace cx0_0 := kn.cell0 cx0_0
            replace cx1_0 := kn.cell0 cx1_0
            replace cg0_0 := kn.cell0 cg0_0
            replace cg1_0 := kn.cell0 cg1_0
            replace x0_0 := kn.cell0 x0_0
            replace K := hide ((unhide K).trans kn)
            have z52 := kn.size
            clear kn
            have szx1_ : w49.heap.size < (w49.alloc (.cells #[.slice none 0 0] 26)).heap.size := by simp
            have x1_0 : (w49.alloc (.cells #[.slice none 0 0] 26)).cell? ⟨w49.heap.size, 0, none⟩ = some (.slice none 0 0) := new_cell2 _ _ _ _ _ _ rfl rfl
            have x1_f0 : (w49.alloc (.cells #[.slice none 0 0] 26)).frozen? ⟨w49.heap.size, 0, none⟩ = false := new_loose2 _ _ _ _ _ rfl
            clear hHeld
            refine hK.out _ _ ?_ (fun hHeld => ?_)
            · exact ⟨A0_0, A1_0⟩
            clear hK KK
            try simp only [Act.put, List.getElem_toArray, List.getElem_cons_succ, List.getElem_cons_zero, List.setIfInBounds_toArray, List.set_cons_zero, List.set_cons_succ]
            generalize w49.alloc (.cells #[.slice none 0 0] 26) = w51 at *
            refine wpAnyH_ready (rs := [1]) (by kernel_rfl) (by simp) ?_
            refine AllReadyH.cons rfl (fun KK hK => ?_) AllReadyH.nil
            · simp only [List.getElem_toArray, List.getElem_cons_succ, List.getElem_cons_zero]
              rw [if_pos (by rfl)]
              refine wps1 60 (.tmp 120) _ rfl in_toN (.agg #[.slice a0 z0.length c0]) rfl (toNat_any _ hn0 r0) ?_
              rintro e w53 ⟨v70, rfl, r70, k53⟩
              refine ⟨_, rfl, ?_⟩
              replace r0 := r0.kept k53 (by omega)
              replace r1 := r1.kept k53 (by omega)
              replace rw0 := rw0.kept k53 (by omega)
              replace rw1 := rw1.kept k53 (by omega)
              replace rm0 := rm0.kept k53 (by omega)
              replace rm1 := rm1.kept k53 (by omega)
              replace kw := kw.trans k53
              replace x0_f0 := k53.loose0 (World.block_lt_of_cell? _ _ x0_0) x0_f0
              replace x1_f0 := k53.loose0 (World.block_lt_of_cell? _ _ x1_0) x1_f0
              replace A0_0 := k53.cell0 A0_0
              replace A1_0 := k53.cell0 A1_0
              replace cw0_0 := k53.cell0 cw0_0
              replace cw1_0 := k53.cell0 cw1_0
              replace cx0_0 := k53.cell0 cx0_0
              replace cx1_0 := k53.cell0 cx1_0
              replace cg0_0 := k53.cell0 cg0_0
              replace cg1_0 := k53.cell0 cg1_0
              replace x0_0 := k53.cell0 x0_0
              replace x1_0 := k53.cell0 x1_0
              replace K := hide ((unhide K).trans k53)
              have z54 := k53.size
              clear k53
              clear hHeld
              refine hK.out _ _ ?_ (fun hHeld => ?_)
              · exact ⟨A0_0, A1_0⟩
              clear hK KK
              try simp only [Act.put, List.getElem_toArray, List.getElem_cons_succ, List.getElem_cons_zero, List.setIfInBounds_toArray, List.set_cons_zero, List.set_cons_succ]
              refine wpAnyH_ready (rs := [3]) (by kernel_rfl) (by simp) ?_
              refine AllReadyH.cons rfl (fun KK hK => ?_) AllReadyH.nil
              · as_aux_lemma =>
                  simp only [List.getElem_toArray, List.getElem_cons_succ, List.getElem_cons_zero]
                  rw [if_pos (by rfl)]
                  refine wps1 60 (.tmp 122) _ rfl in_toN (.agg #[.slice a1 z1.length c1]) rfl (toNat_any _ hn1 r1) ?_
                  rintro e w55 ⟨v71, rfl, r71, k55⟩
                  refine ⟨_, rfl, ?_⟩
                  replace r0 := r0.kept k55 (by omega)
                  replace r1 := r1.kept k55 (by omega)
                  replace rw0 := rw0.kept k55 (by omega)
                  replace rw1 := rw1.kept k55 (by omega)
                  replace rm0 := rm0.kept k55 (by omega)
                  replace rm1 := rm1.kept k55 (by omega)
                  replace r70 := r70.kept k55 (by omega)
                  replace kw := kw.trans k55
                  replace x0_f0 := k55.loose0 (World.block_lt_of_cell? _ _ x0_0) x0_f0
                  replace x1_f0 := k55.loose0 (World.block_lt_of_cell? _ _ x1_0) x1_f0
                  replace A0_0 := k55.cell0 A0_0
                  replace A1_0 := k55.cell0 A1_0
                  replace cw0_0 := k55.cell0 cw0_0
                  replace cw1_0 := k55.cell0 cw1_0
                  replace cx0_0 := k55.cell0 cx0_0
                  replace cx1_0 := k55.cell0 cx1_0
                  replace cg0_0 := k55.cell0 cg0_0
                  replace cg1_0 := k55.cell0 cg1_0
                  replace x0_0 := k55.cell0 x0_0
                  replace x1_0 := k55.cell0 x1_0
                  replace K := hide ((unhide K).trans k55)
                  have z56 := k55.size
                  clear k55
                  clear hHeld
                  refine hK.out _ _ ?_ (fun hHeld => ?_)
                  · exact ⟨A0_0, A1_0⟩
                  clear hK KK
                  try simp only [Act.put, List.getElem_toArray, List.getElem_cons_succ, List.getElem_cons_zero, List.setIfInBounds_toArray, List.set_cons_zero, List.set_cons_succ]
                  refine wpAnyH_ready (rs := [4]) (by kernel_rfl) (by simp) ?_
                  refine AllReadyH.cons rfl (fun KK hK => ?_) AllReadyH.nil
                  · simp only [List.getElem_toArray, List.getElem_cons_succ, List.getElem_cons_zero]
                    rw [if_pos (by rfl)]
                    have mk := natDiv_impl w55 r70 r71
                    simp only [unhide EL0, unhide EL1, unhide EB2] at mk
                    refine wps2 34 (.tmp 121) (.tmp 123) _ rfl in_impl_NatDiv (.agg #[v70]) (.agg #[v71]) rfl rfl mk ?_
                    rintro e w57 ⟨v90, v91, mm9, rfl, r90, r91, hma9, hmb9, k57⟩
                    refine ⟨_, rfl, ?_⟩
                    clear mk
                    replace r0 := r0.kept k57 (by omega)
                    replace r1 := r1.kept k57 (by omega)
                    replace rw0 := rw0.kept k57 (by omega)
                    replace rw1 := rw1.kept k57 (by omega)
                    replace rm0 := rm0.kept k57 (by omega)
                    replace rm1 := rm1.kept k57 (by omega)
                    replace r70 := r70.kept k57 (by omega)
                    replace r71 := r71.kept k57 (by omega)
                    replace kw := kw.trans k57
                    replace x0_f0 := k57.loose0 (World.block_lt_of_cell? _ _ x0_0) x0_f0
                    replace x1_f0 := k57.loose0 (World.block_lt_of_cell? _ _ x1_0) x1_f0
                    replace A0_0 := k57.cell0 A0_0
                    replace A1_0 := k57.cell0 A1_0
                    replace cw0_0 := k57.cell0 cw0_0
                    replace cw1_0 := k57.cell0 cw1_0
                    replace cx0_0 := k57.cell0 cx0_0
                    replace cx1_0 := k57.cell0 cx1_0
                    replace cg0_0 := k57.cell0 cg0_0
                    replace cg1_0 := k57.cell0 cg1_0
                    replace x0_0 := k57.cell0 x0_0
                    replace x1_0 := k57.cell0 x1_0
                    replace K := hide ((unhide K).trans k57)
                    have z58 := k57.size
                    obtain ⟨a90, d90, hv⟩ := Row.form' r90
                    subst hv
                    obtain ⟨a91, d91, hv⟩ := Row.form' r91
                    subst hv
                    clear k57
                    clear hHeld
                    refine hK.out _ _ ?_ (fun hHeld => ?_)
                    · exact ⟨A0_0, A1_0⟩
                    clear hK KK
                    try simp only [Act.put, List.getElem_toArray, List.getElem_cons_succ, List.getElem_cons_zero, List.setIfInBounds_toArray, List.set_cons_zero, List.set_cons_succ]
                    refine wpAnyH_take (i := 5) (oi := _) (v := .tuple #[.agg #[.slice a90 L0.length d90], .agg #[.slice a91 L1.length d91], .bool B2]) rfl (by kernel_rfl) (by kernel_rfl) (by kernel_rfl) (fun _ _ _ h => h) (Or.inl ⟨by rfl, ?_⟩) hHeld ?_
                    · intro wq hSw
                      try dsimp only at hSw
                      go_simp
                    try simp only [Act.put, List.getElem_toArray, List.getElem_cons_succ, List.getElem_cons_zero, List.setIfInBounds_toArray, List.set_cons_zero, List.set_cons_succ]
                    refine wpAnyH_take (i := 6) (oi := _) (v := .agg #[.slice a90 L0.length d90]) rfl (by kernel_rfl) (by kernel_rfl) (by kernel_rfl) (fun _ _ _ h => h) (Or.inl ⟨by rfl, ?_⟩) hHeld ?_
                    · intro wq hSw
                      try dsimp only at hSw
                      go_simp
                    try simp only [Act.put, List.getElem_toArray, List.getElem_cons_succ, List.getElem_cons_zero, List.setIfInBounds_toArray, List.set_cons_zero, List.set_cons_succ]
                    refine wpAnyH_take (i := 7) (oi := _) (v := .agg #[.slice a91 L1.length d91]) rfl (by kernel_rfl) (by kernel_rfl) (by kernel_rfl) (fun _ _ _ h => h) (Or.inl ⟨by rfl, ?_⟩) hHeld ?_
                    · intro wq hSw
                      try dsimp only at hSw
                      go_simp
                    try simp only [Act.put, List.getElem_toArray, List.getElem_cons_succ, List.getElem_cons_zero, List.setIfInBounds_toArray, List.set_cons_zero, List.set_cons_succ]
                    refine wpAnyH_take (i := 8) (oi := _) (v := .bool B2) rfl (by kernel_rfl) (by kernel_rfl) (by kernel_rfl) (fun _ _ _ h => h) (Or.inl ⟨by rfl, ?_⟩) hHeld ?_
                    · intro wq hSw
                      try dsimp only at hSw
                      go_simp
                    try simp only [Act.put, List.getElem_toArray, List.getElem_cons_succ, List.getElem_cons_zero, List.setIfInBounds_toArray, List.set_cons_zero, List.set_cons_succ]
                    refine wpAnyH_ready (rs := [11]) (by kernel_rfl) (by simp) ?_
                    refine AllReadyH.cons rfl (fun KK hK => ?_) AllReadyH.nil
                    simp only [List.getElem_toArray, List.getElem_cons_succ, List.getElem_cons_zero]
                    rw [if_pos (by rfl)]
                    go_simp
                    clear hHeld
                    refine hK.out _ _ ?_ (fun hHeld => ?_)
                    · exact ⟨(cell_aside _ (by have := unhide S0; dsimp only; omega) A0_0), (cell_aside _ (by have := unhide S0; dsimp only; omega) A1_0)⟩
                    clear hK KK
                    try simp only [Act.put, List.getElem_toArray, List.getElem_cons_succ, List.getElem_cons_zero, List.setIfInBounds_toArray, List.set_cons_zero, List.set_cons_succ]
                    refine wpAnyH_ready (rs := [12]) (by kernel_rfl) (by simp) ?_
                    refine AllReadyH.cons rfl (fun KK hK => ?_) AllReadyH.nil
                    simp only [List.getElem_toArray, List.getElem_cons_succ, List.getElem_cons_zero]
                    rw [if_pos (by rfl)]
                    go_simp
                    clear hHeld
                    refine hK.out _ _ ?_ (fun hHeld => ?_)
                    · exact ⟨(cell_aside _ (by have := unhide S0; dsimp only; omega) (cell_aside _ (by have := unhide S0; dsimp only; omega) A0_0)), (cell_aside _ (by have := unhide S0; dsimp only; omega) (cell_aside _ (by have := unhide S0; dsimp only; omega) A1_0))⟩
                    clear hK KK
                    try simp only [Act.put, List.getElem_toArray, List.getElem_cons_succ, List.getElem_cons_zero, List.setIfInBounds_toArray, List.set_cons_zero, List.set_cons_succ]
                    refine wpAnyH_take (i := 13) (oi := _) (v := .bool B2) rfl (by kernel_rfl) (by kernel_rfl) (by kernel_rfl) (fun _ _ _ h => h) (Or.inl ⟨by rfl, ?_⟩) hHeld ?_
                    · intro wq hSw
                      try dsimp only at hSw
                      go_simp
                    try simp only [Act.put, List.getElem_toArray, List.getElem_cons_succ, List.getElem_cons_zero, List.setIfInBounds_toArray, List.set_cons_zero, List.set_cons_succ]
                    refine wpAnyH_done (by kernel_rfl) ?_ _
                    clear hHeld
                    go_wp2_with fail
                    go_meet
                    exact ⟨_, _, _, _, rfl, rfl, rfl, law_setNN kw x0_0 x1_0 r90 r91 (by omega) (by omega) (by omega) (by omega) (by omega) (by omega) (by omega) (by omega) (by omega)⟩
      · simp only [List.getElem_toArray, List.getElem_cons_succ, List.getElem_cons_zero]
        rw [if_pos (by rfl)]
        go_simp
        have kn := (Kept.refl 0 0 wd).alloc (.cells #[.slice none 0 0] 26)
        replace r0 := r0.kept kn (by omega)
        replace r1 := r1.kept kn (by omega)
        replace rw0 := rw0.kept kn (by omega)
        replace rw1 := rw1.kept kn (by omega)
        replace rm0 := rm0.kept kn (by omega)
        replace rm1 := rm1.kept kn (by omega)
        replace kw := kw.trans kn
        replace A0_0 := kn.cell0 A0_0
        replace A1_0 := kn.cell0 A1_0
        replace cw0_0 := kn.cell0 cw0_0
        replace cw1_0 := kn.cell0 cw1_0
        replace cx0_0 := kn.cell0 cx0_0
        replace cx1_0 := kn.cell0 cx1_0
        replace cg0_0 := kn.cell0 cg0_0
        replace cg1_0 := kn.cell0 cg1_0
        replace K := hide ((unhide K).trans kn)
        have z50 := kn.size
        clear kn
        have szx1_ : wd.heap.size < (wd.alloc (.cells #[.slice none 0 0] 26)).heap.size := by simp
        have x1_0 : (wd.alloc (.cells #[.slice none 0 0] 26)).cell? ⟨wd.heap.size, 0, none⟩ = some (.slice none 0 0) := new_cell2 _ _ _ _ _ _ rfl rfl
        have x1_f0 : (wd.alloc (.cells #[.slice none 0 0] 26)).frozen? ⟨wd.heap.size, 0, none⟩ = false := new_loose2 _ _ _ _ _ rfl
        clear hHeld
        refine hK.out _ _ ?_ (fun hHeld => ?_)
        · exact ⟨A0_0, A1_0⟩
        clear hK KK
        try simp only [Act.put, List.getElem_toArray, List.getElem_cons_succ, List.getElem_cons_zero, List.setIfInBounds_toArray, List.set_cons_zero, List.set_cons_succ]
        generalize wd.alloc (.cells #[.slice none 0 0] 26) = w49 at *
        refine wpAnyH_ready (rs := [1, 9]) (by kernel_rfl) (by simp) ?_
        refine AllReadyH.cons rfl (fun KK hK => ?_) (AllReadyH.cons rfl (fun KK hK => ?_) AllReadyH.nil)
        · as_aux_lemma =>
            simp only [List.getElem_toArray, List.getElem_cons_succ, List.getElem_cons_zero]
            rw [if_pos (by rfl)]
            refine wps1 60 (.tmp 120) _ rfl in_toN (.agg #[.slice a0 z0.length c0]) rfl (toNat_any _ hn0 r0) ?_
            rintro e w51 ⟨v70, rfl, r70, k51⟩
            refine ⟨_, rfl, ?_⟩
            replace r0 := r0.kept k51 (by omega)
            replace r1 := r1.kept k51 (by omega)
            replace rw0 := rw0.kept k51 (by omega)
            replace rw1 := rw1.kept k51 (by omega)
            replace rm0 := rm0.kept k51 (by omega)
            replace rm1 := rm1.kept k51 (by omega)
            replace kw := kw.trans k51
            replace x1_f0 := k51.loose0 (World.block_lt_of_cell? _ _ x1_0) x1_f0
            replace A0_0 := k51.cell0 A0_0
            replace A1_0 := k51.cell0 A1_0
            replace cw0_0 := k51.cell0 cw0_0
            replace cw1_0 := k51.cell0 cw1_0
            replace cx0_0 := k51.cell0 cx0_0
            replace cx1_0 := k51.cell0 cx1_0
            replace cg0_0 := k51.cell0 cg0_0
            replace cg1_0 := k51.cell0 cg1_0
            replace x1_0 := k51.cell0 x1_0
            replace K := hide ((unhide K).trans k51)
            have z52 := k51.size
            clear k51
            clear hHeld
            refine hK.out _ _ ?_ (fun hHeld => ?_)
            · exact ⟨A0_0, A1_0⟩
            clear hK KK
            try simp only [Act.put, List.getElem_toArray, List.getElem_cons_succ, List.getElem_cons_zero, List.setIfInBounds_toArray, List.set_cons_zero, List.set_cons_succ]
            refine wpAnyH_ready (rs := [3, 9]) (by kernel_rfl) (by simp) ?_
            refine AllReadyH.cons rfl (fun KK hK => ?_) (AllReadyH.cons rfl (fun KK hK => ?_) AllReadyH.nil)
            · simp only [List.getElem_toArray, List.getElem_cons_succ, List.getElem_cons_zero]
              rw [if_pos (by rfl)]
              refine wps1 60 (.tmp 122) _ rfl in_toN (.agg #[.slice a1 z1.length c1]) rfl (toNat_any _ hn1 r1) ?_
              rintro e w53 ⟨v71, rfl, r71, k53⟩
              refine ⟨_, rfl, ?_⟩
              replace r0 := r0.kept k53 (by omega)
              replace r1 := r1.kept k53 (by omega)
              replace rw0 := rw0.kept k53 (by omega)
              replace rw1 := rw1.kept k53 (by omega)
              replace rm0 := rm0.kept k53 (by omega)
              replace rm1 := rm1.kept k53 (by omega)
              replace r70 := r70.kept k53 (by omega)
              replace kw := kw.trans k53
              replace x1_f0 := k53.loose0 (World.block_lt_of_cell? _ _ x1_0) x1_f0
              replace A0_0 := k53.cell0 A0_0
              replace A1_0 := k53.cell0 A1_0
              replace cw0_0 := k53.cell0 cw0_0
              replace cw1_0 := k53.cell0 cw1_0
              replace cx0_0 := k53.cell0 cx0_0
              replace cx1_0 := k53.cell0 cx1_0
              replace cg0_0 := k53.cell0 cg0_0
              replace cg1_0 := k53.cell0 cg1_0
              replace x1_0 := k53.cell0 x1_0
              replace K := hide ((unhide K).trans k53)
              have z54 := k53.size
              clear k53
              clear hHeld
              refine hK.out _ _ ?_ (fun hHeld => ?_)
              · exact ⟨A0_0, A1_0⟩
              clear hK KK
              try simp only [Act.put, List.getElem_toArray, List.getElem_cons_succ, List.getElem_cons_zero, List.setIfInBounds_toArray, List.set_cons_zero, List.set_cons_succ]
              refine wpAnyH_ready (rs := [4, 9]) (by kernel_rfl) (by simp) ?_
              refine AllReadyH.cons rfl (fun KK hK => ?_) (AllReadyH.cons rfl (fun KK hK => ?_) AllReadyH.nil)
              · as_aux_lemma =>
                  simp only [List.getElem_toArray, List.getElem_cons_succ, List.getElem_cons_zero]
                  rw [if_pos (by rfl)]
                  have mk := natDiv_impl w53 r70 r71
                  simp only [unhide EL0, unhide EL1, unhide EB2] at mk
                  refine wps2 34 (.tmp 121) (.tmp 123) _ rfl in_impl_NatDiv (.agg #[v70]) (.agg #[v71]) rfl rfl mk ?_
                  rintro e w55 ⟨v90, v91, mm9, rfl, r90, r91, hma9, hmb9, k55⟩
                  refine ⟨_, rfl, ?_⟩
                  clear mk
                  replace r0 := r0.kept k55 (by omega)
                  replace r1 := r1.kept k55 (by omega)
                  replace rw0 := rw0.kept k55 (by omega)
                  replace rw1 := rw1.kept k55 (by omega)
                  replace rm0 := rm0.kept k55 (by omega)
                  replace rm1 := rm1.kept k55 (by omega)
                  replace r70 := r70.kept k55 (by omega)
                  replace r71 := r71.kept k55 (by omega)
                  replace kw := kw.trans k55
                  replace x1_f0 := k55.loose0 (World.block_lt_of_cell? _ _ x1_0) x1_f0
                  replace A0_0 := k55.cell0 A0_0
                  replace A1_0 := k55.cell0 A1_0
                  replace cw0_0 := k55.cell0 cw0_0
                  replace cw1_0 := k55.cell0 cw1_0
                  replace cx0_0 := k55.cell0 cx0_0
                  replace cx1_0 := k55.cell0 cx1_0
                  replace cg0_0 := k55.cell0 cg0_0
                  replace cg1_0 := k55.cell0 cg1_0
                  replace x1_0 := k55.cell0 x1_0
                  replace K := hide ((unhide K).trans k55)
                  have z56 := k55.size
                  obtain ⟨a90, d90, hv⟩ := Row.form' r90
                  subst hv
                  obtain ⟨a91, d91, hv⟩ := Row.form' r91
                  subst hv
                  clear k55
                  clear hHeld
                  refine hK.out _ _ ?_ (fun hHeld => ?_)
                  · exact ⟨A0_0, A1_0⟩
                  clear hK KK
                  try simp only [Act.put, List.getElem_toArray, List.getElem_cons_succ, List.getElem_cons_zero, List.setIfInBounds_toArray, List.set_cons_zero, List.set_cons_succ]
                  refine wpAnyH_take (i := 5) (oi := _) (v := .tuple #[.agg #[.slice a90 L0.length d90], .agg #[.slice a91 L1.length d91], .bool B2]) rfl (by kernel_rfl) (by kernel_rfl) (by kernel_rfl) (fun _ _ _ h => h) (Or.inl ⟨by rfl, ?_⟩) hHeld ?_
                  · intro wq hSw
                    try dsimp only at hSw
                    go_simp
                  try simp only [Act.put, List.getElem_toArray, List.getElem_cons_succ, List.getElem_cons_zero, List.setIfInBounds_toArray, List.set_cons_zero, List.set_cons_succ]
                  refine wpAnyH_take (i := 6) (oi := _) (v := .agg #[.slice a90 L0.length d90]) rfl (by kernel_rfl) (by kernel_rfl) (by kernel_rfl) (fun _ _ _ h => h) (Or.inl ⟨by rfl, ?_⟩) hHeld ?_
                  · intro wq hSw
                    try dsimp only at hSw
                    go_simp
                  try simp only [Act.put, List.getElem_toArray, List.getElem_cons_succ, List.getElem_cons_zero, List.setIfInBounds_toArray, List.set_cons_zero, List.set_cons_succ]
                  refine wpAnyH_take (i := 7) (oi := _) (v := .agg #[.slice a91 L1.length d91]) rfl (by kernel_rfl) (by kernel_rfl) (by kernel_rfl) (fun _ _ _ h => h) (Or.inl ⟨by rfl, ?_⟩) hHeld ?_
                  · intro wq hSw
                    try dsimp only at hSw
                    go_simp
                  try simp only [Act.put, List.getElem_toArray, List.getElem_cons_succ, List.getElem_cons_zero, List.setIfInBounds_toArray, List.set_cons_zero, List.set_cons_succ]
                  refine wpAnyH_take (i := 8) (oi := _) (v := .bool B2) rfl (by kernel_rfl) (by kernel_rfl) (by kernel_rfl) (fun _ _ _ h => h) (Or.inl ⟨by rfl, ?_⟩) hHeld ?_
                  · intro wq hSw
                    try dsimp only at hSw
                    go_simp
                  try simp only [Act.put, List.getElem_toArray, List.getElem_cons_succ, List.getElem_cons_zero, List.setIfInBounds_toArray, List.set_cons_zero, List.set_cons_succ]
                  refine wpAnyH_ready (rs := [9]) (by kernel_rfl) (by simp) ?_
                  refine AllReadyH.cons rfl (fun KK hK => ?_) AllReadyH.nil
                  · simp only [List.getElem_toArray, List.getElem_cons_succ, List.getElem_cons_zero]
                    rw [if_pos (by rfl)]
                    go_simp
                    have kn := (Kept.refl 0 0 w55).alloc (.cells #[.slice none 0 0] 26)
                    replace r0 := r0.kept kn (by omega)
                    replace r1 := r1.kept kn (by omega)
                    replace rw0 := rw0.kept kn (by omega)
                    replace rw1 := rw1.kept kn (by omega)
                    replace rm0 := rm0.kept kn (by omega)
                    replace rm1 := rm1.kept kn (by omega)
                    replace r70 := r70.kept kn (by omega)
                    replace r71 := r71.kept kn (by omega)
                    replace r90 := r90.kept kn (by omega)
                    replace r91 := r91.kept kn (by omega)
                    replace kw := kw.trans kn
                    replace x1_f0 := kn.loose0 (World.block_lt_of_cell? _ _ x1_0) x1_f0
                    replace A0_0 := kn.cell0 A0_0
                    replace A1_0 := kn.cell0 A1_0
                    replace cw0_0 := kn.cell0 cw0_0
                    replace cw1_0 := kn.cell0 cw1_0
                    replace cx0_0 := kn.cell0 cx0_0
                    replace cx1_0 := kn.cell0 cx1_0
                    replace cg0_0 := kn.cell0 cg0_0
                    replace cg1_0 := kn.cell0 cg1_0
                    replace x1_0 := kn.cell0 x1_0
                    replace K := hide ((unhide K).trans kn)
                    have z58 := kn.size
                    clear kn
                    have szx0_ : w55.heap.size < (w55.alloc (.cells #[.slice none 0 0] 26)).heap.size := by simp
                    have x0_0 : (w55.alloc (.cells #[.slice none 0 0] 26)).cell? ⟨w55.heap.size, 0, none⟩ = some (.slice none 0 0) := new_cell2 _ _ _ _ _ _ rfl rfl
                    have x0_f0 : (w55.alloc (.cells #[.slice none 0 0] 26)).frozen? ⟨w55.heap.size, 0, none⟩ = false := new_loose2 _ _ _ _ _ rfl
                    clear hHeld
                    refine hK.out _ _ ?_ (fun hHeld => ?_)
                    · exact ⟨A0_0, A1_0⟩
                    clear hK KK
                    try simp only [Act.put, List.getElem_toArray, List.getElem_cons_succ, List.getElem_cons_zero, List.setIfInBounds_toArray, List.set_cons_zero, List.set_cons_succ]
                    generalize w55.alloc (.cells #[.slice none 0 0] 26) = w57 at *
                    refine wpAnyH_ready (rs := [11]) (by kernel_rfl) (by simp) ?_
                    refine AllReadyH.cons rfl (fun KK hK => ?_) AllReadyH.nil
                    simp only [List.getElem_toArray, List.getElem_cons_succ, List.getElem_cons_zero]
                    rw [if_pos (by rfl)]
                    go_simp
                    clear hHeld
                    refine hK.out _ _ ?_ (fun hHeld => ?_)
                    · exact ⟨(cell_aside _ (by have := unhide S0; dsimp only; omega) A0_0), (cell_aside _ (by have := unhide S0; dsimp only; omega) A1_0)⟩
                    clear hK KK
                    try simp only [Act.put, List.getElem_toArray, List.getElem_cons_succ, List.getElem_cons_zero, List.setIfInBounds_toArray, List.set_cons_zero, List.set_cons_succ]
                    refine wpAnyH_ready (rs := [12]) (by kernel_rfl) (by simp) ?_
                    refine AllReadyH.cons rfl (fun KK hK => ?_) AllReadyH.nil
                    simp only [List.getElem_toArray, List.getElem_cons_succ, List.getElem_cons_zero]
                    rw [if_pos (by rfl)]
                    go_simp
                    clear hHeld
                    refine hK.out _ _ ?_ (fun hHeld => ?_)
                    · exact ⟨(cell_aside _ (by have := unhide S0; dsimp only; omega) (cell_aside _ (by have := unhide S0; dsimp only; omega) A0_0)), (cell_aside _ (by have := unhide S0; dsimp only; omega) (cell_aside _ (by have := unhide S0; dsimp only; omega) A1_0))⟩
                    clear hK KK
                    try simp only [Act.put, List.getElem_toArray, List.getElem_cons_succ, List.getElem_cons_zero, List.setIfInBounds_toArray, List.set_cons_zero, List.set_cons_succ]
                    refine wpAnyH_take (i := 13) (oi := _) (v := .bool B2) rfl (by kernel_rfl) (by kernel_rfl) (by kernel_rfl) (fun _ _ _ h => h) (Or.inl ⟨by rfl, ?_⟩) hHeld ?_
                    · intro wq hSw
                      try dsimp only at hSw
                      go_simp
                    try simp only [Act.put, List.getElem_toArray, List.getElem_cons_succ, List.getElem_cons_zero, List.setIfInBounds_toArray, List.set_cons_zero, List.set_cons_succ]
                    refine wpAnyH_done (by kernel_rfl) ?_ _
                    clear hHeld
                    go_wp2_with fail
                    go_meet
                    exact ⟨_, _, _, _, rfl, rfl, rfl, law_setNN kw x0_0 x1_0 r90 r91 (by omega) (by omega) (by omega) (by omega) (by omega) (by omega) (by omega) (by omega) (by omega)⟩
              · as_aux_lemma =>
                  simp only [List.getElem_toArray, List.getElem_cons_succ, List.getElem_cons_zero]
                  rw [if_pos (by rfl)]
                  go_simp
                  have kn := (Kept.refl 0 0 w53).alloc (.cells #[.slice none 0 0] 26)
                  replace r0 := r0.kept kn (by omega)
                  replace r1 := r1.kept kn (by omega)
                  replace rw0 := rw0.kept kn (by omega)
                  replace rw1 := rw1.kept kn (by omega)
                  replace rm0 := rm0.kept kn (by omega)
                  replace rm1 := rm1.kept kn (by omega)
                  replace r70 := r70.kept kn (by omega)
                  replace r71 := r71.kept kn (by omega)
                  replace kw := kw.trans kn
                  replace x1_f0 := kn.loose0 (World.block_lt_of_cell? _ _ x1_0) x1_f0
                  replace A0_0 := kn.cell0 A0_0
                  replace A1_0 := kn.cell0 A1_0
                  replace cw0_0 := kn.cell0 cw0_0
                  replace cw1_0 := kn.cell0 cw1_0
                  replace cx0_0 := kn.cell0 cx0_0
                  replace cx1_0 := kn.cell0 cx1_0
                  replace cg0_0 := kn.cell0 cg0_0
                  replace cg1_0 := kn.cell0 cg1_0
                  replace x1_0 := kn.cell0 x1_0
                  replace K := hide ((unhide K).trans kn)
                  have z56 := kn.size
                  clear kn
                  have szx0_ : w53.heap.size < (w53.alloc (.cells #[.slice none 0 0] 26)).heap.size := by simp
                  have x0_0 : (w53.alloc (.cells #[.slice none 0 0] 26)).cell? ⟨w53.heap.size, 0, none⟩ = some (.slice none 0 0) := new_cell2 _ _ _ _ _ _ rfl rfl
                  have x0_f0 : (w53.alloc (.cells #[.slice none 0 0] 26)).frozen? ⟨w53.heap.size, 0, none⟩ = false := new_loose2 _ _ _ _ _ rfl
                  clear hHeld
                  refine hK.out _ _ ?_ (fun hHeld => ?_)
                  · exact ⟨A0_0, A1_0⟩
                  clear hK KK
                  try simp only [Act.put, List.getElem_toArray, List.getElem_cons_succ, List.getElem_cons_zero, List.setIfInBounds_toArray, List.set_cons_zero, List.set_cons_succ]
                  generalize w53.alloc (.cells #[.slice none 0 0] 26) = w55 at *
                  refine wpAnyH_ready (rs := [4]) (by kernel_rfl) (by simp) ?_
                  refine AllReadyH.cons rfl (fun KK hK => ?_) AllReadyH.nil
                  · simp only [List.getElem_toArray, List.getElem_cons_succ, List.getElem_cons_zero]
                    rw [if_pos (by rfl)]
                    have mk := natDiv_impl w55 r70 r71
                    simp only [unhide EL0, unhide EL1, unhide EB2] at mk
                    refine wps2 34 (.tmp 121) (.tmp 123) _ rfl in_impl_NatDiv (.agg #[v70]) (.agg #[v71]) rfl rfl mk ?_
                    rintro e w57 ⟨v90, v91, mm9, rfl, r90, r91, hma9, hmb9, k57⟩
                    refine ⟨_, rfl, ?_⟩
                    clear mk
                    replace r0 := r0.kept k57 (by omega)
                    replace r1 := r1.kept k57 (by omega)
                    replace rw0 := rw0.kept k57 (by omega)
                    replace rw1 := rw1.kept k57 (by omega)
                    replace rm0 := rm0.kept k57 (by omega)
                    replace rm1 := rm1.kept k57 (by omega)
                    replace r70 := r70.kept k57 (by omega)
                    replace r71 := r71.kept k57 (by omega)
                    replace kw := kw.trans k57
                    replace x1_f0 := k57.loose0 (World.block_lt_of_cell? _ _ x1_0) x1_f0
                    replace x0_f0 := k57.loose0 (World.block_lt_of_cell? _ _ x0_0) x0_f0
                    replace A0_0 := k57.cell0 A0_0
                    replace A1_0 := k57.cell0 A1_0
                    replace cw0_0 := k57.cell0 cw0_0
                    replace cw1_0 := k57.cell0 cw1_0
                    replace cx0_0 := k57.cell0 cx0_0
                    replace cx1_0 := k57.cell0 cx1_0
                    replace cg0_0 := k57.cell0 cg0_0
                    replace cg1_0 := k57.cell0 cg1_0
                    replace x1_0 := k57.cell0 x1_0
                    replace x0_0 := k57.cell0 x0_0
                    replace K := hide ((unhide K).trans k57)
                    have z58 := k57.size
                    obtain ⟨a90, d90, hv⟩ := Row.form' r90
                    subst hv
                    obtain ⟨a91, d91, hv⟩ := Row.form' r91
                    subst hv
                    clear k57
                    clear hHeld
                    refine hK.out _ _ ?_ (fun hHeld => ?_)
                    · exact ⟨A0_0, A1_0⟩
                    clear hK KK
                    try simp only [Act.put, List.getElem_toArray, List.getElem_cons_succ, List.getElem_cons_zero, List.setIfInBounds_toArray, List.set_cons_zero, List.set_cons_succ]
                    refine wpAnyH_take (i := 5) (oi := _) (v := .tuple #[.agg #[.slice a90 L0.length d90], .agg #[.slice a91 L1.length d91], .bool B2]) rfl (by kernel_rfl) (by kernel_rfl) (by kernel_rfl) (fun _ _ _ h => h) (Or.inl ⟨by rfl, ?_⟩) hHeld ?_
                    · intro wq hSw
                      try dsimp only at hSw
                      go_simp
                    try simp only [Act.put, List.getElem_toArray, List.getElem_cons_succ, List.getElem_cons_zero, List.setIfInBounds_toArray, List.set_cons_zero, List.set_cons_succ]
                    refine wpAnyH_take (i := 6) (oi := _) (v := .agg #[.slice a90 L0.length d90]) rfl (by kernel_rfl) (by kernel_rfl) (by kernel_rfl) (fun _ _ _ h => h) (Or.inl ⟨by rfl, ?_⟩) hHeld ?_
                    · intro wq hSw
                      try dsimp only at hSw
                      go_simp
                    try simp only [Act.put, List.getElem_toArray, List.getElem_cons_succ, List.getElem_cons_zero, List.setIfInBounds_toArray, List.set_cons_zero, List.set_cons_succ]
                    refine wpAnyH_take (i := 7) (oi := _) (v := .agg #[.slice a91 L1.length d91]) rfl (by kernel_rfl) (by kernel_rfl) (by kernel_rfl) (fun _ _ _ h => h) (Or.inl ⟨by rfl, ?_⟩) hHeld ?_
                    · intro wq hSw
                      try dsimp only at hSw
                      go_simp
                    try simp only [Act.put, List.getElem_toArray, List.getElem_cons_succ, List.getElem_cons_zero, List.setIfInBounds_toArray, List.set_cons_zero, List.set_cons_succ]
                    refine wpAnyH_take (i := 8) (oi := _) (v := .bool B2) rfl (by kernel_rfl) (by kernel_rfl) (by kernel_rfl) (fun _ _ _ h => h) (Or.inl ⟨by rfl, ?_⟩) hHeld ?_
                    · intro wq hSw
                      try dsimp only at hSw
                      go_simp
                    try simp only [Act.put, List.getElem_toArray, List.getElem_cons_succ, List.getElem_cons_zero, List.setIfInBounds_toArray, List.set_cons_zero, List.set_cons_succ]
                    refine wpAnyH_ready (rs := [11]) (by kernel_rfl) (by simp) ?_
                    refine AllReadyH.cons rfl (fun KK hK => ?_) AllReadyH.nil
                    simp only [List.getElem_toArray, List.getElem_cons_succ, List.getElem_cons_zero]
                    rw [if_pos (by rfl)]
                    go_simp
                    clear hHeld
                    refine hK.out _ _ ?_ (fun hHeld => ?_)
                    · exact ⟨(cell_aside _ (by have := unhide S0; dsimp only; omega) A0_0), (cell_aside _ (by have := unhide S0; dsimp only; omega) A1_0)⟩
                    clear hK KK
                    try simp only [Act.put, List.getElem_toArray, List.getElem_cons_succ, List.getElem_cons_zero, List.setIfInBounds_toArray, List.set_cons_zero, List.set_cons_succ]
                    refine wpAnyH_ready (rs := [12]) (by kernel_rfl) (by simp) ?_
                    refine AllReadyH.cons rfl (fun KK hK => ?_) AllReadyH.nil
                    simp only [List.getElem_toArray, List.getElem_cons_succ, List.getElem_cons_zero]
                    rw [if_pos (by rfl)]
                    go_simp
                    clear hHeld
                    refine hK.out _ _ ?_ (fun hHeld => ?_)
                    · exact ⟨(cell_aside _ (by have := unhide S0; dsimp only; omega) (cell_aside _ (by have := unhide S0; dsimp only; omega) A0_0)), (cell_aside _ (by have := unhide S0; dsimp only; omega) (cell_aside _ (by have := unhide S0; dsimp only; omega) A1_0))⟩
                    clear hK KK
                    try simp only [Act.put, List.getElem_toArray, List.getElem_cons_succ, List.getElem_cons_zero, List.setIfInBounds_toArray, List.set_cons_zero, List.set_cons_succ]
                    refine wpAnyH_take (i := 13) (oi := _) (v := .bool B2) rfl (by kernel_rfl) (by kernel_rfl) (by kernel_rfl) (fun _ _ _ h => h) (Or.inl ⟨by rfl, ?_⟩) hHeld ?_
                    · intro wq hSw
                      try dsimp only at hSw
                      go_simp
                    try simp only [Act.put, List.getElem_toArray, List.getElem_cons_succ, List.getElem_cons_zero, List.setIfInBounds_toArray, List.set_cons_zero, List.set_cons_succ]
                    refine wpAnyH_done (by kernel_rfl) ?_ _
                    clear hHeld
                    go_wp2_with fail
                    go_meet
                    exact ⟨_, _, _, _, rfl, rfl, rfl, law_setNN kw x0_0 x1_0 r90 r91 (by omega) (by omega) (by omega) (by omega) (by omega) (by omega) (by omega) (by omega) (by omega)⟩
            · simp only [List.getElem_toArray, List.getElem_cons_succ, List.getElem_cons_zero]
              rw [if_pos (by rfl)]
              go_simp
              have kn := (Kept.refl 0 0 w51).alloc (.cells #[.slice none 0 0] 26)
              replace r0 := r0.kept kn (by omega)
              replace r1 := r1.kept kn (by omega)
              replace rw0 := rw0.kept kn (by omega)
              replace rw1 := rw1.kept kn (by omega)
              replace rm0 := rm0.kept kn (by omega)
              replace rm1 := rm1.kept kn (by omega)
              replace r70 := r70.kept kn (by omega)
              replace kw := kw.trans kn
              replace x1_f0 := kn.loose0 (World.block_lt_of_cell? _ _ x1_0) x1_f0
              replace A0_0 := kn.cell0 A0_0
              replace A1_0 := kn.cell0 A1_0
              replace cw0_0 := kn.cell0 cw0_0
              replace cw1_0 := kn.cell0 cw1_0
              replace cx0_0 := kn.cell0 cx0_0
              replace cx1_0 := kn.cell0 cx1_0
              replace cg0_0 := kn.cell0 cg0_0
              replace cg1_0 := kn.cell0 cg1_0
              replace x1_0 := kn.cell0 x1_0
              replace K := hide ((unhide K).trans kn)
              have z54 := kn.size
              clear kn
              have szx0_ : w51.heap.size < (w51.alloc (.cells #[.slice none 0 0] 26)).heap.size := by simp
              have x0_0 : (w51.alloc (.cells #[.slice none 0 0] 26)).cell? ⟨w51.heap.size, 0, none⟩ = some (.slice none 0 0) := new_cell2 _ _ _ _ _ _ rfl rfl
              have x0_f0 : (w51.alloc (.cells #[.slice none 0 0] 26)).frozen? ⟨w51.heap.size, 0, none⟩ = false := new_loose2 _ _ _ _ _ rfl
              clear hHeld
              refine hK.out _ _ ?_ (fun hHeld => ?_)
              · exact ⟨A0_0, A1_0⟩
              clear hK KK
              try simp only [Act.put, List.getElem_toArray, List.getElem_cons_succ, List.getElem_cons_zero, List.setIfInBounds_toArray, List.set_cons_zero, List.set_cons_succ]
              generalize w51.alloc (.cells #[.slice none 0 0] 26) = w53 at *
              refine wpAnyH_ready (rs := [3]) (by kernel_rfl) (by simp) ?_
              refine AllReadyH.cons rfl (fun KK hK => ?_) AllReadyH.nil
              · as_aux_lemma =>
                  simp only [List.getElem_toArray, List.getElem_cons_succ, List.getElem_cons_zero]
                  rw [if_pos (by rfl)]
                  refine wps1 60 (.tmp 122) _ rfl in_toN (.agg #[.slice a1 z1.length c1]) rfl (toNat_any _ hn1 r1) ?_
                  rintro e w55 ⟨v71, rfl, r71, k55⟩
                  refine ⟨_, rfl, ?_⟩
                  replace r0 := r0.kept k55 (by omega)
                  replace r1 := r1.kept k55 (by omega)
                  replace rw0 := rw0.kept k55 (by omega)
                  replace rw1 := rw1.kept k55 (by omega)
                  replace rm0 := rm0.kept k55 (by omega)
                  replace rm1 := rm1.kept k55 (by omega)
                  replace r70 := r70.kept k55 (by omega)
                  replace kw := kw.trans k55
                  replace x1_f0 := k55.loose0 (World.block_lt_of_cell? _ _ x1_0) x1_f0
                  replace x0_f0 := k55.loose0 (World.block_lt_of_cell? _ _ x0_0) x0_f0
                  replace A0_0 := k55.cell0 A0_0
                  replace A1_0 := k55.cell0 A1_0
                  replace cw0_0 := k55.cell0 cw0_0
                  replace cw1_0 := k55.cell0 cw1_0
                  replace cx0_0 := k55.cell0 cx0_0
                  replace cx1_0 := k55.cell0 cx1_0
                  replace cg0_0 := k55.cell0 cg0_0
                  replace cg1_0 := k55.cell0 cg1_0
                  replace x1_0 := k55.cell0 x1_0
                  replace x0_0 := k55.cell0 x0_0
                  replace K := hide ((unhide K).trans k55)
                  have z56 := k55.size
                  clear k55
                  clear hHeld
                  refine hK.out _ _ ?_ (fun hHeld => ?_)
                  · exact ⟨A0_0, A1_0⟩
                  clear hK KK
                  try simp only [Act.put, List.getElem_toArray, List.getElem_cons_succ, List.getElem_cons_zero, List.setIfInBounds_toArray, List.set_cons_zero, List.set_cons_succ]
                  refine wpAnyH_ready (rs := [4]) (by kernel_rfl) (by simp) ?_
                  refine AllReadyH.cons rfl (fun KK hK => ?_) AllReadyH.nil
                  · simp only [List.getElem_toArray, List.getElem_cons_succ, List.getElem_cons_zero]
                    rw [if_pos (by rfl)]
                    have mk := natDiv_impl w55 r70 r71
                    simp only [unhide EL0, unhide EL1, unhide EB2] at mk
                    refine wps2 34 (.tmp 121) (.tmp 123) _ rfl in_impl_NatDiv (.agg #[v70]) (.agg #[v71]) rfl rfl mk ?_
                    rintro e w57 ⟨v90, v91, mm9, rfl, r90, r91, hma9, hmb9, k57⟩
                    refine ⟨_, rfl, ?_⟩
                    clear mk
                    replace r0 := r0.kept k57 (by omega)
                    replace r1 := r1.kept k57 (by omega)
                    replace rw0 := rw0.kept k57 (by omega)
                    replace rw1 := rw1.kept k57 (by omega)
                    replace rm0 := rm0.kept k57 (by omega)
                    replace rm1 := rm1.kept k57 (by omega)
                    replace r70 := r70.kept k57 (by omega)
                    replace r71 := r71.kept k57 (by omega)
                    replace kw := kw.trans k57
                    replace x1_f0 := k57.loose0 (World.block_lt_of_cell? _ _ x1_0) x1_f0
                    replace x0_f0 := k57.loose0 (World.block_lt_of_cell? _ _ x0_0) x0_f0
                    replace A0_0 := k57.cell0 A0_0
                    replace A1_0 := k57.cell0 A1_0
                    replace cw0_0 := k57.cell0 cw0_0
                    replace cw1_0 := k57.cell0 cw1_0
                    replace cx0_0 := k57.cell0 cx0_0
                    replace cx1_0 := k57.cell0 cx1_0
                    replace cg0_0 := k57.cell0 cg0_0
                    replace cg1_0 := k57.cell0 cg1_0
                    replace x1_0 := k57.cell0 x1_0
                    replace x0_0 := k57.cell0 x0_0
                    replace K := hide ((unhide K).trans k57)
                    have z58 := k57.size
                    obtain ⟨a90, d90, hv⟩ := Row.form' r90
                    subst hv
                    obtain ⟨a91, d91, hv⟩ := Row.form' r91
                    subst hv
                    clear k57
                    clear hHeld
                    refine hK.out _ _ ?_ (fun hHeld => ?_)
                    · exact ⟨A0_0, A1_0⟩
                    clear hK KK
                    try simp only [Act.put, List.getElem_toArray, List.getElem_cons_succ, List.getElem_cons_zero, List.setIfInBounds_toArray, List.set_cons_zero, List.set_cons_succ]
                    refine wpAnyH_take (i := 5) (oi := _) (v := .tuple #[.agg #[.slice a90 L0.length d90], .agg #[.slice a91 L1.length d91], .bool B2]) rfl (by kernel_rfl) (by kernel_rfl) (by kernel_rfl) (fun _ _ _ h => h) (Or.inl ⟨by rfl, ?_⟩) hHeld ?_
                    · intro wq hSw
                      try dsimp only at hSw
                      go_simp
                    try simp only [Act.put, List.getElem_toArray, List.getElem_cons_succ, List.getElem_cons_zero, List.setIfInBounds_toArray, List.set_cons_zero, List.set_cons_succ]
                    refine wpAnyH_take (i := 6) (oi := _) (v := .agg #[.slice a90 L0.length d90]) rfl (by kernel_rfl) (by kernel_rfl) (by kernel_rfl) (fun _ _ _ h => h) (Or.inl ⟨by rfl, ?_⟩) hHeld ?_
                    · intro wq hSw
                      try dsimp only at hSw
                      go_simp
                    try simp only [Act.put, List.getElem_toArray, List.getElem_cons_succ, List.getElem_cons_zero, List.setIfInBounds_toArray, List.set_cons_zero, List.set_cons_succ]
                    refine wpAnyH_take (i := 7) (oi := _) (v := .agg #[.slice a91 L1.length d91]) rfl (by kernel_rfl) (by kernel_rfl) (by kernel_rfl) (fun _ _ _ h => h) (Or.inl ⟨by rfl, ?_⟩) hHeld ?_
                    · intro wq hSw
                      try dsimp only at hSw
                      go_simp
                    try simp only [Act.put, List.getElem_toArray, List.getElem_cons_succ, List.getElem_cons_zero, List.setIfInBounds_toArray, List.set_cons_zero, List.set_cons_succ]
                    refine wpAnyH_take (i := 8) (oi := _) (v := .bool B2) rfl (by kernel_rfl) (by kernel_rfl) (by kernel_rfl) (fun _ _ _ h => h) (Or.inl ⟨by rfl, ?_⟩) hHeld ?_
                    · intro wq hSw
                      try dsimp only at hSw
                      go_simp
                    try simp only [Act.put, List.getElem_toArray, List.getElem_cons_succ, List.getElem_cons_zero, List.setIfInBounds_toArray, List.set_cons_zero, List.set_cons_succ]
                    refine wpAnyH_ready (rs := [11]) (by kernel_rfl) (by simp) ?_
                    refine AllReadyH.cons rfl (fun KK hK => ?_) AllReadyH.nil
                    simp only [List.getElem_toArray, List.getElem_cons_succ, List.getElem_cons_zero]
                    rw [if_pos (by rfl)]
                    go_simp
                    clear hHeld
                    refine hK.out _ _ ?_ (fun hHeld => ?_)
                    · exact ⟨(cell_aside _ (by have := unhide S0; dsimp only; omega) A0_0), (cell_aside _ (by have := unhide S0; dsimp only; omega) A1_0)⟩
                    clear hK KK
                    try simp only [Act.put, List.getElem_toArray, List.getElem_cons_succ, List.getElem_cons_zero, List.setIfInBounds_toArray, List.set_cons_zero, List.set_cons_succ]
                    refine wpAnyH_ready (rs := [12]) (by kernel_rfl) (by simp) ?_
                    refine AllReadyH.cons rfl (fun KK hK => ?_) AllReadyH.nil
                    simp only [List.getElem_toArray, List.getElem_cons_succ, List.getElem_cons_zero]
                    rw [if_pos (by rfl)]
                    go_simp
                    clear hHeld
                    refine hK.out _ _ ?_ (fun hHeld => ?_)
                    · exact ⟨(cell_aside _ (by have := unhide S0; dsimp only; omega) (cell_aside _ (by have := unhide S0; dsimp only; omega) A0_0)), (cell_aside _ (by have := unhide S0; dsimp only; omega) (cell_aside _ (by have := unhide S0; dsimp only; omega) A1_0))⟩
                    clear hK KK
                    try simp only [Act.put, List.getElem_toArray, List.getElem_cons_succ, List.getElem_cons_zero, List.setIfInBounds_toArray, List.set_cons_zero, List.set_cons_succ]
                    refine wpAnyH_take (i := 13) (oi := _) (v := .bool B2) rfl (by kernel_rfl) (by kernel_rfl) (by kernel_rfl) (fun _ _ _ h => h) (Or.inl ⟨by rfl, ?_⟩) hHeld ?_
                    · intro wq hSw
                      try dsimp only at hSw
                      go_simp
                    try simp only [Act.put, List.getElem_toArray, List.getElem_cons_succ, List.getElem_cons_zero, List.setIfInBounds_toArray, List.set_cons_zero, List.set_cons_succ]
                    refine wpAnyH_done (by kernel_rfl) ?_ _
                    clear hHeld
                    go_wp2_with fail
                    go_meet
                    exact ⟨_, _, _, _, rfl, rfl, rfl, law_setNN kw x0_0 x1_0 r90 r91 (by omega) (by omega) (by omega) (by omega) (by omega) (by omega) (by omega) (by omega) (by omega)⟩
        · as_aux_lemma =>
            simp only [List.getElem_toArray, List.getElem_cons_succ, List.getElem_cons_zero]
            rw [if_pos (by rfl)]
            go_simp
            have kn := (Kept.refl 0 0 w49).alloc (.cells #[.slice none 0 0] 26)
            replace r0 := r0.kept kn (by omega)
            replace r1 := r1.kept kn (by omega)
            replace rw0 := rw0.kept kn (by omega)
            replace rw1 := rw1.kept kn (by omega)
            replace rm0 := rm0.kept kn (by omega)
            replace rm1 := rm1.kept kn (by omega)
            replace kw := kw.trans kn
            replace x1_f0 := kn.loose0 (World.block_lt_of_cell? _ _ x1_0) x1_f0
            replace A0_0 := kn.cell0 A0_0
            replace A1_0 := kn.cell0 A1_0
            replace cw0_0 := kn.cell0 cw0_0
            replace cw1_0 := kn.cell0 cw1_0
            replace cx0_0 := kn.cell0 cx0_0
            replace cx1_0 := kn.cell0 cx1_0
            replace cg0_0 := kn.cell0 cg0_0
            replace cg1_0 := kn.cell0 cg1_0
            replace x1_0 := kn.cell0 x1_0
            replace K := hide ((unhide K).trans kn)
            have z52 := kn.size
            clear kn
            have szx0_ : w49.heap.size < (w49.alloc (.cells #[.slice none 0 0] 26)).heap.size := by simp
            have x0_0 : (w49.alloc (.cells #[.slice none 0 0] 26)).cell? ⟨w49.heap.size, 0, none⟩ = some (.slice none 0 0) := new_cell2 _ _ _ _ _ _ rfl rfl
            have x0_f0 : (w49.alloc (.cells #[.slice none 0 0] 26)).frozen? ⟨w49.heap.size, 0, none⟩ = false := new_loose2 _ _ _ _ _ rfl
            clear hHeld
            refine hK.out _ _ ?_ (fun hHeld => ?_)
            · exact ⟨A0_0, A1_0⟩
            clear hK KK
            try simp only [Act.put, List.getElem_toArray, List.getElem_cons_succ, List.getElem_cons_zero, List.setIfInBounds_toArray, List.set_cons_zero, List.set_cons_succ]
            generalize w49.alloc (.cells #[.slice none 0 0] 26) = w51 at *
            refine wpAnyH_ready (rs := [1]) (by kernel_rfl) (by simp) ?_
            refine AllReadyH.cons rfl (fun KK hK => ?_) AllReadyH.nil
            · simp only [List.getElem_toArray, List.getElem_cons_succ, List.getElem_cons_zero]
              rw [if_pos (by rfl)]
              refine wps1 60 (.tmp 120) _ rfl in_toN (.agg #[.slice a0 z0.length c0]) rfl (toNat_any _ hn0 r0) ?_
              rintro e w53 ⟨v70, rfl, r70, k53⟩
              refine ⟨_, rfl, ?_⟩
              replace r0 := r0.kept k53 (by omega)
              replace r1 := r1.kept k53 (by omega)
              replace rw0 := rw0.kept k53 (by omega)
              replace rw1 := rw1.kept k53 (by omega)
              replace rm0 := rm0.kept k53 (by omega)
              replace rm1 := rm1.kept k53 (by omega)
              replace kw := kw.trans k53
              replace x1_f0 := k53.loose0 (World.block_lt_of_cell? _ _ x1_0) x1_f0
              replace x0_f0 := k53.loose0 (World.block_lt_of_cell? _ _ x0_0) x0_f0
              replace A0_0 := k53.cell0 A0_0
              replace A1_0 := k53.cell0 A1_0
              replace cw0_0 := k53.cell0 cw0_0
              replace cw1_0 := k53.cell0 cw1_0
              replace cx0_0 := k53.cell0 cx0_0
              replace cx1_0 := k53.cell0 cx1_0
              replace cg0_0 := k53.cell0 cg0_0
              replace cg1_0 := k53.cell0 cg1_0
              replace x1_0 := k53.cell0 x1_0
              replace x0_0 := k53.cell0 x0_0
              replace K := hide ((unhide K).trans k53)
              have z54 := k53.size
              clear k53
              clear hHeld
              refine hK.out _ _ ?_ (fun hHeld => ?_)
              · exact ⟨A0_0, A1_0⟩
              clear hK KK
              try simp only [Act.put, List.getElem_toArray, List.getElem_cons_succ, List.getElem_cons_zero, List.setIfInBounds_toArray, List.set_cons_zero, List.set_cons_succ]
              refine wpAnyH_ready (rs := [3]) (by kernel_rfl) (by simp) ?_
              refine AllReadyH.cons rfl (fun KK hK => ?_) AllReadyH.nil
              · as_aux_lemma =>
                  simp only [List.getElem_toArray, List.getElem_cons_succ, List.getElem_cons_zero]
                  rw [if_pos (by rfl)]
                  refine wps1 60 (.tmp 122) _ rfl in_toN (.agg #[.slice a1 z1.length c1]) rfl (toNat_any _ hn1 r1) ?_
                  rintro e w55 ⟨v71, rfl, r71, k55⟩
                  refine ⟨_, rfl, ?_⟩
                  replace r0 := r0.kept k55 (by omega)
                  replace r1 := r1.kept k55 (by omega)
                  replace rw0 := rw0.kept k55 (by omega)
                  replace rw1 := rw1.kept k55 (by omega)
                  replace rm0 := rm0.kept k55 (by omega)
                  replace rm1 := rm1.kept k55 (by omega)
                  replace r70 := r70.kept k55 (by omega)
                  replace kw := kw.trans k55
                  replace x1_f0 := k55.loose0 (World.block_lt_of_cell? _ _ x1_0) x1_f0
                  replace x0_f0 := k55.loose0 (World.block_lt_of_cell? _ _ x0_0) x0_f0
                  replace A0_0 := k55.cell0 A0_0
                  replace A1_0 := k55.cell0 A1_0
                  replace cw0_0 := k55.cell0 cw0_0
                  replace cw1_0 := k55.cell0 cw1_0
                  replace cx0_0 := k55.cell0 cx0_0
                  replace cx1_0 := k55.cell0 cx1_0
                  replace cg0_0 := k55.cell0 cg0_0
                  replace cg1_0 := k55.cell0 cg1_0
                  replace x1_0 := k55.cell0 x1_0
                  replace x0_0 := k55.cell0 x0_0
                  replace K := hide ((unhide K).trans k55)
                  have z56 := k55.size
                  clear k55
                  clear hHeld
                  refine hK.out _ _ ?_ (fun hHeld => ?_)
                  · exact ⟨A0_0, A1_0⟩
                  clear hK KK
                  try simp only [Act.put, List.getElem_toArray, List.getElem_cons_succ, List.getElem_cons_zero, List.setIfInBounds_toArray, List.set_cons_zero, List.set_cons_succ]
                  refine wpAnyH_ready (rs := [4]) (by kernel_rfl) (by simp) ?_
                  refine AllReadyH.cons rfl (fun KK hK => ?_) AllReadyH.nil
                  · simp only [List.getElem_toArray, List.getElem_cons_succ, List.getElem_cons_zero]
                    rw [if_pos (by rfl)]
                    have mk := natDiv_impl w55 r70 r71
                    simp only [unhide EL0, unhide EL1, unhide EB2] at mk
                    refine wps2 34 (.tmp 121) (.tmp 123) _ rfl in_impl_NatDiv (.agg #[v70]) (.agg #[v71]) rfl rfl mk ?_
                    rintro e w57 ⟨v90, v91, mm9, rfl, r90, r91, hma9, hmb9, k57⟩
                    refine ⟨_, rfl, ?_⟩
                    clear mk
                    replace r0 := r0.kept k57 (by omega)
                    replace r1 := r1.kept k57 (by omega)
                    replace rw0 := rw0.kept k57 (by omega)
                    replace rw1 := rw1.kept k57 (by omega)
                    replace rm0 := rm0.kept k57 (by omega)
                    replace rm1 := rm1.kept k57 (by omega)
                    replace r70 := r70.kept k57 (by omega)
                    replace r71 := r71.kept k57 (by omega)
                    replace kw := kw.trans k57
                    replace x1_f0 := k57.loose0 (World.block_lt_of_cell? _ _ x1_0) x1_f0
                    replace x0_f0 := k57.loose0 (World.block_lt_of_cell? _ _ x0_0) x0_f0
                    replace A0_0 := k57.cell0 A0_0
                    replace A1_0 := k57.cell0 A1_0
                    replace cw0_0 := k57.cell0 cw0_0
                    replace cw1_0 := k57.cell0 cw1_0
                    replace cx0_0 := k57.cell0 cx0_0
                    replace cx1_0 := k57.cell0 cx1_0
                    replace cg0_0 := k57.cell0 cg0_0
                    replace cg1_0 := k57.cell0 cg1_0
                    replace x1_0 := k57.cell0 x1_0
                    replace x0_0 := k57.cell0 x0_0
                    replace K := hide ((unhide K).trans k57)
                    have z58 := k57.size
                    obtain ⟨a90, d90, hv⟩ := Row.form' r90
                    subst hv
                    obtain ⟨a91, d91, hv⟩ := Row.form' r91
                    subst hv
                    clear k57
                    clear hHeld
                    refine hK.out _ _ ?_ (fun hHeld => ?_)
                    · exact ⟨A0_0, A1_0⟩
                    clear hK KK
                    try simp only [Act.put, List.getElem_toArray, List.getElem_cons_succ, List.getElem_cons_zero, List.setIfInBounds_toArray, List.set_cons_zero, List.set_cons_succ]
                    refine wpAnyH_take (i := 5) (oi := _) (v := .tuple #[.agg #[.slice a90 L0.length d90], .agg #[.slice a91 L1.length d91], .bool B2]) rfl (by kernel_rfl) (by kernel_rfl) (by kernel_rfl) (fun _ _ _ h => h) (Or.inl ⟨by rfl, ?_⟩) hHeld ?_
                    · intro wq hSw
                      try dsimp only at hSw
                      go_simp
                    try simp only [Act.put, List.getElem_toArray, List.getElem_cons_succ, List.getElem_cons_zero, List.setIfInBounds_toArray, List.set_cons_zero, List.set_cons_succ]
                    refine wpAnyH_take (i := 6) (oi := _) (v := .agg #[.slice a90 L0.length d90]) rfl (by kernel_rfl) (by kernel_rfl) (by kernel_rfl) (fun _ _ _ h => h) (Or.inl ⟨by rfl, ?_⟩) hHeld ?_
                    · intro wq hSw
                      try dsimp only at hSw
                      go_simp
                    try simp only [Act.put, List.getElem_toArray, List.getElem_cons_succ, List.getElem_cons_zero, List.setIfInBounds_toArray, List.set_cons_zero, List.set_cons_succ]
                    refine wpAnyH_take (i := 7) (oi := _) (v := .agg #[.slice a91 L1.length d91]) rfl (by kernel_rfl) (by kernel_rfl) (by kernel_rfl) (fun _ _ _ h => h) (Or.inl ⟨by rfl, ?_⟩) hHeld ?_
                    · intro wq hSw
                      try dsimp only at hSw
                      go_simp
                    try simp only [Act.put, List.getElem_toArray, List.getElem_cons_succ, List.getElem_cons_zero, List.setIfInBounds_toArray, List.set_cons_zero, List.set_cons_succ]
                    refine wpAnyH_take (i := 8) (oi := _) (v := .bool B2) rfl (by kernel_rfl) (by kernel_rfl) (by kernel_rfl) (fun _ _ _ h => h) (Or.inl ⟨by rfl, ?_⟩) hHeld ?_
                    · intro wq hSw
                      try dsimp only at hSw
                      go_simp
                    try simp only [Act.put, List.getElem_toArray, List.getElem_cons_succ, List.getElem_cons_zero, List.setIfInBounds_toArray, List.set_cons_zero, List.set_cons_succ]
                    refine wpAnyH_ready (rs := [11]) (by kernel_rfl) (by simp) ?_
                    refine AllReadyH.cons rfl (fun KK hK => ?_) AllReadyH.nil
                    simp only [List.getElem_toArray, List.getElem_cons_succ, List.getElem_cons_zero]
                    rw [if_pos (by rfl)]
                    go_simp
                    clear hHeld
                    refine hK.out _ _ ?_ (fun hHeld => ?_)
                    · exact ⟨(cell_aside _ (by have := unhide S0; dsimp only; omega) A0_0), (cell_aside _ (by have := unhide S0; dsimp only; omega) A1_0)⟩
                    clear hK KK
                    try simp only [Act.put, List.getElem_toArray, List.getElem_cons_succ, List.getElem_cons_zero, List.setIfInBounds_toArray, List.set_cons_zero, List.set_cons_succ]
                    refine wpAnyH_ready (rs := [12]) (by kernel_rfl) (by simp) ?_
                    refine AllReadyH.cons rfl (fun KK hK => ?_) AllReadyH.nil
                    simp only [List.getElem_toArray, List.getElem_cons_succ, List.getElem_cons_zero]
                    rw [if_pos (by rfl)]
                    go_simp
                    clear hHeld
                    refine hK.out _ _ ?_ (fun hHeld => ?_)
                    · exact ⟨(cell_aside _ (by have := unhide S0; dsimp only; omega) (cell_aside _ (by have := unhide S0; dsimp only; omega) A0_0)), (cell_aside _ (by have := unhide S0; dsimp only; omega) (cell_aside _ (by have := unhide S0; dsimp only; omega) A1_0))⟩
                    clear hK KK
                    try simp only [Act.put, List.getElem_toArray, List.getElem_cons_succ, List.getElem_cons_zero, List.setIfInBounds_toArray, List.set_cons_zero, List.set_cons_succ]
                    refine wpAnyH_take (i := 13) (oi := _) (v := .bool B2) rfl (by kernel_rfl) (by kernel_rfl) (by kernel_rfl) (fun _ _ _ h => h) (Or.inl ⟨by rfl, ?_⟩) hHeld ?_
                    · intro wq hSw
                      try dsimp only at hSw
                      go_simp
                    try simp only [Act.put, List.getElem_toArray, List.getElem_cons_succ, List.getElem_cons_zero, List.setIfInBounds_toArray, List.set_cons_zero, List.set_cons_succ]
                    refine wpAnyH_done (by kernel_rfl) ?_ _
                    clear hHeld
                    go_wp2_with fail
                    go_meet
                    exact ⟨_, _, _, _, rfl, rfl, rfl, law_setNN kw x0_0 x1_0 r90 r91 (by omega) (by omega) (by omega) (by omega) (by omega) (by omega) (by omega) (by omega) (by omega)⟩
    case rest =>
      obtain ⟨Xh0, vh0, Xh1, vh1, rfl, rfl, rfl, ch0_0, rh0, hXh0, hYh0, ch1_0, rh1, hXh1, hYh1, kk⟩ := hcut
      replace r0 := r0.kept kk (by omega)
      replace r1 := r1.kept kk (by omega)
      replace rw0 := rw0.kept kk (by omega)
      replace rw1 := rw1.kept kk (by omega)
      replace rm0 := rm0.kept kk (by omega)
      replace rm1 := rm1.kept kk (by omega)
      replace A0_0 := kk.cell0 A0_0
      replace A1_0 := kk.cell0 A1_0
      replace cw0_0 := kk.cell0 cw0_0
      replace cw1_0 := kk.cell0 cw1_0
      replace cx0_0 := kk.cell0 cx0_0
      replace cx1_0 := kk.cell0 cx1_0
      replace cg0_0 := kk.cell0 cg0_0
      replace cg1_0 := kk.cell0 cg1_0
      replace K := hide ((unhide K).trans kk)
      have z48 := kk.size
      clear kk
      obtain ⟨ah0, dh0, hv⟩ := Row.form' rh0
      subst hv
      obtain ⟨ah1, dh1, hv⟩ := Row.form' rh1
      subst hv
      generalize hwc : wc = we49 at *
      clear hwc
      go_wp2_with fail
      refine (eqNat_same _ rh0 rw0).mono ?_
      rintro e w50 ⟨rfl, k50⟩
      replace r0 := r0.kept k50 (by omega)
      replace r1 := r1.kept k50 (by omega)
      replace rw0 := rw0.kept k50 (by omega)
      replace rw1 := rw1.kept k50 (by omega)
      replace rm0 := rm0.kept k50 (by omega)
      replace rm1 := rm1.kept k50 (by omega)
      replace rh0 := rh0.kept k50 (by omega)
      replace rh1 := rh1.kept k50 (by omega)
      replace A0_0 := k50.cell0 A0_0
      replace A1_0 := k50.cell0 A1_0
      replace cw0_0 := k50.cell0 cw0_0
      replace cw1_0 := k50.cell0 cw1_0
      replace cx0_0 := k50.cell0 cx0_0
      replace cx1_0 := k50.cell0 cx1_0
      replace cg0_0 := k50.cell0 cg0_0
      replace cg1_0 := k50.cell0 cg1_0
      replace ch0_0 := k50.cell0 ch0_0
      replace ch1_0 := k50.cell0 ch1_0
      replace K := hide ((unhide K).trans k50)
      have z51 := k50.size
      clear k50
      go_wp2_with fail
      refine (eqNat_same _ rh1 rw1).mono ?_
      rintro e w52 ⟨rfl, k52⟩
      replace r0 := r0.kept k52 (by omega)
      replace r1 := r1.kept k52 (by omega)
      replace rw0 := rw0.kept k52 (by omega)
      replace rw1 := rw1.kept k52 (by omega)
      replace rm0 := rm0.kept k52 (by omega)
      replace rm1 := rm1.kept k52 (by omega)
      replace rh0 := rh0.kept k52 (by omega)
      replace rh1 := rh1.kept k52 (by omega)
      replace A0_0 := k52.cell0 A0_0
      replace A1_0 := k52.cell0 A1_0
      replace cw0_0 := k52.cell0 cw0_0
      replace cw1_0 := k52.cell0 cw1_0
      replace cx0_0 := k52.cell0 cx0_0
      replace cx1_0 := k52.cell0 cx1_0
      replace cg0_0 := k52.cell0 cg0_0
      replace cg1_0 := k52.cell0 cg1_0
      replace ch0_0 := k52.cell0 ch0_0
      replace ch1_0 := k52.cell0 ch1_0
      replace K := hide ((unhide K).trans k52)
      have z53 := k52.size
      clear k52
      go_wp2_with fail
      refine (heldNat_any _ (1) (by omega) (by omega) hq0 rm0).mono ?_
      rintro e w54 ⟨rfl, k54⟩
      replace r0 := r0.kept k54 (by omega)
      replace r1 := r1.kept k54 (by omega)
      replace rw0 := rw0.kept k54 (by omega)
      replace rw1 := rw1.kept k54 (by omega)
      replace rm0 := rm0.kept k54 (by omega)
      replace rm1 := rm1.kept k54 (by omega)
      replace rh0 := rh0.kept k54 (by omega)
      replace rh1 := rh1.kept k54 (by omega)
      replace A0_0 := k54.cell0 A0_0
      replace A1_0 := k54.cell0 A1_0
      replace cw0_0 := k54.cell0 cw0_0
      replace cw1_0 := k54.cell0 cw1_0
      replace cx0_0 := k54.cell0 cx0_0
      replace cx1_0 := k54.cell0 cx1_0
      replace cg0_0 := k54.cell0 cg0_0
      replace cg1_0 := k54.cell0 cg1_0
      replace ch0_0 := k54.cell0 ch0_0
      replace ch1_0 := k54.cell0 ch1_0
      replace K := hide ((unhide K).trans k54)
      have z55 := k54.size
      clear k54
      have nq055 : ¬ (1 + (L0.length : Int)) < 0 := by omega
      go_wp2_with fail
      refine (heldNat_any _ ((1 + (L0.length : Int))) (by omega) (by omega) hq1 rm1).mono ?_
      rintro e w56 ⟨rfl, k56⟩
      replace r0 := r0.kept k56 (by omega)
      replace r1 := r1.kept k56 (by omega)
      replace rw0 := rw0.kept k56 (by omega)
      replace rw1 := rw1.kept k56 (by omega)
      replace rm0 := rm0.kept k56 (by omega)
      replace rm1 := rm1.kept k56 (by omega)
      replace rh0 := rh0.kept k56 (by omega)
      replace rh1 := rh1.kept k56 (by omega)
      replace A0_0 := k56.cell0 A0_0
      replace A1_0 := k56.cell0 A1_0
      replace cw0_0 := k56.cell0 cw0_0
      replace cw1_0 := k56.cell0 cw1_0
      replace cx0_0 := k56.cell0 cx0_0
      replace cx1_0 := k56.cell0 cx1_0
      replace cg0_0 := k56.cell0 cg0_0
      replace cg1_0 := k56.cell0 cg1_0
      replace ch0_0 := k56.cell0 ch0_0
      replace ch1_0 := k56.cell0 ch1_0
      replace K := hide ((unhide K).trans k56)
      have z57 := k56.size
      clear k56
      have nq157 : ¬ ((1 + (L0.length : Int)) + (L1.length : Int)) < 0 := by omega
      go_wp2_with fail
      go_ret
      exact ⟨rfl, (unhide K).toBelow⟩

end Go.Proofs.Ytdhponfpikclhaa
