/-
  DrawGcd, IDiv7, LNatGcds, in one text.
-/
import Derived.Test.YtdhponfpikclhaaDrawAll
import Derived.Test.YtdhponfpikclhaaNat9
import Derived.Test.YtdhponfpikclhaaStep
import Derived.Deep.RegionHeld3
import Derived.Test.YtdhponfpikclhaaDivS
import Derived.Test.YtdhponfpikclhaaDivI
import Derived.Test.YtdhponfpikclhaaPair
import Derived.Deep.DeepCutAuto
import Derived.Test.YtdhponfpikclhaaGcdAll
namespace Go.Proofs.Ytdhponfpikclhaa
open Go.RowKit
set_option linter.unusedVariables false
set_option maxRecDepth 8000
set_option linter.unusedSimpArgs false

set_option maxHeartbeats 4000000 in
theorem drawGcd_any {bw : Bool} {lo hi : Nat} {v : Value} {bs : List Int} (w : World) (r : Row .u8 bw lo hi w v bs) (b : Bytes bs) :
    Calls Try.prog 39 #[v] w fun e w' => ∃ v1 v2, e = .returned (.tuple #[.agg #[v1], .agg #[v2]]) ∧ AnyN w w' v1 ∧ AnyN w w' v2 ∧ Kept 0 0 w w' := by
  have k0 := ((Kept.refl 0 0 w).alloc (.cells #[.slice none 0 0] 26)).alloc (.cells #[.slice none 0 0] 26)
  have q := r.kept k0 (by omega)
  have c1 : ((w.alloc (.cells #[.slice none 0 0] 26)).alloc (.cells #[.slice none 0 0] 26)).cell? ⟨w.heap.size, 0, none⟩ = some (.slice none 0 0) := old_cell _ (new_cell_at _ _ _ _ rfl)
  have f1 : ((w.alloc (.cells #[.slice none 0 0] 26)).alloc (.cells #[.slice none 0 0] 26)).frozen? ⟨w.heap.size, 0, none⟩ = false := loose_old (by simp) (new_loose _ _ _ _ rfl)
  have c2 : ((w.alloc (.cells #[.slice none 0 0] 26)).alloc (.cells #[.slice none 0 0] 26)).cell? ⟨w.heap.size + 1, 0, none⟩ = some (.slice none 0 0) := new_cell_at _ _ _ _ (by simp)
  have f2 : ((w.alloc (.cells #[.slice none 0 0] 26)).alloc (.cells #[.slice none 0 0] 26)).frozen? ⟨w.heap.size + 1, 0, none⟩ = false := new_loose _ _ _ _ (by simp)
  have hs : ((w.alloc (.cells #[.slice none 0 0] 26)).alloc (.cells #[.slice none 0 0] 26)).heap.size = w.heap.size + 2 := by simp
  obtain ⟨a0, d0, rfl⟩ := Row.form' r
  clear r
  go_enter Try.func39, Try.ntmps39
  go_wp2_with fail
  generalize ((w.alloc (.cells #[.slice none 0 0] 26)).alloc (.cells #[.slice none 0 0] 26)) = W at *
  refine (l1New_any _ q b).mono ?_
  rintro e w1 ⟨g, rfl, hg, cu, k1⟩
  replace f1 := k1.loose0 (World.block_lt_of_cell? _ _ c1) f1
  replace c1 := k1.cell0 c1
  replace f2 := k1.loose0 (World.block_lt_of_cell? _ _ c2) f2
  replace c2 := k1.cell0 c2
  replace k0 := k0.trans k1
  have hs1 : w.heap.size + 2 ≤ w1.heap.size := by have := k1.size; omega
  have hg2 : w.heap.size + 2 ≤ g := by omega
  have hgl : g < w1.heap.size := cu.1
  clear k1 q hs hg
  generalize hLO : W.heap.size = LO at *
  clear hLO
  go_wp2_with fail
  refine (bent_any g LO _ cu).mono ?_
  rintro e w2 ⟨v2, rfl, zA, oA, hzA, hlA, d2⟩
  have hAA : g < w2.heap.size := d2.1.1
  have sA := d2.2.size
  replace f1 := d2.2.looseOut' (a := ⟨w.heap.size, 0, none⟩) (.inl (show w.heap.size < g by omega)) (World.block_lt_of_cell? _ _ c1) f1
  replace c1 := d2.2.cellOut (.inl (show w.heap.size < g by omega)) c1
  replace f2 := d2.2.looseOut' (a := ⟨w.heap.size + 1, 0, none⟩) (.inl (show w.heap.size + 1 < g by omega)) (World.block_lt_of_cell? _ _ c2) f2
  replace c2 := d2.2.cellOut (.inl (show w.heap.size + 1 < g by omega)) c2
  replace k0 := k0.newer' d2.2 (by omega)
  obtain ⟨aA, eA, ev⟩ := own_slice oA
  subst ev
  have kA := (Kept.refl 0 0 w2).alloc (.cells #[.slice aA zA.length eA] 26)
  have rA := Row.own oA
  have cu2 := d2.1.kept kA (by omega)
  clear d2 cu oA
  have cu := cu2
  clear cu2
  replace f1 := kA.loose0 (World.block_lt_of_cell? _ _ c1) f1
  replace c1 := kA.cell0 c1
  replace f2 := kA.loose0 (World.block_lt_of_cell? _ _ c2) f2
  replace c2 := kA.cell0 c2
  replace rA := rA.kept kA (by omega)
  replace k0 := k0.trans kA
  have cA : (w2.alloc (.cells #[.slice aA zA.length eA] 26)).cell? ⟨w2.heap.size, 0, none⟩ = some (.slice aA zA.length eA) := new_cell_at _ _ _ _ rfl
  have tA : w2.heap.size + 1 ≤ (w2.alloc (.cells #[.slice aA zA.length eA] 26)).heap.size := by simp
  clear kA
  go_wp2_with fail
  generalize w2.alloc (.cells #[.slice aA zA.length eA] 26) = w3 at *
  obtain ⟨Ab, hA⟩ : ∃ X, X = w2.heap.size := ⟨_, rfl⟩
  rw [← hA] at cA ⊢
  have HA1 := Nat.le_of_eq hA
  have HA2 := Nat.le_of_eq hA.symm
  clear hA
  refine (bent_any g LO _ cu).mono ?_
  rintro e w4 ⟨v3, rfl, zB, oB, hzB, hlB, d4⟩
  have hAB : g < w4.heap.size := d4.1.1
  have sB := d4.2.size
  replace f1 := d4.2.looseOut' (a := ⟨w.heap.size, 0, none⟩) (.inl (show w.heap.size < g by omega)) (World.block_lt_of_cell? _ _ c1) f1
  replace c1 := d4.2.cellOut (.inl (show w.heap.size < g by omega)) c1
  replace f2 := d4.2.looseOut' (a := ⟨w.heap.size + 1, 0, none⟩) (.inl (show w.heap.size + 1 < g by omega)) (World.block_lt_of_cell? _ _ c2) f2
  replace c2 := d4.2.cellOut (.inl (show w.heap.size + 1 < g by omega)) c2
  replace cA := d4.2.cellOut (.inr (show g + 1 ≤ Ab by omega)) cA
  replace rA := rA.kept d4.2 (by omega)
  replace k0 := k0.newer' d4.2 (by omega)
  obtain ⟨aB, eB, ev⟩ := own_slice oB
  subst ev
  have kA := (Kept.refl 0 0 w4).alloc (.cells #[.slice aB zB.length eB] 26)
  have rB := Row.own oB
  have cu4 := d4.1.kept kA (by omega)
  clear d4 cu oB
  have cu := cu4
  clear cu4
  replace f1 := kA.loose0 (World.block_lt_of_cell? _ _ c1) f1
  replace c1 := kA.cell0 c1
  replace f2 := kA.loose0 (World.block_lt_of_cell? _ _ c2) f2
  replace c2 := kA.cell0 c2
  replace cA := kA.cell0 cA
  replace rA := rA.kept kA (by omega)
  replace rB := rB.kept kA (by omega)
  replace k0 := k0.trans kA
  have cB : (w4.alloc (.cells #[.slice aB zB.length eB] 26)).cell? ⟨w4.heap.size, 0, none⟩ = some (.slice aB zB.length eB) := new_cell_at _ _ _ _ rfl
  have tB : w4.heap.size + 1 ≤ (w4.alloc (.cells #[.slice aB zB.length eB] 26)).heap.size := by simp
  clear kA
  go_wp2_with fail
  generalize w4.alloc (.cells #[.slice aB zB.length eB] 26) = w5 at *
  obtain ⟨Bb, hB⟩ : ∃ X, X = w4.heap.size := ⟨_, rfl⟩
  rw [← hB] at cB ⊢
  have HB1 := Nat.le_of_eq hB
  have HB2 := Nat.le_of_eq hB.symm
  clear hB
  refine (ok_spec _ rA).mono ?_
  rintro e w6 ⟨rfl, k6⟩
  replace f1 := k6.loose0 (World.block_lt_of_cell? _ _ c1) f1
  replace c1 := k6.cell0 c1
  replace f2 := k6.loose0 (World.block_lt_of_cell? _ _ c2) f2
  replace c2 := k6.cell0 c2
  replace cA := k6.cell0 cA
  replace cB := k6.cell0 cB
  replace rA := rA.kept k6 (by omega)
  replace rB := rB.kept k6 (by omega)
  replace k0 := k0.trans k6
  have hk6 := k6.size
  replace cu := cu.kept k6 (by omega)
  clear k6
  cases hoA : okB zA
  · go_wp2_with fail
    have kd := (Kept.refl 0 0 w6).drew
    replace f1 := kd.loose0 (World.block_lt_of_cell? _ _ c1) f1
    replace c1 := kd.cell0 c1
    replace f2 := kd.loose0 (World.block_lt_of_cell? _ _ c2) f2
    replace c2 := kd.cell0 c2
    replace cA := kd.cell0 cA
    replace cB := kd.cell0 cB
    replace rA := rA.kept kd (by omega)
    replace rB := rB.kept kd (by omega)
    replace k0 := k0.trans kd
    clear kd
    refine wp_region_held_drew (S := (fun w' => w'.cell? ⟨Ab, 0, none⟩ = some (.slice aA zA.length eA) ∧ w'.cell? ⟨Bb, 0, none⟩ = some (.slice aB zB.length eB))) (by kernel_rfl) ?_ (fun hHeld => ?_)
    · exact ⟨cA, cB⟩
    generalize w6.drew = wd at *
    refine wpAnyH_take (i := 0) (oi := _) (v := .agg #[.slice aA zA.length eA]) rfl (by kernel_rfl) (by kernel_rfl) (by kernel_rfl) (fun _ _ _ h => h) (Or.inl ⟨by rfl, ?_⟩) hHeld ?_
    · intro wq hSw
      try dsimp only at hSw
      go_simp
    try simp only [Act.put, List.getElem_toArray, List.getElem_cons_succ, List.getElem_cons_zero, List.setIfInBounds_toArray, List.set_cons_zero, List.set_cons_succ]
    refine wpAnyH_take (i := 1) (oi := _) (v := .agg #[.slice aB zB.length eB]) rfl (by kernel_rfl) (by kernel_rfl) (by kernel_rfl) (fun _ _ _ h => h) (Or.inl ⟨by rfl, ?_⟩) hHeld ?_
    · intro wq hSw
      try dsimp only at hSw
      go_simp
    try simp only [Act.put, List.getElem_toArray, List.getElem_cons_succ, List.getElem_cons_zero, List.setIfInBounds_toArray, List.set_cons_zero, List.set_cons_succ]
    have F1 := hide (any_two k0 rA rB (by omega) (by omega))
    have G1 := hide (two_cells (v1 := .slice aA zA.length eA) (v2 := .slice aB zB.length eB) c1 c2)
    have hne1 : ¬ w.heap.size = w.heap.size + 1 := by omega
    refine wpAnyH_ready (rs := [2]) (by kernel_rfl) (by simp) ?_
    refine AllReadyH.cons rfl (fun KK hK => ?_) AllReadyH.nil
    simp only [List.getElem_toArray, List.getElem_cons_succ, List.getElem_cons_zero]
    rw [if_pos (by rfl)]
    go_simp
    clear hHeld
    refine hK.out _ _ ?_ (fun hHeld => ?_)
    · exact ⟨cell_aside _ (by dsimp only; omega) cA, cell_aside _ (by dsimp only; omega) cB⟩
    clear hK KK
    try simp only [Act.put, List.getElem_toArray, List.getElem_cons_succ, List.getElem_cons_zero, List.setIfInBounds_toArray, List.set_cons_zero, List.set_cons_succ]
    refine wpAnyH_ready (rs := [3]) (by kernel_rfl) (by simp) ?_
    refine AllReadyH.cons rfl (fun KK hK => ?_) AllReadyH.nil
    simp only [List.getElem_toArray, List.getElem_cons_succ, List.getElem_cons_zero]
    rw [if_pos (by rfl)]
    go_simp
    clear hHeld
    refine hK.out _ _ ?_ (fun hHeld => ?_)
    · exact ⟨cell_aside _ (by dsimp only; omega) (cell_aside _ (by dsimp only; omega) cA), cell_aside _ (by dsimp only; omega) (cell_aside _ (by dsimp only; omega) cB)⟩
    clear hK KK
    try simp only [Act.put, List.getElem_toArray, List.getElem_cons_succ, List.getElem_cons_zero, List.setIfInBounds_toArray, List.set_cons_zero, List.set_cons_succ]
    refine wpAnyH_done (by kernel_rfl) ?_ _
    clear hHeld
    have g1 := (unhide G1).1
    have g2 := (unhide G1).2
    clear rA rB c1 f1 c2 f2 k0
    go_wp2_with fail
    exact bodyPost_ret (v := .tuple #[.agg #[.slice aA zA.length eA], .agg #[.slice aB zB.length eB]]) (by simp [results, Try.results39, go_sem, g1, g2]) rfl ⟨_, _, rfl, unhide F1⟩
  go_wp2_with fail
  refine (ok_spec _ rB).mono ?_
  rintro e w7 ⟨rfl, k7⟩
  replace f1 := k7.loose0 (World.block_lt_of_cell? _ _ c1) f1
  replace c1 := k7.cell0 c1
  replace f2 := k7.loose0 (World.block_lt_of_cell? _ _ c2) f2
  replace c2 := k7.cell0 c2
  replace cA := k7.cell0 cA
  replace cB := k7.cell0 cB
  replace rA := rA.kept k7 (by omega)
  replace rB := rB.kept k7 (by omega)
  replace k0 := k0.trans k7
  have hk7 := k7.size
  replace cu := cu.kept k7 (by omega)
  clear k7
  cases hoB : okB zB
  · go_wp2_with fail
    have kd := (Kept.refl 0 0 w7).drew
    replace f1 := kd.loose0 (World.block_lt_of_cell? _ _ c1) f1
    replace c1 := kd.cell0 c1
    replace f2 := kd.loose0 (World.block_lt_of_cell? _ _ c2) f2
    replace c2 := kd.cell0 c2
    replace cA := kd.cell0 cA
    replace cB := kd.cell0 cB
    replace rA := rA.kept kd (by omega)
    replace rB := rB.kept kd (by omega)
    replace k0 := k0.trans kd
    clear kd
    refine wp_region_held_drew (S := (fun w' => w'.cell? ⟨Ab, 0, none⟩ = some (.slice aA zA.length eA) ∧ w'.cell? ⟨Bb, 0, none⟩ = some (.slice aB zB.length eB))) (by kernel_rfl) ?_ (fun hHeld => ?_)
    · exact ⟨cA, cB⟩
    generalize w7.drew = wd at *
    refine wpAnyH_take (i := 0) (oi := _) (v := .agg #[.slice aA zA.length eA]) rfl (by kernel_rfl) (by kernel_rfl) (by kernel_rfl) (fun _ _ _ h => h) (Or.inl ⟨by rfl, ?_⟩) hHeld ?_
    · intro wq hSw
      try dsimp only at hSw
      go_simp
    try simp only [Act.put, List.getElem_toArray, List.getElem_cons_succ, List.getElem_cons_zero, List.setIfInBounds_toArray, List.set_cons_zero, List.set_cons_succ]
    refine wpAnyH_take (i := 1) (oi := _) (v := .agg #[.slice aB zB.length eB]) rfl (by kernel_rfl) (by kernel_rfl) (by kernel_rfl) (fun _ _ _ h => h) (Or.inl ⟨by rfl, ?_⟩) hHeld ?_
    · intro wq hSw
      try dsimp only at hSw
      go_simp
    try simp only [Act.put, List.getElem_toArray, List.getElem_cons_succ, List.getElem_cons_zero, List.setIfInBounds_toArray, List.set_cons_zero, List.set_cons_succ]
    have F1 := hide (any_two k0 rA rB (by omega) (by omega))
    have G1 := hide (two_cells (v1 := .slice aA zA.length eA) (v2 := .slice aB zB.length eB) c1 c2)
    have hne1 : ¬ w.heap.size = w.heap.size + 1 := by omega
    refine wpAnyH_ready (rs := [2]) (by kernel_rfl) (by simp) ?_
    refine AllReadyH.cons rfl (fun KK hK => ?_) AllReadyH.nil
    simp only [List.getElem_toArray, List.getElem_cons_succ, List.getElem_cons_zero]
    rw [if_pos (by rfl)]
    go_simp
    clear hHeld
    refine hK.out _ _ ?_ (fun hHeld => ?_)
    · exact ⟨cell_aside _ (by dsimp only; omega) cA, cell_aside _ (by dsimp only; omega) cB⟩
    clear hK KK
    try simp only [Act.put, List.getElem_toArray, List.getElem_cons_succ, List.getElem_cons_zero, List.setIfInBounds_toArray, List.set_cons_zero, List.set_cons_succ]
    refine wpAnyH_ready (rs := [3]) (by kernel_rfl) (by simp) ?_
    refine AllReadyH.cons rfl (fun KK hK => ?_) AllReadyH.nil
    simp only [List.getElem_toArray, List.getElem_cons_succ, List.getElem_cons_zero]
    rw [if_pos (by rfl)]
    go_simp
    clear hHeld
    refine hK.out _ _ ?_ (fun hHeld => ?_)
    · exact ⟨cell_aside _ (by dsimp only; omega) (cell_aside _ (by dsimp only; omega) cA), cell_aside _ (by dsimp only; omega) (cell_aside _ (by dsimp only; omega) cB)⟩
    clear hK KK
    try simp only [Act.put, List.getElem_toArray, List.getElem_cons_succ, List.getElem_cons_zero, List.setIfInBounds_toArray, List.set_cons_zero, List.set_cons_succ]
    refine wpAnyH_done (by kernel_rfl) ?_ _
    clear hHeld
    have g1 := (unhide G1).1
    have g2 := (unhide G1).2
    clear rA rB c1 f1 c2 f2 k0
    go_wp2_with fail
    exact bodyPost_ret (v := .tuple #[.agg #[.slice aA zA.length eA], .agg #[.slice aB zB.length eB]]) (by simp [results, Try.results39, go_sem, g1, g2]) rfl ⟨_, _, rfl, unhide F1⟩
  have limA := ((okB_iff zA).1 hoA).2.1
  have lenA := ((okB_iff zA).1 hoA).1
  have limB := ((okB_iff zB).1 hoB).2.1
  have lenB := ((okB_iff zB).1 hoB).1
  clear hoA hoB
  by_cases h6 : (zA.length : Int) < 6
  rotate_left
  · go_wp2_with fail
    have kd := (Kept.refl 0 0 w7).drew
    replace f1 := kd.loose0 (World.block_lt_of_cell? _ _ c1) f1
    replace c1 := kd.cell0 c1
    replace f2 := kd.loose0 (World.block_lt_of_cell? _ _ c2) f2
    replace c2 := kd.cell0 c2
    replace cA := kd.cell0 cA
    replace cB := kd.cell0 cB
    replace rA := rA.kept kd (by omega)
    replace rB := rB.kept kd (by omega)
    replace k0 := k0.trans kd
    clear kd
    refine wp_region_held_drew (S := (fun w' => w'.cell? ⟨Ab, 0, none⟩ = some (.slice aA zA.length eA) ∧ w'.cell? ⟨Bb, 0, none⟩ = some (.slice aB zB.length eB))) (by kernel_rfl) ?_ (fun hHeld => ?_)
    · exact ⟨cA, cB⟩
    generalize w7.drew = wd at *
    refine wpAnyH_take (i := 0) (oi := _) (v := .agg #[.slice aA zA.length eA]) rfl (by kernel_rfl) (by kernel_rfl) (by kernel_rfl) (fun _ _ _ h => h) (Or.inl ⟨by rfl, ?_⟩) hHeld ?_
    · intro wq hSw
      try dsimp only at hSw
      go_simp
    try simp only [Act.put, List.getElem_toArray, List.getElem_cons_succ, List.getElem_cons_zero, List.setIfInBounds_toArray, List.set_cons_zero, List.set_cons_succ]
    refine wpAnyH_take (i := 1) (oi := _) (v := .agg #[.slice aB zB.length eB]) rfl (by kernel_rfl) (by kernel_rfl) (by kernel_rfl) (fun _ _ _ h => h) (Or.inl ⟨by rfl, ?_⟩) hHeld ?_
    · intro wq hSw
      try dsimp only at hSw
      go_simp
    try simp only [Act.put, List.getElem_toArray, List.getElem_cons_succ, List.getElem_cons_zero, List.setIfInBounds_toArray, List.set_cons_zero, List.set_cons_succ]
    have F1 := hide (any_two k0 rA rB (by omega) (by omega))
    have G1 := hide (two_cells (v1 := .slice aA zA.length eA) (v2 := .slice aB zB.length eB) c1 c2)
    have hne1 : ¬ w.heap.size = w.heap.size + 1 := by omega
    refine wpAnyH_ready (rs := [2]) (by kernel_rfl) (by simp) ?_
    refine AllReadyH.cons rfl (fun KK hK => ?_) AllReadyH.nil
    simp only [List.getElem_toArray, List.getElem_cons_succ, List.getElem_cons_zero]
    rw [if_pos (by rfl)]
    go_simp
    clear hHeld
    refine hK.out _ _ ?_ (fun hHeld => ?_)
    · exact ⟨cell_aside _ (by dsimp only; omega) cA, cell_aside _ (by dsimp only; omega) cB⟩
    clear hK KK
    try simp only [Act.put, List.getElem_toArray, List.getElem_cons_succ, List.getElem_cons_zero, List.setIfInBounds_toArray, List.set_cons_zero, List.set_cons_succ]
    refine wpAnyH_ready (rs := [3]) (by kernel_rfl) (by simp) ?_
    refine AllReadyH.cons rfl (fun KK hK => ?_) AllReadyH.nil
    simp only [List.getElem_toArray, List.getElem_cons_succ, List.getElem_cons_zero]
    rw [if_pos (by rfl)]
    go_simp
    clear hHeld
    refine hK.out _ _ ?_ (fun hHeld => ?_)
    · exact ⟨cell_aside _ (by dsimp only; omega) (cell_aside _ (by dsimp only; omega) cA), cell_aside _ (by dsimp only; omega) (cell_aside _ (by dsimp only; omega) cB)⟩
    clear hK KK
    try simp only [Act.put, List.getElem_toArray, List.getElem_cons_succ, List.getElem_cons_zero, List.setIfInBounds_toArray, List.set_cons_zero, List.set_cons_succ]
    refine wpAnyH_done (by kernel_rfl) ?_ _
    clear hHeld
    have g1 := (unhide G1).1
    have g2 := (unhide G1).2
    clear rA rB c1 f1 c2 f2 k0
    go_wp2_with fail
    exact bodyPost_ret (v := .tuple #[.agg #[.slice aA zA.length eA], .agg #[.slice aB zB.length eB]]) (by simp [results, Try.results39, go_sem, g1, g2]) rfl ⟨_, _, rfl, unhide F1⟩
  by_cases h7 : (zB.length : Int) < 6
  rotate_left
  · go_wp2_with fail
    have kd := (Kept.refl 0 0 w7).drew
    replace f1 := kd.loose0 (World.block_lt_of_cell? _ _ c1) f1
    replace c1 := kd.cell0 c1
    replace f2 := kd.loose0 (World.block_lt_of_cell? _ _ c2) f2
    replace c2 := kd.cell0 c2
    replace cA := kd.cell0 cA
    replace cB := kd.cell0 cB
    replace rA := rA.kept kd (by omega)
    replace rB := rB.kept kd (by omega)
    replace k0 := k0.trans kd
    clear kd
    refine wp_region_held_drew (S := (fun w' => w'.cell? ⟨Ab, 0, none⟩ = some (.slice aA zA.length eA) ∧ w'.cell? ⟨Bb, 0, none⟩ = some (.slice aB zB.length eB))) (by kernel_rfl) ?_ (fun hHeld => ?_)
    · exact ⟨cA, cB⟩
    generalize w7.drew = wd at *
    refine wpAnyH_take (i := 0) (oi := _) (v := .agg #[.slice aA zA.length eA]) rfl (by kernel_rfl) (by kernel_rfl) (by kernel_rfl) (fun _ _ _ h => h) (Or.inl ⟨by rfl, ?_⟩) hHeld ?_
    · intro wq hSw
      try dsimp only at hSw
      go_simp
    try simp only [Act.put, List.getElem_toArray, List.getElem_cons_succ, List.getElem_cons_zero, List.setIfInBounds_toArray, List.set_cons_zero, List.set_cons_succ]
    refine wpAnyH_take (i := 1) (oi := _) (v := .agg #[.slice aB zB.length eB]) rfl (by kernel_rfl) (by kernel_rfl) (by kernel_rfl) (fun _ _ _ h => h) (Or.inl ⟨by rfl, ?_⟩) hHeld ?_
    · intro wq hSw
      try dsimp only at hSw
      go_simp
    try simp only [Act.put, List.getElem_toArray, List.getElem_cons_succ, List.getElem_cons_zero, List.setIfInBounds_toArray, List.set_cons_zero, List.set_cons_succ]
    have F1 := hide (any_two k0 rA rB (by omega) (by omega))
    have G1 := hide (two_cells (v1 := .slice aA zA.length eA) (v2 := .slice aB zB.length eB) c1 c2)
    have hne1 : ¬ w.heap.size = w.heap.size + 1 := by omega
    refine wpAnyH_ready (rs := [2]) (by kernel_rfl) (by simp) ?_
    refine AllReadyH.cons rfl (fun KK hK => ?_) AllReadyH.nil
    simp only [List.getElem_toArray, List.getElem_cons_succ, List.getElem_cons_zero]
    rw [if_pos (by rfl)]
    go_simp
    clear hHeld
    refine hK.out _ _ ?_ (fun hHeld => ?_)
    · exact ⟨cell_aside _ (by dsimp only; omega) cA, cell_aside _ (by dsimp only; omega) cB⟩
    clear hK KK
    try simp only [Act.put, List.getElem_toArray, List.getElem_cons_succ, List.getElem_cons_zero, List.setIfInBounds_toArray, List.set_cons_zero, List.set_cons_succ]
    refine wpAnyH_ready (rs := [3]) (by kernel_rfl) (by simp) ?_
    refine AllReadyH.cons rfl (fun KK hK => ?_) AllReadyH.nil
    simp only [List.getElem_toArray, List.getElem_cons_succ, List.getElem_cons_zero]
    rw [if_pos (by rfl)]
    go_simp
    clear hHeld
    refine hK.out _ _ ?_ (fun hHeld => ?_)
    · exact ⟨cell_aside _ (by dsimp only; omega) (cell_aside _ (by dsimp only; omega) cA), cell_aside _ (by dsimp only; omega) (cell_aside _ (by dsimp only; omega) cB)⟩
    clear hK KK
    try simp only [Act.put, List.getElem_toArray, List.getElem_cons_succ, List.getElem_cons_zero, List.setIfInBounds_toArray, List.set_cons_zero, List.set_cons_succ]
    refine wpAnyH_done (by kernel_rfl) ?_ _
    clear hHeld
    have g1 := (unhide G1).1
    have g2 := (unhide G1).2
    clear rA rB c1 f1 c2 f2 k0
    go_wp2_with fail
    exact bodyPost_ret (v := .tuple #[.agg #[.slice aA zA.length eA], .agg #[.slice aB zB.length eB]]) (by simp [results, Try.results39, go_sem, g1, g2]) rfl ⟨_, _, rfl, unhide F1⟩
  go_wp2_with fail
  refine (l1Below_any g LO _ cu 999).mono ?_
  rintro e w8 ⟨kk, rfl, -, hkk, d8⟩
  replace f1 := d8.2.1.looseOut' (a := ⟨w.heap.size, 0, none⟩) (.inl (show w.heap.size < g by omega)) (World.block_lt_of_cell? _ _ c1) f1
  replace c1 := d8.2.1.cellOut (.inl (show w.heap.size < g by omega)) c1
  replace f2 := d8.2.1.looseOut' (a := ⟨w.heap.size + 1, 0, none⟩) (.inl (show w.heap.size + 1 < g by omega)) (World.block_lt_of_cell? _ _ c2) f2
  replace c2 := d8.2.1.cellOut (.inl (show w.heap.size + 1 < g by omega)) c2
  replace cA := d8.2.1.cellOut (.inr (show g + 1 ≤ Ab by omega)) cA
  replace cB := d8.2.1.cellOut (.inr (show g + 1 ≤ Bb by omega)) cB
  replace rA := rA.kept d8.2.1 (by omega)
  replace rB := rB.kept d8.2.1 (by omega)
  replace k0 := k0.newer' d8.2.1 (by omega)
  have hk8 := d8.2.1.size
  clear cu d8
  replace hkk := hkk (by decide)
  have hk9 : IntKind.i64.wrap (1 + kk) = 1 + kk := wrap_small _ (by omega) (by omega)
  go_wp2_with fail
  refine (of_spec _ (1 + kk) (by omega)).mono ?_
  rintro e w9 ⟨v9, rfl, r9, k9⟩
  replace f1 := k9.loose0 (World.block_lt_of_cell? _ _ c1) f1
  replace c1 := k9.cell0 c1
  replace f2 := k9.loose0 (World.block_lt_of_cell? _ _ c2) f2
  replace c2 := k9.cell0 c2
  replace cA := k9.cell0 cA
  replace cB := k9.cell0 cB
  replace rA := rA.kept k9 (by omega)
  replace rB := rB.kept k9 (by omega)
  replace k0 := k0.trans k9
  have hk10 := k9.size
  clear k9
  have lim9 := limbs_lim (1 + kk).toNat
  have len9 := limbs_small (1 + kk) (by omega)
  generalize limbs (1 + kk).toNat = z9 at *
  obtain ⟨a9, e9, ev⟩ := Row.form' r9
  subst ev
  have kA := (Kept.refl 0 0 w9).alloc (.cells #[.slice a9 z9.length e9] 26)
  replace f1 := kA.loose0 (World.block_lt_of_cell? _ _ c1) f1
  replace c1 := kA.cell0 c1
  replace f2 := kA.loose0 (World.block_lt_of_cell? _ _ c2) f2
  replace c2 := kA.cell0 c2
  replace cA := kA.cell0 cA
  replace cB := kA.cell0 cB
  replace rA := rA.kept kA (by omega)
  replace rB := rB.kept kA (by omega)
  replace r9 := r9.kept kA (by omega)
  replace k0 := k0.trans kA
  have c9 : (w9.alloc (.cells #[.slice a9 z9.length e9] 26)).cell? ⟨w9.heap.size, 0, none⟩ = some (.slice a9 z9.length e9) := new_cell_at _ _ _ _ rfl
  have t9 : w9.heap.size + 1 ≤ (w9.alloc (.cells #[.slice a9 z9.length e9] 26)).heap.size := by simp
  clear kA
  go_wp2_with fail
  generalize w9.alloc (.cells #[.slice a9 z9.length e9] 26) = w10 at *
  have kd := (Kept.refl 0 0 w10).drew
  replace f1 := kd.loose0 (World.block_lt_of_cell? _ _ c1) f1
  replace c1 := kd.cell0 c1
  replace f2 := kd.loose0 (World.block_lt_of_cell? _ _ c2) f2
  replace c2 := kd.cell0 c2
  replace cA := kd.cell0 cA
  replace cB := kd.cell0 cB
  replace c9 := kd.cell0 c9
  replace rA := rA.kept kd (by omega)
  replace rB := rB.kept kd (by omega)
  replace r9 := r9.kept kd (by omega)
  replace k0 := k0.trans kd
  have hwd := kd.size
  clear kd
  refine wp_region_held_drew (S := (fun w' => w'.cell? ⟨Ab, 0, none⟩ = some (.slice aA zA.length eA) ∧ w'.cell? ⟨Bb, 0, none⟩ = some (.slice aB zB.length eB) ∧ w'.cell? ⟨w9.heap.size, 0, none⟩ = some (.slice a9 z9.length e9))) (by kernel_rfl) ?_ (fun hHeld => ?_)
  · exact ⟨cA, cB, c9⟩
  generalize w10.drew = wd at *
  refine wpAnyH_take (i := 0) (oi := _) (v := .agg #[.slice aA zA.length eA]) rfl (by kernel_rfl) (by kernel_rfl) (by kernel_rfl) (fun _ _ _ h => h) (Or.inl ⟨by rfl, ?_⟩) hHeld ?_
  · intro wq hSw
    try dsimp only at hSw
    go_simp
  try simp only [Act.put, List.getElem_toArray, List.getElem_cons_succ, List.getElem_cons_zero, List.setIfInBounds_toArray, List.set_cons_zero, List.set_cons_succ]
  refine wpAnyH_take (i := 1) (oi := _) (v := .agg #[.slice a9 z9.length e9]) rfl (by kernel_rfl) (by kernel_rfl) (by kernel_rfl) (fun _ _ _ h => h) (Or.inl ⟨by rfl, ?_⟩) hHeld ?_
  · intro wq hSw
    try dsimp only at hSw
    go_simp
  try simp only [Act.put, List.getElem_toArray, List.getElem_cons_succ, List.getElem_cons_zero, List.setIfInBounds_toArray, List.set_cons_zero, List.set_cons_succ]
  refine wpAnyH_take (i := 3) (oi := _) (v := .agg #[.slice aB zB.length eB]) rfl (by kernel_rfl) (by kernel_rfl) (by kernel_rfl) (fun _ _ _ h => h) (Or.inl ⟨by rfl, ?_⟩) hHeld ?_
  · intro wq hSw
    try dsimp only at hSw
    go_simp
  try simp only [Act.put, List.getElem_toArray, List.getElem_cons_succ, List.getElem_cons_zero, List.setIfInBounds_toArray, List.set_cons_zero, List.set_cons_succ]
  refine wpAnyH_take (i := 4) (oi := _) (v := .agg #[.slice a9 z9.length e9]) rfl (by kernel_rfl) (by kernel_rfl) (by kernel_rfl) (fun _ _ _ h => h) (Or.inl ⟨by rfl, ?_⟩) hHeld ?_
  · intro wq hSw
    try dsimp only at hSw
    go_simp
  try simp only [Act.put, List.getElem_toArray, List.getElem_cons_succ, List.getElem_cons_zero, List.setIfInBounds_toArray, List.set_cons_zero, List.set_cons_succ]
  refine wpAnyH_ready (rs := [2]) (by kernel_rfl) (by simp) ?_
  refine AllReadyH.cons rfl (fun KK hK => ?_) AllReadyH.nil
  simp only [List.getElem_toArray, List.getElem_cons_succ, List.getElem_cons_zero]
  rw [if_pos (by rfl)]
  refine wps2 98 (.tmp 36) (.tmp 37) _ rfl in_l2mul (.agg #[.slice aA zA.length eA]) (.agg #[.slice a9 z9.length e9]) rfl rfl (mul_spec _ rA r9 limA lim9 (by omega) (by omega)) ?_
  rintro e w11 ⟨v11, rfl, r11, k11⟩
  refine ⟨_, rfl, ?_⟩
  replace f1 := k11.loose0 (World.block_lt_of_cell? _ _ c1) f1
  replace c1 := k11.cell0 c1
  replace f2 := k11.loose0 (World.block_lt_of_cell? _ _ c2) f2
  replace c2 := k11.cell0 c2
  replace cA := k11.cell0 cA
  replace cB := k11.cell0 cB
  replace c9 := k11.cell0 c9
  replace rA := rA.kept k11 (by omega)
  replace rB := rB.kept k11 (by omega)
  replace r9 := r9.kept k11 (by omega)
  replace k0 := k0.trans k11
  have hk11 := k11.size
  clear k11
  generalize limbs (val zA * val z9).toNat = z11 at *
  obtain ⟨a11, e11, ev⟩ := Row.form' r11
  subst ev
  clear hHeld
  refine hK.out _ _ ?_ (fun hHeld => ?_)
  · exact ⟨cA, cB, c9⟩
  clear hK KK
  try simp only [Act.put, List.getElem_toArray, List.getElem_cons_succ, List.getElem_cons_zero, List.setIfInBounds_toArray, List.set_cons_zero, List.set_cons_succ]
  refine wpAnyH_ready (rs := [5]) (by kernel_rfl) (by simp) ?_
  refine AllReadyH.cons rfl (fun KK hK => ?_) AllReadyH.nil
  simp only [List.getElem_toArray, List.getElem_cons_succ, List.getElem_cons_zero]
  rw [if_pos (by rfl)]
  refine wps2 98 (.tmp 39) (.tmp 40) _ rfl in_l2mul (.agg #[.slice aB zB.length eB]) (.agg #[.slice a9 z9.length e9]) rfl rfl (mul_spec _ rB r9 limB lim9 (by omega) (by omega)) ?_
  rintro e w12 ⟨v12, rfl, r12, k12⟩
  refine ⟨_, rfl, ?_⟩
  replace f1 := k12.loose0 (World.block_lt_of_cell? _ _ c1) f1
  replace c1 := k12.cell0 c1
  replace f2 := k12.loose0 (World.block_lt_of_cell? _ _ c2) f2
  replace c2 := k12.cell0 c2
  replace cA := k12.cell0 cA
  replace cB := k12.cell0 cB
  replace c9 := k12.cell0 c9
  replace rA := rA.kept k12 (by omega)
  replace rB := rB.kept k12 (by omega)
  replace r9 := r9.kept k12 (by omega)
  replace r11 := r11.kept k12 (by omega)
  replace k0 := k0.trans k12
  have hk12 := k12.size
  clear k12
  generalize limbs (val zB * val z9).toNat = z12 at *
  obtain ⟨a12, e12, ev⟩ := Row.form' r12
  subst ev
  clear hHeld
  refine hK.out _ _ ?_ (fun hHeld => ?_)
  · exact ⟨cA, cB, c9⟩
  clear hK KK
  try simp only [Act.put, List.getElem_toArray, List.getElem_cons_succ, List.getElem_cons_zero, List.setIfInBounds_toArray, List.set_cons_zero, List.set_cons_succ]
  have F1 := hide (any_two k0 r11 r12 (by omega) (by omega))
  have G1 := hide (two_cells (v1 := .slice a11 z11.length e11) (v2 := .slice a12 z12.length e12) c1 c2)
  have hne1 : ¬ w.heap.size = w.heap.size + 1 := by omega
  refine wpAnyH_ready (rs := [6]) (by kernel_rfl) (by simp) ?_
  refine AllReadyH.cons rfl (fun KK hK => ?_) AllReadyH.nil
  simp only [List.getElem_toArray, List.getElem_cons_succ, List.getElem_cons_zero]
  rw [if_pos (by rfl)]
  go_simp
  clear hHeld
  refine hK.out _ _ ?_ (fun hHeld => ?_)
  · exact ⟨(cell_aside _ (by dsimp only; omega) (cA)), (cell_aside _ (by dsimp only; omega) (cB)), (cell_aside _ (by dsimp only; omega) (c9))⟩
  clear hK KK
  try simp only [Act.put, List.getElem_toArray, List.getElem_cons_succ, List.getElem_cons_zero, List.setIfInBounds_toArray, List.set_cons_zero, List.set_cons_succ]
  refine wpAnyH_ready (rs := [7]) (by kernel_rfl) (by simp) ?_
  refine AllReadyH.cons rfl (fun KK hK => ?_) AllReadyH.nil
  simp only [List.getElem_toArray, List.getElem_cons_succ, List.getElem_cons_zero]
  rw [if_pos (by rfl)]
  go_simp
  clear hHeld
  refine hK.out _ _ ?_ (fun hHeld => ?_)
  · exact ⟨(cell_aside _ (by dsimp only; omega) (cell_aside _ (by dsimp only; omega) (cA))), (cell_aside _ (by dsimp only; omega) (cell_aside _ (by dsimp only; omega) (cB))), (cell_aside _ (by dsimp only; omega) (cell_aside _ (by dsimp only; omega) (c9)))⟩
  clear hK KK
  try simp only [Act.put, List.getElem_toArray, List.getElem_cons_succ, List.getElem_cons_zero, List.setIfInBounds_toArray, List.set_cons_zero, List.set_cons_succ]
  refine wpAnyH_done (by kernel_rfl) ?_ _
  clear hHeld
  have g1 := (unhide G1).1
  have g2 := (unhide G1).2
  clear rA rB r9 r11 r12 c1 f1 c2 f2 k0
  go_wp2_with fail
  exact bodyPost_ret (v := .tuple #[.agg #[.slice a11 z11.length e11], .agg #[.slice a12 z12.length e12]]) (by simp [results, Try.results39, go_sem, g1, g2]) rfl ⟨_, _, rfl, unhide F1⟩

end Go.Proofs.Ytdhponfpikclhaa

namespace Go.Proofs.Ytdhponfpikclhaa
open Go.RowKit
set_option linter.unusedVariables false
set_option maxRecDepth 8000
set_option linter.unusedSimpArgs false

theorem in_limbsOf : ∀ (w : World) (args : Array Value), (callFunc 87 args).run Try.prog w = .ok (.enter 87 args) w := enters Try.func87 (by decide) (fun h => by cases h)

set_option maxHeartbeats 8000000 in
theorem natDiv_impl {b1 b2 : Bool} {l1 h1 l2 h2 : Nat} {v1 v2 : Value} {xs ys : List Int} (w : World) (r1 : Row .i64 b1 l1 h1 w v1 xs) (r2 : Row .i64 b2 l2 h2 w v2 ys) :
    Calls Try.prog 34 #[.agg #[v1], .agg #[v2]] w fun e w' => ∃ vq vr m, e = .returned (.tuple #[.agg #[vq], .agg #[vr], .bool (divB xs ys)]) ∧ Row .i64 true w.heap.size m w' vq (divQ xs ys) ∧ Row .i64 true m w'.heap.size w' vr (divR xs ys) ∧ w.heap.size ≤ m ∧ m ≤ w'.heap.size ∧ Kept 0 0 w w' := by
  have k0 : Kept 0 0 w ((((w.alloc (.cells #[v1] 26)).alloc (.cells #[v2] 26)).alloc (.cells #[.slice none 0 0] 26)).alloc (.cells #[.slice none 0 0] 26)) := (((((Kept.refl 0 0 w).alloc (.cells #[v1] 26)).alloc (.cells #[v2] 26)).alloc (.cells #[.slice none 0 0] 26)).alloc (.cells #[.slice none 0 0] 26))
  have p0 : ((((w.alloc (.cells #[v1] 26)).alloc (.cells #[v2] 26)).alloc (.cells #[.slice none 0 0] 26)).alloc (.cells #[.slice none 0 0] 26)).cell? ⟨w.heap.size, 0, none⟩ = some (v1) := old_cell _ (old_cell _ (old_cell _ (new_cell2 _ _ _ _ _ _ (by simp) rfl)))
  have t0 : ((((w.alloc (.cells #[v1] 26)).alloc (.cells #[v2] 26)).alloc (.cells #[.slice none 0 0] 26)).alloc (.cells #[.slice none 0 0] 26)).cell? ⟨w.heap.size + 1, 0, none⟩ = some (v2) := old_cell _ (old_cell _ (new_cell2 _ _ _ _ _ _ (by simp) rfl))
  have q0 : ((((w.alloc (.cells #[v1] 26)).alloc (.cells #[v2] 26)).alloc (.cells #[.slice none 0 0] 26)).alloc (.cells #[.slice none 0 0] 26)).cell? ⟨w.heap.size + 2, 0, none⟩ = some (.slice none 0 0) := old_cell _ (new_cell2 _ _ _ _ _ _ (by simp) rfl)
  have qf0 : ((((w.alloc (.cells #[v1] 26)).alloc (.cells #[v2] 26)).alloc (.cells #[.slice none 0 0] 26)).alloc (.cells #[.slice none 0 0] 26)).frozen? ⟨w.heap.size + 2, 0, none⟩ = false := loose_old (by simp <;> omega) (new_loose2 _ _ _ _ _ (by simp))
  have y0 : ((((w.alloc (.cells #[v1] 26)).alloc (.cells #[v2] 26)).alloc (.cells #[.slice none 0 0] 26)).alloc (.cells #[.slice none 0 0] 26)).cell? ⟨w.heap.size + 3, 0, none⟩ = some (.slice none 0 0) := new_cell2 _ _ _ _ _ _ (by simp) rfl
  have yf0 : ((((w.alloc (.cells #[v1] 26)).alloc (.cells #[v2] 26)).alloc (.cells #[.slice none 0 0] 26)).alloc (.cells #[.slice none 0 0] 26)).frozen? ⟨w.heap.size + 3, 0, none⟩ = false := new_loose2 _ _ _ _ _ (by simp)
  replace r1 := r1.kept k0 (by omega)
  replace r2 := r2.kept k0 (by omega)
  have s0 : ((((w.alloc (.cells #[v1] 26)).alloc (.cells #[v2] 26)).alloc (.cells #[.slice none 0 0] 26)).alloc (.cells #[.slice none 0 0] 26)).heap.size = w.heap.size + 4 := by simp
  obtain ⟨a1, c1, hv⟩ := Row.form' r1
  subst hv
  obtain ⟨a2, c2, hv⟩ := Row.form' r2
  subst hv
  have K := hide (k0)
  clear k0
  have S0 := hide s0
  clear s0
  go_enter Try.func34, Try.ntmps34
  go_wp2_with fail
  generalize ((((w.alloc (.cells #[.slice a1 xs.length c1] 26)).alloc (.cells #[.slice a2 ys.length c2] 26)).alloc (.cells #[.slice none 0 0] 26)).alloc (.cells #[.slice none 0 0] 26)) = W at *
  refine (ok_impl _ r1).mono ?_
  rintro e w1 ⟨rfl, k1⟩
  replace r1 := r1.kept k1 (by omega)
  replace r2 := r2.kept k1 (by omega)
  replace qf0 := k1.loose0 (World.block_lt_of_cell? _ _ q0) qf0
  replace yf0 := k1.loose0 (World.block_lt_of_cell? _ _ y0) yf0
  replace p0 := k1.cell0 p0
  replace t0 := k1.cell0 t0
  replace q0 := k1.cell0 q0
  replace y0 := k1.cell0 y0
  replace K := hide ((unhide K).trans k1)
  have z2 := k1.size
  clear k1
  cases ho1 : okB xs
  · have HO := hide ho1
    clear ho1
    have e0 : Hid (divB xs ys = false) := by show _ = _; unfold divB; simp [unhide HO]
    have K' := hide (((unhide K).setNew (p := ⟨w.heap.size + 2, 0, none⟩) (by simp) (.slice none 0 0)).setNew (p := ⟨w.heap.size + 3, 0, none⟩) (by simp) (.slice none 0 0))
    clear r1 r2 K
    go_wp2_with fail
    exact bodyPost_ret (v := .tuple #[.agg #[.slice none 0 0], .agg #[.slice none 0 0], .bool false]) (by simp [results, Try.results34, go_sem, q0, y0]) rfl ⟨_, _, w.heap.size, by rw [unhide e0], by rw [divQ_no (unhide e0)]; exact Row.nil _ _ _ _ _, by rw [divR_no (unhide e0)]; exact Row.nil _ _ _ _ _, Nat.le_refl _, (unhide K').size, unhide K'⟩
  have HO1 := hide ho1
  clear ho1
  go_wp2_with fail
  refine (ok_impl _ r2).mono ?_
  rintro e w3 ⟨rfl, k3⟩
  replace r1 := r1.kept k3 (by omega)
  replace r2 := r2.kept k3 (by omega)
  replace qf0 := k3.loose0 (World.block_lt_of_cell? _ _ q0) qf0
  replace yf0 := k3.loose0 (World.block_lt_of_cell? _ _ y0) yf0
  replace p0 := k3.cell0 p0
  replace t0 := k3.cell0 t0
  replace q0 := k3.cell0 q0
  replace y0 := k3.cell0 y0
  replace K := hide ((unhide K).trans k3)
  have z4 := k3.size
  clear k3
  cases ho2 : okB ys
  · have HO := hide ho2
    clear ho2
    have e0 : Hid (divB xs ys = false) := by show _ = _; unfold divB; simp [unhide HO]
    have K' := hide (((unhide K).setNew (p := ⟨w.heap.size + 2, 0, none⟩) (by simp) (.slice none 0 0)).setNew (p := ⟨w.heap.size + 3, 0, none⟩) (by simp) (.slice none 0 0))
    clear r1 r2 K
    go_wp2_with fail
    exact bodyPost_ret (v := .tuple #[.agg #[.slice none 0 0], .agg #[.slice none 0 0], .bool false]) (by simp [results, Try.results34, go_sem, q0, y0]) rfl ⟨_, _, w.heap.size, by rw [unhide e0], by rw [divQ_no (unhide e0)]; exact Row.nil _ _ _ _ _, by rw [divR_no (unhide e0)]; exact Row.nil _ _ _ _ _, Nat.le_refl _, (unhide K').size, unhide K'⟩
  have HO2 := hide ho2
  clear ho2
  by_cases hl0 : ys.length = 0
  · have HO := hide hl0
    have hl1 : ((ys.length : Int) == 0) = true := by simp [hl0]
    clear hl0
    have e0 : Hid (divB xs ys = false) := by show _ = _; unfold divB; simp [unhide HO]
    have K' := hide (((unhide K).setNew (p := ⟨w.heap.size + 2, 0, none⟩) (by simp) (.slice none 0 0)).setNew (p := ⟨w.heap.size + 3, 0, none⟩) (by simp) (.slice none 0 0))
    clear r1 r2 K
    go_wp2_with fail
    exact bodyPost_ret (v := .tuple #[.agg #[.slice none 0 0], .agg #[.slice none 0 0], .bool false]) (by simp [results, Try.results34, go_sem, q0, y0]) rfl ⟨_, _, w.heap.size, by rw [unhide e0], by rw [divQ_no (unhide e0)]; exact Row.nil _ _ _ _ _, by rw [divR_no (unhide e0)]; exact Row.nil _ _ _ _ _, Nat.le_refl _, (unhide K').size, unhide K'⟩
  have hl1 : ((ys.length : Int) == 0) = false := beq_eq_false_iff_ne.2 (by omega)
  have hyp := div_pos (unhide HO2) (by omega)
  obtain ⟨lx, hx⟩ := (okB_iff xs).1 (unhide HO1)
  obtain ⟨ly, hy⟩ := (okB_iff ys).1 (unhide HO2)
  have eB : divB xs ys = true := by unfold divB; rw [unhide HO1, unhide HO2, decide_eq_true (show 0 < ys.length by omega)]; rfl
  have EB := hide eB
  obtain ⟨zq, hzq⟩ : ∃ z, divQ xs ys = z := ⟨_, rfl⟩
  obtain ⟨zr, hzr⟩ : ∃ z, divR xs ys = z := ⟨_, rfl⟩
  have lq := divQ_len xs ys
  have lr := divR_len xs ys
  rw [hzq] at lq
  rw [hzr] at lr
  have EQ : Hid (limbs (val xs / val ys).toNat = zq) := by show _ = _; rw [← hzq, divQ_yes eB]
  have ER : Hid (limbs (val xs % val ys).toNat = zr) := by show _ = _; rw [← hzr, divR_yes eB]
  have HZQ := hide hzq
  have HZR := hide hzr
  clear eB hzq hzr
  have mx : xs.length ≤ 1000000 := by omega
  have my : ys.length ≤ 1000000 := by omega
  go_upto_region 3 with fail
  go_cut [7, 8] (fun p q wx => ∃ X Y u1 u2, p = .pointer (some ⟨X, 0, none⟩) ∧ q = .pointer (some ⟨Y, 0, none⟩) ∧ Two w3 wx X Y u1 u2 xs ys)
  case first =>
    have kw := Kept.refl 0 0 w3
    have kd := (Kept.refl 0 0 w3).drew
    replace r1 := r1.kept kd (by omega)
    replace r2 := r2.kept kd (by omega)
    replace kw := kw.trans kd
    replace qf0 := kd.loose0 (World.block_lt_of_cell? _ _ q0) qf0
    replace yf0 := kd.loose0 (World.block_lt_of_cell? _ _ y0) yf0
    replace p0 := kd.cell0 p0
    replace t0 := kd.cell0 t0
    replace q0 := kd.cell0 q0
    replace y0 := kd.cell0 y0
    replace K := hide ((unhide K).trans kd)
    have z5 := kd.size
    clear kd
    refine wp_region_held_drew (S := (fun w' => w'.cell? ⟨w.heap.size, 0, none⟩ = some (.slice a1 xs.length c1) ∧ w'.cell? ⟨w.heap.size + 1, 0, none⟩ = some (.slice a2 ys.length c2))) (by kernel_rfl) ?_ (fun hHeld => ?_)
    · exact ⟨p0, t0⟩
    generalize w3.drew = wd at *
    refine wpAnyH_take (i := 0) (oi := _) (v := .agg #[.slice a1 xs.length c1]) rfl (by kernel_rfl) (by kernel_rfl) (by kernel_rfl) (fun _ _ _ h => h) (Or.inl ⟨by rfl, ?_⟩) hHeld ?_
    · intro wq hSw
      try dsimp only at hSw
      go_simp
    try simp only [Act.put, List.getElem_toArray, List.getElem_cons_succ, List.getElem_cons_zero, List.setIfInBounds_toArray, List.set_cons_zero, List.set_cons_succ]
    refine wpAnyH_take (i := 2) (oi := _) (v := .agg #[.slice a2 ys.length c2]) rfl (by kernel_rfl) (by kernel_rfl) (by kernel_rfl) (fun _ _ _ h => h) (Or.inl ⟨by rfl, ?_⟩) hHeld ?_
    · intro wq hSw
      try dsimp only at hSw
      go_simp
    try simp only [Act.put, List.getElem_toArray, List.getElem_cons_succ, List.getElem_cons_zero, List.setIfInBounds_toArray, List.set_cons_zero, List.set_cons_succ]
    refine wpAnyH_ready (rs := [1, 4, 5]) (by kernel_rfl) (by simp) ?_
    refine AllReadyH.cons rfl (fun KK hK => ?_) (AllReadyH.cons rfl (fun KK hK => ?_) (AllReadyH.cons rfl (fun KK hK => ?_) AllReadyH.nil))
    · simp only [List.getElem_toArray, List.getElem_cons_succ, List.getElem_cons_zero]
      rw [if_pos (by rfl)]
      refine wps1 87 (.tmp 30) _ rfl in_limbsOf (.agg #[.slice a1 xs.length c1]) rfl (limbsOf_impl _ r1 mx) ?_
      rintro e w6 ⟨v3, rfl, o3, k6⟩
      refine ⟨_, rfl, ?_⟩
      replace r1 := r1.kept k6 (by omega)
      replace r2 := r2.kept k6 (by omega)
      replace kw := kw.trans k6
      replace qf0 := k6.loose0 (World.block_lt_of_cell? _ _ q0) qf0
      replace yf0 := k6.loose0 (World.block_lt_of_cell? _ _ y0) yf0
      replace p0 := k6.cell0 p0
      replace t0 := k6.cell0 t0
      replace q0 := k6.cell0 q0
      replace y0 := k6.cell0 y0
      replace K := hide ((unhide K).trans k6)
      have z7 := k6.size
      clear k6
      have l3 := o3.lt
      obtain ⟨a3, c3, hv⟩ := own_slice o3
      subst hv
      clear hHeld
      refine hK.out _ _ ?_ (fun hHeld => ?_)
      · exact ⟨p0, t0⟩
      clear hK KK
      try simp only [Act.put, List.getElem_toArray, List.getElem_cons_succ, List.getElem_cons_zero, List.setIfInBounds_toArray, List.set_cons_zero, List.set_cons_succ]
      refine wpAnyH_ready (rs := [3, 4, 5]) (by kernel_rfl) (by simp) ?_
      refine AllReadyH.cons rfl (fun KK hK => ?_) (AllReadyH.cons rfl (fun KK hK => ?_) (AllReadyH.cons rfl (fun KK hK => ?_) AllReadyH.nil))
      · simp only [List.getElem_toArray, List.getElem_cons_succ, List.getElem_cons_zero]
        rw [if_pos (by rfl)]
        refine wps1 87 (.tmp 32) _ rfl in_limbsOf (.agg #[.slice a2 ys.length c2]) rfl (limbsOf_impl _ r2 my) ?_
        rintro e w8 ⟨v4, rfl, o4, k8⟩
        refine ⟨_, rfl, ?_⟩
        replace r1 := r1.kept k8 (by omega)
        replace r2 := r2.kept k8 (by omega)
        replace kw := kw.trans k8
        replace o3 := own_kept o3 k8
        replace qf0 := k8.loose0 (World.block_lt_of_cell? _ _ q0) qf0
        replace yf0 := k8.loose0 (World.block_lt_of_cell? _ _ y0) yf0
        replace p0 := k8.cell0 p0
        replace t0 := k8.cell0 t0
        replace q0 := k8.cell0 q0
        replace y0 := k8.cell0 y0
        replace K := hide ((unhide K).trans k8)
        have z9 := k8.size
        clear k8
        have l4 := o4.lt
        obtain ⟨a4, c4, hv⟩ := own_slice o4
        subst hv
        clear hHeld
        refine hK.out _ _ ?_ (fun hHeld => ?_)
        · exact ⟨p0, t0⟩
        clear hK KK
        try simp only [Act.put, List.getElem_toArray, List.getElem_cons_succ, List.getElem_cons_zero, List.setIfInBounds_toArray, List.set_cons_zero, List.set_cons_succ]
        refine wpAnyH_ready (rs := [4, 5]) (by kernel_rfl) (by simp) ?_
        refine AllReadyH.cons rfl (fun KK hK => ?_) (AllReadyH.cons rfl (fun KK hK => ?_) AllReadyH.nil)
        · simp only [List.getElem_toArray, List.getElem_cons_succ, List.getElem_cons_zero]
          rw [if_pos (by rfl)]
          go_simp
          have kn := (Kept.refl 0 0 w8).alloc (.cells #[.slice none 0 0] 76)
          replace r1 := r1.kept kn (by omega)
          replace r2 := r2.kept kn (by omega)
          replace kw := kw.trans kn
          replace o3 := own_kept o3 kn
          replace o4 := own_kept o4 kn
          replace qf0 := kn.loose0 (World.block_lt_of_cell? _ _ q0) qf0
          replace yf0 := kn.loose0 (World.block_lt_of_cell? _ _ y0) yf0
          replace p0 := kn.cell0 p0
          replace t0 := kn.cell0 t0
          replace q0 := kn.cell0 q0
          replace y0 := kn.cell0 y0
          replace K := hide ((unhide K).trans kn)
          have z11 := kn.size
          clear kn
          have szx : w8.heap.size < (w8.alloc (.cells #[.slice none 0 0] 76)).heap.size := by simp
          have x0 : (w8.alloc (.cells #[.slice none 0 0] 76)).cell? ⟨w8.heap.size, 0, none⟩ = some (.slice none 0 0) := new_cell2 _ _ _ _ _ _ rfl rfl
          have xf0 : (w8.alloc (.cells #[.slice none 0 0] 76)).frozen? ⟨w8.heap.size, 0, none⟩ = false := new_loose2 _ _ _ _ _ rfl
          clear hHeld
          refine hK.out _ _ ?_ (fun hHeld => ?_)
          · exact ⟨p0, t0⟩
          clear hK KK
          try simp only [Act.put, List.getElem_toArray, List.getElem_cons_succ, List.getElem_cons_zero, List.setIfInBounds_toArray, List.set_cons_zero, List.set_cons_succ]
          generalize w8.alloc (.cells #[.slice none 0 0] 76) = w10 at *
          refine wpAnyH_ready (rs := [5]) (by kernel_rfl) (by simp) ?_
          refine AllReadyH.cons rfl (fun KK hK => ?_) AllReadyH.nil
          · simp only [List.getElem_toArray, List.getElem_cons_succ, List.getElem_cons_zero]
            rw [if_pos (by rfl)]
            go_simp
            have kn := (Kept.refl 0 0 w10).alloc (.cells #[.slice none 0 0] 76)
            replace r1 := r1.kept kn (by omega)
            replace r2 := r2.kept kn (by omega)
            replace kw := kw.trans kn
            replace o3 := own_kept o3 kn
            replace o4 := own_kept o4 kn
            replace qf0 := kn.loose0 (World.block_lt_of_cell? _ _ q0) qf0
            replace yf0 := kn.loose0 (World.block_lt_of_cell? _ _ y0) yf0
            replace xf0 := kn.loose0 (World.block_lt_of_cell? _ _ x0) xf0
            replace p0 := kn.cell0 p0
            replace t0 := kn.cell0 t0
            replace q0 := kn.cell0 q0
            replace y0 := kn.cell0 y0
            replace x0 := kn.cell0 x0
            replace K := hide ((unhide K).trans kn)
            have z13 := kn.size
            clear kn
            have szn : w10.heap.size < (w10.alloc (.cells #[.slice none 0 0] 76)).heap.size := by simp
            have n0 : (w10.alloc (.cells #[.slice none 0 0] 76)).cell? ⟨w10.heap.size, 0, none⟩ = some (.slice none 0 0) := new_cell2 _ _ _ _ _ _ rfl rfl
            have nf0 : (w10.alloc (.cells #[.slice none 0 0] 76)).frozen? ⟨w10.heap.size, 0, none⟩ = false := new_loose2 _ _ _ _ _ rfl
            clear hHeld
            refine hK.out _ _ ?_ (fun hHeld => ?_)
            · exact ⟨p0, t0⟩
            clear hK KK
            try simp only [Act.put, List.getElem_toArray, List.getElem_cons_succ, List.getElem_cons_zero, List.setIfInBounds_toArray, List.set_cons_zero, List.set_cons_succ]
            generalize w10.alloc (.cells #[.slice none 0 0] 76) = w12 at *
            refine wpAnyH_ready (rs := [6]) (by kernel_rfl) (by simp) ?_
            refine AllReadyH.cons rfl (fun KK hK => ?_) AllReadyH.nil
            simp only [List.getElem_toArray, List.getElem_cons_succ, List.getElem_cons_zero]
            rw [if_pos (by rfl)]
            go_simp
            clear hHeld
            refine hK.out _ _ ?_ (fun hHeld => ?_)
            · exact ⟨(cell_aside _ (by have := unhide S0; dsimp only; omega) p0), (cell_aside _ (by have := unhide S0; dsimp only; omega) t0)⟩
            clear hK KK
            try simp only [Act.put, List.getElem_toArray, List.getElem_cons_succ, List.getElem_cons_zero, List.setIfInBounds_toArray, List.set_cons_zero, List.set_cons_succ]
            refine wpAnyH_ready (rs := [7]) (by kernel_rfl) (by simp) ?_
            refine AllReadyH.cons rfl (fun KK hK => ?_) AllReadyH.nil
            simp only [List.getElem_toArray, List.getElem_cons_succ, List.getElem_cons_zero]
            rw [if_pos (by rfl)]
            go_simp
            clear hHeld
            refine hK.out _ _ ?_ (fun hHeld => ?_)
            · exact ⟨(cell_aside _ (by have := unhide S0; dsimp only; omega) (cell_aside _ (by have := unhide S0; dsimp only; omega) p0)), (cell_aside _ (by have := unhide S0; dsimp only; omega) (cell_aside _ (by have := unhide S0; dsimp only; omega) t0))⟩
            clear hK KK
            try simp only [Act.put, List.getElem_toArray, List.getElem_cons_succ, List.getElem_cons_zero, List.setIfInBounds_toArray, List.set_cons_zero, List.set_cons_succ]
            refine wpAnyH_done (by kernel_rfl) ?_ _
            clear hHeld
            go_wp2_with fail
            go_meet
            exact ⟨_, _, _, _, rfl, rfl, two_set kw o3 o4 x0 xf0 n0 nf0 (by omega) (by omega) (by omega) (by omega) (by omega) (fun e => by have := l3 _ e; omega) (fun e => by have := l3 _ e; omega) (fun e => by have := l4 _ e; omega) (fun e => by have := l4 _ e; omega) (fun k e1 e2 => by have := l3 _ e1; have := l4 _ e2; omega)⟩
        · simp only [List.getElem_toArray, List.getElem_cons_succ, List.getElem_cons_zero]
          rw [if_pos (by rfl)]
          go_simp
          have kn := (Kept.refl 0 0 w8).alloc (.cells #[.slice none 0 0] 76)
          replace r1 := r1.kept kn (by omega)
          replace r2 := r2.kept kn (by omega)
          replace kw := kw.trans kn
          replace o3 := own_kept o3 kn
          replace o4 := own_kept o4 kn
          replace qf0 := kn.loose0 (World.block_lt_of_cell? _ _ q0) qf0
          replace yf0 := kn.loose0 (World.block_lt_of_cell? _ _ y0) yf0
          replace p0 := kn.cell0 p0
          replace t0 := kn.cell0 t0
          replace q0 := kn.cell0 q0
          replace y0 := kn.cell0 y0
          replace K := hide ((unhide K).trans kn)
          have z11 := kn.size
          clear kn
          have szn : w8.heap.size < (w8.alloc (.cells #[.slice none 0 0] 76)).heap.size := by simp
          have n0 : (w8.alloc (.cells #[.slice none 0 0] 76)).cell? ⟨w8.heap.size, 0, none⟩ = some (.slice none 0 0) := new_cell2 _ _ _ _ _ _ rfl rfl
          have nf0 : (w8.alloc (.cells #[.slice none 0 0] 76)).frozen? ⟨w8.heap.size, 0, none⟩ = false := new_loose2 _ _ _ _ _ rfl
          clear hHeld
          refine hK.out _ _ ?_ (fun hHeld => ?_)
          · exact ⟨p0, t0⟩
          clear hK KK
          try simp only [Act.put, List.getElem_toArray, List.getElem_cons_succ, List.getElem_cons_zero, List.setIfInBounds_toArray, List.set_cons_zero, List.set_cons_succ]
          generalize w8.alloc (.cells #[.slice none 0 0] 76) = w10 at *
          refine wpAnyH_ready (rs := [4]) (by kernel_rfl) (by simp) ?_
          refine AllReadyH.cons rfl (fun KK hK => ?_) AllReadyH.nil
          · simp only [List.getElem_toArray, List.getElem_cons_succ, List.getElem_cons_zero]
            rw [if_pos (by rfl)]
            go_simp
            have kn := (Kept.refl 0 0 w10).alloc (.cells #[.slice none 0 0] 76)
            replace r1 := r1.kept kn (by omega)
            replace r2 := r2.kept kn (by omega)
            replace kw := kw.trans kn
            replace o3 := own_kept o3 kn
            replace o4 := own_kept o4 kn
            replace qf0 := kn.loose0 (World.block_lt_of_cell? _ _ q0) qf0
            replace yf0 := kn.loose0 (World.block_lt_of_cell? _ _ y0) yf0
            replace nf0 := kn.loose0 (World.block_lt_of_cell? _ _ n0) nf0
            replace p0 := kn.cell0 p0
            replace t0 := kn.cell0 t0
            replace q0 := kn.cell0 q0
            replace y0 := kn.cell0 y0
            replace n0 := kn.cell0 n0
            replace K := hide ((unhide K).trans kn)
            have z13 := kn.size
            clear kn
            have szx : w10.heap.size < (w10.alloc (.cells #[.slice none 0 0] 76)).heap.size := by simp
            have x0 : (w10.alloc (.cells #[.slice none 0 0] 76)).cell? ⟨w10.heap.size, 0, none⟩ = some (.slice none 0 0) := new_cell2 _ _ _ _ _ _ rfl rfl
            have xf0 : (w10.alloc (.cells #[.slice none 0 0] 76)).frozen? ⟨w10.heap.size, 0, none⟩ = false := new_loose2 _ _ _ _ _ rfl
            clear hHeld
            refine hK.out _ _ ?_ (fun hHeld => ?_)
            · exact ⟨p0, t0⟩
            clear hK KK
            try simp only [Act.put, List.getElem_toArray, List.getElem_cons_succ, List.getElem_cons_zero, List.setIfInBounds_toArray, List.set_cons_zero, List.set_cons_succ]
            generalize w10.alloc (.cells #[.slice none 0 0] 76) = w12 at *
            refine wpAnyH_ready (rs := [6]) (by kernel_rfl) (by simp) ?_
            refine AllReadyH.cons rfl (fun KK hK => ?_) AllReadyH.nil
            simp only [List.getElem_toArray, List.getElem_cons_succ, List.getElem_cons_zero]
            rw [if_pos (by rfl)]
            go_simp
            clear hHeld
            refine hK.out _ _ ?_ (fun hHeld => ?_)
            · exact ⟨(cell_aside _ (by have := unhide S0; dsimp only; omega) p0), (cell_aside _ (by have := unhide S0; dsimp only; omega) t0)⟩
            clear hK KK
            try simp only [Act.put, List.getElem_toArray, List.getElem_cons_succ, List.getElem_cons_zero, List.setIfInBounds_toArray, List.set_cons_zero, List.set_cons_succ]
            refine wpAnyH_ready (rs := [7]) (by kernel_rfl) (by simp) ?_
            refine AllReadyH.cons rfl (fun KK hK => ?_) AllReadyH.nil
            simp only [List.getElem_toArray, List.getElem_cons_succ, List.getElem_cons_zero]
            rw [if_pos (by rfl)]
            go_simp
            clear hHeld
            refine hK.out _ _ ?_ (fun hHeld => ?_)
            · exact ⟨(cell_aside _ (by have := unhide S0; dsimp only; omega) (cell_aside _ (by have := unhide S0; dsimp only; omega) p0)), (cell_aside _ (by have := unhide S0; dsimp only; omega) (cell_aside _ (by have := unhide S0; dsimp only; omega) t0))⟩
            clear hK KK
            try simp only [Act.put, List.getElem_toArray, List.getElem_cons_succ, List.getElem_cons_zero, List.setIfInBounds_toArray, List.set_cons_zero, List.set_cons_succ]
            refine wpAnyH_done (by kernel_rfl) ?_ _
            clear hHeld
            go_wp2_with fail
            go_meet
            exact ⟨_, _, _, _, rfl, rfl, two_set kw o3 o4 x0 xf0 n0 nf0 (by omega) (by omega) (by omega) (by omega) (by omega) (fun e => by have := l3 _ e; omega) (fun e => by have := l3 _ e; omega) (fun e => by have := l4 _ e; omega) (fun e => by have := l4 _ e; omega) (fun k e1 e2 => by have := l3 _ e1; have := l4 _ e2; omega)⟩
      · simp only [List.getElem_toArray, List.getElem_cons_succ, List.getElem_cons_zero]
        rw [if_pos (by rfl)]
        go_simp
        have kn := (Kept.refl 0 0 w6).alloc (.cells #[.slice none 0 0] 76)
        replace r1 := r1.kept kn (by omega)
        replace r2 := r2.kept kn (by omega)
        replace kw := kw.trans kn
        replace o3 := own_kept o3 kn
        replace qf0 := kn.loose0 (World.block_lt_of_cell? _ _ q0) qf0
        replace yf0 := kn.loose0 (World.block_lt_of_cell? _ _ y0) yf0
        replace p0 := kn.cell0 p0
        replace t0 := kn.cell0 t0
        replace q0 := kn.cell0 q0
        replace y0 := kn.cell0 y0
        replace K := hide ((unhide K).trans kn)
        have z9 := kn.size
        clear kn
        have szx : w6.heap.size < (w6.alloc (.cells #[.slice none 0 0] 76)).heap.size := by simp
        have x0 : (w6.alloc (.cells #[.slice none 0 0] 76)).cell? ⟨w6.heap.size, 0, none⟩ = some (.slice none 0 0) := new_cell2 _ _ _ _ _ _ rfl rfl
        have xf0 : (w6.alloc (.cells #[.slice none 0 0] 76)).frozen? ⟨w6.heap.size, 0, none⟩ = false := new_loose2 _ _ _ _ _ rfl
        clear hHeld
        refine hK.out _ _ ?_ (fun hHeld => ?_)
        · exact ⟨p0, t0⟩
        clear hK KK
        try simp only [Act.put, List.getElem_toArray, List.getElem_cons_succ, List.getElem_cons_zero, List.setIfInBounds_toArray, List.set_cons_zero, List.set_cons_succ]
        generalize w6.alloc (.cells #[.slice none 0 0] 76) = w8 at *
        refine wpAnyH_ready (rs := [3, 5]) (by kernel_rfl) (by simp) ?_
        refine AllReadyH.cons rfl (fun KK hK => ?_) (AllReadyH.cons rfl (fun KK hK => ?_) AllReadyH.nil)
        · simp only [List.getElem_toArray, List.getElem_cons_succ, List.getElem_cons_zero]
          rw [if_pos (by rfl)]
          refine wps1 87 (.tmp 32) _ rfl in_limbsOf (.agg #[.slice a2 ys.length c2]) rfl (limbsOf_impl _ r2 my) ?_
          rintro e w10 ⟨v4, rfl, o4, k10⟩
          refine ⟨_, rfl, ?_⟩
          replace r1 := r1.kept k10 (by omega)
          replace r2 := r2.kept k10 (by omega)
          replace kw := kw.trans k10
          replace o3 := own_kept o3 k10
          replace qf0 := k10.loose0 (World.block_lt_of_cell? _ _ q0) qf0
          replace yf0 := k10.loose0 (World.block_lt_of_cell? _ _ y0) yf0
          replace xf0 := k10.loose0 (World.block_lt_of_cell? _ _ x0) xf0
          replace p0 := k10.cell0 p0
          replace t0 := k10.cell0 t0
          replace q0 := k10.cell0 q0
          replace y0 := k10.cell0 y0
          replace x0 := k10.cell0 x0
          replace K := hide ((unhide K).trans k10)
          have z11 := k10.size
          clear k10
          have l4 := o4.lt
          obtain ⟨a4, c4, hv⟩ := own_slice o4
          subst hv
          clear hHeld
          refine hK.out _ _ ?_ (fun hHeld => ?_)
          · exact ⟨p0, t0⟩
          clear hK KK
          try simp only [Act.put, List.getElem_toArray, List.getElem_cons_succ, List.getElem_cons_zero, List.setIfInBounds_toArray, List.set_cons_zero, List.set_cons_succ]
          refine wpAnyH_ready (rs := [5]) (by kernel_rfl) (by simp) ?_
          refine AllReadyH.cons rfl (fun KK hK => ?_) AllReadyH.nil
          · simp only [List.getElem_toArray, List.getElem_cons_succ, List.getElem_cons_zero]
            rw [if_pos (by rfl)]
            go_simp
            have kn := (Kept.refl 0 0 w10).alloc (.cells #[.slice none 0 0] 76)
            replace r1 := r1.kept kn (by omega)
            replace r2 := r2.kept kn (by omega)
            replace kw := kw.trans kn
            replace o3 := own_kept o3 kn
            replace o4 := own_kept o4 kn
            replace qf0 := kn.loose0 (World.block_lt_of_cell? _ _ q0) qf0
            replace yf0 := kn.loose0 (World.block_lt_of_cell? _ _ y0) yf0
            replace xf0 := kn.loose0 (World.block_lt_of_cell? _ _ x0) xf0
            replace p0 := kn.cell0 p0
            replace t0 := kn.cell0 t0
            replace q0 := kn.cell0 q0
            replace y0 := kn.cell0 y0
            replace x0 := kn.cell0 x0
            replace K := hide ((unhide K).trans kn)
            have z13 := kn.size
            clear kn
            have szn : w10.heap.size < (w10.alloc (.cells #[.slice none 0 0] 76)).heap.size := by simp
            have n0 : (w10.alloc (.cells #[.slice none 0 0] 76)).cell? ⟨w10.heap.size, 0, none⟩ = some (.slice none 0 0) := new_cell2 _ _ _ _ _ _ rfl rfl
            have nf0 : (w10.alloc (.cells #[.slice none 0 0] 76)).frozen? ⟨w10.heap.size, 0, none⟩ = false := new_loose2 _ _ _ _ _ rfl
            clear hHeld
            refine hK.out _ _ ?_ (fun hHeld => ?_)
            · exact ⟨p0, t0⟩
            clear hK KK
            try simp only [Act.put, List.getElem_toArray, List.getElem_cons_succ, List.getElem_cons_zero, List.setIfInBounds_toArray, List.set_cons_zero, List.set_cons_succ]
            generalize w10.alloc (.cells #[.slice none 0 0] 76) = w12 at *
            refine wpAnyH_ready (rs := [6]) (by kernel_rfl) (by simp) ?_
            refine AllReadyH.cons rfl (fun KK hK => ?_) AllReadyH.nil
            simp only [List.getElem_toArray, List.getElem_cons_succ, List.getElem_cons_zero]
            rw [if_pos (by rfl)]
            go_simp
            clear hHeld
            refine hK.out _ _ ?_ (fun hHeld => ?_)
            · exact ⟨(cell_aside _ (by have := unhide S0; dsimp only; omega) p0), (cell_aside _ (by have := unhide S0; dsimp only; omega) t0)⟩
            clear hK KK
            try simp only [Act.put, List.getElem_toArray, List.getElem_cons_succ, List.getElem_cons_zero, List.setIfInBounds_toArray, List.set_cons_zero, List.set_cons_succ]
            refine wpAnyH_ready (rs := [7]) (by kernel_rfl) (by simp) ?_
            refine AllReadyH.cons rfl (fun KK hK => ?_) AllReadyH.nil
            simp only [List.getElem_toArray, List.getElem_cons_succ, List.getElem_cons_zero]
            rw [if_pos (by rfl)]
            go_simp
            clear hHeld
            refine hK.out _ _ ?_ (fun hHeld => ?_)
            · exact ⟨(cell_aside _ (by have := unhide S0; dsimp only; omega) (cell_aside _ (by have := unhide S0; dsimp only; omega) p0)), (cell_aside _ (by have := unhide S0; dsimp only; omega) (cell_aside _ (by have := unhide S0; dsimp only; omega) t0))⟩
            clear hK KK
            try simp only [Act.put, List.getElem_toArray, List.getElem_cons_succ, List.getElem_cons_zero, List.setIfInBounds_toArray, List.set_cons_zero, List.set_cons_succ]
            refine wpAnyH_done (by kernel_rfl) ?_ _
            clear hHeld
            go_wp2_with fail
            go_meet
            exact ⟨_, _, _, _, rfl, rfl, two_set kw o3 o4 x0 xf0 n0 nf0 (by omega) (by omega) (by omega) (by omega) (by omega) (fun e => by have := l3 _ e; omega) (fun e => by have := l3 _ e; omega) (fun e => by have := l4 _ e; omega) (fun e => by have := l4 _ e; omega) (fun k e1 e2 => by have := l3 _ e1; have := l4 _ e2; omega)⟩
        · simp only [List.getElem_toArray, List.getElem_cons_succ, List.getElem_cons_zero]
          rw [if_pos (by rfl)]
          go_simp
          have kn := (Kept.refl 0 0 w8).alloc (.cells #[.slice none 0 0] 76)
          replace r1 := r1.kept kn (by omega)
          replace r2 := r2.kept kn (by omega)
          replace kw := kw.trans kn
          replace o3 := own_kept o3 kn
          replace qf0 := kn.loose0 (World.block_lt_of_cell? _ _ q0) qf0
          replace yf0 := kn.loose0 (World.block_lt_of_cell? _ _ y0) yf0
          replace xf0 := kn.loose0 (World.block_lt_of_cell? _ _ x0) xf0
          replace p0 := kn.cell0 p0
          replace t0 := kn.cell0 t0
          replace q0 := kn.cell0 q0
          replace y0 := kn.cell0 y0
          replace x0 := kn.cell0 x0
          replace K := hide ((unhide K).trans kn)
          have z11 := kn.size
          clear kn
          have szn : w8.heap.size < (w8.alloc (.cells #[.slice none 0 0] 76)).heap.size := by simp
          have n0 : (w8.alloc (.cells #[.slice none 0 0] 76)).cell? ⟨w8.heap.size, 0, none⟩ = some (.slice none 0 0) := new_cell2 _ _ _ _ _ _ rfl rfl
          have nf0 : (w8.alloc (.cells #[.slice none 0 0] 76)).frozen? ⟨w8.heap.size, 0, none⟩ = false := new_loose2 _ _ _ _ _ rfl
          clear hHeld
          refine hK.out _ _ ?_ (fun hHeld => ?_)
          · exact ⟨p0, t0⟩
          clear hK KK
          try simp only [Act.put, List.getElem_toArray, List.getElem_cons_succ, List.getElem_cons_zero, List.setIfInBounds_toArray, List.set_cons_zero, List.set_cons_succ]
          generalize w8.alloc (.cells #[.slice none 0 0] 76) = w10 at *
          refine wpAnyH_ready (rs := [3]) (by kernel_rfl) (by simp) ?_
          refine AllReadyH.cons rfl (fun KK hK => ?_) AllReadyH.nil
          · simp only [List.getElem_toArray, List.getElem_cons_succ, List.getElem_cons_zero]
            rw [if_pos (by rfl)]
            refine wps1 87 (.tmp 32) _ rfl in_limbsOf (.agg #[.slice a2 ys.length c2]) rfl (limbsOf_impl _ r2 my) ?_
            rintro e w12 ⟨v4, rfl, o4, k12⟩
            refine ⟨_, rfl, ?_⟩
            replace r1 := r1.kept k12 (by omega)
            replace r2 := r2.kept k12 (by omega)
            replace kw := kw.trans k12
            replace o3 := own_kept o3 k12
            replace qf0 := k12.loose0 (World.block_lt_of_cell? _ _ q0) qf0
            replace yf0 := k12.loose0 (World.block_lt_of_cell? _ _ y0) yf0
            replace xf0 := k12.loose0 (World.block_lt_of_cell? _ _ x0) xf0
            replace nf0 := k12.loose0 (World.block_lt_of_cell? _ _ n0) nf0
            replace p0 := k12.cell0 p0
            replace t0 := k12.cell0 t0
            replace q0 := k12.cell0 q0
            replace y0 := k12.cell0 y0
            replace x0 := k12.cell0 x0
            replace n0 := k12.cell0 n0
            replace K := hide ((unhide K).trans k12)
            have z13 := k12.size
            clear k12
            have l4 := o4.lt
            obtain ⟨a4, c4, hv⟩ := own_slice o4
            subst hv
            clear hHeld
            refine hK.out _ _ ?_ (fun hHeld => ?_)
            · exact ⟨p0, t0⟩
            clear hK KK
            try simp only [Act.put, List.getElem_toArray, List.getElem_cons_succ, List.getElem_cons_zero, List.setIfInBounds_toArray, List.set_cons_zero, List.set_cons_succ]
            refine wpAnyH_ready (rs := [6]) (by kernel_rfl) (by simp) ?_
            refine AllReadyH.cons rfl (fun KK hK => ?_) AllReadyH.nil
            simp only [List.getElem_toArray, List.getElem_cons_succ, List.getElem_cons_zero]
            rw [if_pos (by rfl)]
            go_simp
            clear hHeld
            refine hK.out _ _ ?_ (fun hHeld => ?_)
            · exact ⟨(cell_aside _ (by have := unhide S0; dsimp only; omega) p0), (cell_aside _ (by have := unhide S0; dsimp only; omega) t0)⟩
            clear hK KK
            try simp only [Act.put, List.getElem_toArray, List.getElem_cons_succ, List.getElem_cons_zero, List.setIfInBounds_toArray, List.set_cons_zero, List.set_cons_succ]
            refine wpAnyH_ready (rs := [7]) (by kernel_rfl) (by simp) ?_
            refine AllReadyH.cons rfl (fun KK hK => ?_) AllReadyH.nil
            simp only [List.getElem_toArray, List.getElem_cons_succ, List.getElem_cons_zero]
            rw [if_pos (by rfl)]
            go_simp
            clear hHeld
            refine hK.out _ _ ?_ (fun hHeld => ?_)
            · exact ⟨(cell_aside _ (by have := unhide S0; dsimp only; omega) (cell_aside _ (by have := unhide S0; dsimp only; omega) p0)), (cell_aside _ (by have := unhide S0; dsimp only; omega) (cell_aside _ (by have := unhide S0; dsimp only; omega) t0))⟩
            clear hK KK
            try simp only [Act.put, List.getElem_toArray, List.getElem_cons_succ, List.getElem_cons_zero, List.setIfInBounds_toArray, List.set_cons_zero, List.set_cons_succ]
            refine wpAnyH_done (by kernel_rfl) ?_ _
            clear hHeld
            go_wp2_with fail
            go_meet
            exact ⟨_, _, _, _, rfl, rfl, two_set kw o3 o4 x0 xf0 n0 nf0 (by omega) (by omega) (by omega) (by omega) (by omega) (fun e => by have := l3 _ e; omega) (fun e => by have := l3 _ e; omega) (fun e => by have := l4 _ e; omega) (fun e => by have := l4 _ e; omega) (fun k e1 e2 => by have := l3 _ e1; have := l4 _ e2; omega)⟩
      · simp only [List.getElem_toArray, List.getElem_cons_succ, List.getElem_cons_zero]
        rw [if_pos (by rfl)]
        go_simp
        have kn := (Kept.refl 0 0 w6).alloc (.cells #[.slice none 0 0] 76)
        replace r1 := r1.kept kn (by omega)
        replace r2 := r2.kept kn (by omega)
        replace kw := kw.trans kn
        replace o3 := own_kept o3 kn
        replace qf0 := kn.loose0 (World.block_lt_of_cell? _ _ q0) qf0
        replace yf0 := kn.loose0 (World.block_lt_of_cell? _ _ y0) yf0
        replace p0 := kn.cell0 p0
        replace t0 := kn.cell0 t0
        replace q0 := kn.cell0 q0
        replace y0 := kn.cell0 y0
        replace K := hide ((unhide K).trans kn)
        have z9 := kn.size
        clear kn
        have szn : w6.heap.size < (w6.alloc (.cells #[.slice none 0 0] 76)).heap.size := by simp
        have n0 : (w6.alloc (.cells #[.slice none 0 0] 76)).cell? ⟨w6.heap.size, 0, none⟩ = some (.slice none 0 0) := new_cell2 _ _ _ _ _ _ rfl rfl
        have nf0 : (w6.alloc (.cells #[.slice none 0 0] 76)).frozen? ⟨w6.heap.size, 0, none⟩ = false := new_loose2 _ _ _ _ _ rfl
        clear hHeld
        refine hK.out _ _ ?_ (fun hHeld => ?_)
        · exact ⟨p0, t0⟩
        clear hK KK
        try simp only [Act.put, List.getElem_toArray, List.getElem_cons_succ, List.getElem_cons_zero, List.setIfInBounds_toArray, List.set_cons_zero, List.set_cons_succ]
        generalize w6.alloc (.cells #[.slice none 0 0] 76) = w8 at *
        refine wpAnyH_ready (rs := [3, 4]) (by kernel_rfl) (by simp) ?_
        refine AllReadyH.cons rfl (fun KK hK => ?_) (AllReadyH.cons rfl (fun KK hK => ?_) AllReadyH.nil)
        · simp only [List.getElem_toArray, List.getElem_cons_succ, List.getElem_cons_zero]
          rw [if_pos (by rfl)]
          refine wps1 87 (.tmp 32) _ rfl in_limbsOf (.agg #[.slice a2 ys.length c2]) rfl (limbsOf_impl _ r2 my) ?_
          rintro e w10 ⟨v4, rfl, o4, k10⟩
          refine ⟨_, rfl, ?_⟩
          replace r1 := r1.kept k10 (by omega)
          replace r2 := r2.kept k10 (by omega)
          replace kw := kw.trans k10
          replace o3 := own_kept o3 k10
          replace qf0 := k10.loose0 (World.block_lt_of_cell? _ _ q0) qf0
          replace yf0 := k10.loose0 (World.block_lt_of_cell? _ _ y0) yf0
          replace nf0 := k10.loose0 (World.block_lt_of_cell? _ _ n0) nf0
          replace p0 := k10.cell0 p0
          replace t0 := k10.cell0 t0
          replace q0 := k10.cell0 q0
          replace y0 := k10.cell0 y0
          replace n0 := k10.cell0 n0
          replace K := hide ((unhide K).trans k10)
          have z11 := k10.size
          clear k10
          have l4 := o4.lt
          obtain ⟨a4, c4, hv⟩ := own_slice o4
          subst hv
          clear hHeld
          refine hK.out _ _ ?_ (fun hHeld => ?_)
          · exact ⟨p0, t0⟩
          clear hK KK
          try simp only [Act.put, List.getElem_toArray, List.getElem_cons_succ, List.getElem_cons_zero, List.setIfInBounds_toArray, List.set_cons_zero, List.set_cons_succ]
          refine wpAnyH_ready (rs := [4]) (by kernel_rfl) (by simp) ?_
          refine AllReadyH.cons rfl (fun KK hK => ?_) AllReadyH.nil
          · simp only [List.getElem_toArray, List.getElem_cons_succ, List.getElem_cons_zero]
            rw [if_pos (by rfl)]
            go_simp
            have kn := (Kept.refl 0 0 w10).alloc (.cells #[.slice none 0 0] 76)
            replace r1 := r1.kept kn (by omega)
            replace r2 := r2.kept kn (by omega)
            replace kw := kw.trans kn
            replace o3 := own_kept o3 kn
            replace o4 := own_kept o4 kn
            replace qf0 := kn.loose0 (World.block_lt_of_cell? _ _ q0) qf0
            replace yf0 := kn.loose0 (World.block_lt_of_cell? _ _ y0) yf0
            replace nf0 := kn.loose0 (World.block_lt_of_cell? _ _ n0) nf0
            replace p0 := kn.cell0 p0
            replace t0 := kn.cell0 t0
            replace q0 := kn.cell0 q0
            replace y0 := kn.cell0 y0
            replace n0 := kn.cell0 n0
            replace K := hide ((unhide K).trans kn)
            have z13 := kn.size
            clear kn
            have szx : w10.heap.size < (w10.alloc (.cells #[.slice none 0 0] 76)).heap.size := by simp
            have x0 : (w10.alloc (.cells #[.slice none 0 0] 76)).cell? ⟨w10.heap.size, 0, none⟩ = some (.slice none 0 0) := new_cell2 _ _ _ _ _ _ rfl rfl
            have xf0 : (w10.alloc (.cells #[.slice none 0 0] 76)).frozen? ⟨w10.heap.size, 0, none⟩ = false := new_loose2 _ _ _ _ _ rfl
            clear hHeld
            refine hK.out _ _ ?_ (fun hHeld => ?_)
            · exact ⟨p0, t0⟩
            clear hK KK
            try simp only [Act.put, List.getElem_toArray, List.getElem_cons_succ, List.getElem_cons_zero, List.setIfInBounds_toArray, List.set_cons_zero, List.set_cons_succ]
            generalize w10.alloc (.cells #[.slice none 0 0] 76) = w12 at *
            refine wpAnyH_ready (rs := [6]) (by kernel_rfl) (by simp) ?_
            refine AllReadyH.cons rfl (fun KK hK => ?_) AllReadyH.nil
            simp only [List.getElem_toArray, List.getElem_cons_succ, List.getElem_cons_zero]
            rw [if_pos (by rfl)]
            go_simp
            clear hHeld
            refine hK.out _ _ ?_ (fun hHeld => ?_)
            · exact ⟨(cell_aside _ (by have := unhide S0; dsimp only; omega) p0), (cell_aside _ (by have := unhide S0; dsimp only; omega) t0)⟩
            clear hK KK
            try simp only [Act.put, List.getElem_toArray, List.getElem_cons_succ, List.getElem_cons_zero, List.setIfInBounds_toArray, List.set_cons_zero, List.set_cons_succ]
            refine wpAnyH_ready (rs := [7]) (by kernel_rfl) (by simp) ?_
            refine AllReadyH.cons rfl (fun KK hK => ?_) AllReadyH.nil
            simp only [List.getElem_toArray, List.getElem_cons_succ, List.getElem_cons_zero]
            rw [if_pos (by rfl)]
            go_simp
            clear hHeld
            refine hK.out _ _ ?_ (fun hHeld => ?_)
            · exact ⟨(cell_aside _ (by have := unhide S0; dsimp only; omega) (cell_aside _ (by have := unhide S0; dsimp only; omega) p0)), (cell_aside _ (by have := unhide S0; dsimp only; omega) (cell_aside _ (by have := unhide S0; dsimp only; omega) t0))⟩
            clear hK KK
            try simp only [Act.put, List.getElem_toArray, List.getElem_cons_succ, List.getElem_cons_zero, List.setIfInBounds_toArray, List.set_cons_zero, List.set_cons_succ]
            refine wpAnyH_done (by kernel_rfl) ?_ _
            clear hHeld
            go_wp2_with fail
            go_meet
            exact ⟨_, _, _, _, rfl, rfl, two_set kw o3 o4 x0 xf0 n0 nf0 (by omega) (by omega) (by omega) (by omega) (by omega) (fun e => by have := l3 _ e; omega) (fun e => by have := l3 _ e; omega) (fun e => by have := l4 _ e; omega) (fun e => by have := l4 _ e; omega) (fun k e1 e2 => by have := l3 _ e1; have := l4 _ e2; omega)⟩
        · simp only [List.getElem_toArray, List.getElem_cons_succ, List.getElem_cons_zero]
          rw [if_pos (by rfl)]
          go_simp
          have kn := (Kept.refl 0 0 w8).alloc (.cells #[.slice none 0 0] 76)
          replace r1 := r1.kept kn (by omega)
          replace r2 := r2.kept kn (by omega)
          replace kw := kw.trans kn
          replace o3 := own_kept o3 kn
          replace qf0 := kn.loose0 (World.block_lt_of_cell? _ _ q0) qf0
          replace yf0 := kn.loose0 (World.block_lt_of_cell? _ _ y0) yf0
          replace nf0 := kn.loose0 (World.block_lt_of_cell? _ _ n0) nf0
          replace p0 := kn.cell0 p0
          replace t0 := kn.cell0 t0
          replace q0 := kn.cell0 q0
          replace y0 := kn.cell0 y0
          replace n0 := kn.cell0 n0
          replace K := hide ((unhide K).trans kn)
          have z11 := kn.size
          clear kn
          have szx : w8.heap.size < (w8.alloc (.cells #[.slice none 0 0] 76)).heap.size := by simp
          have x0 : (w8.alloc (.cells #[.slice none 0 0] 76)).cell? ⟨w8.heap.size, 0, none⟩ = some (.slice none 0 0) := new_cell2 _ _ _ _ _ _ rfl rfl
          have xf0 : (w8.alloc (.cells #[.slice none 0 0] 76)).frozen? ⟨w8.heap.size, 0, none⟩ = false := new_loose2 _ _ _ _ _ rfl
          clear hHeld
          refine hK.out _ _ ?_ (fun hHeld => ?_)
          · exact ⟨p0, t0⟩
          clear hK KK
          try simp only [Act.put, List.getElem_toArray, List.getElem_cons_succ, List.getElem_cons_zero, List.setIfInBounds_toArray, List.set_cons_zero, List.set_cons_succ]
          generalize w8.alloc (.cells #[.slice none 0 0] 76) = w10 at *
          refine wpAnyH_ready (rs := [3]) (by kernel_rfl) (by simp) ?_
          refine AllReadyH.cons rfl (fun KK hK => ?_) AllReadyH.nil
          · simp only [List.getElem_toArray, List.getElem_cons_succ, List.getElem_cons_zero]
            rw [if_pos (by rfl)]
            refine wps1 87 (.tmp 32) _ rfl in_limbsOf (.agg #[.slice a2 ys.length c2]) rfl (limbsOf_impl _ r2 my) ?_
            rintro e w12 ⟨v4, rfl, o4, k12⟩
            refine ⟨_, rfl, ?_⟩
            replace r1 := r1.kept k12 (by omega)
            replace r2 := r2.kept k12 (by omega)
            replace kw := kw.trans k12
            replace o3 := own_kept o3 k12
            replace qf0 := k12.loose0 (World.block_lt_of_cell? _ _ q0) qf0
            replace yf0 := k12.loose0 (World.block_lt_of_cell? _ _ y0) yf0
            replace nf0 := k12.loose0 (World.block_lt_of_cell? _ _ n0) nf0
            replace xf0 := k12.loose0 (World.block_lt_of_cell? _ _ x0) xf0
            replace p0 := k12.cell0 p0
            replace t0 := k12.cell0 t0
            replace q0 := k12.cell0 q0
            replace y0 := k12.cell0 y0
            replace n0 := k12.cell0 n0
            replace x0 := k12.cell0 x0
            replace K := hide ((unhide K).trans k12)
            have z13 := k12.size
            clear k12
            have l4 := o4.lt
            obtain ⟨a4, c4, hv⟩ := own_slice o4
            subst hv
            clear hHeld
            refine hK.out _ _ ?_ (fun hHeld => ?_)
            · exact ⟨p0, t0⟩
            clear hK KK
            try simp only [Act.put, List.getElem_toArray, List.getElem_cons_succ, List.getElem_cons_zero, List.setIfInBounds_toArray, List.set_cons_zero, List.set_cons_succ]
            refine wpAnyH_ready (rs := [6]) (by kernel_rfl) (by simp) ?_
            refine AllReadyH.cons rfl (fun KK hK => ?_) AllReadyH.nil
            simp only [List.getElem_toArray, List.getElem_cons_succ, List.getElem_cons_zero]
            rw [if_pos (by rfl)]
            go_simp
            clear hHeld
            refine hK.out _ _ ?_ (fun hHeld => ?_)
            · exact ⟨(cell_aside _ (by have := unhide S0; dsimp only; omega) p0), (cell_aside _ (by have := unhide S0; dsimp only; omega) t0)⟩
            clear hK KK
            try simp only [Act.put, List.getElem_toArray, List.getElem_cons_succ, List.getElem_cons_zero, List.setIfInBounds_toArray, List.set_cons_zero, List.set_cons_succ]
            refine wpAnyH_ready (rs := [7]) (by kernel_rfl) (by simp) ?_
            refine AllReadyH.cons rfl (fun KK hK => ?_) AllReadyH.nil
            simp only [List.getElem_toArray, List.getElem_cons_succ, List.getElem_cons_zero]
            rw [if_pos (by rfl)]
            go_simp
            clear hHeld
            refine hK.out _ _ ?_ (fun hHeld => ?_)
            · exact ⟨(cell_aside _ (by have := unhide S0; dsimp only; omega) (cell_aside _ (by have := unhide S0; dsimp only; omega) p0)), (cell_aside _ (by have := unhide S0; dsimp only; omega) (cell_aside _ (by have := unhide S0; dsimp only; omega) t0))⟩
            clear hK KK
            try simp only [Act.put, List.getElem_toArray, List.getElem_cons_succ, List.getElem_cons_zero, List.setIfInBounds_toArray, List.set_cons_zero, List.set_cons_succ]
            refine wpAnyH_done (by kernel_rfl) ?_ _
            clear hHeld
            go_wp2_with fail
            go_meet
            exact ⟨_, _, _, _, rfl, rfl, two_set kw o3 o4 x0 xf0 n0 nf0 (by omega) (by omega) (by omega) (by omega) (by omega) (fun e => by have := l3 _ e; omega) (fun e => by have := l3 _ e; omega) (fun e => by have := l4 _ e; omega) (fun e => by have := l4 _ e; omega) (fun k e1 e2 => by have := l3 _ e1; have := l4 _ e2; omega)⟩
    · simp only [List.getElem_toArray, List.getElem_cons_succ, List.getElem_cons_zero]
      rw [if_pos (by rfl)]
      go_simp
      have kn := (Kept.refl 0 0 wd).alloc (.cells #[.slice none 0 0] 76)
      replace r1 := r1.kept kn (by omega)
      replace r2 := r2.kept kn (by omega)
      replace kw := kw.trans kn
      replace qf0 := kn.loose0 (World.block_lt_of_cell? _ _ q0) qf0
      replace yf0 := kn.loose0 (World.block_lt_of_cell? _ _ y0) yf0
      replace p0 := kn.cell0 p0
      replace t0 := kn.cell0 t0
      replace q0 := kn.cell0 q0
      replace y0 := kn.cell0 y0
      replace K := hide ((unhide K).trans kn)
      have z7 := kn.size
      clear kn
      have szx : wd.heap.size < (wd.alloc (.cells #[.slice none 0 0] 76)).heap.size := by simp
      have x0 : (wd.alloc (.cells #[.slice none 0 0] 76)).cell? ⟨wd.heap.size, 0, none⟩ = some (.slice none 0 0) := new_cell2 _ _ _ _ _ _ rfl rfl
      have xf0 : (wd.alloc (.cells #[.slice none 0 0] 76)).frozen? ⟨wd.heap.size, 0, none⟩ = false := new_loose2 _ _ _ _ _ rfl
      clear hHeld
      refine hK.out _ _ ?_ (fun hHeld => ?_)
      · exact ⟨p0, t0⟩
      clear hK KK
      try simp only [Act.put, List.getElem_toArray, List.getElem_cons_succ, List.getElem_cons_zero, List.setIfInBounds_toArray, List.set_cons_zero, List.set_cons_succ]
      generalize wd.alloc (.cells #[.slice none 0 0] 76) = w6 at *
      refine wpAnyH_ready (rs := [1, 5]) (by kernel_rfl) (by simp) ?_
      refine AllReadyH.cons rfl (fun KK hK => ?_) (AllReadyH.cons rfl (fun KK hK => ?_) AllReadyH.nil)
      · simp only [List.getElem_toArray, List.getElem_cons_succ, List.getElem_cons_zero]
        rw [if_pos (by rfl)]
        refine wps1 87 (.tmp 30) _ rfl in_limbsOf (.agg #[.slice a1 xs.length c1]) rfl (limbsOf_impl _ r1 mx) ?_
        rintro e w8 ⟨v3, rfl, o3, k8⟩
        refine ⟨_, rfl, ?_⟩
        replace r1 := r1.kept k8 (by omega)
        replace r2 := r2.kept k8 (by omega)
        replace kw := kw.trans k8
        replace qf0 := k8.loose0 (World.block_lt_of_cell? _ _ q0) qf0
        replace yf0 := k8.loose0 (World.block_lt_of_cell? _ _ y0) yf0
        replace xf0 := k8.loose0 (World.block_lt_of_cell? _ _ x0) xf0
        replace p0 := k8.cell0 p0
        replace t0 := k8.cell0 t0
        replace q0 := k8.cell0 q0
        replace y0 := k8.cell0 y0
        replace x0 := k8.cell0 x0
        replace K := hide ((unhide K).trans k8)
        have z9 := k8.size
        clear k8
        have l3 := o3.lt
        obtain ⟨a3, c3, hv⟩ := own_slice o3
        subst hv
        clear hHeld
        refine hK.out _ _ ?_ (fun hHeld => ?_)
        · exact ⟨p0, t0⟩
        clear hK KK
        try simp only [Act.put, List.getElem_toArray, List.getElem_cons_succ, List.getElem_cons_zero, List.setIfInBounds_toArray, List.set_cons_zero, List.set_cons_succ]
        refine wpAnyH_ready (rs := [3, 5]) (by kernel_rfl) (by simp) ?_
        refine AllReadyH.cons rfl (fun KK hK => ?_) (AllReadyH.cons rfl (fun KK hK => ?_) AllReadyH.nil)
        · simp only [List.getElem_toArray, List.getElem_cons_succ, List.getElem_cons_zero]
          rw [if_pos (by rfl)]
          refine wps1 87 (.tmp 32) _ rfl in_limbsOf (.agg #[.slice a2 ys.length c2]) rfl (limbsOf_impl _ r2 my) ?_
          rintro e w10 ⟨v4, rfl, o4, k10⟩
          refine ⟨_, rfl, ?_⟩
          replace r1 := r1.kept k10 (by omega)
          replace r2 := r2.kept k10 (by omega)
          replace kw := kw.trans k10
          replace o3 := own_kept o3 k10
          replace qf0 := k10.loose0 (World.block_lt_of_cell? _ _ q0) qf0
          replace yf0 := k10.loose0 (World.block_lt_of_cell? _ _ y0) yf0
          replace xf0 := k10.loose0 (World.block_lt_of_cell? _ _ x0) xf0
          replace p0 := k10.cell0 p0
          replace t0 := k10.cell0 t0
          replace q0 := k10.cell0 q0
          replace y0 := k10.cell0 y0
          replace x0 := k10.cell0 x0
          replace K := hide ((unhide K).trans k10)
          have z11 := k10.size
          clear k10
          have l4 := o4.lt
          obtain ⟨a4, c4, hv⟩ := own_slice o4
          subst hv
          clear hHeld
          refine hK.out _ _ ?_ (fun hHeld => ?_)
          · exact ⟨p0, t0⟩
          clear hK KK
          try simp only [Act.put, List.getElem_toArray, List.getElem_cons_succ, List.getElem_cons_zero, List.setIfInBounds_toArray, List.set_cons_zero, List.set_cons_succ]
          refine wpAnyH_ready (rs := [5]) (by kernel_rfl) (by simp) ?_
          refine AllReadyH.cons rfl (fun KK hK => ?_) AllReadyH.nil
          · simp only [List.getElem_toArray, List.getElem_cons_succ, List.getElem_cons_zero]
            rw [if_pos (by rfl)]
            go_simp
            have kn := (Kept.refl 0 0 w10).alloc (.cells #[.slice none 0 0] 76)
            replace r1 := r1.kept kn (by omega)
            replace r2 := r2.kept kn (by omega)
            replace kw := kw.trans kn
            replace o3 := own_kept o3 kn
            replace o4 := own_kept o4 kn
            replace qf0 := kn.loose0 (World.block_lt_of_cell? _ _ q0) qf0
            replace yf0 := kn.loose0 (World.block_lt_of_cell? _ _ y0) yf0
            replace xf0 := kn.loose0 (World.block_lt_of_cell? _ _ x0) xf0
            replace p0 := kn.cell0 p0
            replace t0 := kn.cell0 t0
            replace q0 := kn.cell0 q0
            replace y0 := kn.cell0 y0
            replace x0 := kn.cell0 x0
            replace K := hide ((unhide K).trans kn)
            have z13 := kn.size
            clear kn
            have szn : w10.heap.size < (w10.alloc (.cells #[.slice none 0 0] 76)).heap.size := by simp
            have n0 : (w10.alloc (.cells #[.slice none 0 0] 76)).cell? ⟨w10.heap.size, 0, none⟩ = some (.slice none 0 0) := new_cell2 _ _ _ _ _ _ rfl rfl
            have nf0 : (w10.alloc (.cells #[.slice none 0 0] 76)).frozen? ⟨w10.heap.size, 0, none⟩ = false := new_loose2 _ _ _ _ _ rfl
            clear hHeld
            refine hK.out _ _ ?_ (fun hHeld => ?_)
            · exact ⟨p0, t0⟩
            clear hK KK
            try simp only [Act.put, List.getElem_toArray, List.getElem_cons_succ, List.getElem_cons_zero, List.setIfInBounds_toArray, List.set_cons_zero, List.set_cons_succ]
            generalize w10.alloc (.cells #[.slice none 0 0] 76) = w12 at *
            refine wpAnyH_ready (rs := [6]) (by kernel_rfl) (by simp) ?_
            refine AllReadyH.cons rfl (fun KK hK => ?_) AllReadyH.nil
            simp only [List.getElem_toArray, List.getElem_cons_succ, List.getElem_cons_zero]
            rw [if_pos (by rfl)]
            go_simp
            clear hHeld
            refine hK.out _ _ ?_ (fun hHeld => ?_)
            · exact ⟨(cell_aside _ (by have := unhide S0; dsimp only; omega) p0), (cell_aside _ (by have := unhide S0; dsimp only; omega) t0)⟩
            clear hK KK
            try simp only [Act.put, List.getElem_toArray, List.getElem_cons_succ, List.getElem_cons_zero, List.setIfInBounds_toArray, List.set_cons_zero, List.set_cons_succ]
            refine wpAnyH_ready (rs := [7]) (by kernel_rfl) (by simp) ?_
            refine AllReadyH.cons rfl (fun KK hK => ?_) AllReadyH.nil
            simp only [List.getElem_toArray, List.getElem_cons_succ, List.getElem_cons_zero]
            rw [if_pos (by rfl)]
            go_simp
            clear hHeld
            refine hK.out _ _ ?_ (fun hHeld => ?_)
            · exact ⟨(cell_aside _ (by have := unhide S0; dsimp only; omega) (cell_aside _ (by have := unhide S0; dsimp only; omega) p0)), (cell_aside _ (by have := unhide S0; dsimp only; omega) (cell_aside _ (by have := unhide S0; dsimp only; omega) t0))⟩
            clear hK KK
            try simp only [Act.put, List.getElem_toArray, List.getElem_cons_succ, List.getElem_cons_zero, List.setIfInBounds_toArray, List.set_cons_zero, List.set_cons_succ]
            refine wpAnyH_done (by kernel_rfl) ?_ _
            clear hHeld
            go_wp2_with fail
            go_meet
            exact ⟨_, _, _, _, rfl, rfl, two_set kw o3 o4 x0 xf0 n0 nf0 (by omega) (by omega) (by omega) (by omega) (by omega) (fun e => by have := l3 _ e; omega) (fun e => by have := l3 _ e; omega) (fun e => by have := l4 _ e; omega) (fun e => by have := l4 _ e; omega) (fun k e1 e2 => by have := l3 _ e1; have := l4 _ e2; omega)⟩
        · simp only [List.getElem_toArray, List.getElem_cons_succ, List.getElem_cons_zero]
          rw [if_pos (by rfl)]
          go_simp
          have kn := (Kept.refl 0 0 w8).alloc (.cells #[.slice none 0 0] 76)
          replace r1 := r1.kept kn (by omega)
          replace r2 := r2.kept kn (by omega)
          replace kw := kw.trans kn
          replace o3 := own_kept o3 kn
          replace qf0 := kn.loose0 (World.block_lt_of_cell? _ _ q0) qf0
          replace yf0 := kn.loose0 (World.block_lt_of_cell? _ _ y0) yf0
          replace xf0 := kn.loose0 (World.block_lt_of_cell? _ _ x0) xf0
          replace p0 := kn.cell0 p0
          replace t0 := kn.cell0 t0
          replace q0 := kn.cell0 q0
          replace y0 := kn.cell0 y0
          replace x0 := kn.cell0 x0
          replace K := hide ((unhide K).trans kn)
          have z11 := kn.size
          clear kn
          have szn : w8.heap.size < (w8.alloc (.cells #[.slice none 0 0] 76)).heap.size := by simp
          have n0 : (w8.alloc (.cells #[.slice none 0 0] 76)).cell? ⟨w8.heap.size, 0, none⟩ = some (.slice none 0 0) := new_cell2 _ _ _ _ _ _ rfl rfl
          have nf0 : (w8.alloc (.cells #[.slice none 0 0] 76)).frozen? ⟨w8.heap.size, 0, none⟩ = false := new_loose2 _ _ _ _ _ rfl
          clear hHeld
          refine hK.out _ _ ?_ (fun hHeld => ?_)
          · exact ⟨p0, t0⟩
          clear hK KK
          try simp only [Act.put, List.getElem_toArray, List.getElem_cons_succ, List.getElem_cons_zero, List.setIfInBounds_toArray, List.set_cons_zero, List.set_cons_succ]
          generalize w8.alloc (.cells #[.slice none 0 0] 76) = w10 at *
          refine wpAnyH_ready (rs := [3]) (by kernel_rfl) (by simp) ?_
          refine AllReadyH.cons rfl (fun KK hK => ?_) AllReadyH.nil
          · simp only [List.getElem_toArray, List.getElem_cons_succ, List.getElem_cons_zero]
            rw [if_pos (by rfl)]
            refine wps1 87 (.tmp 32) _ rfl in_limbsOf (.agg #[.slice a2 ys.length c2]) rfl (limbsOf_impl _ r2 my) ?_
            rintro e w12 ⟨v4, rfl, o4, k12⟩
            refine ⟨_, rfl, ?_⟩
            replace r1 := r1.kept k12 (by omega)
            replace r2 := r2.kept k12 (by omega)
            replace kw := kw.trans k12
            replace o3 := own_kept o3 k12
            replace qf0 := k12.loose0 (World.block_lt_of_cell? _ _ q0) qf0
            replace yf0 := k12.loose0 (World.block_lt_of_cell? _ _ y0) yf0
            replace xf0 := k12.loose0 (World.block_lt_of_cell? _ _ x0) xf0
            replace nf0 := k12.loose0 (World.block_lt_of_cell? _ _ n0) nf0
            replace p0 := k12.cell0 p0
            replace t0 := k12.cell0 t0
            replace q0 := k12.cell0 q0
            replace y0 := k12.cell0 y0
            replace x0 := k12.cell0 x0
            replace n0 := k12.cell0 n0
            replace K := hide ((unhide K).trans k12)
            have z13 := k12.size
            clear k12
            have l4 := o4.lt
            obtain ⟨a4, c4, hv⟩ := own_slice o4
            subst hv
            clear hHeld
            refine hK.out _ _ ?_ (fun hHeld => ?_)
            · exact ⟨p0, t0⟩
            clear hK KK
            try simp only [Act.put, List.getElem_toArray, List.getElem_cons_succ, List.getElem_cons_zero, List.setIfInBounds_toArray, List.set_cons_zero, List.set_cons_succ]
            refine wpAnyH_ready (rs := [6]) (by kernel_rfl) (by simp) ?_
            refine AllReadyH.cons rfl (fun KK hK => ?_) AllReadyH.nil
            simp only [List.getElem_toArray, List.getElem_cons_succ, List.getElem_cons_zero]
            rw [if_pos (by rfl)]
            go_simp
            clear hHeld
            refine hK.out _ _ ?_ (fun hHeld => ?_)
            · exact ⟨(cell_aside _ (by have := unhide S0; dsimp only; omega) p0), (cell_aside _ (by have := unhide S0; dsimp only; omega) t0)⟩
            clear hK KK
            try simp only [Act.put, List.getElem_toArray, List.getElem_cons_succ, List.getElem_cons_zero, List.setIfInBounds_toArray, List.set_cons_zero, List.set_cons_succ]
            refine wpAnyH_ready (rs := [7]) (by kernel_rfl) (by simp) ?_
            refine AllReadyH.cons rfl (fun KK hK => ?_) AllReadyH.nil
            simp only [List.getElem_toArray, List.getElem_cons_succ, List.getElem_cons_zero]
            rw [if_pos (by rfl)]
            go_simp
            clear hHeld
            refine hK.out _ _ ?_ (fun hHeld => ?_)
            · exact ⟨(cell_aside _ (by have := unhide S0; dsimp only; omega) (cell_aside _ (by have := unhide S0; dsimp only; omega) p0)), (cell_aside _ (by have := unhide S0; dsimp only; omega) (cell_aside _ (by have := unhide S0; dsimp only; omega) t0))⟩
            clear hK KK
            try simp only [Act.put, List.getElem_toArray, List.getElem_cons_succ, List.getElem_cons_zero, List.setIfInBounds_toArray, List.set_cons_zero, List.set_cons_succ]
            refine wpAnyH_done (by kernel_rfl) ?_ _
            clear hHeld
            go_wp2_with fail
            go_meet
            exact ⟨_, _, _, _, rfl, rfl, two_set kw o3 o4 x0 xf0 n0 nf0 (by omega) (by omega) (by omega) (by omega) (by omega) (fun e => by have := l3 _ e; omega) (fun e => by have := l3 _ e; omega) (fun e => by have := l4 _ e; omega) (fun e => by have := l4 _ e; omega) (fun k e1 e2 => by have := l3 _ e1; have := l4 _ e2; omega)⟩
      · simp only [List.getElem_toArray, List.getElem_cons_succ, List.getElem_cons_zero]
        rw [if_pos (by rfl)]
        go_simp
        have kn := (Kept.refl 0 0 w6).alloc (.cells #[.slice none 0 0] 76)
        replace r1 := r1.kept kn (by omega)
        replace r2 := r2.kept kn (by omega)
        replace kw := kw.trans kn
        replace qf0 := kn.loose0 (World.block_lt_of_cell? _ _ q0) qf0
        replace yf0 := kn.loose0 (World.block_lt_of_cell? _ _ y0) yf0
        replace xf0 := kn.loose0 (World.block_lt_of_cell? _ _ x0) xf0
        replace p0 := kn.cell0 p0
        replace t0 := kn.cell0 t0
        replace q0 := kn.cell0 q0
        replace y0 := kn.cell0 y0
        replace x0 := kn.cell0 x0
        replace K := hide ((unhide K).trans kn)
        have z9 := kn.size
        clear kn
        have szn : w6.heap.size < (w6.alloc (.cells #[.slice none 0 0] 76)).heap.size := by simp
        have n0 : (w6.alloc (.cells #[.slice none 0 0] 76)).cell? ⟨w6.heap.size, 0, none⟩ = some (.slice none 0 0) := new_cell2 _ _ _ _ _ _ rfl rfl
        have nf0 : (w6.alloc (.cells #[.slice none 0 0] 76)).frozen? ⟨w6.heap.size, 0, none⟩ = false := new_loose2 _ _ _ _ _ rfl
        clear hHeld
        refine hK.out _ _ ?_ (fun hHeld => ?_)
        · exact ⟨p0, t0⟩
        clear hK KK
        try simp only [Act.put, List.getElem_toArray, List.getElem_cons_succ, List.getElem_cons_zero, List.setIfInBounds_toArray, List.set_cons_zero, List.set_cons_succ]
        generalize w6.alloc (.cells #[.slice none 0 0] 76) = w8 at *
        refine wpAnyH_ready (rs := [1]) (by kernel_rfl) (by simp) ?_
        refine AllReadyH.cons rfl (fun KK hK => ?_) AllReadyH.nil
        · simp only [List.getElem_toArray, List.getElem_cons_succ, List.getElem_cons_zero]
          rw [if_pos (by rfl)]
          refine wps1 87 (.tmp 30) _ rfl in_limbsOf (.agg #[.slice a1 xs.length c1]) rfl (limbsOf_impl _ r1 mx) ?_
          rintro e w10 ⟨v3, rfl, o3, k10⟩
          refine ⟨_, rfl, ?_⟩
          replace r1 := r1.kept k10 (by omega)
          replace r2 := r2.kept k10 (by omega)
          replace kw := kw.trans k10
          replace qf0 := k10.loose0 (World.block_lt_of_cell? _ _ q0) qf0
          replace yf0 := k10.loose0 (World.block_lt_of_cell? _ _ y0) yf0
          replace xf0 := k10.loose0 (World.block_lt_of_cell? _ _ x0) xf0
          replace nf0 := k10.loose0 (World.block_lt_of_cell? _ _ n0) nf0
          replace p0 := k10.cell0 p0
          replace t0 := k10.cell0 t0
          replace q0 := k10.cell0 q0
          replace y0 := k10.cell0 y0
          replace x0 := k10.cell0 x0
          replace n0 := k10.cell0 n0
          replace K := hide ((unhide K).trans k10)
          have z11 := k10.size
          clear k10
          have l3 := o3.lt
          obtain ⟨a3, c3, hv⟩ := own_slice o3
          subst hv
          clear hHeld
          refine hK.out _ _ ?_ (fun hHeld => ?_)
          · exact ⟨p0, t0⟩
          clear hK KK
          try simp only [Act.put, List.getElem_toArray, List.getElem_cons_succ, List.getElem_cons_zero, List.setIfInBounds_toArray, List.set_cons_zero, List.set_cons_succ]
          refine wpAnyH_ready (rs := [3]) (by kernel_rfl) (by simp) ?_
          refine AllReadyH.cons rfl (fun KK hK => ?_) AllReadyH.nil
          · simp only [List.getElem_toArray, List.getElem_cons_succ, List.getElem_cons_zero]
            rw [if_pos (by rfl)]
            refine wps1 87 (.tmp 32) _ rfl in_limbsOf (.agg #[.slice a2 ys.length c2]) rfl (limbsOf_impl _ r2 my) ?_
            rintro e w12 ⟨v4, rfl, o4, k12⟩
            refine ⟨_, rfl, ?_⟩
            replace r1 := r1.kept k12 (by omega)
            replace r2 := r2.kept k12 (by omega)
            replace kw := kw.trans k12
            replace o3 := own_kept o3 k12
            replace qf0 := k12.loose0 (World.block_lt_of_cell? _ _ q0) qf0
            replace yf0 := k12.loose0 (World.block_lt_of_cell? _ _ y0) yf0
            replace xf0 := k12.loose0 (World.block_lt_of_cell? _ _ x0) xf0
            replace nf0 := k12.loose0 (World.block_lt_of_cell? _ _ n0) nf0
            replace p0 := k12.cell0 p0
            replace t0 := k12.cell0 t0
            replace q0 := k12.cell0 q0
            replace y0 := k12.cell0 y0
            replace x0 := k12.cell0 x0
            replace n0 := k12.cell0 n0
            replace K := hide ((unhide K).trans k12)
            have z13 := k12.size
            clear k12
            have l4 := o4.lt
            obtain ⟨a4, c4, hv⟩ := own_slice o4
            subst hv
            clear hHeld
            refine hK.out _ _ ?_ (fun hHeld => ?_)
            · exact ⟨p0, t0⟩
            clear hK KK
            try simp only [Act.put, List.getElem_toArray, List.getElem_cons_succ, List.getElem_cons_zero, List.setIfInBounds_toArray, List.set_cons_zero, List.set_cons_succ]
            refine wpAnyH_ready (rs := [6]) (by kernel_rfl) (by simp) ?_
            refine AllReadyH.cons rfl (fun KK hK => ?_) AllReadyH.nil
            simp only [List.getElem_toArray, List.getElem_cons_succ, List.getElem_cons_zero]
            rw [if_pos (by rfl)]
            go_simp
            clear hHeld
            refine hK.out _ _ ?_ (fun hHeld => ?_)
            · exact ⟨(cell_aside _ (by have := unhide S0; dsimp only; omega) p0), (cell_aside _ (by have := unhide S0; dsimp only; omega) t0)⟩
            clear hK KK
            try simp only [Act.put, List.getElem_toArray, List.getElem_cons_succ, List.getElem_cons_zero, List.setIfInBounds_toArray, List.set_cons_zero, List.set_cons_succ]
            refine wpAnyH_ready (rs := [7]) (by kernel_rfl) (by simp) ?_
            refine AllReadyH.cons rfl (fun KK hK => ?_) AllReadyH.nil
            simp only [List.getElem_toArray, List.getElem_cons_succ, List.getElem_cons_zero]
            rw [if_pos (by rfl)]
            go_simp
            clear hHeld
            refine hK.out _ _ ?_ (fun hHeld => ?_)
            · exact ⟨(cell_aside _ (by have := unhide S0; dsimp only; omega) (cell_aside _ (by have := unhide S0; dsimp only; omega) p0)), (cell_aside _ (by have := unhide S0; dsimp only; omega) (cell_aside _ (by have := unhide S0; dsimp only; omega) t0))⟩
            clear hK KK
            try simp only [Act.put, List.getElem_toArray, List.getElem_cons_succ, List.getElem_cons_zero, List.setIfInBounds_toArray, List.set_cons_zero, List.set_cons_succ]
            refine wpAnyH_done (by kernel_rfl) ?_ _
            clear hHeld
            go_wp2_with fail
            go_meet
            exact ⟨_, _, _, _, rfl, rfl, two_set kw o3 o4 x0 xf0 n0 nf0 (by omega) (by omega) (by omega) (by omega) (by omega) (fun e => by have := l3 _ e; omega) (fun e => by have := l3 _ e; omega) (fun e => by have := l4 _ e; omega) (fun e => by have := l4 _ e; omega) (fun k e1 e2 => by have := l3 _ e1; have := l4 _ e2; omega)⟩
    · simp only [List.getElem_toArray, List.getElem_cons_succ, List.getElem_cons_zero]
      rw [if_pos (by rfl)]
      go_simp
      have kn := (Kept.refl 0 0 wd).alloc (.cells #[.slice none 0 0] 76)
      replace r1 := r1.kept kn (by omega)
      replace r2 := r2.kept kn (by omega)
      replace kw := kw.trans kn
      replace qf0 := kn.loose0 (World.block_lt_of_cell? _ _ q0) qf0
      replace yf0 := kn.loose0 (World.block_lt_of_cell? _ _ y0) yf0
      replace p0 := kn.cell0 p0
      replace t0 := kn.cell0 t0
      replace q0 := kn.cell0 q0
      replace y0 := kn.cell0 y0
      replace K := hide ((unhide K).trans kn)
      have z7 := kn.size
      clear kn
      have szn : wd.heap.size < (wd.alloc (.cells #[.slice none 0 0] 76)).heap.size := by simp
      have n0 : (wd.alloc (.cells #[.slice none 0 0] 76)).cell? ⟨wd.heap.size, 0, none⟩ = some (.slice none 0 0) := new_cell2 _ _ _ _ _ _ rfl rfl
      have nf0 : (wd.alloc (.cells #[.slice none 0 0] 76)).frozen? ⟨wd.heap.size, 0, none⟩ = false := new_loose2 _ _ _ _ _ rfl
      clear hHeld
      refine hK.out _ _ ?_ (fun hHeld => ?_)
      · exact ⟨p0, t0⟩
      clear hK KK
      try simp only [Act.put, List.getElem_toArray, List.getElem_cons_succ, List.getElem_cons_zero, List.setIfInBounds_toArray, List.set_cons_zero, List.set_cons_succ]
      generalize wd.alloc (.cells #[.slice none 0 0] 76) = w6 at *
      refine wpAnyH_ready (rs := [1, 4]) (by kernel_rfl) (by simp) ?_
      refine AllReadyH.cons rfl (fun KK hK => ?_) (AllReadyH.cons rfl (fun KK hK => ?_) AllReadyH.nil)
      · simp only [List.getElem_toArray, List.getElem_cons_succ, List.getElem_cons_zero]
        rw [if_pos (by rfl)]
        refine wps1 87 (.tmp 30) _ rfl in_limbsOf (.agg #[.slice a1 xs.length c1]) rfl (limbsOf_impl _ r1 mx) ?_
        rintro e w8 ⟨v3, rfl, o3, k8⟩
        refine ⟨_, rfl, ?_⟩
        replace r1 := r1.kept k8 (by omega)
        replace r2 := r2.kept k8 (by omega)
        replace kw := kw.trans k8
        replace qf0 := k8.loose0 (World.block_lt_of_cell? _ _ q0) qf0
        replace yf0 := k8.loose0 (World.block_lt_of_cell? _ _ y0) yf0
        replace nf0 := k8.loose0 (World.block_lt_of_cell? _ _ n0) nf0
        replace p0 := k8.cell0 p0
        replace t0 := k8.cell0 t0
        replace q0 := k8.cell0 q0
        replace y0 := k8.cell0 y0
        replace n0 := k8.cell0 n0
        replace K := hide ((unhide K).trans k8)
        have z9 := k8.size
        clear k8
        have l3 := o3.lt
        obtain ⟨a3, c3, hv⟩ := own_slice o3
        subst hv
        clear hHeld
        refine hK.out _ _ ?_ (fun hHeld => ?_)
        · exact ⟨p0, t0⟩
        clear hK KK
        try simp only [Act.put, List.getElem_toArray, List.getElem_cons_succ, List.getElem_cons_zero, List.setIfInBounds_toArray, List.set_cons_zero, List.set_cons_succ]
        refine wpAnyH_ready (rs := [3, 4]) (by kernel_rfl) (by simp) ?_
        refine AllReadyH.cons rfl (fun KK hK => ?_) (AllReadyH.cons rfl (fun KK hK => ?_) AllReadyH.nil)
        · simp only [List.getElem_toArray, List.getElem_cons_succ, List.getElem_cons_zero]
          rw [if_pos (by rfl)]
          refine wps1 87 (.tmp 32) _ rfl in_limbsOf (.agg #[.slice a2 ys.length c2]) rfl (limbsOf_impl _ r2 my) ?_
          rintro e w10 ⟨v4, rfl, o4, k10⟩
          refine ⟨_, rfl, ?_⟩
          replace r1 := r1.kept k10 (by omega)
          replace r2 := r2.kept k10 (by omega)
          replace kw := kw.trans k10
          replace o3 := own_kept o3 k10
          replace qf0 := k10.loose0 (World.block_lt_of_cell? _ _ q0) qf0
          replace yf0 := k10.loose0 (World.block_lt_of_cell? _ _ y0) yf0
          replace nf0 := k10.loose0 (World.block_lt_of_cell? _ _ n0) nf0
          replace p0 := k10.cell0 p0
          replace t0 := k10.cell0 t0
          replace q0 := k10.cell0 q0
          replace y0 := k10.cell0 y0
          replace n0 := k10.cell0 n0
          replace K := hide ((unhide K).trans k10)
          have z11 := k10.size
          clear k10
          have l4 := o4.lt
          obtain ⟨a4, c4, hv⟩ := own_slice o4
          subst hv
          clear hHeld
          refine hK.out _ _ ?_ (fun hHeld => ?_)
          · exact ⟨p0, t0⟩
          clear hK KK
          try simp only [Act.put, List.getElem_toArray, List.getElem_cons_succ, List.getElem_cons_zero, List.setIfInBounds_toArray, List.set_cons_zero, List.set_cons_succ]
          refine wpAnyH_ready (rs := [4]) (by kernel_rfl) (by simp) ?_
          refine AllReadyH.cons rfl (fun KK hK => ?_) AllReadyH.nil
          · simp only [List.getElem_toArray, List.getElem_cons_succ, List.getElem_cons_zero]
            rw [if_pos (by rfl)]
            go_simp
            have kn := (Kept.refl 0 0 w10).alloc (.cells #[.slice none 0 0] 76)
            replace r1 := r1.kept kn (by omega)
            replace r2 := r2.kept kn (by omega)
            replace kw := kw.trans kn
            replace o3 := own_kept o3 kn
            replace o4 := own_kept o4 kn
            replace qf0 := kn.loose0 (World.block_lt_of_cell? _ _ q0) qf0
            replace yf0 := kn.loose0 (World.block_lt_of_cell? _ _ y0) yf0
            replace nf0 := kn.loose0 (World.block_lt_of_cell? _ _ n0) nf0
            replace p0 := kn.cell0 p0
            replace t0 := kn.cell0 t0
            replace q0 := kn.cell0 q0
            replace y0 := kn.cell0 y0
            replace n0 := kn.cell0 n0
            replace K := hide ((unhide K).trans kn)
            have z13 := kn.size
            clear kn
            have szx : w10.heap.size < (w10.alloc (.cells #[.slice none 0 0] 76)).heap.size := by simp
            have x0 : (w10.alloc (.cells #[.slice none 0 0] 76)).cell? ⟨w10.heap.size, 0, none⟩ = some (.slice none 0 0) := new_cell2 _ _ _ _ _ _ rfl rfl
            have xf0 : (w10.alloc (.cells #[.slice none 0 0] 76)).frozen? ⟨w10.heap.size, 0, none⟩ = false := new_loose2 _ _ _ _ _ rfl
            clear hHeld
            refine hK.out _ _ ?_ (fun hHeld => ?_)
            · exact ⟨p0, t0⟩
            clear hK KK
            try simp only [Act.put, List.getElem_toArray, List.getElem_cons_succ, List.getElem_cons_zero, List.setIfInBounds_toArray, List.set_cons_zero, List.set_cons_succ]
            generalize w10.alloc (.cells #[.slice none 0 0] 76) = w12 at *
            refine wpAnyH_ready (rs := [6]) (by kernel_rfl) (by simp) ?_
            refine AllReadyH.cons rfl (fun KK hK => ?_) AllReadyH.nil
            simp only [List.getElem_toArray, List.getElem_cons_succ, List.getElem_cons_zero]
            rw [if_pos (by rfl)]
            go_simp
            clear hHeld
            refine hK.out _ _ ?_ (fun hHeld => ?_)
            · exact ⟨(cell_aside _ (by have := unhide S0; dsimp only; omega) p0), (cell_aside _ (by have := unhide S0; dsimp only; omega) t0)⟩
            clear hK KK
            try simp only [Act.put, List.getElem_toArray, List.getElem_cons_succ, List.getElem_cons_zero, List.setIfInBounds_toArray, List.set_cons_zero, List.set_cons_succ]
            refine wpAnyH_ready (rs := [7]) (by kernel_rfl) (by simp) ?_
            refine AllReadyH.cons rfl (fun KK hK => ?_) AllReadyH.nil
            simp only [List.getElem_toArray, List.getElem_cons_succ, List.getElem_cons_zero]
            rw [if_pos (by rfl)]
            go_simp
            clear hHeld
            refine hK.out _ _ ?_ (fun hHeld => ?_)
            · exact ⟨(cell_aside _ (by have := unhide S0; dsimp only; omega) (cell_aside _ (by have := unhide S0; dsimp only; omega) p0)), (cell_aside _ (by have := unhide S0; dsimp only; omega) (cell_aside _ (by have := unhide S0; dsimp only; omega) t0))⟩
            clear hK KK
            try simp only [Act.put, List.getElem_toArray, List.getElem_cons_succ, List.getElem_cons_zero, List.setIfInBounds_toArray, List.set_cons_zero, List.set_cons_succ]
            refine wpAnyH_done (by kernel_rfl) ?_ _
            clear hHeld
            go_wp2_with fail
            go_meet
            exact ⟨_, _, _, _, rfl, rfl, two_set kw o3 o4 x0 xf0 n0 nf0 (by omega) (by omega) (by omega) (by omega) (by omega) (fun e => by have := l3 _ e; omega) (fun e => by have := l3 _ e; omega) (fun e => by have := l4 _ e; omega) (fun e => by have := l4 _ e; omega) (fun k e1 e2 => by have := l3 _ e1; have := l4 _ e2; omega)⟩
        · simp only [List.getElem_toArray, List.getElem_cons_succ, List.getElem_cons_zero]
          rw [if_pos (by rfl)]
          go_simp
          have kn := (Kept.refl 0 0 w8).alloc (.cells #[.slice none 0 0] 76)
          replace r1 := r1.kept kn (by omega)
          replace r2 := r2.kept kn (by omega)
          replace kw := kw.trans kn
          replace o3 := own_kept o3 kn
          replace qf0 := kn.loose0 (World.block_lt_of_cell? _ _ q0) qf0
          replace yf0 := kn.loose0 (World.block_lt_of_cell? _ _ y0) yf0
          replace nf0 := kn.loose0 (World.block_lt_of_cell? _ _ n0) nf0
          replace p0 := kn.cell0 p0
          replace t0 := kn.cell0 t0
          replace q0 := kn.cell0 q0
          replace y0 := kn.cell0 y0
          replace n0 := kn.cell0 n0
          replace K := hide ((unhide K).trans kn)
          have z11 := kn.size
          clear kn
          have szx : w8.heap.size < (w8.alloc (.cells #[.slice none 0 0] 76)).heap.size := by simp
          have x0 : (w8.alloc (.cells #[.slice none 0 0] 76)).cell? ⟨w8.heap.size, 0, none⟩ = some (.slice none 0 0) := new_cell2 _ _ _ _ _ _ rfl rfl
          have xf0 : (w8.alloc (.cells #[.slice none 0 0] 76)).frozen? ⟨w8.heap.size, 0, none⟩ = false := new_loose2 _ _ _ _ _ rfl
          clear hHeld
          refine hK.out _ _ ?_ (fun hHeld => ?_)
          · exact ⟨p0, t0⟩
          clear hK KK
          try simp only [Act.put, List.getElem_toArray, List.getElem_cons_succ, List.getElem_cons_zero, List.setIfInBounds_toArray, List.set_cons_zero, List.set_cons_succ]
          generalize w8.alloc (.cells #[.slice none 0 0] 76) = w10 at *
          refine wpAnyH_ready (rs := [3]) (by kernel_rfl) (by simp) ?_
          refine AllReadyH.cons rfl (fun KK hK => ?_) AllReadyH.nil
          · simp only [List.getElem_toArray, List.getElem_cons_succ, List.getElem_cons_zero]
            rw [if_pos (by rfl)]
            refine wps1 87 (.tmp 32) _ rfl in_limbsOf (.agg #[.slice a2 ys.length c2]) rfl (limbsOf_impl _ r2 my) ?_
            rintro e w12 ⟨v4, rfl, o4, k12⟩
            refine ⟨_, rfl, ?_⟩
            replace r1 := r1.kept k12 (by omega)
            replace r2 := r2.kept k12 (by omega)
            replace kw := kw.trans k12
            replace o3 := own_kept o3 k12
            replace qf0 := k12.loose0 (World.block_lt_of_cell? _ _ q0) qf0
            replace yf0 := k12.loose0 (World.block_lt_of_cell? _ _ y0) yf0
            replace nf0 := k12.loose0 (World.block_lt_of_cell? _ _ n0) nf0
            replace xf0 := k12.loose0 (World.block_lt_of_cell? _ _ x0) xf0
            replace p0 := k12.cell0 p0
            replace t0 := k12.cell0 t0
            replace q0 := k12.cell0 q0
            replace y0 := k12.cell0 y0
            replace n0 := k12.cell0 n0
            replace x0 := k12.cell0 x0
            replace K := hide ((unhide K).trans k12)
            have z13 := k12.size
            clear k12
            have l4 := o4.lt
            obtain ⟨a4, c4, hv⟩ := own_slice o4
            subst hv
            clear hHeld
            refine hK.out _ _ ?_ (fun hHeld => ?_)
            · exact ⟨p0, t0⟩
            clear hK KK
            try simp only [Act.put, List.getElem_toArray, List.getElem_cons_succ, List.getElem_cons_zero, List.setIfInBounds_toArray, List.set_cons_zero, List.set_cons_succ]
            refine wpAnyH_ready (rs := [6]) (by kernel_rfl) (by simp) ?_
            refine AllReadyH.cons rfl (fun KK hK => ?_) AllReadyH.nil
            simp only [List.getElem_toArray, List.getElem_cons_succ, List.getElem_cons_zero]
            rw [if_pos (by rfl)]
            go_simp
            clear hHeld
            refine hK.out _ _ ?_ (fun hHeld => ?_)
            · exact ⟨(cell_aside _ (by have := unhide S0; dsimp only; omega) p0), (cell_aside _ (by have := unhide S0; dsimp only; omega) t0)⟩
            clear hK KK
            try simp only [Act.put, List.getElem_toArray, List.getElem_cons_succ, List.getElem_cons_zero, List.setIfInBounds_toArray, List.set_cons_zero, List.set_cons_succ]
            refine wpAnyH_ready (rs := [7]) (by kernel_rfl) (by simp) ?_
            refine AllReadyH.cons rfl (fun KK hK => ?_) AllReadyH.nil
            simp only [List.getElem_toArray, List.getElem_cons_succ, List.getElem_cons_zero]
            rw [if_pos (by rfl)]
            go_simp
            clear hHeld
            refine hK.out _ _ ?_ (fun hHeld => ?_)
            · exact ⟨(cell_aside _ (by have := unhide S0; dsimp only; omega) (cell_aside _ (by have := unhide S0; dsimp only; omega) p0)), (cell_aside _ (by have := unhide S0; dsimp only; omega) (cell_aside _ (by have := unhide S0; dsimp only; omega) t0))⟩
            clear hK KK
            try simp only [Act.put, List.getElem_toArray, List.getElem_cons_succ, List.getElem_cons_zero, List.setIfInBounds_toArray, List.set_cons_zero, List.set_cons_succ]
            refine wpAnyH_done (by kernel_rfl) ?_ _
            clear hHeld
            go_wp2_with fail
            go_meet
            exact ⟨_, _, _, _, rfl, rfl, two_set kw o3 o4 x0 xf0 n0 nf0 (by omega) (by omega) (by omega) (by omega) (by omega) (fun e => by have := l3 _ e; omega) (fun e => by have := l3 _ e; omega) (fun e => by have := l4 _ e; omega) (fun e => by have := l4 _ e; omega) (fun k e1 e2 => by have := l3 _ e1; have := l4 _ e2; omega)⟩
      · simp only [List.getElem_toArray, List.getElem_cons_succ, List.getElem_cons_zero]
        rw [if_pos (by rfl)]
        go_simp
        have kn := (Kept.refl 0 0 w6).alloc (.cells #[.slice none 0 0] 76)
        replace r1 := r1.kept kn (by omega)
        replace r2 := r2.kept kn (by omega)
        replace kw := kw.trans kn
        replace qf0 := kn.loose0 (World.block_lt_of_cell? _ _ q0) qf0
        replace yf0 := kn.loose0 (World.block_lt_of_cell? _ _ y0) yf0
        replace nf0 := kn.loose0 (World.block_lt_of_cell? _ _ n0) nf0
        replace p0 := kn.cell0 p0
        replace t0 := kn.cell0 t0
        replace q0 := kn.cell0 q0
        replace y0 := kn.cell0 y0
        replace n0 := kn.cell0 n0
        replace K := hide ((unhide K).trans kn)
        have z9 := kn.size
        clear kn
        have szx : w6.heap.size < (w6.alloc (.cells #[.slice none 0 0] 76)).heap.size := by simp
        have x0 : (w6.alloc (.cells #[.slice none 0 0] 76)).cell? ⟨w6.heap.size, 0, none⟩ = some (.slice none 0 0) := new_cell2 _ _ _ _ _ _ rfl rfl
        have xf0 : (w6.alloc (.cells #[.slice none 0 0] 76)).frozen? ⟨w6.heap.size, 0, none⟩ = false := new_loose2 _ _ _ _ _ rfl
        clear hHeld
        refine hK.out _ _ ?_ (fun hHeld => ?_)
        · exact ⟨p0, t0⟩
        clear hK KK
        try simp only [Act.put, List.getElem_toArray, List.getElem_cons_succ, List.getElem_cons_zero, List.setIfInBounds_toArray, List.set_cons_zero, List.set_cons_succ]
        generalize w6.alloc (.cells #[.slice none 0 0] 76) = w8 at *
        refine wpAnyH_ready (rs := [1]) (by kernel_rfl) (by simp) ?_
        refine AllReadyH.cons rfl (fun KK hK => ?_) AllReadyH.nil
        · simp only [List.getElem_toArray, List.getElem_cons_succ, List.getElem_cons_zero]
          rw [if_pos (by rfl)]
          refine wps1 87 (.tmp 30) _ rfl in_limbsOf (.agg #[.slice a1 xs.length c1]) rfl (limbsOf_impl _ r1 mx) ?_
          rintro e w10 ⟨v3, rfl, o3, k10⟩
          refine ⟨_, rfl, ?_⟩
          replace r1 := r1.kept k10 (by omega)
          replace r2 := r2.kept k10 (by omega)
          replace kw := kw.trans k10
          replace qf0 := k10.loose0 (World.block_lt_of_cell? _ _ q0) qf0
          replace yf0 := k10.loose0 (World.block_lt_of_cell? _ _ y0) yf0
          replace nf0 := k10.loose0 (World.block_lt_of_cell? _ _ n0) nf0
          replace xf0 := k10.loose0 (World.block_lt_of_cell? _ _ x0) xf0
          replace p0 := k10.cell0 p0
          replace t0 := k10.cell0 t0
          replace q0 := k10.cell0 q0
          replace y0 := k10.cell0 y0
          replace n0 := k10.cell0 n0
          replace x0 := k10.cell0 x0
          replace K := hide ((unhide K).trans k10)
          have z11 := k10.size
          clear k10
          have l3 := o3.lt
          obtain ⟨a3, c3, hv⟩ := own_slice o3
          subst hv
          clear hHeld
          refine hK.out _ _ ?_ (fun hHeld => ?_)
          · exact ⟨p0, t0⟩
          clear hK KK
          try simp only [Act.put, List.getElem_toArray, List.getElem_cons_succ, List.getElem_cons_zero, List.setIfInBounds_toArray, List.set_cons_zero, List.set_cons_succ]
          refine wpAnyH_ready (rs := [3]) (by kernel_rfl) (by simp) ?_
          refine AllReadyH.cons rfl (fun KK hK => ?_) AllReadyH.nil
          · simp only [List.getElem_toArray, List.getElem_cons_succ, List.getElem_cons_zero]
            rw [if_pos (by rfl)]
            refine wps1 87 (.tmp 32) _ rfl in_limbsOf (.agg #[.slice a2 ys.length c2]) rfl (limbsOf_impl _ r2 my) ?_
            rintro e w12 ⟨v4, rfl, o4, k12⟩
            refine ⟨_, rfl, ?_⟩
            replace r1 := r1.kept k12 (by omega)
            replace r2 := r2.kept k12 (by omega)
            replace kw := kw.trans k12
            replace o3 := own_kept o3 k12
            replace qf0 := k12.loose0 (World.block_lt_of_cell? _ _ q0) qf0
            replace yf0 := k12.loose0 (World.block_lt_of_cell? _ _ y0) yf0
            replace nf0 := k12.loose0 (World.block_lt_of_cell? _ _ n0) nf0
            replace xf0 := k12.loose0 (World.block_lt_of_cell? _ _ x0) xf0
            replace p0 := k12.cell0 p0
            replace t0 := k12.cell0 t0
            replace q0 := k12.cell0 q0
            replace y0 := k12.cell0 y0
            replace n0 := k12.cell0 n0
            replace x0 := k12.cell0 x0
            replace K := hide ((unhide K).trans k12)
            have z13 := k12.size
            clear k12
            have l4 := o4.lt
            obtain ⟨a4, c4, hv⟩ := own_slice o4
            subst hv
            clear hHeld
            refine hK.out _ _ ?_ (fun hHeld => ?_)
            · exact ⟨p0, t0⟩
            clear hK KK
            try simp only [Act.put, List.getElem_toArray, List.getElem_cons_succ, List.getElem_cons_zero, List.setIfInBounds_toArray, List.set_cons_zero, List.set_cons_succ]
            refine wpAnyH_ready (rs := [6]) (by kernel_rfl) (by simp) ?_
            refine AllReadyH.cons rfl (fun KK hK => ?_) AllReadyH.nil
            simp only [List.getElem_toArray, List.getElem_cons_succ, List.getElem_cons_zero]
            rw [if_pos (by rfl)]
            go_simp
            clear hHeld
            refine hK.out _ _ ?_ (fun hHeld => ?_)
            · exact ⟨(cell_aside _ (by have := unhide S0; dsimp only; omega) p0), (cell_aside _ (by have := unhide S0; dsimp only; omega) t0)⟩
            clear hK KK
            try simp only [Act.put, List.getElem_toArray, List.getElem_cons_succ, List.getElem_cons_zero, List.setIfInBounds_toArray, List.set_cons_zero, List.set_cons_succ]
            refine wpAnyH_ready (rs := [7]) (by kernel_rfl) (by simp) ?_
            refine AllReadyH.cons rfl (fun KK hK => ?_) AllReadyH.nil
            simp only [List.getElem_toArray, List.getElem_cons_succ, List.getElem_cons_zero]
            rw [if_pos (by rfl)]
            go_simp
            clear hHeld
            refine hK.out _ _ ?_ (fun hHeld => ?_)
            · exact ⟨(cell_aside _ (by have := unhide S0; dsimp only; omega) (cell_aside _ (by have := unhide S0; dsimp only; omega) p0)), (cell_aside _ (by have := unhide S0; dsimp only; omega) (cell_aside _ (by have := unhide S0; dsimp only; omega) t0))⟩
            clear hK KK
            try simp only [Act.put, List.getElem_toArray, List.getElem_cons_succ, List.getElem_cons_zero, List.setIfInBounds_toArray, List.set_cons_zero, List.set_cons_succ]
            refine wpAnyH_done (by kernel_rfl) ?_ _
            clear hHeld
            go_wp2_with fail
            go_meet
            exact ⟨_, _, _, _, rfl, rfl, two_set kw o3 o4 x0 xf0 n0 nf0 (by omega) (by omega) (by omega) (by omega) (by omega) (fun e => by have := l3 _ e; omega) (fun e => by have := l3 _ e; omega) (fun e => by have := l4 _ e; omega) (fun e => by have := l4 _ e; omega) (fun k e1 e2 => by have := l3 _ e1; have := l4 _ e2; omega)⟩
  case rest =>
    obtain ⟨X, Y, u1, u2, rfl, rfl, tw⟩ := hcut
    have hb1 := tw.k.size
    clear r1 r2
    go_wp2_with fail
    have mk := divide_impl _ tw.n1 tw.n2 hb1 hx hy (List.length_pos_iff.1 (show 0 < ys.length by omega)) (by omega) (by omega)
    rw [unhide EQ, unhide ER] at mk
    refine mk.mono ?_
    rintro e w6 ⟨vq, rfl, dd⟩
    obtain ⟨u7, nL, -, -⟩ := dd.r
    have oq := dd.q
    have k6 := tw.k.mod dd.md (fun i e => e.elim (fun h => by rw [h]; exact tw.b1) (fun h => (tw.n1.own.lt i h).1))
    clear mk dd tw
    replace qf0 := k6.loose0 (World.block_lt_of_cell? _ _ q0) qf0
    replace yf0 := k6.loose0 (World.block_lt_of_cell? _ _ y0) yf0
    replace p0 := k6.cell0 p0
    replace t0 := k6.cell0 t0
    replace q0 := k6.cell0 q0
    replace y0 := k6.cell0 y0
    replace K := hide ((unhide K).trans k6)
    have z5 := k6.size
    clear k6
    obtain ⟨a6, c6, hv⟩ := own_slice oq
    subst hv
    have nR := Num.new 76 oq
    clear oq
    have kn := (Kept.refl 0 0 w6).alloc (.cells #[.slice a6 zq.length c6] 76)
    have j0 : (w6.alloc (.cells #[.slice a6 zq.length c6] 76)).cell? ⟨w6.heap.size, 0, none⟩ = some (.slice a6 zq.length c6) := new_cell2 _ _ _ _ _ _ (by simp) rfl
    have sz6 : w6.heap.size + 1 = (w6.alloc (.cells #[.slice a6 zq.length c6] 76)).heap.size := by simp
    have SZ6 := hide sz6
    replace sz6 := Nat.le_of_eq sz6
    replace nL := nL.kept kn
    replace qf0 := kn.loose0 (World.block_lt_of_cell? _ _ q0) qf0
    replace yf0 := kn.loose0 (World.block_lt_of_cell? _ _ y0) yf0
    replace p0 := kn.cell0 p0
    replace t0 := kn.cell0 t0
    replace q0 := kn.cell0 q0
    replace y0 := kn.cell0 y0
    replace K := hide ((unhide K).trans kn)
    have z7 := kn.size
    clear kn
    clear j0
    go_wp2_with fail
    generalize (w6.alloc (.cells #[.slice a6 zq.length c6] 76)) = wn8 at *
    refine (told_impl _ nR).mono ?_
    rintro e w9 ⟨v3, rfl, r3, k9⟩
    replace nL := nL.kept k9
    replace nR := nR.kept k9
    replace qf0 := k9.loose0 (World.block_lt_of_cell? _ _ q0) qf0
    replace yf0 := k9.loose0 (World.block_lt_of_cell? _ _ y0) yf0
    replace p0 := k9.cell0 p0
    replace t0 := k9.cell0 t0
    replace q0 := k9.cell0 q0
    replace y0 := k9.cell0 y0
    replace K := hide ((unhide K).trans k9)
    have z10 := k9.size
    clear k9
    have tq : tell zq = zq := by unfold tell; rw [if_pos lq]
    rw [tq] at r3
    rw [decide_eq_true lq]
    clear tq
    obtain ⟨a3, c3, hv⟩ := Row.form' r3
    subst hv
    clear nR
    obtain ⟨mm, hmm⟩ : ∃ mm, mm = w9.heap.size := ⟨_, rfl⟩
    replace r3 := r3.wider (lo' := wn8.heap.size) (hi' := mm) (Nat.le_refl _) (by omega)
    have hmm' := Nat.le_of_eq hmm
    have hmm2 := Nat.le_of_eq hmm.symm
    clear hmm
    have kn := (Kept.refl 0 0 w9).alloc (.cells #[.slice a3 zq.length c3] 26)
    have m0 : (w9.alloc (.cells #[.slice a3 zq.length c3] 26)).cell? ⟨w9.heap.size, 0, none⟩ = some (.slice a3 zq.length c3) := new_cell2 _ _ _ _ _ _ (by simp) rfl
    have sz11 : w9.heap.size + 1 = (w9.alloc (.cells #[.slice a3 zq.length c3] 26)).heap.size := by simp
    have SZ11 := hide sz11
    replace sz11 := Nat.le_of_eq sz11
    replace r3 := r3.kept kn (by omega)
    replace nL := nL.kept kn
    replace qf0 := kn.loose0 (World.block_lt_of_cell? _ _ q0) qf0
    replace yf0 := kn.loose0 (World.block_lt_of_cell? _ _ y0) yf0
    replace p0 := kn.cell0 p0
    replace t0 := kn.cell0 t0
    replace q0 := kn.cell0 q0
    replace y0 := kn.cell0 y0
    replace K := hide ((unhide K).trans kn)
    have z12 := kn.size
    clear kn
    go_wp2_with fail
    generalize (w9.alloc (.cells #[.slice a3 zq.length c3] 26)) = wn13 at *
    refine (told_impl _ nL).mono ?_
    rintro e w14 ⟨v4, rfl, r4, k14⟩
    replace r3 := r3.kept k14 (by omega)
    replace nL := nL.kept k14
    replace qf0 := k14.loose0 (World.block_lt_of_cell? _ _ q0) qf0
    replace yf0 := k14.loose0 (World.block_lt_of_cell? _ _ y0) yf0
    replace p0 := k14.cell0 p0
    replace t0 := k14.cell0 t0
    replace q0 := k14.cell0 q0
    replace y0 := k14.cell0 y0
    replace m0 := k14.cell0 m0
    replace K := hide ((unhide K).trans k14)
    have z15 := k14.size
    clear k14
    have tq : tell zr = zr := by unfold tell; rw [if_pos lr]
    rw [tq] at r4
    rw [decide_eq_true lr]
    clear tq
    obtain ⟨a4, c4, hv⟩ := Row.form' r4
    subst hv
    clear nL
    have kn := (Kept.refl 0 0 w14).alloc (.cells #[.slice a4 zr.length c4] 26)
    have n0 : (w14.alloc (.cells #[.slice a4 zr.length c4] 26)).cell? ⟨w14.heap.size, 0, none⟩ = some (.slice a4 zr.length c4) := new_cell2 _ _ _ _ _ _ (by simp) rfl
    have sz16 : w14.heap.size + 1 = (w14.alloc (.cells #[.slice a4 zr.length c4] 26)).heap.size := by simp
    have SZ16 := hide sz16
    replace sz16 := Nat.le_of_eq sz16
    replace r3 := r3.kept kn (by omega)
    replace r4 := r4.kept kn (by omega)
    replace qf0 := kn.loose0 (World.block_lt_of_cell? _ _ q0) qf0
    replace yf0 := kn.loose0 (World.block_lt_of_cell? _ _ y0) yf0
    replace p0 := kn.cell0 p0
    replace t0 := kn.cell0 t0
    replace q0 := kn.cell0 q0
    replace y0 := kn.cell0 y0
    replace m0 := kn.cell0 m0
    replace K := hide ((unhide K).trans kn)
    have z17 := kn.size
    clear kn
    go_wp2_with fail
    generalize (w14.alloc (.cells #[.slice a4 zr.length c4] 26)) = wn18 at *
    have kd := (Kept.refl 0 0 wn18).drew
    replace r3 := r3.kept kd (by omega)
    replace r4 := r4.kept kd (by omega)
    replace qf0 := kd.loose0 (World.block_lt_of_cell? _ _ q0) qf0
    replace yf0 := kd.loose0 (World.block_lt_of_cell? _ _ y0) yf0
    replace p0 := kd.cell0 p0
    replace t0 := kd.cell0 t0
    replace q0 := kd.cell0 q0
    replace y0 := kd.cell0 y0
    replace m0 := kd.cell0 m0
    replace n0 := kd.cell0 n0
    replace K := hide ((unhide K).trans kd)
    have z19 := kd.size
    clear kd
    refine wp_region_held_drew (S := (fun w' => w'.cell? ⟨w9.heap.size, 0, none⟩ = some (.slice a3 zq.length c3) ∧ w'.cell? ⟨w14.heap.size, 0, none⟩ = some (.slice a4 zr.length c4))) (by kernel_rfl) ?_ (fun hHeld => ?_)
    · exact ⟨m0, n0⟩
    generalize wn18.drew = wn20 at *
    refine wpAnyH_take (i := 0) (oi := _) (v := .agg #[.slice a3 zq.length c3]) rfl (by kernel_rfl) (by kernel_rfl) (by kernel_rfl) (fun _ _ _ h => h) (Or.inl ⟨by rfl, ?_⟩) hHeld ?_
    · intro wq hSw
      try dsimp only at hSw
      go_simp
    try simp only [Act.put, List.getElem_toArray, List.getElem_cons_succ, List.getElem_cons_zero, List.setIfInBounds_toArray, List.set_cons_zero, List.set_cons_succ]
    refine wpAnyH_take (i := 1) (oi := _) (v := .agg #[.slice a4 zr.length c4]) rfl (by kernel_rfl) (by kernel_rfl) (by kernel_rfl) (fun _ _ _ h => h) (Or.inl ⟨by rfl, ?_⟩) hHeld ?_
    · intro wq hSw
      try dsimp only at hSw
      go_simp
    try simp only [Act.put, List.getElem_toArray, List.getElem_cons_succ, List.getElem_cons_zero, List.setIfInBounds_toArray, List.set_cons_zero, List.set_cons_succ]
    refine wpAnyH_take (i := 2) (oi := _) (v := .bool true) rfl (by kernel_rfl) (by kernel_rfl) (by kernel_rfl) (fun _ _ _ h => h) (Or.inl ⟨by rfl, ?_⟩) hHeld ?_
    · intro wq hSw
      try dsimp only at hSw
      go_simp
    try simp only [Act.put, List.getElem_toArray, List.getElem_cons_succ, List.getElem_cons_zero, List.setIfInBounds_toArray, List.set_cons_zero, List.set_cons_succ]
    refine wpAnyH_ready (rs := [3]) (by kernel_rfl) (by simp) ?_
    refine AllReadyH.cons rfl (fun KK hK => ?_) AllReadyH.nil
    simp only [List.getElem_toArray, List.getElem_cons_succ, List.getElem_cons_zero]
    rw [if_pos (by rfl)]
    go_simp
    clear hHeld
    refine hK.out _ _ ?_ (fun hHeld => ?_)
    · exact ⟨cell_aside _ (by have := unhide S0; dsimp only; omega) m0, cell_aside _ (by have := unhide S0; dsimp only; omega) n0⟩
    clear hK KK
    try simp only [Act.put, List.getElem_toArray, List.getElem_cons_succ, List.getElem_cons_zero, List.setIfInBounds_toArray, List.set_cons_zero, List.set_cons_succ]
    have sS0 := unhide S0
    replace r3 := r3.set_other (p := ⟨w.heap.size + 2, 0, none⟩) (by dsimp only; omega) (.slice a3 zq.length c3)
    replace r4 := r4.set_other (p := ⟨w.heap.size + 2, 0, none⟩) (by dsimp only; omega) (.slice a3 zq.length c3)
    replace p0 := cell_aside (.slice a3 zq.length c3) (r := ⟨w.heap.size + 2, 0, none⟩) (by dsimp only; omega) p0
    replace t0 := cell_aside (.slice a3 zq.length c3) (r := ⟨w.heap.size + 2, 0, none⟩) (by dsimp only; omega) t0
    replace y0 := cell_aside (.slice a3 zq.length c3) (r := ⟨w.heap.size + 2, 0, none⟩) (by dsimp only; omega) y0
    replace m0 := cell_aside (.slice a3 zq.length c3) (r := ⟨w.heap.size + 2, 0, none⟩) (by dsimp only; omega) m0
    replace n0 := cell_aside (.slice a3 zq.length c3) (r := ⟨w.heap.size + 2, 0, none⟩) (by dsimp only; omega) n0
    replace qf0 : (wn20.setCell ⟨w.heap.size + 2, 0, none⟩ (.slice a3 zq.length c3)).frozen? _ = false := (frozen_set _ _ _ _ _).trans qf0
    replace yf0 : (wn20.setCell ⟨w.heap.size + 2, 0, none⟩ (.slice a3 zq.length c3)).frozen? _ = false := (frozen_set _ _ _ _ _).trans yf0
    replace q0 : (wn20.setCell ⟨w.heap.size + 2, 0, none⟩ (.slice a3 zq.length c3)).cell? ⟨w.heap.size + 2, 0, none⟩ = some (.slice a3 zq.length c3) := cell_on _ _ _ _ _ q0
    replace K := hide ((unhide K).setNew (p := ⟨w.heap.size + 2, 0, none⟩) (by dsimp only; omega) (.slice a3 zq.length c3))
    have zs21 : (wn20.setCell ⟨w.heap.size + 2, 0, none⟩ (.slice a3 zq.length c3)).heap.size = wn20.heap.size := by simp [World.setCell]
    clear sS0
    generalize wn20.setCell ⟨w.heap.size + 2, 0, none⟩ (.slice a3 zq.length c3) = ws21 at *
    refine wpAnyH_ready (rs := [4]) (by kernel_rfl) (by simp) ?_
    refine AllReadyH.cons rfl (fun KK hK => ?_) AllReadyH.nil
    simp only [List.getElem_toArray, List.getElem_cons_succ, List.getElem_cons_zero]
    rw [if_pos (by rfl)]
    go_simp
    clear hHeld
    refine hK.out _ _ ?_ (fun hHeld => ?_)
    · exact ⟨cell_aside _ (by have := unhide S0; dsimp only; omega) m0, cell_aside _ (by have := unhide S0; dsimp only; omega) n0⟩
    clear hK KK
    try simp only [Act.put, List.getElem_toArray, List.getElem_cons_succ, List.getElem_cons_zero, List.setIfInBounds_toArray, List.set_cons_zero, List.set_cons_succ]
    have sS0 := unhide S0
    replace r3 := r3.set_other (p := ⟨w.heap.size + 3, 0, none⟩) (by dsimp only; omega) (.slice a4 zr.length c4)
    replace r4 := r4.set_other (p := ⟨w.heap.size + 3, 0, none⟩) (by dsimp only; omega) (.slice a4 zr.length c4)
    replace p0 := cell_aside (.slice a4 zr.length c4) (r := ⟨w.heap.size + 3, 0, none⟩) (by dsimp only; omega) p0
    replace t0 := cell_aside (.slice a4 zr.length c4) (r := ⟨w.heap.size + 3, 0, none⟩) (by dsimp only; omega) t0
    replace q0 := cell_aside (.slice a4 zr.length c4) (r := ⟨w.heap.size + 3, 0, none⟩) (by dsimp only; omega) q0
    replace m0 := cell_aside (.slice a4 zr.length c4) (r := ⟨w.heap.size + 3, 0, none⟩) (by dsimp only; omega) m0
    replace n0 := cell_aside (.slice a4 zr.length c4) (r := ⟨w.heap.size + 3, 0, none⟩) (by dsimp only; omega) n0
    replace qf0 : (ws21.setCell ⟨w.heap.size + 3, 0, none⟩ (.slice a4 zr.length c4)).frozen? _ = false := (frozen_set _ _ _ _ _).trans qf0
    replace yf0 : (ws21.setCell ⟨w.heap.size + 3, 0, none⟩ (.slice a4 zr.length c4)).frozen? _ = false := (frozen_set _ _ _ _ _).trans yf0
    replace y0 : (ws21.setCell ⟨w.heap.size + 3, 0, none⟩ (.slice a4 zr.length c4)).cell? ⟨w.heap.size + 3, 0, none⟩ = some (.slice a4 zr.length c4) := cell_on _ _ _ _ _ y0
    replace K := hide ((unhide K).setNew (p := ⟨w.heap.size + 3, 0, none⟩) (by dsimp only; omega) (.slice a4 zr.length c4))
    have zs22 : (ws21.setCell ⟨w.heap.size + 3, 0, none⟩ (.slice a4 zr.length c4)).heap.size = ws21.heap.size := by simp [World.setCell]
    clear sS0
    generalize ws21.setCell ⟨w.heap.size + 3, 0, none⟩ (.slice a4 zr.length c4) = ws22 at *
    refine wpAnyH_take (i := 5) (oi := _) (v := .bool true) rfl (by kernel_rfl) (by kernel_rfl) (by kernel_rfl) (fun _ _ _ h => h) (Or.inl ⟨by rfl, ?_⟩) hHeld ?_
    · intro wq hSw
      try dsimp only at hSw
      go_simp
    try simp only [Act.put, List.getElem_toArray, List.getElem_cons_succ, List.getElem_cons_zero, List.setIfInBounds_toArray, List.set_cons_zero, List.set_cons_succ]
    refine wpAnyH_done (by kernel_rfl) ?_ _
    clear hHeld
    have R1 := hide (r3.wider (lo' := w.heap.size) (hi' := mm) (by have := unhide S0; omega) (Nat.le_refl _))
    have R2 := hide (r4.tight.wider (lo' := mm) (by omega) (Nat.le_refl _))
    have hm1 : w.heap.size ≤ mm := by have := unhide S0; omega
    have hm2 : mm ≤ ws22.heap.size := by omega
    clear r3 r4
    go_wp2_with fail
    exact bodyPost_ret (v := .tuple #[.agg #[.slice a3 zq.length c3], .agg #[.slice a4 zr.length c4], .bool true]) (by simp [results, Try.results34, go_sem, q0, y0]) rfl ⟨_, _, mm, by rw [unhide EB], by rw [unhide HZQ]; exact unhide R1, by rw [unhide HZR]; exact unhide R2, hm1, hm2, unhide K⟩

end Go.Proofs.Ytdhponfpikclhaa

namespace Go.Proofs.Ytdhponfpikclhaa
open Go.RowKit
set_option linter.unusedVariables false
set_option maxRecDepth 8000
set_option linter.unusedSimpArgs false

theorem gcds_six : gcdL (limbs (6 : Int).toNat) (limbs (4 : Int).toNat) = limbs (2 : Int).toNat := by
  rw [gcdL_yes (by decide) (by decide), limbs_val, limbs_val]
  rfl
theorem gcds_nought : gcdL (limbs (0 : Int).toNat) (limbs (4 : Int).toNat) = limbs (4 : Int).toNat := by
  rw [gcdL_yes (by decide) (by decide), limbs_val, limbs_val]
  rfl
theorem gcds_none {xs ys : List Int} (h1 : okB xs = true) (h2 : okB ys = true) (hg : (gcdL xs ys).length = 0) : xs.length = 0 ∧ ys.length = 0 := by
  obtain ⟨l1, n1⟩ := (okB_iff xs).1 h1
  obtain ⟨l2, n2⟩ := (okB_iff ys).1 h2
  have hx := val_nonneg n1.1
  have hy := val_nonneg n2.1
  rw [gcdL_yes h1 h2] at hg
  have h0 := limbs_eq_nil.1 (List.length_eq_zero_iff.1 hg)
  have e1 := Nat.eq_zero_of_gcd_eq_zero_left h0
  have e2 := Nat.eq_zero_of_gcd_eq_zero_right h0
  exact ⟨by rw [nrm_nil n1 (by omega)]; rfl, by rw [nrm_nil n2 (by omega)]; rfl⟩
theorem gcds_ok {xs ys : List Int} (h1 : okB xs = true) (h2 : okB ys = true) (hg : ¬ (gcdL xs ys).length = 0) :
    divR xs (gcdL xs ys) = [] ∧ divR ys (gcdL xs ys) = [] ∧ gcdL (divQ xs (gcdL xs ys)) (divQ ys (gcdL xs ys)) = limbs (1 : Int).toNat ∧ gcdL ys xs = gcdL xs ys := by
  obtain ⟨l1, n1⟩ := (okB_iff xs).1 h1
  obtain ⟨l2, n2⟩ := (okB_iff ys).1 h2
  have hx := val_nonneg n1.1
  have hy := val_nonneg n2.1
  obtain ⟨X, hX⟩ : ∃ X : Nat, val xs = X := ⟨(val xs).toNat, by omega⟩
  obtain ⟨Y, hY⟩ : ∃ Y : Nat, val ys = Y := ⟨(val ys).toNat, by omega⟩
  have hl := gcdL_len xs ys
  have eg : gcdL xs ys = limbs (Nat.gcd X Y) := by rw [gcdL_yes h1 h2, hX, hY, Int.toNat_natCast, Int.toNat_natCast]
  have eg' : gcdL ys xs = limbs (Nat.gcd X Y) := by rw [gcdL_yes h2 h1, hX, hY, Int.toNat_natCast, Int.toNat_natCast, Nat.gcd_comm]
  have q1 := divQ_len xs (gcdL xs ys)
  have q2 := divQ_len ys (gcdL xs ys)
  rw [eg] at hl hg q1 q2
  rw [eg', eg]
  clear eg eg'
  have og : okB (limbs (Nat.gcd X Y)) = true := (okB_iff _).2 ⟨hl, limbs_nrm _⟩
  have hp : 0 < Nat.gcd X Y := by
    rcases Nat.eq_zero_or_pos (Nat.gcd X Y) with h | h
    · rw [h] at hg; exact absurd rfl hg
    · exact h
  have d1 : divB xs (limbs (Nat.gcd X Y)) = true := by unfold divB; rw [h1, og, decide_eq_true (show 0 < (limbs (Nat.gcd X Y)).length by omega)]; rfl
  have d2 : divB ys (limbs (Nat.gcd X Y)) = true := by unfold divB; rw [h2, og, decide_eq_true (show 0 < (limbs (Nat.gcd X Y)).length by omega)]; rfl
  have m1 := Nat.mod_eq_zero_of_dvd (Nat.gcd_dvd_left X Y)
  have m2 := Nat.mod_eq_zero_of_dvd (Nat.gcd_dvd_right X Y)
  have e1 : divQ xs (limbs (Nat.gcd X Y)) = limbs (X / Nat.gcd X Y) := by rw [divQ_yes d1, hX, limbs_val, ← Int.natCast_ediv, Int.toNat_natCast]
  have e2 : divQ ys (limbs (Nat.gcd X Y)) = limbs (Y / Nat.gcd X Y) := by rw [divQ_yes d2, hY, limbs_val, ← Int.natCast_ediv, Int.toNat_natCast]
  rw [e1] at q1
  rw [e2] at q2
  have hc : Nat.gcd (X / Nat.gcd X Y) (Y / Nat.gcd X Y) = 1 := Nat.coprime_div_gcd_div_gcd hp
  refine ⟨?_, ?_, ?_, rfl⟩
  · rw [divR_yes d1, hX, limbs_val, ← Int.natCast_emod, Int.toNat_natCast, m1]; rfl
  · rw [divR_yes d2, hY, limbs_val, ← Int.natCast_emod, Int.toNat_natCast, m2]; rfl
  · rw [e1, e2, gcdL_yes ((okB_iff _).2 ⟨q1, limbs_nrm _⟩) ((okB_iff _).2 ⟨q2, limbs_nrm _⟩), limbs_val, limbs_val, Int.toNat_natCast, Int.toNat_natCast, hc]
    rfl

theorem in_gcd : ∀ (w : World) (args : Array Value), (callFunc 40 args).run Try.prog w = .ok (.enter 40 args) w := enters Try.func40 (by decide) (fun h => by cases h)

theorem in_nat : ∀ (w : World) (args : Array Value), (callFunc 38 args).run Try.prog w = .ok (.enter 38 args) w := enters Try.func38 (by decide) (fun h => by cases h)

theorem in_same : ∀ (w : World) (args : Array Value), (callFunc 29 args).run Try.prog w = .ok (.enter 29 args) w := enters Try.func29 (by decide) (fun h => by cases h)

set_option maxHeartbeats 8000000 in
theorem law_NatGcds {v : Value} {zs : List Int} {w : World} (r : Row .u8 false 0 w.heap.size w v zs) (hb0 : ∀ z ∈ zs, (Lit.int .u8 z).wf = true) :
    Calls Try.prog 6 #[v] w fun e w' => e = .returned (.bool true) ∧ Below w.heap.size w w' := by
  have hb := bytes_of_wf hb0
  clear hb0
  have hB := hide hb
  clear hb
  have s0 : w.heap.size = w.heap.size := rfl
  obtain ⟨a0, c0, hv⟩ := Row.form' r
  subst hv
  have K := hide (Kept.refl 0 0 w)
  have S0 := hide s0
  clear s0
  go_enter Try.func6, Try.ntmps6
  go_wp2_with fail
  refine (drawGcd_any _ r (unhide hB)).mono ?_
  rintro e w1 ⟨v1, v2, rfl, ⟨xs, r1⟩, ⟨ys, r2⟩, k1⟩
  replace r := r.kept k1 (by omega)
  replace K := hide ((unhide K).trans k1)
  have z2 := k1.size
  clear k1
  clear r
  obtain ⟨a1, c1, hv⟩ := Row.form' r1
  subst hv
  obtain ⟨a2, c2, hv⟩ := Row.form' r2
  subst hv
  have kn := (Kept.refl 0 0 w1).alloc (.cells #[.slice a1 xs.length c1] 26)
  have ca0 : (w1.alloc (.cells #[.slice a1 xs.length c1] 26)).cell? ⟨w1.heap.size, 0, none⟩ = some (.slice a1 xs.length c1) := new_cell2 _ _ _ _ _ _ (by simp) rfl
  have sz3 : w1.heap.size + 1 = (w1.alloc (.cells #[.slice a1 xs.length c1] 26)).heap.size := by simp
  have SZ3 := hide sz3
  replace sz3 := Nat.le_of_eq sz3
  replace r1 := r1.kept kn (by omega)
  replace r2 := r2.kept kn (by omega)
  replace K := hide ((unhide K).trans kn)
  have z4 := kn.size
  clear kn
  have kn := (Kept.refl 0 0 (w1.alloc (.cells #[.slice a1 xs.length c1] 26))).alloc (.cells #[.slice a2 ys.length c2] 26)
  have cb0 : ((w1.alloc (.cells #[.slice a1 xs.length c1] 26)).alloc (.cells #[.slice a2 ys.length c2] 26)).cell? ⟨w1.heap.size + 1, 0, none⟩ = some (.slice a2 ys.length c2) := new_cell2 _ _ _ _ _ _ (by simp) rfl
  have sz5 : (w1.alloc (.cells #[.slice a1 xs.length c1] 26)).heap.size + 1 = ((w1.alloc (.cells #[.slice a1 xs.length c1] 26)).alloc (.cells #[.slice a2 ys.length c2] 26)).heap.size := by simp
  have SZ5 := hide sz5
  replace sz5 := Nat.le_of_eq sz5
  replace r1 := r1.kept kn (by omega)
  replace r2 := r2.kept kn (by omega)
  replace ca0 := kn.cell0 ca0
  replace K := hide ((unhide K).trans kn)
  have z6 := kn.size
  clear kn
  go_wp2_with fail
  generalize ((w1.alloc (.cells #[.slice a1 xs.length c1] 26)).alloc (.cells #[.slice a2 ys.length c2] 26)) = wn7 at *
  have mk := natGcd_impl wn7 r1 r2
  have hok := @gcds_ok xs ys
  have hno := @gcds_none xs ys
  have e0 := @gcdL_no xs ys
  obtain ⟨zg, hzg⟩ : ∃ z, gcdL xs ys = z := ⟨_, rfl⟩
  rw [hzg] at mk hok hno e0
  clear hzg
  have HOK := hide hok
  have HNO := hide hno
  have E0 := hide e0
  clear hok hno e0
  refine (mk).mono ?_
  rintro e w8 ⟨v3, rfl, r3, k8⟩
  replace r1 := r1.kept k8 (by omega)
  replace r2 := r2.kept k8 (by omega)
  replace ca0 := k8.cell0 ca0
  replace cb0 := k8.cell0 cb0
  replace K := hide ((unhide K).trans k8)
  have z9 := k8.size
  clear k8
  clear mk
  obtain ⟨a3, c3, hv⟩ := Row.form' r3
  subst hv
  have kn := (Kept.refl 0 0 w8).alloc (.cells #[.slice a3 zg.length c3] 26)
  have cc0 : (w8.alloc (.cells #[.slice a3 zg.length c3] 26)).cell? ⟨w8.heap.size, 0, none⟩ = some (.slice a3 zg.length c3) := new_cell2 _ _ _ _ _ _ (by simp) rfl
  have sz10 : w8.heap.size + 1 = (w8.alloc (.cells #[.slice a3 zg.length c3] 26)).heap.size := by simp
  have SZ10 := hide sz10
  replace sz10 := Nat.le_of_eq sz10
  replace r1 := r1.kept kn (by omega)
  replace r2 := r2.kept kn (by omega)
  replace r3 := r3.kept kn (by omega)
  replace ca0 := kn.cell0 ca0
  replace cb0 := kn.cell0 cb0
  replace K := hide ((unhide K).trans kn)
  have z11 := kn.size
  clear kn
  go_wp2_with fail
  generalize (w8.alloc (.cells #[.slice a3 zg.length c3] 26)) = wn12 at *
  refine (ok_spec _ r1).mono ?_
  rintro e w13 ⟨rfl, k13⟩
  replace r1 := r1.kept k13 (by omega)
  replace r2 := r2.kept k13 (by omega)
  replace r3 := r3.kept k13 (by omega)
  replace ca0 := k13.cell0 ca0
  replace cb0 := k13.cell0 cb0
  replace cc0 := k13.cell0 cc0
  replace K := hide ((unhide K).trans k13)
  have z14 := k13.size
  clear k13
  cases ho1 : okB xs
  · have HO : Hid ((okB xs && okB ys) = false) := by show _ = _; rw [ho1]; rfl
    clear ho1
    clear r1 r2 r3
    have ez : zg = [] := unhide E0 (unhide HO)
    have hl : ((zg.length : Int) == 0) = true := by rw [ez]; rfl
    clear ez
    go_wp2_with fail
    have e9 := gcds_six
    obtain ⟨N6, hN6⟩ : ∃ l, limbs (6 : Int).toNat = l := ⟨_, rfl⟩
    rw [hN6] at e9
    have HN6 := hide hN6
    clear hN6
    obtain ⟨N4, hN4⟩ : ∃ l, limbs (4 : Int).toNat = l := ⟨_, rfl⟩
    rw [hN4] at e9
    have HN4 := hide hN4
    clear hN4
    obtain ⟨N2, hN2⟩ : ∃ l, limbs (2 : Int).toNat = l := ⟨_, rfl⟩
    rw [hN2] at e9
    have HN2 := hide hN2
    clear hN2
    have E9 := hide e9
    clear e9
    have mk := nat_any w13 6 (by decide)
    rw [unhide HN6] at mk
    refine (mk).mono ?_
    rintro e w15 ⟨v6, rfl, r6, k15⟩
    replace ca0 := k15.cell0 ca0
    replace cb0 := k15.cell0 cb0
    replace cc0 := k15.cell0 cc0
    replace K := hide ((unhide K).trans k15)
    have z16 := k15.size
    clear k15
    clear mk
    go_wp2_with fail
    have mk := nat_any w15 4 (by decide)
    rw [unhide HN4] at mk
    refine (mk).mono ?_
    rintro e w17 ⟨v7, rfl, r7, k17⟩
    replace r6 := r6.kept k17 (by omega)
    replace ca0 := k17.cell0 ca0
    replace cb0 := k17.cell0 cb0
    replace cc0 := k17.cell0 cc0
    replace K := hide ((unhide K).trans k17)
    have z18 := k17.size
    clear k17
    clear mk
    go_wp2_with fail
    have mk := natGcd_impl w17 r6 r7
    rw [unhide E9] at mk
    refine (mk).mono ?_
    rintro e w19 ⟨v8, rfl, r8, k19⟩
    replace r6 := r6.kept k19 (by omega)
    replace r7 := r7.kept k19 (by omega)
    replace ca0 := k19.cell0 ca0
    replace cb0 := k19.cell0 cb0
    replace cc0 := k19.cell0 cc0
    replace K := hide ((unhide K).trans k19)
    have z20 := k19.size
    clear k19
    clear mk
    go_wp2_with fail
    have mk := nat_any w19 2 (by decide)
    rw [unhide HN2] at mk
    refine (mk).mono ?_
    rintro e w21 ⟨v9, rfl, r9, k21⟩
    replace r6 := r6.kept k21 (by omega)
    replace r7 := r7.kept k21 (by omega)
    replace r8 := r8.kept k21 (by omega)
    replace ca0 := k21.cell0 ca0
    replace cb0 := k21.cell0 cb0
    replace cc0 := k21.cell0 cc0
    replace K := hide ((unhide K).trans k21)
    have z22 := k21.size
    clear k21
    clear mk
    go_wp2_with fail
    have mk := sameNat_any w21 r8 r9
    rw [show sameL N2 N2 = true from decide_eq_true rfl] at mk
    refine (mk).mono ?_
    rintro e w23 ⟨rfl, k23⟩
    replace r6 := r6.kept k23 (by omega)
    replace r7 := r7.kept k23 (by omega)
    replace r8 := r8.kept k23 (by omega)
    replace r9 := r9.kept k23 (by omega)
    replace ca0 := k23.cell0 ca0
    replace cb0 := k23.cell0 cb0
    replace cc0 := k23.cell0 cc0
    replace K := hide ((unhide K).trans k23)
    have z24 := k23.size
    clear k23
    clear mk
    go_wp2_with fail
    go_ret
    exact ⟨rfl, (unhide K).toBelow⟩
  have HO1 := hide ho1
  clear ho1
  go_wp2_with fail
  refine (ok_spec _ r2).mono ?_
  rintro e w15 ⟨rfl, k15⟩
  replace r1 := r1.kept k15 (by omega)
  replace r2 := r2.kept k15 (by omega)
  replace r3 := r3.kept k15 (by omega)
  replace ca0 := k15.cell0 ca0
  replace cb0 := k15.cell0 cb0
  replace cc0 := k15.cell0 cc0
  replace K := hide ((unhide K).trans k15)
  have z16 := k15.size
  clear k15
  cases ho2 : okB ys
  · have HO : Hid ((okB xs && okB ys) = false) := by show _ = _; rw [unhide HO1, ho2]; rfl
    clear ho2
    clear r1 r2 r3
    have ez : zg = [] := unhide E0 (unhide HO)
    have hl : ((zg.length : Int) == 0) = true := by rw [ez]; rfl
    clear ez
    go_wp2_with fail
    have e9 := gcds_six
    obtain ⟨N6, hN6⟩ : ∃ l, limbs (6 : Int).toNat = l := ⟨_, rfl⟩
    rw [hN6] at e9
    have HN6 := hide hN6
    clear hN6
    obtain ⟨N4, hN4⟩ : ∃ l, limbs (4 : Int).toNat = l := ⟨_, rfl⟩
    rw [hN4] at e9
    have HN4 := hide hN4
    clear hN4
    obtain ⟨N2, hN2⟩ : ∃ l, limbs (2 : Int).toNat = l := ⟨_, rfl⟩
    rw [hN2] at e9
    have HN2 := hide hN2
    clear hN2
    have E9 := hide e9
    clear e9
    have mk := nat_any w15 6 (by decide)
    rw [unhide HN6] at mk
    refine (mk).mono ?_
    rintro e w17 ⟨v6, rfl, r6, k17⟩
    replace ca0 := k17.cell0 ca0
    replace cb0 := k17.cell0 cb0
    replace cc0 := k17.cell0 cc0
    replace K := hide ((unhide K).trans k17)
    have z18 := k17.size
    clear k17
    clear mk
    go_wp2_with fail
    have mk := nat_any w17 4 (by decide)
    rw [unhide HN4] at mk
    refine (mk).mono ?_
    rintro e w19 ⟨v7, rfl, r7, k19⟩
    replace r6 := r6.kept k19 (by omega)
    replace ca0 := k19.cell0 ca0
    replace cb0 := k19.cell0 cb0
    replace cc0 := k19.cell0 cc0
    replace K := hide ((unhide K).trans k19)
    have z20 := k19.size
    clear k19
    clear mk
    go_wp2_with fail
    have mk := natGcd_impl w19 r6 r7
    rw [unhide E9] at mk
    refine (mk).mono ?_
    rintro e w21 ⟨v8, rfl, r8, k21⟩
    replace r6 := r6.kept k21 (by omega)
    replace r7 := r7.kept k21 (by omega)
    replace ca0 := k21.cell0 ca0
    replace cb0 := k21.cell0 cb0
    replace cc0 := k21.cell0 cc0
    replace K := hide ((unhide K).trans k21)
    have z22 := k21.size
    clear k21
    clear mk
    go_wp2_with fail
    have mk := nat_any w21 2 (by decide)
    rw [unhide HN2] at mk
    refine (mk).mono ?_
    rintro e w23 ⟨v9, rfl, r9, k23⟩
    replace r6 := r6.kept k23 (by omega)
    replace r7 := r7.kept k23 (by omega)
    replace r8 := r8.kept k23 (by omega)
    replace ca0 := k23.cell0 ca0
    replace cb0 := k23.cell0 cb0
    replace cc0 := k23.cell0 cc0
    replace K := hide ((unhide K).trans k23)
    have z24 := k23.size
    clear k23
    clear mk
    go_wp2_with fail
    have mk := sameNat_any w23 r8 r9
    rw [show sameL N2 N2 = true from decide_eq_true rfl] at mk
    refine (mk).mono ?_
    rintro e w25 ⟨rfl, k25⟩
    replace r6 := r6.kept k25 (by omega)
    replace r7 := r7.kept k25 (by omega)
    replace r8 := r8.kept k25 (by omega)
    replace r9 := r9.kept k25 (by omega)
    replace ca0 := k25.cell0 ca0
    replace cb0 := k25.cell0 cb0
    replace cc0 := k25.cell0 cc0
    replace K := hide ((unhide K).trans k25)
    have z26 := k25.size
    clear k25
    clear mk
    go_wp2_with fail
    go_ret
    exact ⟨rfl, (unhide K).toBelow⟩
  have HO2 := hide ho2
  clear ho2
  by_cases hz : zg.length = 0
  · obtain ⟨n1, n2⟩ := unhide HNO (unhide HO1) (unhide HO2) hz
    have hl : ((zg.length : Int) == 0) = true := by rw [hz]; rfl
    have hl1 : ((xs.length : Int) == 0) = true := by rw [n1]; rfl
    have hl2 : ((ys.length : Int) == 0) = true := by rw [n2]; rfl
    clear n1 n2 hz
    clear r1 r2 r3
    go_wp2_with fail
    have e9 := gcds_nought
    obtain ⟨N0, hN0⟩ : ∃ l, limbs (0 : Int).toNat = l := ⟨_, rfl⟩
    rw [hN0] at e9
    have HN0 := hide hN0
    clear hN0
    obtain ⟨N4, hN4⟩ : ∃ l, limbs (4 : Int).toNat = l := ⟨_, rfl⟩
    rw [hN4] at e9
    have HN4 := hide hN4
    clear hN4
    have E9 := hide e9
    clear e9
    have mk := nat_any w15 0 (by decide)
    rw [unhide HN0] at mk
    refine (mk).mono ?_
    rintro e w17 ⟨v6, rfl, r6, k17⟩
    replace ca0 := k17.cell0 ca0
    replace cb0 := k17.cell0 cb0
    replace cc0 := k17.cell0 cc0
    replace K := hide ((unhide K).trans k17)
    have z18 := k17.size
    clear k17
    clear mk
    go_wp2_with fail
    have mk := nat_any w17 4 (by decide)
    rw [unhide HN4] at mk
    refine (mk).mono ?_
    rintro e w19 ⟨v7, rfl, r7, k19⟩
    replace r6 := r6.kept k19 (by omega)
    replace ca0 := k19.cell0 ca0
    replace cb0 := k19.cell0 cb0
    replace cc0 := k19.cell0 cc0
    replace K := hide ((unhide K).trans k19)
    have z20 := k19.size
    clear k19
    clear mk
    go_wp2_with fail
    have mk := natGcd_impl w19 r6 r7
    rw [unhide E9] at mk
    refine (mk).mono ?_
    rintro e w21 ⟨v8, rfl, r8, k21⟩
    replace r6 := r6.kept k21 (by omega)
    replace r7 := r7.kept k21 (by omega)
    replace ca0 := k21.cell0 ca0
    replace cb0 := k21.cell0 cb0
    replace cc0 := k21.cell0 cc0
    replace K := hide ((unhide K).trans k21)
    have z22 := k21.size
    clear k21
    clear mk
    go_wp2_with fail
    have mk := nat_any w21 4 (by decide)
    rw [unhide HN4] at mk
    refine (mk).mono ?_
    rintro e w23 ⟨v9, rfl, r9, k23⟩
    replace r6 := r6.kept k23 (by omega)
    replace r7 := r7.kept k23 (by omega)
    replace r8 := r8.kept k23 (by omega)
    replace ca0 := k23.cell0 ca0
    replace cb0 := k23.cell0 cb0
    replace cc0 := k23.cell0 cc0
    replace K := hide ((unhide K).trans k23)
    have z24 := k23.size
    clear k23
    clear mk
    go_wp2_with fail
    have mk := sameNat_any w23 r8 r9
    rw [show sameL N4 N4 = true from decide_eq_true rfl] at mk
    refine (mk).mono ?_
    rintro e w25 ⟨rfl, k25⟩
    replace r6 := r6.kept k25 (by omega)
    replace r7 := r7.kept k25 (by omega)
    replace r8 := r8.kept k25 (by omega)
    replace r9 := r9.kept k25 (by omega)
    replace ca0 := k25.cell0 ca0
    replace cb0 := k25.cell0 cb0
    replace cc0 := k25.cell0 cc0
    replace K := hide ((unhide K).trans k25)
    have z26 := k25.size
    clear k25
    clear mk
    go_wp2_with fail
    go_ret
    exact ⟨rfl, (unhide K).toBelow⟩
  obtain ⟨h1, h2, h3, h4⟩ := unhide HOK (unhide HO1) (unhide HO2) hz
  have hl : ((zg.length : Int) == 0) = false := beq_eq_false_iff_ne.2 (by omega)
  clear hz HOK HNO E0
  obtain ⟨N1, hN1⟩ : ∃ l, limbs (1 : Int).toNat = l := ⟨_, rfl⟩
  rw [hN1] at h3
  obtain ⟨q1, hq1⟩ : ∃ l, divQ xs zg = l := ⟨_, rfl⟩
  obtain ⟨q2, hq2⟩ : ∃ l, divQ ys zg = l := ⟨_, rfl⟩
  rw [hq1, hq2] at h3
  have H1 := hide h1
  have H2 := hide h2
  have H3 := hide h3
  have H4 := hide h4
  have Q1 := hide hq1
  have Q2 := hide hq2
  have HN1 := hide hN1
  clear h1 h2 h3 h4 hq1 hq2 hN1
  go_wp2_with fail
  have mk := natDiv_impl w15 r1 r3
  rw [unhide Q1, unhide H1] at mk
  refine (mk).mono ?_
  rintro e w17 ⟨v4, v5, m4, rfl, r4, r5, -, -, k17⟩
  replace r1 := r1.kept k17 (by omega)
  replace r2 := r2.kept k17 (by omega)
  replace r3 := r3.kept k17 (by omega)
  replace ca0 := k17.cell0 ca0
  replace cb0 := k17.cell0 cb0
  replace cc0 := k17.cell0 cc0
  replace K := hide ((unhide K).trans k17)
  have z18 := k17.size
  clear k17
  clear mk
  obtain ⟨a4, c4, hv⟩ := Row.form' r4
  subst hv
  obtain ⟨a5, c5, hv⟩ := Row.form' r5
  subst hv
  generalize divB xs zg = B4 at *
  have kn := (Kept.refl 0 0 w17).alloc (.cells #[.slice a4 q1.length c4] 26)
  have cd0 : (w17.alloc (.cells #[.slice a4 q1.length c4] 26)).cell? ⟨w17.heap.size, 0, none⟩ = some (.slice a4 q1.length c4) := new_cell2 _ _ _ _ _ _ (by simp) rfl
  have sz19 : w17.heap.size + 1 = (w17.alloc (.cells #[.slice a4 q1.length c4] 26)).heap.size := by simp
  have SZ19 := hide sz19
  replace sz19 := Nat.le_of_eq sz19
  replace r1 := r1.kept kn (by omega)
  replace r2 := r2.kept kn (by omega)
  replace r3 := r3.kept kn (by omega)
  replace r4 := r4.kept kn (by omega)
  replace r5 := r5.kept kn (by omega)
  replace ca0 := kn.cell0 ca0
  replace cb0 := kn.cell0 cb0
  replace cc0 := kn.cell0 cc0
  replace K := hide ((unhide K).trans kn)
  have z20 := kn.size
  clear kn
  have kn := (Kept.refl 0 0 (w17.alloc (.cells #[.slice a4 q1.length c4] 26))).alloc (.cells #[.slice a5 0 c5] 26)
  have ce0 : ((w17.alloc (.cells #[.slice a4 q1.length c4] 26)).alloc (.cells #[.slice a5 0 c5] 26)).cell? ⟨w17.heap.size + 1, 0, none⟩ = some (.slice a5 0 c5) := new_cell2 _ _ _ _ _ _ (by simp) rfl
  have sz21 : (w17.alloc (.cells #[.slice a4 q1.length c4] 26)).heap.size + 1 = ((w17.alloc (.cells #[.slice a4 q1.length c4] 26)).alloc (.cells #[.slice a5 0 c5] 26)).heap.size := by simp
  have SZ21 := hide sz21
  replace sz21 := Nat.le_of_eq sz21
  replace r1 := r1.kept kn (by omega)
  replace r2 := r2.kept kn (by omega)
  replace r3 := r3.kept kn (by omega)
  replace r4 := r4.kept kn (by omega)
  replace r5 := r5.kept kn (by omega)
  replace ca0 := kn.cell0 ca0
  replace cb0 := kn.cell0 cb0
  replace cc0 := kn.cell0 cc0
  replace cd0 := kn.cell0 cd0
  replace K := hide ((unhide K).trans kn)
  have z22 := kn.size
  clear kn
  go_wp2_with fail
  generalize ((w17.alloc (.cells #[.slice a4 q1.length c4] 26)).alloc (.cells #[.slice a5 0 c5] 26)) = wn23 at *
  have mk := natDiv_impl wn23 r2 r3
  rw [unhide Q2, unhide H2] at mk
  refine (mk).mono ?_
  rintro e w24 ⟨v6, v7, m6, rfl, r6, r7, -, -, k24⟩
  replace r1 := r1.kept k24 (by omega)
  replace r2 := r2.kept k24 (by omega)
  replace r3 := r3.kept k24 (by omega)
  replace r4 := r4.kept k24 (by omega)
  replace r5 := r5.kept k24 (by omega)
  replace ca0 := k24.cell0 ca0
  replace cb0 := k24.cell0 cb0
  replace cc0 := k24.cell0 cc0
  replace cd0 := k24.cell0 cd0
  replace ce0 := k24.cell0 ce0
  replace K := hide ((unhide K).trans k24)
  have z25 := k24.size
  clear k24
  clear mk
  obtain ⟨a6, c6, hv⟩ := Row.form' r6
  subst hv
  obtain ⟨a7, c7, hv⟩ := Row.form' r7
  subst hv
  generalize divB ys zg = B6 at *
  have kn := (Kept.refl 0 0 w24).alloc (.cells #[.slice a6 q2.length c6] 26)
  have cf0 : (w24.alloc (.cells #[.slice a6 q2.length c6] 26)).cell? ⟨w24.heap.size, 0, none⟩ = some (.slice a6 q2.length c6) := new_cell2 _ _ _ _ _ _ (by simp) rfl
  have sz26 : w24.heap.size + 1 = (w24.alloc (.cells #[.slice a6 q2.length c6] 26)).heap.size := by simp
  have SZ26 := hide sz26
  replace sz26 := Nat.le_of_eq sz26
  replace r1 := r1.kept kn (by omega)
  replace r2 := r2.kept kn (by omega)
  replace r3 := r3.kept kn (by omega)
  replace r4 := r4.kept kn (by omega)
  replace r5 := r5.kept kn (by omega)
  replace r6 := r6.kept kn (by omega)
  replace r7 := r7.kept kn (by omega)
  replace ca0 := kn.cell0 ca0
  replace cb0 := kn.cell0 cb0
  replace cc0 := kn.cell0 cc0
  replace cd0 := kn.cell0 cd0
  replace ce0 := kn.cell0 ce0
  replace K := hide ((unhide K).trans kn)
  have z27 := kn.size
  clear kn
  have kn := (Kept.refl 0 0 (w24.alloc (.cells #[.slice a6 q2.length c6] 26))).alloc (.cells #[.slice a7 0 c7] 26)
  have cg0 : ((w24.alloc (.cells #[.slice a6 q2.length c6] 26)).alloc (.cells #[.slice a7 0 c7] 26)).cell? ⟨w24.heap.size + 1, 0, none⟩ = some (.slice a7 0 c7) := new_cell2 _ _ _ _ _ _ (by simp) rfl
  have sz28 : (w24.alloc (.cells #[.slice a6 q2.length c6] 26)).heap.size + 1 = ((w24.alloc (.cells #[.slice a6 q2.length c6] 26)).alloc (.cells #[.slice a7 0 c7] 26)).heap.size := by simp
  have SZ28 := hide sz28
  replace sz28 := Nat.le_of_eq sz28
  replace r1 := r1.kept kn (by omega)
  replace r2 := r2.kept kn (by omega)
  replace r3 := r3.kept kn (by omega)
  replace r4 := r4.kept kn (by omega)
  replace r5 := r5.kept kn (by omega)
  replace r6 := r6.kept kn (by omega)
  replace r7 := r7.kept kn (by omega)
  replace ca0 := kn.cell0 ca0
  replace cb0 := kn.cell0 cb0
  replace cc0 := kn.cell0 cc0
  replace cd0 := kn.cell0 cd0
  replace ce0 := kn.cell0 ce0
  replace cf0 := kn.cell0 cf0
  replace K := hide ((unhide K).trans kn)
  have z29 := kn.size
  clear kn
  go_wp2_with fail
  generalize ((w24.alloc (.cells #[.slice a6 q2.length c6] 26)).alloc (.cells #[.slice a7 0 c7] 26)) = wn30 at *
  have kd := (Kept.refl 0 0 wn30).drew
  replace r1 := r1.kept kd (by omega)
  replace r2 := r2.kept kd (by omega)
  replace r3 := r3.kept kd (by omega)
  replace r4 := r4.kept kd (by omega)
  replace r5 := r5.kept kd (by omega)
  replace r6 := r6.kept kd (by omega)
  replace r7 := r7.kept kd (by omega)
  replace ca0 := kd.cell0 ca0
  replace cb0 := kd.cell0 cb0
  replace cc0 := kd.cell0 cc0
  replace cd0 := kd.cell0 cd0
  replace ce0 := kd.cell0 ce0
  replace cf0 := kd.cell0 cf0
  replace cg0 := kd.cell0 cg0
  replace K := hide ((unhide K).trans kd)
  have z31 := kd.size
  clear kd
  refine wp_region_held_drew (S := (fun w' => w'.cell? ⟨w17.heap.size + 1, 0, none⟩ = some (.slice a5 0 c5) ∧ w'.cell? ⟨w24.heap.size + 1, 0, none⟩ = some (.slice a7 0 c7) ∧ w'.cell? ⟨w17.heap.size, 0, none⟩ = some (.slice a4 q1.length c4) ∧ w'.cell? ⟨w24.heap.size, 0, none⟩ = some (.slice a6 q2.length c6) ∧ w'.cell? ⟨w1.heap.size, 0, none⟩ = some (.slice a1 xs.length c1) ∧ w'.cell? ⟨w1.heap.size + 1, 0, none⟩ = some (.slice a2 ys.length c2) ∧ w'.cell? ⟨w8.heap.size, 0, none⟩ = some (.slice a3 zg.length c3))) (by kernel_rfl) ?_ (fun hHeld => ?_)
  · exact ⟨ce0, cg0, cd0, cf0, ca0, cb0, cc0⟩
  refine wpAnyH_take (i := 0) (oi := _) (v := .pointer (some ⟨w17.heap.size + 1, 0, none⟩)) rfl (by kernel_rfl) (by kernel_rfl) (by kernel_rfl) (fun _ _ _ h => h) (Or.inl ⟨by rfl, ?_⟩) hHeld ?_
  · intro wq hSw
    try dsimp only at hSw
    go_simp
  try simp only [Act.put, List.getElem_toArray, List.getElem_cons_succ, List.getElem_cons_zero, List.setIfInBounds_toArray, List.set_cons_zero, List.set_cons_succ]
  refine wpAnyH_take (i := 1) (oi := _) (v := .slice a5 0 c5) rfl (by kernel_rfl) (by kernel_rfl) (by kernel_rfl) (fun _ _ _ h => h) (Or.inl ⟨by rfl, ?_⟩) hHeld ?_
  · intro wq hSw
    try dsimp only at hSw
    go_simp
  try simp only [Act.put, List.getElem_toArray, List.getElem_cons_succ, List.getElem_cons_zero, List.setIfInBounds_toArray, List.set_cons_zero, List.set_cons_succ]
  refine wpAnyH_take (i := 2) (oi := _) (v := .int .i64 0) rfl (by kernel_rfl) (by kernel_rfl) (by kernel_rfl) (fun _ _ _ h => h) (Or.inl ⟨by rfl, ?_⟩) hHeld ?_
  · intro wq hSw
    try dsimp only at hSw
    go_simp
  try simp only [Act.put, List.getElem_toArray, List.getElem_cons_succ, List.getElem_cons_zero, List.setIfInBounds_toArray, List.set_cons_zero, List.set_cons_succ]
  refine wpAnyH_take (i := 3) (oi := _) (v := .bool true) rfl (by kernel_rfl) (by kernel_rfl) (by kernel_rfl) (fun _ _ _ h => h) (Or.inl ⟨by rfl, ?_⟩) hHeld ?_
  · intro wq hSw
    try dsimp only at hSw
    go_simp
  try simp only [Act.put, List.getElem_toArray, List.getElem_cons_succ, List.getElem_cons_zero, List.setIfInBounds_toArray, List.set_cons_zero, List.set_cons_succ]
  refine wpAnyH_take (i := 4) (oi := _) (v := .bool true) rfl (by kernel_rfl) (by kernel_rfl) (by kernel_rfl) (fun _ _ _ h => h) (Or.inl ⟨by rfl, ?_⟩) hHeld ?_
  · intro wq hSw
    try dsimp only at hSw
    go_simp
  try simp only [Act.put, List.getElem_toArray, List.getElem_cons_succ, List.getElem_cons_zero, List.setIfInBounds_toArray, List.set_cons_zero, List.set_cons_succ]
  refine wpAnyH_take (i := 5) (oi := _) (v := .pointer (some ⟨w24.heap.size + 1, 0, none⟩)) rfl (by kernel_rfl) (by kernel_rfl) (by kernel_rfl) (fun _ _ _ h => h) (Or.inl ⟨by rfl, ?_⟩) hHeld ?_
  · intro wq hSw
    try dsimp only at hSw
    go_simp
  try simp only [Act.put, List.getElem_toArray, List.getElem_cons_succ, List.getElem_cons_zero, List.setIfInBounds_toArray, List.set_cons_zero, List.set_cons_succ]
  refine wpAnyH_take (i := 6) (oi := _) (v := .slice a7 0 c7) rfl (by kernel_rfl) (by kernel_rfl) (by kernel_rfl) (fun _ _ _ h => h) (Or.inl ⟨by rfl, ?_⟩) hHeld ?_
  · intro wq hSw
    try dsimp only at hSw
    go_simp
  try simp only [Act.put, List.getElem_toArray, List.getElem_cons_succ, List.getElem_cons_zero, List.setIfInBounds_toArray, List.set_cons_zero, List.set_cons_succ]
  refine wpAnyH_take (i := 7) (oi := _) (v := .int .i64 0) rfl (by kernel_rfl) (by kernel_rfl) (by kernel_rfl) (fun _ _ _ h => h) (Or.inl ⟨by rfl, ?_⟩) hHeld ?_
  · intro wq hSw
    try dsimp only at hSw
    go_simp
  try simp only [Act.put, List.getElem_toArray, List.getElem_cons_succ, List.getElem_cons_zero, List.setIfInBounds_toArray, List.set_cons_zero, List.set_cons_succ]
  refine wpAnyH_take (i := 8) (oi := _) (v := .bool true) rfl (by kernel_rfl) (by kernel_rfl) (by kernel_rfl) (fun _ _ _ h => h) (Or.inl ⟨by rfl, ?_⟩) hHeld ?_
  · intro wq hSw
    try dsimp only at hSw
    go_simp
  try simp only [Act.put, List.getElem_toArray, List.getElem_cons_succ, List.getElem_cons_zero, List.setIfInBounds_toArray, List.set_cons_zero, List.set_cons_succ]
  refine wpAnyH_take (i := 9) (oi := _) (v := .bool true) rfl (by kernel_rfl) (by kernel_rfl) (by kernel_rfl) (fun _ _ _ h => h) (Or.inl ⟨by rfl, ?_⟩) hHeld ?_
  · intro wq hSw
    try dsimp only at hSw
    go_simp
  try simp only [Act.put, List.getElem_toArray, List.getElem_cons_succ, List.getElem_cons_zero, List.setIfInBounds_toArray, List.set_cons_zero, List.set_cons_succ]
  refine wpAnyH_take (i := 10) (oi := _) (v := .bool true) rfl (by kernel_rfl) (by kernel_rfl) (by kernel_rfl) (fun _ _ _ h => h) (Or.inl ⟨by rfl, ?_⟩) hHeld ?_
  · intro wq hSw
    try dsimp only at hSw
    go_simp
  try simp only [Act.put, List.getElem_toArray, List.getElem_cons_succ, List.getElem_cons_zero, List.setIfInBounds_toArray, List.set_cons_zero, List.set_cons_succ]
  refine wpAnyH_take (i := 11) (oi := _) (v := .agg #[.slice a4 q1.length c4]) rfl (by kernel_rfl) (by kernel_rfl) (by kernel_rfl) (fun _ _ _ h => h) (Or.inl ⟨by rfl, ?_⟩) hHeld ?_
  · intro wq hSw
    try dsimp only at hSw
    go_simp
  try simp only [Act.put, List.getElem_toArray, List.getElem_cons_succ, List.getElem_cons_zero, List.setIfInBounds_toArray, List.set_cons_zero, List.set_cons_succ]
  refine wpAnyH_take (i := 12) (oi := _) (v := .agg #[.slice a6 q2.length c6]) rfl (by kernel_rfl) (by kernel_rfl) (by kernel_rfl) (fun _ _ _ h => h) (Or.inl ⟨by rfl, ?_⟩) hHeld ?_
  · intro wq hSw
    try dsimp only at hSw
    go_simp
  try simp only [Act.put, List.getElem_toArray, List.getElem_cons_succ, List.getElem_cons_zero, List.setIfInBounds_toArray, List.set_cons_zero, List.set_cons_succ]
  refine wpAnyH_ready (rs := [13]) (by kernel_rfl) (by simp) ?_
  refine AllReadyH.cons rfl (fun KK hK => ?_) AllReadyH.nil
  simp only [List.getElem_toArray, List.getElem_cons_succ, List.getElem_cons_zero]
  rw [if_pos (by rfl)]
  refine wps2 40 (.tmp 85) (.tmp 86) _ rfl in_gcd (.agg #[.slice a4 q1.length c4]) (.agg #[.slice a6 q2.length c6]) rfl rfl (natGcd_impl _ r4 r6) ?_
  rintro e w32 ⟨v8, rfl, r8, k32⟩
  refine ⟨_, rfl, ?_⟩
  replace r1 := r1.kept k32 (by omega)
  replace r2 := r2.kept k32 (by omega)
  replace r3 := r3.kept k32 (by omega)
  replace r4 := r4.kept k32 (by omega)
  replace r5 := r5.kept k32 (by omega)
  replace r6 := r6.kept k32 (by omega)
  replace r7 := r7.kept k32 (by omega)
  replace ca0 := k32.cell0 ca0
  replace cb0 := k32.cell0 cb0
  replace cc0 := k32.cell0 cc0
  replace cd0 := k32.cell0 cd0
  replace ce0 := k32.cell0 ce0
  replace cf0 := k32.cell0 cf0
  replace cg0 := k32.cell0 cg0
  replace K := hide ((unhide K).trans k32)
  have z33 := k32.size
  clear k32
  clear hHeld
  refine hK.out _ _ ?_ (fun hHeld => ?_)
  · exact ⟨ce0, cg0, cd0, cf0, ca0, cb0, cc0⟩
  clear hK KK
  try simp only [Act.put, List.getElem_toArray, List.getElem_cons_succ, List.getElem_cons_zero, List.setIfInBounds_toArray, List.set_cons_zero, List.set_cons_succ]
  refine wpAnyH_ready (rs := [14]) (by kernel_rfl) (by simp) ?_
  refine AllReadyH.cons rfl (fun KK hK => ?_) AllReadyH.nil
  simp only [List.getElem_toArray, List.getElem_cons_succ, List.getElem_cons_zero]
  rw [if_pos (by rfl)]
  refine wps1 38 (.const (.int .i64 1)) _ rfl in_nat (.int .i64 1) rfl (nat_any _ 1 (by decide)) ?_
  rintro e w34 ⟨v9, rfl, r9, k34⟩
  refine ⟨_, rfl, ?_⟩
  replace r1 := r1.kept k34 (by omega)
  replace r2 := r2.kept k34 (by omega)
  replace r3 := r3.kept k34 (by omega)
  replace r4 := r4.kept k34 (by omega)
  replace r5 := r5.kept k34 (by omega)
  replace r6 := r6.kept k34 (by omega)
  replace r7 := r7.kept k34 (by omega)
  replace r8 := r8.kept k34 (by omega)
  replace ca0 := k34.cell0 ca0
  replace cb0 := k34.cell0 cb0
  replace cc0 := k34.cell0 cc0
  replace cd0 := k34.cell0 cd0
  replace ce0 := k34.cell0 ce0
  replace cf0 := k34.cell0 cf0
  replace cg0 := k34.cell0 cg0
  replace K := hide ((unhide K).trans k34)
  have z35 := k34.size
  clear k34
  clear hHeld
  refine hK.out _ _ ?_ (fun hHeld => ?_)
  · exact ⟨ce0, cg0, cd0, cf0, ca0, cb0, cc0⟩
  clear hK KK
  try simp only [Act.put, List.getElem_toArray, List.getElem_cons_succ, List.getElem_cons_zero, List.setIfInBounds_toArray, List.set_cons_zero, List.set_cons_succ]
  refine wpAnyH_ready (rs := [15]) (by kernel_rfl) (by simp) ?_
  refine AllReadyH.cons rfl (fun KK hK => ?_) AllReadyH.nil
  simp only [List.getElem_toArray, List.getElem_cons_succ, List.getElem_cons_zero]
  rw [if_pos (by rfl)]
  refine wps2 29 (.tmp 87) (.tmp 88) _ rfl in_same (.agg #[v8]) (.agg #[v9]) rfl rfl (sameNat_any _ r8 r9) ?_
  rintro e w36 ⟨rfl, k36⟩
  refine ⟨_, rfl, ?_⟩
  replace r1 := r1.kept k36 (by omega)
  replace r2 := r2.kept k36 (by omega)
  replace r3 := r3.kept k36 (by omega)
  replace r4 := r4.kept k36 (by omega)
  replace r5 := r5.kept k36 (by omega)
  replace r6 := r6.kept k36 (by omega)
  replace r7 := r7.kept k36 (by omega)
  replace r8 := r8.kept k36 (by omega)
  replace r9 := r9.kept k36 (by omega)
  replace ca0 := k36.cell0 ca0
  replace cb0 := k36.cell0 cb0
  replace cc0 := k36.cell0 cc0
  replace cd0 := k36.cell0 cd0
  replace ce0 := k36.cell0 ce0
  replace cf0 := k36.cell0 cf0
  replace cg0 := k36.cell0 cg0
  replace K := hide ((unhide K).trans k36)
  have z37 := k36.size
  clear k36
  clear hHeld
  refine hK.out _ _ ?_ (fun hHeld => ?_)
  · exact ⟨ce0, cg0, cd0, cf0, ca0, cb0, cc0⟩
  clear hK KK
  try simp only [Act.put, List.getElem_toArray, List.getElem_cons_succ, List.getElem_cons_zero, List.setIfInBounds_toArray, List.set_cons_zero, List.set_cons_succ]
  rw [unhide H3, unhide HN1, show sameL N1 N1 = true from decide_eq_true rfl]
  refine wpAnyH_take (i := 16) (oi := _) (v := .bool true) rfl (by kernel_rfl) (by kernel_rfl) (by kernel_rfl) (fun _ _ _ h => h) (Or.inl ⟨by rfl, ?_⟩) hHeld ?_
  · intro wq hSw
    try dsimp only at hSw
    go_simp
  try simp only [Act.put, List.getElem_toArray, List.getElem_cons_succ, List.getElem_cons_zero, List.setIfInBounds_toArray, List.set_cons_zero, List.set_cons_succ]
  refine wpAnyH_take (i := 17) (oi := _) (v := .bool true) rfl (by kernel_rfl) (by kernel_rfl) (by kernel_rfl) (fun _ _ _ h => h) (Or.inl ⟨by rfl, ?_⟩) hHeld ?_
  · intro wq hSw
    try dsimp only at hSw
    go_simp
  try simp only [Act.put, List.getElem_toArray, List.getElem_cons_succ, List.getElem_cons_zero, List.setIfInBounds_toArray, List.set_cons_zero, List.set_cons_succ]
  refine wpAnyH_take (i := 18) (oi := _) (v := .agg #[.slice a2 ys.length c2]) rfl (by kernel_rfl) (by kernel_rfl) (by kernel_rfl) (fun _ _ _ h => h) (Or.inl ⟨by rfl, ?_⟩) hHeld ?_
  · intro wq hSw
    try dsimp only at hSw
    go_simp
  try simp only [Act.put, List.getElem_toArray, List.getElem_cons_succ, List.getElem_cons_zero, List.setIfInBounds_toArray, List.set_cons_zero, List.set_cons_succ]
  refine wpAnyH_take (i := 19) (oi := _) (v := .agg #[.slice a1 xs.length c1]) rfl (by kernel_rfl) (by kernel_rfl) (by kernel_rfl) (fun _ _ _ h => h) (Or.inl ⟨by rfl, ?_⟩) hHeld ?_
  · intro wq hSw
    try dsimp only at hSw
    go_simp
  try simp only [Act.put, List.getElem_toArray, List.getElem_cons_succ, List.getElem_cons_zero, List.setIfInBounds_toArray, List.set_cons_zero, List.set_cons_succ]
  refine wpAnyH_take (i := 21) (oi := _) (v := .agg #[.slice a3 zg.length c3]) rfl (by kernel_rfl) (by kernel_rfl) (by kernel_rfl) (fun _ _ _ h => h) (Or.inl ⟨by rfl, ?_⟩) hHeld ?_
  · intro wq hSw
    try dsimp only at hSw
    go_simp
  try simp only [Act.put, List.getElem_toArray, List.getElem_cons_succ, List.getElem_cons_zero, List.setIfInBounds_toArray, List.set_cons_zero, List.set_cons_succ]
  refine wpAnyH_ready (rs := [20]) (by kernel_rfl) (by simp) ?_
  refine AllReadyH.cons rfl (fun KK hK => ?_) AllReadyH.nil
  simp only [List.getElem_toArray, List.getElem_cons_succ, List.getElem_cons_zero]
  rw [if_pos (by rfl)]
  refine wps2 40 (.tmp 92) (.tmp 93) _ rfl in_gcd (.agg #[.slice a2 ys.length c2]) (.agg #[.slice a1 xs.length c1]) rfl rfl (natGcd_impl _ r2 r1) ?_
  rintro e w38 ⟨v10, rfl, r10, k38⟩
  refine ⟨_, rfl, ?_⟩
  replace r1 := r1.kept k38 (by omega)
  replace r2 := r2.kept k38 (by omega)
  replace r3 := r3.kept k38 (by omega)
  replace r4 := r4.kept k38 (by omega)
  replace r5 := r5.kept k38 (by omega)
  replace r6 := r6.kept k38 (by omega)
  replace r7 := r7.kept k38 (by omega)
  replace r8 := r8.kept k38 (by omega)
  replace r9 := r9.kept k38 (by omega)
  replace ca0 := k38.cell0 ca0
  replace cb0 := k38.cell0 cb0
  replace cc0 := k38.cell0 cc0
  replace cd0 := k38.cell0 cd0
  replace ce0 := k38.cell0 ce0
  replace cf0 := k38.cell0 cf0
  replace cg0 := k38.cell0 cg0
  replace K := hide ((unhide K).trans k38)
  have z39 := k38.size
  clear k38
  clear hHeld
  refine hK.out _ _ ?_ (fun hHeld => ?_)
  · exact ⟨ce0, cg0, cd0, cf0, ca0, cb0, cc0⟩
  clear hK KK
  try simp only [Act.put, List.getElem_toArray, List.getElem_cons_succ, List.getElem_cons_zero, List.setIfInBounds_toArray, List.set_cons_zero, List.set_cons_succ]
  refine wpAnyH_ready (rs := [22]) (by kernel_rfl) (by simp) ?_
  refine AllReadyH.cons rfl (fun KK hK => ?_) AllReadyH.nil
  simp only [List.getElem_toArray, List.getElem_cons_succ, List.getElem_cons_zero]
  rw [if_pos (by rfl)]
  refine wps2 29 (.tmp 94) (.tmp 95) _ rfl in_same (.agg #[v10]) (.agg #[.slice a3 zg.length c3]) rfl rfl (sameNat_any _ r10 r3) ?_
  rintro e w40 ⟨rfl, k40⟩
  refine ⟨_, rfl, ?_⟩
  replace r1 := r1.kept k40 (by omega)
  replace r2 := r2.kept k40 (by omega)
  replace r3 := r3.kept k40 (by omega)
  replace r4 := r4.kept k40 (by omega)
  replace r5 := r5.kept k40 (by omega)
  replace r6 := r6.kept k40 (by omega)
  replace r7 := r7.kept k40 (by omega)
  replace r8 := r8.kept k40 (by omega)
  replace r9 := r9.kept k40 (by omega)
  replace r10 := r10.kept k40 (by omega)
  replace ca0 := k40.cell0 ca0
  replace cb0 := k40.cell0 cb0
  replace cc0 := k40.cell0 cc0
  replace cd0 := k40.cell0 cd0
  replace ce0 := k40.cell0 ce0
  replace cf0 := k40.cell0 cf0
  replace cg0 := k40.cell0 cg0
  replace K := hide ((unhide K).trans k40)
  have z41 := k40.size
  clear k40
  clear hHeld
  refine hK.out _ _ ?_ (fun hHeld => ?_)
  · exact ⟨ce0, cg0, cd0, cf0, ca0, cb0, cc0⟩
  clear hK KK
  try simp only [Act.put, List.getElem_toArray, List.getElem_cons_succ, List.getElem_cons_zero, List.setIfInBounds_toArray, List.set_cons_zero, List.set_cons_succ]
  rw [unhide H4, show sameL zg zg = true from decide_eq_true rfl]
  refine wpAnyH_take (i := 23) (oi := _) (v := .bool true) rfl (by kernel_rfl) (by kernel_rfl) (by kernel_rfl) (fun _ _ _ h => h) (Or.inl ⟨by rfl, ?_⟩) hHeld ?_
  · intro wq hSw
    try dsimp only at hSw
    go_simp
  try simp only [Act.put, List.getElem_toArray, List.getElem_cons_succ, List.getElem_cons_zero, List.setIfInBounds_toArray, List.set_cons_zero, List.set_cons_succ]
  refine wpAnyH_take (i := 24) (oi := _) (v := .bool true) rfl (by kernel_rfl) (by kernel_rfl) (by kernel_rfl) (fun _ _ _ h => h) (Or.inl ⟨by rfl, ?_⟩) hHeld ?_
  · intro wq hSw
    try dsimp only at hSw
    go_simp
  try simp only [Act.put, List.getElem_toArray, List.getElem_cons_succ, List.getElem_cons_zero, List.setIfInBounds_toArray, List.set_cons_zero, List.set_cons_succ]
  refine wpAnyH_done (by kernel_rfl) ?_ _
  clear hHeld
  go_wp2_with fail
  go_ret
  exact ⟨rfl, (unhide K).toBelow⟩

end Go.Proofs.Ytdhponfpikclhaa
