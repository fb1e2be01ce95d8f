/-
  DrawDiv, LawR, IDiv7, INat18, LNatDivs, in one text.
-/
import Derived.Test.YtdhponfpikclhaaDrawAll
import Derived.Test.YtdhponfpikclhaaINat13
import Derived.Deep.RegionHeld3
import Derived.Test.YtdhponfpikclhaaINat12
import Derived.Test.YtdhponfpikclhaaDivS
import Derived.Test.YtdhponfpikclhaaDivI
import Derived.Test.YtdhponfpikclhaaPair
import Derived.Deep.DeepCutAuto
import Derived.Test.YtdhponfpikclhaaINat17
import Derived.Test.YtdhponfpikclhaaINat9
namespace Go.Proofs.Ytdhponfpikclhaa
open Go.RowKit
set_option linter.unusedVariables false
set_option maxRecDepth 8000
set_option linter.unusedSimpArgs false

set_option maxHeartbeats 4000000 in
theorem drawDiv_any {bw : Bool} {lo hi : Nat} {v : Value} {bs : List Int} (w : World) (r : Row .u8 bw lo hi w v bs) (b : Bytes bs) :
    Calls Try.prog 33 #[v] w fun e w' => ∃ v1 v2, e = .returned (.tuple #[.agg #[v1], .agg #[v2]]) ∧ AnyN w w' v1 ∧ AnyN w w' v2 ∧ Kept 0 0 w w' := by
  have k0 := ((Kept.refl 0 0 w).alloc (.cells #[.slice none 0 0] 26)).alloc (.cells #[.slice none 0 0] 26)
  have q := r.kept k0 (by omega)
  have c1 : ((w.alloc (.cells #[.slice none 0 0] 26)).alloc (.cells #[.slice none 0 0] 26)).cell? ⟨w.heap.size, 0, none⟩ = some (.slice none 0 0) := old_cell _ (new_cell_at _ _ _ _ rfl)
  have f1 : ((w.alloc (.cells #[.slice none 0 0] 26)).alloc (.cells #[.slice none 0 0] 26)).frozen? ⟨w.heap.size, 0, none⟩ = false := loose_old (by simp) (new_loose _ _ _ _ rfl)
  have c2 : ((w.alloc (.cells #[.slice none 0 0] 26)).alloc (.cells #[.slice none 0 0] 26)).cell? ⟨w.heap.size + 1, 0, none⟩ = some (.slice none 0 0) := new_cell_at _ _ _ _ (by simp)
  have f2 : ((w.alloc (.cells #[.slice none 0 0] 26)).alloc (.cells #[.slice none 0 0] 26)).frozen? ⟨w.heap.size + 1, 0, none⟩ = false := new_loose _ _ _ _ (by simp)
  have hs : ((w.alloc (.cells #[.slice none 0 0] 26)).alloc (.cells #[.slice none 0 0] 26)).heap.size = w.heap.size + 2 := by simp
  obtain ⟨a0, d0, rfl⟩ := Row.form' r
  clear r
  go_enter Try.func33, Try.ntmps33
  go_wp2_with fail
  generalize ((w.alloc (.cells #[.slice none 0 0] 26)).alloc (.cells #[.slice none 0 0] 26)) = W at *
  refine (l1New_any _ q b).mono ?_
  rintro e w1 ⟨g, rfl, hg, cu, k1⟩
  replace f1 := k1.loose0 (World.block_lt_of_cell? _ _ c1) f1
  replace c1 := k1.cell0 c1
  replace f2 := k1.loose0 (World.block_lt_of_cell? _ _ c2) f2
  replace c2 := k1.cell0 c2
  replace k0 := k0.trans k1
  have hs1 : w.heap.size + 2 ≤ w1.heap.size := by have := k1.size; omega
  have hg2 : w.heap.size + 2 ≤ g := by omega
  have hgl : g < w1.heap.size := cu.1
  clear k1 q hs hg
  generalize hLO : W.heap.size = LO at *
  clear hLO
  go_wp2_with fail
  refine (bent_any g LO _ cu).mono ?_
  rintro e w2 ⟨v2, rfl, zA, oA, hzA, hlA, d2⟩
  have hAA : g < w2.heap.size := d2.1.1
  have sA := d2.2.size
  replace f1 := d2.2.looseOut' (a := ⟨w.heap.size, 0, none⟩) (.inl (show w.heap.size < g by omega)) (World.block_lt_of_cell? _ _ c1) f1
  replace c1 := d2.2.cellOut (.inl (show w.heap.size < g by omega)) c1
  replace f2 := d2.2.looseOut' (a := ⟨w.heap.size + 1, 0, none⟩) (.inl (show w.heap.size + 1 < g by omega)) (World.block_lt_of_cell? _ _ c2) f2
  replace c2 := d2.2.cellOut (.inl (show w.heap.size + 1 < g by omega)) c2
  replace k0 := k0.newer' d2.2 (by omega)
  obtain ⟨aA, eA, ev⟩ := own_slice oA
  subst ev
  have kA := (Kept.refl 0 0 w2).alloc (.cells #[.slice aA zA.length eA] 26)
  have rA := Row.own oA
  have cu2 := d2.1.kept kA (by omega)
  clear d2 cu oA
  have cu := cu2
  clear cu2
  replace f1 := kA.loose0 (World.block_lt_of_cell? _ _ c1) f1
  replace c1 := kA.cell0 c1
  replace f2 := kA.loose0 (World.block_lt_of_cell? _ _ c2) f2
  replace c2 := kA.cell0 c2
  replace rA := rA.kept kA (by omega)
  replace k0 := k0.trans kA
  have cA : (w2.alloc (.cells #[.slice aA zA.length eA] 26)).cell? ⟨w2.heap.size, 0, none⟩ = some (.slice aA zA.length eA) := new_cell_at _ _ _ _ rfl
  have tA : w2.heap.size + 1 ≤ (w2.alloc (.cells #[.slice aA zA.length eA] 26)).heap.size := by simp
  clear kA
  go_wp2_with fail
  generalize w2.alloc (.cells #[.slice aA zA.length eA] 26) = w3 at *
  obtain ⟨Ab, hA⟩ : ∃ X, X = w2.heap.size := ⟨_, rfl⟩
  rw [← hA] at cA ⊢
  have HA1 := Nat.le_of_eq hA
  have HA2 := Nat.le_of_eq hA.symm
  clear hA
  refine (bent_any g LO _ cu).mono ?_
  rintro e w4 ⟨v3, rfl, zB, oB, hzB, hlB, d4⟩
  have hAB : g < w4.heap.size := d4.1.1
  have sB := d4.2.size
  replace f1 := d4.2.looseOut' (a := ⟨w.heap.size, 0, none⟩) (.inl (show w.heap.size < g by omega)) (World.block_lt_of_cell? _ _ c1) f1
  replace c1 := d4.2.cellOut (.inl (show w.heap.size < g by omega)) c1
  replace f2 := d4.2.looseOut' (a := ⟨w.heap.size + 1, 0, none⟩) (.inl (show w.heap.size + 1 < g by omega)) (World.block_lt_of_cell? _ _ c2) f2
  replace c2 := d4.2.cellOut (.inl (show w.heap.size + 1 < g by omega)) c2
  replace cA := d4.2.cellOut (.inr (show g + 1 ≤ Ab by omega)) cA
  replace rA := rA.kept d4.2 (by omega)
  replace k0 := k0.newer' d4.2 (by omega)
  obtain ⟨aB, eB, ev⟩ := own_slice oB
  subst ev
  have kA := (Kept.refl 0 0 w4).alloc (.cells #[.slice aB zB.length eB] 26)
  have rB := Row.own oB
  have cu4 := d4.1.kept kA (by omega)
  clear d4 cu oB
  have cu := cu4
  clear cu4
  replace f1 := kA.loose0 (World.block_lt_of_cell? _ _ c1) f1
  replace c1 := kA.cell0 c1
  replace f2 := kA.loose0 (World.block_lt_of_cell? _ _ c2) f2
  replace c2 := kA.cell0 c2
  replace cA := kA.cell0 cA
  replace rA := rA.kept kA (by omega)
  replace rB := rB.kept kA (by omega)
  replace k0 := k0.trans kA
  have cB : (w4.alloc (.cells #[.slice aB zB.length eB] 26)).cell? ⟨w4.heap.size, 0, none⟩ = some (.slice aB zB.length eB) := new_cell_at _ _ _ _ rfl
  have tB : w4.heap.size + 1 ≤ (w4.alloc (.cells #[.slice aB zB.length eB] 26)).heap.size := by simp
  clear kA
  go_wp2_with fail
  generalize w4.alloc (.cells #[.slice aB zB.length eB] 26) = w5 at *
  obtain ⟨Bb, hB⟩ : ∃ X, X = w4.heap.size := ⟨_, rfl⟩
  rw [← hB] at cB ⊢
  have HB1 := Nat.le_of_eq hB
  have HB2 := Nat.le_of_eq hB.symm
  clear hB
  refine (ok_spec _ rA).mono ?_
  rintro e w6 ⟨rfl, k6⟩
  replace f1 := k6.loose0 (World.block_lt_of_cell? _ _ c1) f1
  replace c1 := k6.cell0 c1
  replace f2 := k6.loose0 (World.block_lt_of_cell? _ _ c2) f2
  replace c2 := k6.cell0 c2
  replace cA := k6.cell0 cA
  replace cB := k6.cell0 cB
  replace rA := rA.kept k6 (by omega)
  replace rB := rB.kept k6 (by omega)
  replace k0 := k0.trans k6
  have hk6 := k6.size
  replace cu := cu.kept k6 (by omega)
  clear k6
  cases okB zA
  · go_wp2_with fail
    have kd := (Kept.refl 0 0 w6).drew
    replace f1 := kd.loose0 (World.block_lt_of_cell? _ _ c1) f1
    replace c1 := kd.cell0 c1
    replace f2 := kd.loose0 (World.block_lt_of_cell? _ _ c2) f2
    replace c2 := kd.cell0 c2
    replace cA := kd.cell0 cA
    replace cB := kd.cell0 cB
    replace rA := rA.kept kd (by omega)
    replace rB := rB.kept kd (by omega)
    replace k0 := k0.trans kd
    clear kd
    refine wp_region_held_drew (S := (fun w' => w'.cell? ⟨Ab, 0, none⟩ = some (.slice aA zA.length eA) ∧ w'.cell? ⟨Bb, 0, none⟩ = some (.slice aB zB.length eB))) (by kernel_rfl) ?_ (fun hHeld => ?_)
    · exact ⟨cA, cB⟩
    generalize w6.drew = wd at *
    refine wpAnyH_take (i := 0) (oi := _) (v := .agg #[.slice aA zA.length eA]) rfl (by kernel_rfl) (by kernel_rfl) (by kernel_rfl) (fun _ _ _ h => h) (Or.inl ⟨by rfl, ?_⟩) hHeld ?_
    · intro wq hSw
      try dsimp only at hSw
      go_simp
    try simp only [Act.put, List.getElem_toArray, List.getElem_cons_succ, List.getElem_cons_zero, List.setIfInBounds_toArray, List.set_cons_zero, List.set_cons_succ]
    refine wpAnyH_take (i := 1) (oi := _) (v := .agg #[.slice aB zB.length eB]) rfl (by kernel_rfl) (by kernel_rfl) (by kernel_rfl) (fun _ _ _ h => h) (Or.inl ⟨by rfl, ?_⟩) hHeld ?_
    · intro wq hSw
      try dsimp only at hSw
      go_simp
    try simp only [Act.put, List.getElem_toArray, List.getElem_cons_succ, List.getElem_cons_zero, List.setIfInBounds_toArray, List.set_cons_zero, List.set_cons_succ]
    have F1 := hide (any_two k0 rA rB (by omega) (by omega))
    have G1 := hide (two_cells (v1 := .slice aA zA.length eA) (v2 := .slice aB zB.length eB) c1 c2)
    have hne1 : ¬ w.heap.size = w.heap.size + 1 := by omega
    refine wpAnyH_ready (rs := [2]) (by kernel_rfl) (by simp) ?_
    refine AllReadyH.cons rfl (fun KK hK => ?_) AllReadyH.nil
    simp only [List.getElem_toArray, List.getElem_cons_succ, List.getElem_cons_zero]
    rw [if_pos (by rfl)]
    go_simp
    clear hHeld
    refine hK.out _ _ ?_ (fun hHeld => ?_)
    · exact ⟨cell_aside _ (by dsimp only; omega) cA, cell_aside _ (by dsimp only; omega) cB⟩
    clear hK KK
    try simp only [Act.put, List.getElem_toArray, List.getElem_cons_succ, List.getElem_cons_zero, List.setIfInBounds_toArray, List.set_cons_zero, List.set_cons_succ]
    refine wpAnyH_ready (rs := [3]) (by kernel_rfl) (by simp) ?_
    refine AllReadyH.cons rfl (fun KK hK => ?_) AllReadyH.nil
    simp only [List.getElem_toArray, List.getElem_cons_succ, List.getElem_cons_zero]
    rw [if_pos (by rfl)]
    go_simp
    clear hHeld
    refine hK.out _ _ ?_ (fun hHeld => ?_)
    · exact ⟨cell_aside _ (by dsimp only; omega) (cell_aside _ (by dsimp only; omega) cA), cell_aside _ (by dsimp only; omega) (cell_aside _ (by dsimp only; omega) cB)⟩
    clear hK KK
    try simp only [Act.put, List.getElem_toArray, List.getElem_cons_succ, List.getElem_cons_zero, List.setIfInBounds_toArray, List.set_cons_zero, List.set_cons_succ]
    refine wpAnyH_done (by kernel_rfl) ?_ _
    clear hHeld
    have g1 := (unhide G1).1
    have g2 := (unhide G1).2
    clear rA rB c1 f1 c2 f2 k0
    go_wp2_with fail
    exact bodyPost_ret (v := .tuple #[.agg #[.slice aA zA.length eA], .agg #[.slice aB zB.length eB]]) (by simp [results, Try.results33, go_sem, g1, g2]) rfl ⟨_, _, rfl, unhide F1⟩
  go_wp2_with fail
  refine (ok_spec _ rB).mono ?_
  rintro e w7 ⟨rfl, k7⟩
  replace f1 := k7.loose0 (World.block_lt_of_cell? _ _ c1) f1
  replace c1 := k7.cell0 c1
  replace f2 := k7.loose0 (World.block_lt_of_cell? _ _ c2) f2
  replace c2 := k7.cell0 c2
  replace cA := k7.cell0 cA
  replace cB := k7.cell0 cB
  replace rA := rA.kept k7 (by omega)
  replace rB := rB.kept k7 (by omega)
  replace k0 := k0.trans k7
  have hk7 := k7.size
  replace cu := cu.kept k7 (by omega)
  clear k7
  cases okB zB
  · go_wp2_with fail
    have kd := (Kept.refl 0 0 w7).drew
    replace f1 := kd.loose0 (World.block_lt_of_cell? _ _ c1) f1
    replace c1 := kd.cell0 c1
    replace f2 := kd.loose0 (World.block_lt_of_cell? _ _ c2) f2
    replace c2 := kd.cell0 c2
    replace cA := kd.cell0 cA
    replace cB := kd.cell0 cB
    replace rA := rA.kept kd (by omega)
    replace rB := rB.kept kd (by omega)
    replace k0 := k0.trans kd
    clear kd
    refine wp_region_held_drew (S := (fun w' => w'.cell? ⟨Ab, 0, none⟩ = some (.slice aA zA.length eA) ∧ w'.cell? ⟨Bb, 0, none⟩ = some (.slice aB zB.length eB))) (by kernel_rfl) ?_ (fun hHeld => ?_)
    · exact ⟨cA, cB⟩
    generalize w7.drew = wd at *
    refine wpAnyH_take (i := 0) (oi := _) (v := .agg #[.slice aA zA.length eA]) rfl (by kernel_rfl) (by kernel_rfl) (by kernel_rfl) (fun _ _ _ h => h) (Or.inl ⟨by rfl, ?_⟩) hHeld ?_
    · intro wq hSw
      try dsimp only at hSw
      go_simp
    try simp only [Act.put, List.getElem_toArray, List.getElem_cons_succ, List.getElem_cons_zero, List.setIfInBounds_toArray, List.set_cons_zero, List.set_cons_succ]
    refine wpAnyH_take (i := 1) (oi := _) (v := .agg #[.slice aB zB.length eB]) rfl (by kernel_rfl) (by kernel_rfl) (by kernel_rfl) (fun _ _ _ h => h) (Or.inl ⟨by rfl, ?_⟩) hHeld ?_
    · intro wq hSw
      try dsimp only at hSw
      go_simp
    try simp only [Act.put, List.getElem_toArray, List.getElem_cons_succ, List.getElem_cons_zero, List.setIfInBounds_toArray, List.set_cons_zero, List.set_cons_succ]
    have F1 := hide (any_two k0 rA rB (by omega) (by omega))
    have G1 := hide (two_cells (v1 := .slice aA zA.length eA) (v2 := .slice aB zB.length eB) c1 c2)
    have hne1 : ¬ w.heap.size = w.heap.size + 1 := by omega
    refine wpAnyH_ready (rs := [2]) (by kernel_rfl) (by simp) ?_
    refine AllReadyH.cons rfl (fun KK hK => ?_) AllReadyH.nil
    simp only [List.getElem_toArray, List.getElem_cons_succ, List.getElem_cons_zero]
    rw [if_pos (by rfl)]
    go_simp
    clear hHeld
    refine hK.out _ _ ?_ (fun hHeld => ?_)
    · exact ⟨cell_aside _ (by dsimp only; omega) cA, cell_aside _ (by dsimp only; omega) cB⟩
    clear hK KK
    try simp only [Act.put, List.getElem_toArray, List.getElem_cons_succ, List.getElem_cons_zero, List.setIfInBounds_toArray, List.set_cons_zero, List.set_cons_succ]
    refine wpAnyH_ready (rs := [3]) (by kernel_rfl) (by simp) ?_
    refine AllReadyH.cons rfl (fun KK hK => ?_) AllReadyH.nil
    simp only [List.getElem_toArray, List.getElem_cons_succ, List.getElem_cons_zero]
    rw [if_pos (by rfl)]
    go_simp
    clear hHeld
    refine hK.out _ _ ?_ (fun hHeld => ?_)
    · exact ⟨cell_aside _ (by dsimp only; omega) (cell_aside _ (by dsimp only; omega) cA), cell_aside _ (by dsimp only; omega) (cell_aside _ (by dsimp only; omega) cB)⟩
    clear hK KK
    try simp only [Act.put, List.getElem_toArray, List.getElem_cons_succ, List.getElem_cons_zero, List.setIfInBounds_toArray, List.set_cons_zero, List.set_cons_succ]
    refine wpAnyH_done (by kernel_rfl) ?_ _
    clear hHeld
    have g1 := (unhide G1).1
    have g2 := (unhide G1).2
    clear rA rB c1 f1 c2 f2 k0
    go_wp2_with fail
    exact bodyPost_ret (v := .tuple #[.agg #[.slice aA zA.length eA], .agg #[.slice aB zB.length eB]]) (by simp [results, Try.results33, go_sem, g1, g2]) rfl ⟨_, _, rfl, unhide F1⟩
  go_wp2_with fail
  refine (l1Once_any g LO _ cu 3).mono ?_
  rintro e w8 ⟨bb, rfl, d8⟩
  replace f1 := d8.2.1.looseOut' (a := ⟨w.heap.size, 0, none⟩) (.inl (show w.heap.size < g by omega)) (World.block_lt_of_cell? _ _ c1) f1
  replace c1 := d8.2.1.cellOut (.inl (show w.heap.size < g by omega)) c1
  replace f2 := d8.2.1.looseOut' (a := ⟨w.heap.size + 1, 0, none⟩) (.inl (show w.heap.size + 1 < g by omega)) (World.block_lt_of_cell? _ _ c2) f2
  replace c2 := d8.2.1.cellOut (.inl (show w.heap.size + 1 < g by omega)) c2
  replace cA := d8.2.1.cellOut (.inr (show g + 1 ≤ Ab by omega)) cA
  replace cB := d8.2.1.cellOut (.inr (show g + 1 ≤ Bb by omega)) cB
  replace rA := rA.kept d8.2.1 (by omega)
  replace rB := rB.kept d8.2.1 (by omega)
  replace k0 := k0.newer' d8.2.1 (by omega)
  have hk8 := d8.2.1.size
  clear cu d8
  cases bb
  · go_wp2_with fail
    have kd := (Kept.refl 0 0 w8).drew
    replace f1 := kd.loose0 (World.block_lt_of_cell? _ _ c1) f1
    replace c1 := kd.cell0 c1
    replace f2 := kd.loose0 (World.block_lt_of_cell? _ _ c2) f2
    replace c2 := kd.cell0 c2
    replace cA := kd.cell0 cA
    replace cB := kd.cell0 cB
    replace rA := rA.kept kd (by omega)
    replace rB := rB.kept kd (by omega)
    replace k0 := k0.trans kd
    clear kd
    refine wp_region_held_drew (S := (fun w' => w'.cell? ⟨Ab, 0, none⟩ = some (.slice aA zA.length eA) ∧ w'.cell? ⟨Bb, 0, none⟩ = some (.slice aB zB.length eB))) (by kernel_rfl) ?_ (fun hHeld => ?_)
    · exact ⟨cA, cB⟩
    generalize w8.drew = wd at *
    refine wpAnyH_take (i := 0) (oi := _) (v := .agg #[.slice aA zA.length eA]) rfl (by kernel_rfl) (by kernel_rfl) (by kernel_rfl) (fun _ _ _ h => h) (Or.inl ⟨by rfl, ?_⟩) hHeld ?_
    · intro wq hSw
      try dsimp only at hSw
      go_simp
    try simp only [Act.put, List.getElem_toArray, List.getElem_cons_succ, List.getElem_cons_zero, List.setIfInBounds_toArray, List.set_cons_zero, List.set_cons_succ]
    refine wpAnyH_take (i := 1) (oi := _) (v := .agg #[.slice aB zB.length eB]) rfl (by kernel_rfl) (by kernel_rfl) (by kernel_rfl) (fun _ _ _ h => h) (Or.inl ⟨by rfl, ?_⟩) hHeld ?_
    · intro wq hSw
      try dsimp only at hSw
      go_simp
    try simp only [Act.put, List.getElem_toArray, List.getElem_cons_succ, List.getElem_cons_zero, List.setIfInBounds_toArray, List.set_cons_zero, List.set_cons_succ]
    have F1 := hide (any_two k0 rA rB (by omega) (by omega))
    have G1 := hide (two_cells (v1 := .slice aA zA.length eA) (v2 := .slice aB zB.length eB) c1 c2)
    have hne1 : ¬ w.heap.size = w.heap.size + 1 := by omega
    refine wpAnyH_ready (rs := [2]) (by kernel_rfl) (by simp) ?_
    refine AllReadyH.cons rfl (fun KK hK => ?_) AllReadyH.nil
    simp only [List.getElem_toArray, List.getElem_cons_succ, List.getElem_cons_zero]
    rw [if_pos (by rfl)]
    go_simp
    clear hHeld
    refine hK.out _ _ ?_ (fun hHeld => ?_)
    · exact ⟨cell_aside _ (by dsimp only; omega) cA, cell_aside _ (by dsimp only; omega) cB⟩
    clear hK KK
    try simp only [Act.put, List.getElem_toArray, List.getElem_cons_succ, List.getElem_cons_zero, List.setIfInBounds_toArray, List.set_cons_zero, List.set_cons_succ]
    refine wpAnyH_ready (rs := [3]) (by kernel_rfl) (by simp) ?_
    refine AllReadyH.cons rfl (fun KK hK => ?_) AllReadyH.nil
    simp only [List.getElem_toArray, List.getElem_cons_succ, List.getElem_cons_zero]
    rw [if_pos (by rfl)]
    go_simp
    clear hHeld
    refine hK.out _ _ ?_ (fun hHeld => ?_)
    · exact ⟨cell_aside _ (by dsimp only; omega) (cell_aside _ (by dsimp only; omega) cA), cell_aside _ (by dsimp only; omega) (cell_aside _ (by dsimp only; omega) cB)⟩
    clear hK KK
    try simp only [Act.put, List.getElem_toArray, List.getElem_cons_succ, List.getElem_cons_zero, List.setIfInBounds_toArray, List.set_cons_zero, List.set_cons_succ]
    refine wpAnyH_done (by kernel_rfl) ?_ _
    clear hHeld
    have g1 := (unhide G1).1
    have g2 := (unhide G1).2
    clear rA rB c1 f1 c2 f2 k0
    go_wp2_with fail
    exact bodyPost_ret (v := .tuple #[.agg #[.slice aA zA.length eA], .agg #[.slice aB zB.length eB]]) (by simp [results, Try.results33, go_sem, g1, g2]) rfl ⟨_, _, rfl, unhide F1⟩
  go_wp2_with fail
  refine (natMul_spec _ rA rB).mono ?_
  rintro e w9 ⟨v9, rfl, r9, k9⟩
  replace f1 := k9.loose0 (World.block_lt_of_cell? _ _ c1) f1
  replace c1 := k9.cell0 c1
  replace f2 := k9.loose0 (World.block_lt_of_cell? _ _ c2) f2
  replace c2 := k9.cell0 c2
  replace cA := k9.cell0 cA
  replace cB := k9.cell0 cB
  replace rA := rA.kept k9 (by omega)
  replace rB := rB.kept k9 (by omega)
  replace k0 := k0.trans k9
  have hk9 := k9.size
  clear k9
  generalize ansL (okB zA && okB zB) (val zA * val zB).toNat = z9 at *
  obtain ⟨a9, e9, ev⟩ := Row.form' r9
  subst ev
  have kA := (Kept.refl 0 0 w9).alloc (.cells #[.slice a9 z9.length e9] 26)
  replace f1 := kA.loose0 (World.block_lt_of_cell? _ _ c1) f1
  replace c1 := kA.cell0 c1
  replace f2 := kA.loose0 (World.block_lt_of_cell? _ _ c2) f2
  replace c2 := kA.cell0 c2
  replace cA := kA.cell0 cA
  replace cB := kA.cell0 cB
  replace rA := rA.kept kA (by omega)
  replace rB := rB.kept kA (by omega)
  replace r9 := r9.kept kA (by omega)
  replace k0 := k0.trans kA
  have c9 : (w9.alloc (.cells #[.slice a9 z9.length e9] 26)).cell? ⟨w9.heap.size, 0, none⟩ = some (.slice a9 z9.length e9) := new_cell_at _ _ _ _ rfl
  have t9 : w9.heap.size + 1 ≤ (w9.alloc (.cells #[.slice a9 z9.length e9] 26)).heap.size := by simp
  clear kA
  cases ansB (okB zA && okB zB) (val zA * val zB).toNat
  · go_wp2_with fail
    generalize w9.alloc (.cells #[.slice a9 z9.length e9] 26) = w10 at *
    have kd := (Kept.refl 0 0 w10).drew
    replace f1 := kd.loose0 (World.block_lt_of_cell? _ _ c1) f1
    replace c1 := kd.cell0 c1
    replace f2 := kd.loose0 (World.block_lt_of_cell? _ _ c2) f2
    replace c2 := kd.cell0 c2
    replace cA := kd.cell0 cA
    replace cB := kd.cell0 cB
    replace c9 := kd.cell0 c9
    replace rA := rA.kept kd (by omega)
    replace rB := rB.kept kd (by omega)
    replace r9 := r9.kept kd (by omega)
    replace k0 := k0.trans kd
    clear kd
    refine wp_region_held_drew (S := (fun w' => w'.cell? ⟨Ab, 0, none⟩ = some (.slice aA zA.length eA) ∧ w'.cell? ⟨Bb, 0, none⟩ = some (.slice aB zB.length eB))) (by kernel_rfl) ?_ (fun hHeld => ?_)
    · exact ⟨cA, cB⟩
    generalize w10.drew = wd at *
    refine wpAnyH_take (i := 0) (oi := _) (v := .agg #[.slice aA zA.length eA]) rfl (by kernel_rfl) (by kernel_rfl) (by kernel_rfl) (fun _ _ _ h => h) (Or.inl ⟨by rfl, ?_⟩) hHeld ?_
    · intro wq hSw
      try dsimp only at hSw
      go_simp
    try simp only [Act.put, List.getElem_toArray, List.getElem_cons_succ, List.getElem_cons_zero, List.setIfInBounds_toArray, List.set_cons_zero, List.set_cons_succ]
    refine wpAnyH_take (i := 1) (oi := _) (v := .agg #[.slice aB zB.length eB]) rfl (by kernel_rfl) (by kernel_rfl) (by kernel_rfl) (fun _ _ _ h => h) (Or.inl ⟨by rfl, ?_⟩) hHeld ?_
    · intro wq hSw
      try dsimp only at hSw
      go_simp
    try simp only [Act.put, List.getElem_toArray, List.getElem_cons_succ, List.getElem_cons_zero, List.setIfInBounds_toArray, List.set_cons_zero, List.set_cons_succ]
    have F1 := hide (any_two k0 rA rB (by omega) (by omega))
    have G1 := hide (two_cells (v1 := .slice aA zA.length eA) (v2 := .slice aB zB.length eB) c1 c2)
    have hne1 : ¬ w.heap.size = w.heap.size + 1 := by omega
    refine wpAnyH_ready (rs := [2]) (by kernel_rfl) (by simp) ?_
    refine AllReadyH.cons rfl (fun KK hK => ?_) AllReadyH.nil
    simp only [List.getElem_toArray, List.getElem_cons_succ, List.getElem_cons_zero]
    rw [if_pos (by rfl)]
    go_simp
    clear hHeld
    refine hK.out _ _ ?_ (fun hHeld => ?_)
    · exact ⟨cell_aside _ (by dsimp only; omega) cA, cell_aside _ (by dsimp only; omega) cB⟩
    clear hK KK
    try simp only [Act.put, List.getElem_toArray, List.getElem_cons_succ, List.getElem_cons_zero, List.setIfInBounds_toArray, List.set_cons_zero, List.set_cons_succ]
    refine wpAnyH_ready (rs := [3]) (by kernel_rfl) (by simp) ?_
    refine AllReadyH.cons rfl (fun KK hK => ?_) AllReadyH.nil
    simp only [List.getElem_toArray, List.getElem_cons_succ, List.getElem_cons_zero]
    rw [if_pos (by rfl)]
    go_simp
    clear hHeld
    refine hK.out _ _ ?_ (fun hHeld => ?_)
    · exact ⟨cell_aside _ (by dsimp only; omega) (cell_aside _ (by dsimp only; omega) cA), cell_aside _ (by dsimp only; omega) (cell_aside _ (by dsimp only; omega) cB)⟩
    clear hK KK
    try simp only [Act.put, List.getElem_toArray, List.getElem_cons_succ, List.getElem_cons_zero, List.setIfInBounds_toArray, List.set_cons_zero, List.set_cons_succ]
    refine wpAnyH_done (by kernel_rfl) ?_ _
    clear hHeld
    have g1 := (unhide G1).1
    have g2 := (unhide G1).2
    clear rA rB r9 c1 f1 c2 f2 k0
    go_wp2_with fail
    exact bodyPost_ret (v := .tuple #[.agg #[.slice aA zA.length eA], .agg #[.slice aB zB.length eB]]) (by simp [results, Try.results33, go_sem, g1, g2]) rfl ⟨_, _, rfl, unhide F1⟩
  · go_wp2_with fail
    generalize w9.alloc (.cells #[.slice a9 z9.length e9] 26) = w10 at *
    have kd := (Kept.refl 0 0 w10).drew
    replace f1 := kd.loose0 (World.block_lt_of_cell? _ _ c1) f1
    replace c1 := kd.cell0 c1
    replace f2 := kd.loose0 (World.block_lt_of_cell? _ _ c2) f2
    replace c2 := kd.cell0 c2
    replace cA := kd.cell0 cA
    replace cB := kd.cell0 cB
    replace c9 := kd.cell0 c9
    replace rA := rA.kept kd (by omega)
    replace rB := rB.kept kd (by omega)
    replace r9 := r9.kept kd (by omega)
    replace k0 := k0.trans kd
    clear kd
    refine wp_region_held_drew (S := (fun w' => w'.cell? ⟨w9.heap.size, 0, none⟩ = some (.slice a9 z9.length e9) ∧ w'.cell? ⟨Bb, 0, none⟩ = some (.slice aB zB.length eB))) (by kernel_rfl) ?_ (fun hHeld => ?_)
    · exact ⟨c9, cB⟩
    generalize w10.drew = wd at *
    refine wpAnyH_take (i := 0) (oi := _) (v := .agg #[.slice a9 z9.length e9]) rfl (by kernel_rfl) (by kernel_rfl) (by kernel_rfl) (fun _ _ _ h => h) (Or.inl ⟨by rfl, ?_⟩) hHeld ?_
    · intro wq hSw
      try dsimp only at hSw
      go_simp
    try simp only [Act.put, List.getElem_toArray, List.getElem_cons_succ, List.getElem_cons_zero, List.setIfInBounds_toArray, List.set_cons_zero, List.set_cons_succ]
    refine wpAnyH_take (i := 1) (oi := _) (v := .agg #[.slice aB zB.length eB]) rfl (by kernel_rfl) (by kernel_rfl) (by kernel_rfl) (fun _ _ _ h => h) (Or.inl ⟨by rfl, ?_⟩) hHeld ?_
    · intro wq hSw
      try dsimp only at hSw
      go_simp
    try simp only [Act.put, List.getElem_toArray, List.getElem_cons_succ, List.getElem_cons_zero, List.setIfInBounds_toArray, List.set_cons_zero, List.set_cons_succ]
    have F1 := hide (any_two k0 r9 rB (by omega) (by omega))
    have G1 := hide (two_cells (v1 := .slice a9 z9.length e9) (v2 := .slice aB zB.length eB) c1 c2)
    have hne1 : ¬ w.heap.size = w.heap.size + 1 := by omega
    refine wpAnyH_ready (rs := [2]) (by kernel_rfl) (by simp) ?_
    refine AllReadyH.cons rfl (fun KK hK => ?_) AllReadyH.nil
    simp only [List.getElem_toArray, List.getElem_cons_succ, List.getElem_cons_zero]
    rw [if_pos (by rfl)]
    go_simp
    clear hHeld
    refine hK.out _ _ ?_ (fun hHeld => ?_)
    · exact ⟨cell_aside _ (by dsimp only; omega) c9, cell_aside _ (by dsimp only; omega) cB⟩
    clear hK KK
    try simp only [Act.put, List.getElem_toArray, List.getElem_cons_succ, List.getElem_cons_zero, List.setIfInBounds_toArray, List.set_cons_zero, List.set_cons_succ]
    refine wpAnyH_ready (rs := [3]) (by kernel_rfl) (by simp) ?_
    refine AllReadyH.cons rfl (fun KK hK => ?_) AllReadyH.nil
    simp only [List.getElem_toArray, List.getElem_cons_succ, List.getElem_cons_zero]
    rw [if_pos (by rfl)]
    go_simp
    clear hHeld
    refine hK.out _ _ ?_ (fun hHeld => ?_)
    · exact ⟨cell_aside _ (by dsimp only; omega) (cell_aside _ (by dsimp only; omega) c9), cell_aside _ (by dsimp only; omega) (cell_aside _ (by dsimp only; omega) cB)⟩
    clear hK KK
    try simp only [Act.put, List.getElem_toArray, List.getElem_cons_succ, List.getElem_cons_zero, List.setIfInBounds_toArray, List.set_cons_zero, List.set_cons_succ]
    refine wpAnyH_done (by kernel_rfl) ?_ _
    clear hHeld
    have g1 := (unhide G1).1
    have g2 := (unhide G1).2
    clear rA rB r9 c1 f1 c2 f2 k0
    go_wp2_with fail
    exact bodyPost_ret (v := .tuple #[.agg #[.slice a9 z9.length e9], .agg #[.slice aB zB.length eB]]) (by simp [results, Try.results33, go_sem, g1, g2]) rfl ⟨_, _, rfl, unhide F1⟩

end Go.Proofs.Ytdhponfpikclhaa

namespace Go.Proofs.Ytdhponfpikclhaa
open Go.RowKit
set_option linter.unusedVariables false
set_option maxRecDepth 8000
set_option linter.unusedSimpArgs false

set_option maxHeartbeats 4000000 in
theorem drawAdd_any {bw : Bool} {lo hi : Nat} {v : Value} {bs : List Int} (w : World) (r : Row .u8 bw lo hi w v bs) (b : Bytes bs) :
    Calls Try.prog 25 #[v] w fun e w' => ∃ v1 v2, e = .returned (.tuple #[.agg #[v1], .agg #[v2]]) ∧ AnyN w w' v1 ∧ AnyN w w' v2 ∧ Kept 0 0 w w' := by
  have k0 := ((Kept.refl 0 0 w).alloc (.cells #[.slice none 0 0] 26)).alloc (.cells #[.slice none 0 0] 26)
  have q := r.kept k0 (by omega)
  have c1 : ((w.alloc (.cells #[.slice none 0 0] 26)).alloc (.cells #[.slice none 0 0] 26)).cell? ⟨w.heap.size, 0, none⟩ = some (.slice none 0 0) := old_cell _ (new_cell_at _ _ _ _ rfl)
  have f1 : ((w.alloc (.cells #[.slice none 0 0] 26)).alloc (.cells #[.slice none 0 0] 26)).frozen? ⟨w.heap.size, 0, none⟩ = false := loose_old (by simp) (new_loose _ _ _ _ rfl)
  have c2 : ((w.alloc (.cells #[.slice none 0 0] 26)).alloc (.cells #[.slice none 0 0] 26)).cell? ⟨w.heap.size + 1, 0, none⟩ = some (.slice none 0 0) := new_cell_at _ _ _ _ (by simp)
  have f2 : ((w.alloc (.cells #[.slice none 0 0] 26)).alloc (.cells #[.slice none 0 0] 26)).frozen? ⟨w.heap.size + 1, 0, none⟩ = false := new_loose _ _ _ _ (by simp)
  have hs : ((w.alloc (.cells #[.slice none 0 0] 26)).alloc (.cells #[.slice none 0 0] 26)).heap.size = w.heap.size + 2 := by simp
  obtain ⟨a0, d0, rfl⟩ := Row.form' r
  clear r
  go_enter Try.func25, Try.ntmps25
  go_wp2_with fail
  generalize (w.alloc (.cells #[.slice none 0 0] 26)).alloc (.cells #[.slice none 0 0] 26) = W at *
  refine (drawCmp_any _ q b).mono ?_
  rintro e w5 ⟨v1, v2, rfl, ⟨zs, ra⟩, ⟨zs5, rb⟩, k5⟩
  obtain ⟨a2, e2, ev⟩ := Row.form' ra
  subst ev
  obtain ⟨a5, e5, ev⟩ := Row.form' rb
  subst ev
  have f15 := k5.loose0 (World.block_lt_of_cell? _ _ c1) f1
  have f25 := k5.loose0 (World.block_lt_of_cell? _ _ c2) f2
  have c15 := k5.cell0 c1
  have c25 := k5.cell0 c2
  have F1 := hide (any_two (k0.trans k5) ra rb (Nat.le_of_eq hs.symm) (Nat.le_of_eq hs.symm))
  have G1 := hide (two_cells (v1 := .slice a2 zs.length e2) (v2 := .slice a5 zs5.length e5) c15 c25)
  clear k0 k5 ra rb q c1 c2 f1 f2 hs
  go_wp2_with fail
  have g1 := (unhide G1).1
  have g2 := (unhide G1).2
  exact bodyPost_ret (v := .tuple #[.agg #[.slice a2 zs.length e2], .agg #[.slice a5 zs5.length e5]]) (by simp [results, Try.results25, go_sem, g1, g2]) rfl ⟨_, _, rfl, unhide F1⟩

theorem nats_small : ansB (okB (limbs (2 : Int).toNat) && okB (limbs (3 : Int).toNat)) (val (limbs (2 : Int).toNat) + val (limbs (3 : Int).toNat)).toNat = true ∧ ansL (okB (limbs (2 : Int).toNat) && okB (limbs (3 : Int).toNat)) (val (limbs (2 : Int).toNat) + val (limbs (3 : Int).toNat)).toNat = limbs (5 : Int).toNat := by
  have h : (okB (limbs (2 : Int).toNat) && okB (limbs (3 : Int).toNat)) = true := by decide
  rw [ansB_yes h, ansL_yes h, limbs_val, limbs_val]
  exact ⟨by decide, by decide⟩

set_option maxHeartbeats 4000000 in
theorem nats_any (w : World) : Calls Try.prog 24 #[] w fun e w' => e = .returned (.bool true) ∧ Kept 0 0 w w' := by
  go_enter Try.func24, Try.ntmps24
  go_wp2_with fail
  refine (nat_any _ 2 (by decide)).mono ?_
  rintro e w1 ⟨v1, rfl, r1, k1⟩
  go_wp2_with fail
  refine (nat_any _ 3 (by decide)).mono ?_
  rintro e w2 ⟨v2, rfl, r2, k2⟩
  replace r1 := r1.kept k2 (by omega)
  go_wp2_with fail
  refine (natAdd_impl _ r1 r2).mono ?_
  rintro e w3 ⟨v3, rfl, r3, k3⟩
  rw [nats_small.1]
  rw [nats_small.2] at r3
  generalize hL5 : limbs (5 : Int).toNat = L5 at r3
  have HL5 := hide hL5
  clear hL5 r1 r2
  obtain ⟨a3, d3, ev⟩ := Row.form' r3
  subst ev
  have kA := (Kept.refl 0 0 w3).alloc (.cells #[.slice a3 L5.length d3] 26)
  have cQ : (w3.alloc (.cells #[.slice a3 L5.length d3] 26)).cell? ⟨w3.heap.size, 0, none⟩ = some (.slice a3 L5.length d3) := new_cell_at _ _ _ _ rfl
  replace r3 := r3.kept kA (by omega)
  have K := hide (((k1.trans k2).trans k3).trans kA)
  clear k1 k2 k3 kA
  go_wp2_with fail
  generalize w3.alloc (.cells #[.slice a3 L5.length d3] 26) = W9 at *
  generalize w3.heap.size = gQ at *
  go_region_held3 (fun w' => w'.cell? ⟨gQ, 0, none⟩ = some (.slice a3 L5.length d3)) (first | exact cQ | exact k91.cell0 cQ | exact k92.cell0 (k91.cell0 cQ))
    ((first
      | (go_at_call 38
         refine (nat_any _ 5 (by decide)).mono ?_
         rintro e w91 ⟨v8, rfl, r8, k91⟩
         rw [unhide HL5] at r8)
      | (go_at_call 29
         refine (sameNat_any _ (r3.kept ((Kept.refl 0 0 _).drew.trans k91) (Or.inr (Or.inr (Nat.le_refl _)))) r8).mono ?_
         rintro e w92 ⟨rfl, k92⟩)))
  have KF := hide ((unhide K).trans ((Kept.refl 0 0 W9).drew.trans (k91.trans k92)))
  rw [show sameL L5 L5 = true from decide_eq_true rfl]
  go_wp2_with fail
  go_ret
  exact ⟨rfl, unhide KF⟩

end Go.Proofs.Ytdhponfpikclhaa

namespace Go.Proofs.Ytdhponfpikclhaa
open Go.RowKit
set_option linter.unusedVariables false
set_option maxRecDepth 8000
set_option linter.unusedSimpArgs false

theorem in_limbsOf : ∀ (w : World) (args : Array Value), (callFunc 87 args).run Try.prog w = .ok (.enter 87 args) w := enters Try.func87 (by decide) (fun h => by cases h)

set_option maxHeartbeats 8000000 in
theorem natDiv_impl {b1 b2 : Bool} {l1 h1 l2 h2 : Nat} {v1 v2 : Value} {xs ys : List Int} (w : World) (r1 : Row .i64 b1 l1 h1 w v1 xs) (r2 : Row .i64 b2 l2 h2 w v2 ys) :
    Calls Try.prog 34 #[.agg #[v1], .agg #[v2]] w fun e w' => ∃ vq vr m, e = .returned (.tuple #[.agg #[vq], .agg #[vr], .bool (divB xs ys)]) ∧ Row .i64 true w.heap.size m w' vq (divQ xs ys) ∧ Row .i64 true m w'.heap.size w' vr (divR xs ys) ∧ w.heap.size ≤ m ∧ m ≤ w'.heap.size ∧ Kept 0 0 w w' := by
  have k0 : Kept 0 0 w ((((w.alloc (.cells #[v1] 26)).alloc (.cells #[v2] 26)).alloc (.cells #[.slice none 0 0] 26)).alloc (.cells #[.slice none 0 0] 26)) := (((((Kept.refl 0 0 w).alloc (.cells #[v1] 26)).alloc (.cells #[v2] 26)).alloc (.cells #[.slice none 0 0] 26)).alloc (.cells #[.slice none 0 0] 26))
  have p0 : ((((w.alloc (.cells #[v1] 26)).alloc (.cells #[v2] 26)).alloc (.cells #[.slice none 0 0] 26)).alloc (.cells #[.slice none 0 0] 26)).cell? ⟨w.heap.size, 0, none⟩ = some (v1) := old_cell _ (old_cell _ (old_cell _ (new_cell2 _ _ _ _ _ _ (by simp) rfl)))
  have t0 : ((((w.alloc (.cells #[v1] 26)).alloc (.cells #[v2] 26)).alloc (.cells #[.slice none 0 0] 26)).alloc (.cells #[.slice none 0 0] 26)).cell? ⟨w.heap.size + 1, 0, none⟩ = some (v2) := old_cell _ (old_cell _ (new_cell2 _ _ _ _ _ _ (by simp) rfl))
  have q0 : ((((w.alloc (.cells #[v1] 26)).alloc (.cells #[v2] 26)).alloc (.cells #[.slice none 0 0] 26)).alloc (.cells #[.slice none 0 0] 26)).cell? ⟨w.heap.size + 2, 0, none⟩ = some (.slice none 0 0) := old_cell _ (new_cell2 _ _ _ _ _ _ (by simp) rfl)
  have qf0 : ((((w.alloc (.cells #[v1] 26)).alloc (.cells #[v2] 26)).alloc (.cells #[.slice none 0 0] 26)).alloc (.cells #[.slice none 0 0] 26)).frozen? ⟨w.heap.size + 2, 0, none⟩ = false := loose_old (by simp <;> omega) (new_loose2 _ _ _ _ _ (by simp))
  have y0 : ((((w.alloc (.cells #[v1] 26)).alloc (.cells #[v2] 26)).alloc (.cells #[.slice none 0 0] 26)).alloc (.cells #[.slice none 0 0] 26)).cell? ⟨w.heap.size + 3, 0, none⟩ = some (.slice none 0 0) := new_cell2 _ _ _ _ _ _ (by simp) rfl
  have yf0 : ((((w.alloc (.cells #[v1] 26)).alloc (.cells #[v2] 26)).alloc (.cells #[.slice none 0 0] 26)).alloc (.cells #[.slice none 0 0] 26)).frozen? ⟨w.heap.size + 3, 0, none⟩ = false := new_loose2 _ _ _ _ _ (by simp)
  replace r1 := r1.kept k0 (by omega)
  replace r2 := r2.kept k0 (by omega)
  have s0 : ((((w.alloc (.cells #[v1] 26)).alloc (.cells #[v2] 26)).alloc (.cells #[.slice none 0 0] 26)).alloc (.cells #[.slice none 0 0] 26)).heap.size = w.heap.size + 4 := by simp
  obtain ⟨a1, c1, hv⟩ := Row.form' r1
  subst hv
  obtain ⟨a2, c2, hv⟩ := Row.form' r2
  subst hv
  have K := hide (k0)
  clear k0
  have S0 := hide s0
  clear s0
  go_enter Try.func34, Try.ntmps34
  go_wp2_with fail
  generalize ((((w.alloc (.cells #[.slice a1 xs.length c1] 26)).alloc (.cells #[.slice a2 ys.length c2] 26)).alloc (.cells #[.slice none 0 0] 26)).alloc (.cells #[.slice none 0 0] 26)) = W at *
  refine (ok_impl _ r1).mono ?_
  rintro e w1 ⟨rfl, k1⟩
  replace r1 := r1.kept k1 (by omega)
  replace r2 := r2.kept k1 (by omega)
  replace qf0 := k1.loose0 (World.block_lt_of_cell? _ _ q0) qf0
  replace yf0 := k1.loose0 (World.block_lt_of_cell? _ _ y0) yf0
  replace p0 := k1.cell0 p0
  replace t0 := k1.cell0 t0
  replace q0 := k1.cell0 q0
  replace y0 := k1.cell0 y0
  replace K := hide ((unhide K).trans k1)
  have z2 := k1.size
  clear k1
  cases ho1 : okB xs
  · have HO := hide ho1
    clear ho1
    have e0 : Hid (divB xs ys = false) := by show _ = _; unfold divB; simp [unhide HO]
    have K' := hide (((unhide K).setNew (p := ⟨w.heap.size + 2, 0, none⟩) (by simp) (.slice none 0 0)).setNew (p := ⟨w.heap.size + 3, 0, none⟩) (by simp) (.slice none 0 0))
    clear r1 r2 K
    go_wp2_with fail
    exact bodyPost_ret (v := .tuple #[.agg #[.slice none 0 0], .agg #[.slice none 0 0], .bool false]) (by simp [results, Try.results34, go_sem, q0, y0]) rfl ⟨_, _, w.heap.size, by rw [unhide e0], by rw [divQ_no (unhide e0)]; exact Row.nil _ _ _ _ _, by rw [divR_no (unhide e0)]; exact Row.nil _ _ _ _ _, Nat.le_refl _, (unhide K').size, unhide K'⟩
  have HO1 := hide ho1
  clear ho1
  go_wp2_with fail
  refine (ok_impl _ r2).mono ?_
  rintro e w3 ⟨rfl, k3⟩
  replace r1 := r1.kept k3 (by omega)
  replace r2 := r2.kept k3 (by omega)
  replace qf0 := k3.loose0 (World.block_lt_of_cell? _ _ q0) qf0
  replace yf0 := k3.loose0 (World.block_lt_of_cell? _ _ y0) yf0
  replace p0 := k3.cell0 p0
  replace t0 := k3.cell0 t0
  replace q0 := k3.cell0 q0
  replace y0 := k3.cell0 y0
  replace K := hide ((unhide K).trans k3)
  have z4 := k3.size
  clear k3
  cases ho2 : okB ys
  · have HO := hide ho2
    clear ho2
    have e0 : Hid (divB xs ys = false) := by show _ = _; unfold divB; simp [unhide HO]
    have K' := hide (((unhide K).setNew (p := ⟨w.heap.size + 2, 0, none⟩) (by simp) (.slice none 0 0)).setNew (p := ⟨w.heap.size + 3, 0, none⟩) (by simp) (.slice none 0 0))
    clear r1 r2 K
    go_wp2_with fail
    exact bodyPost_ret (v := .tuple #[.agg #[.slice none 0 0], .agg #[.slice none 0 0], .bool false]) (by simp [results, Try.results34, go_sem, q0, y0]) rfl ⟨_, _, w.heap.size, by rw [unhide e0], by rw [divQ_no (unhide e0)]; exact Row.nil _ _ _ _ _, by rw [divR_no (unhide e0)]; exact Row.nil _ _ _ _ _, Nat.le_refl _, (unhide K').size, unhide K'⟩
  have HO2 := hide ho2
  clear ho2
  by_cases hl0 : ys.length = 0
  · have HO := hide hl0
    have hl1 : ((ys.length : Int) == 0) = true := by simp [hl0]
    clear hl0
    have e0 : Hid (divB xs ys = false) := by show _ = _; unfold divB; simp [unhide HO]
    have K' := hide (((unhide K).setNew (p := ⟨w.heap.size + 2, 0, none⟩) (by simp) (.slice none 0 0)).setNew (p := ⟨w.heap.size + 3, 0, none⟩) (by simp) (.slice none 0 0))
    clear r1 r2 K
    go_wp2_with fail
    exact bodyPost_ret (v := .tuple #[.agg #[.slice none 0 0], .agg #[.slice none 0 0], .bool false]) (by simp [results, Try.results34, go_sem, q0, y0]) rfl ⟨_, _, w.heap.size, by rw [unhide e0], by rw [divQ_no (unhide e0)]; exact Row.nil _ _ _ _ _, by rw [divR_no (unhide e0)]; exact Row.nil _ _ _ _ _, Nat.le_refl _, (unhide K').size, unhide K'⟩
  have hl1 : ((ys.length : Int) == 0) = false := beq_eq_false_iff_ne.2 (by omega)
  have hyp := div_pos (unhide HO2) (by omega)
  obtain ⟨lx, hx⟩ := (okB_iff xs).1 (unhide HO1)
  obtain ⟨ly, hy⟩ := (okB_iff ys).1 (unhide HO2)
  have eB : divB xs ys = true := by unfold divB; rw [unhide HO1, unhide HO2, decide_eq_true (show 0 < ys.length by omega)]; rfl
  have EB := hide eB
  obtain ⟨zq, hzq⟩ : ∃ z, divQ xs ys = z := ⟨_, rfl⟩
  obtain ⟨zr, hzr⟩ : ∃ z, divR xs ys = z := ⟨_, rfl⟩
  have lq := divQ_len xs ys
  have lr := divR_len xs ys
  rw [hzq] at lq
  rw [hzr] at lr
  have EQ : Hid (limbs (val xs / val ys).toNat = zq) := by show _ = _; rw [← hzq, divQ_yes eB]
  have ER : Hid (limbs (val xs % val ys).toNat = zr) := by show _ = _; rw [← hzr, divR_yes eB]
  have HZQ := hide hzq
  have HZR := hide hzr
  clear eB hzq hzr
  have mx : xs.length ≤ 1000000 := by omega
  have my : ys.length ≤ 1000000 := by omega
  go_upto_region 3 with fail
  go_cut [7, 8] (fun p q wx => ∃ X Y u1 u2, p = .pointer (some ⟨X, 0, none⟩) ∧ q = .pointer (some ⟨Y, 0, none⟩) ∧ Two w3 wx X Y u1 u2 xs ys)
  case first =>
    have kw := Kept.refl 0 0 w3
    have kd := (Kept.refl 0 0 w3).drew
    replace r1 := r1.kept kd (by omega)
    replace r2 := r2.kept kd (by omega)
    replace kw := kw.trans kd
    replace qf0 := kd.loose0 (World.block_lt_of_cell? _ _ q0) qf0
    replace yf0 := kd.loose0 (World.block_lt_of_cell? _ _ y0) yf0
    replace p0 := kd.cell0 p0
    replace t0 := kd.cell0 t0
    replace q0 := kd.cell0 q0
    replace y0 := kd.cell0 y0
    replace K := hide ((unhide K).trans kd)
    have z5 := kd.size
    clear kd
    refine wp_region_held_drew (S := (fun w' => w'.cell? ⟨w.heap.size, 0, none⟩ = some (.slice a1 xs.length c1) ∧ w'.cell? ⟨w.heap.size + 1, 0, none⟩ = some (.slice a2 ys.length c2))) (by kernel_rfl) ?_ (fun hHeld => ?_)
    · exact ⟨p0, t0⟩
    generalize w3.drew = wd at *
    refine wpAnyH_take (i := 0) (oi := _) (v := .agg #[.slice a1 xs.length c1]) rfl (by kernel_rfl) (by kernel_rfl) (by kernel_rfl) (fun _ _ _ h => h) (Or.inl ⟨by rfl, ?_⟩) hHeld ?_
    · intro wq hSw
      try dsimp only at hSw
      go_simp
    try simp only [Act.put, List.getElem_toArray, List.getElem_cons_succ, List.getElem_cons_zero, List.setIfInBounds_toArray, List.set_cons_zero, List.set_cons_succ]
    refine wpAnyH_take (i := 2) (oi := _) (v := .agg #[.slice a2 ys.length c2]) rfl (by kernel_rfl) (by kernel_rfl) (by kernel_rfl) (fun _ _ _ h => h) (Or.inl ⟨by rfl, ?_⟩) hHeld ?_
    · intro wq hSw
      try dsimp only at hSw
      go_simp
    try simp only [Act.put, List.getElem_toArray, List.getElem_cons_succ, List.getElem_cons_zero, List.setIfInBounds_toArray, List.set_cons_zero, List.set_cons_succ]
    refine wpAnyH_ready (rs := [1, 4, 5]) (by kernel_rfl) (by simp) ?_
    refine AllReadyH.cons rfl (fun KK hK => ?_) (AllReadyH.cons rfl (fun KK hK => ?_) (AllReadyH.cons rfl (fun KK hK => ?_) AllReadyH.nil))
    · simp only [List.getElem_toArray, List.getElem_cons_succ, List.getElem_cons_zero]
      rw [if_pos (by rfl)]
      refine wps1 87 (.tmp 30) _ rfl in_limbsOf (.agg #[.slice a1 xs.length c1]) rfl (limbsOf_impl _ r1 mx) ?_
      rintro e w6 ⟨v3, rfl, o3, k6⟩
      refine ⟨_, rfl, ?_⟩
      replace r1 := r1.kept k6 (by omega)
      replace r2 := r2.kept k6 (by omega)
      replace kw := kw.trans k6
      replace qf0 := k6.loose0 (World.block_lt_of_cell? _ _ q0) qf0
      replace yf0 := k6.loose0 (World.block_lt_of_cell? _ _ y0) yf0
      replace p0 := k6.cell0 p0
      replace t0 := k6.cell0 t0
      replace q0 := k6.cell0 q0
      replace y0 := k6.cell0 y0
      replace K := hide ((unhide K).trans k6)
      have z7 := k6.size
      clear k6
      have l3 := o3.lt
      obtain ⟨a3, c3, hv⟩ := own_slice o3
      subst hv
      clear hHeld
      refine hK.out _ _ ?_ (fun hHeld => ?_)
      · exact ⟨p0, t0⟩
      clear hK KK
      try simp only [Act.put, List.getElem_toArray, List.getElem_cons_succ, List.getElem_cons_zero, List.setIfInBounds_toArray, List.set_cons_zero, List.set_cons_succ]
      refine wpAnyH_ready (rs := [3, 4, 5]) (by kernel_rfl) (by simp) ?_
      refine AllReadyH.cons rfl (fun KK hK => ?_) (AllReadyH.cons rfl (fun KK hK => ?_) (AllReadyH.cons rfl (fun KK hK => ?_) AllReadyH.nil))
      · simp only [List.getElem_toArray, List.getElem_cons_succ, List.getElem_cons_zero]
        rw [if_pos (by rfl)]
        refine wps1 87 (.tmp 32) _ rfl in_limbsOf (.agg #[.slice a2 ys.length c2]) rfl (limbsOf_impl _ r2 my) ?_
        rintro e w8 ⟨v4, rfl, o4, k8⟩
        refine ⟨_, rfl, ?_⟩
        replace r1 := r1.kept k8 (by omega)
        replace r2 := r2.kept k8 (by omega)
        replace kw := kw.trans k8
        replace o3 := own_kept o3 k8
        replace qf0 := k8.loose0 (World.block_lt_of_cell? _ _ q0) qf0
        replace yf0 := k8.loose0 (World.block_lt_of_cell? _ _ y0) yf0
        replace p0 := k8.cell0 p0
        replace t0 := k8.cell0 t0
        replace q0 := k8.cell0 q0
        replace y0 := k8.cell0 y0
        replace K := hide ((unhide K).trans k8)
        have z9 := k8.size
        clear k8
        have l4 := o4.lt
        obtain ⟨a4, c4, hv⟩ := own_slice o4
        subst hv
        clear hHeld
        refine hK.out _ _ ?_ (fun hHeld => ?_)
        · exact ⟨p0, t0⟩
        clear hK KK
        try simp only [Act.put, List.getElem_toArray, List.getElem_cons_succ, List.getElem_cons_zero, List.setIfInBounds_toArray, List.set_cons_zero, List.set_cons_succ]
        refine wpAnyH_ready (rs := [4, 5]) (by kernel_rfl) (by simp) ?_
        refine AllReadyH.cons rfl (fun KK hK => ?_) (AllReadyH.cons rfl (fun KK hK => ?_) AllReadyH.nil)
        · simp only [List.getElem_toArray, List.getElem_cons_succ, List.getElem_cons_zero]
          rw [if_pos (by rfl)]
          go_simp
          have kn := (Kept.refl 0 0 w8).alloc (.cells #[.slice none 0 0] 76)
          replace r1 := r1.kept kn (by omega)
          replace r2 := r2.kept kn (by omega)
          replace kw := kw.trans kn
          replace o3 := own_kept o3 kn
          replace o4 := own_kept o4 kn
          replace qf0 := kn.loose0 (World.block_lt_of_cell? _ _ q0) qf0
          replace yf0 := kn.loose0 (World.block_lt_of_cell? _ _ y0) yf0
          replace p0 := kn.cell0 p0
          replace t0 := kn.cell0 t0
          replace q0 := kn.cell0 q0
          replace y0 := kn.cell0 y0
          replace K := hide ((unhide K).trans kn)
          have z11 := kn.size
          clear kn
          have szx : w8.heap.size < (w8.alloc (.cells #[.slice none 0 0] 76)).heap.size := by simp
          have x0 : (w8.alloc (.cells #[.slice none 0 0] 76)).cell? ⟨w8.heap.size, 0, none⟩ = some (.slice none 0 0) := new_cell2 _ _ _ _ _ _ rfl rfl
          have xf0 : (w8.alloc (.cells #[.slice none 0 0] 76)).frozen? ⟨w8.heap.size, 0, none⟩ = false := new_loose2 _ _ _ _ _ rfl
          clear hHeld
          refine hK.out _ _ ?_ (fun hHeld => ?_)
          · exact ⟨p0, t0⟩
          clear hK KK
          try simp only [Act.put, List.getElem_toArray, List.getElem_cons_succ, List.getElem_cons_zero, List.setIfInBounds_toArray, List.set_cons_zero, List.set_cons_succ]
          generalize w8.alloc (.cells #[.slice none 0 0] 76) = w10 at *
          refine wpAnyH_ready (rs := [5]) (by kernel_rfl) (by simp) ?_
          refine AllReadyH.cons rfl (fun KK hK => ?_) AllReadyH.nil
          · simp only [List.getElem_toArray, List.getElem_cons_succ, List.getElem_cons_zero]
            rw [if_pos (by rfl)]
            go_simp
            have kn := (Kept.refl 0 0 w10).alloc (.cells #[.slice none 0 0] 76)
            replace r1 := r1.kept kn (by omega)
            replace r2 := r2.kept kn (by omega)
            replace kw := kw.trans kn
            replace o3 := own_kept o3 kn
            replace o4 := own_kept o4 kn
            replace qf0 := kn.loose0 (World.block_lt_of_cell? _ _ q0) qf0
            replace yf0 := kn.loose0 (World.block_lt_of_cell? _ _ y0) yf0
            replace xf0 := kn.loose0 (World.block_lt_of_cell? _ _ x0) xf0
            replace p0 := kn.cell0 p0
            replace t0 := kn.cell0 t0
            replace q0 := kn.cell0 q0
            replace y0 := kn.cell0 y0
            replace x0 := kn.cell0 x0
            replace K := hide ((unhide K).trans kn)
            have z13 := kn.size
            clear kn
            have szn : w10.heap.size < (w10.alloc (.cells #[.slice none 0 0] 76)).heap.size := by simp
            have n0 : (w10.alloc (.cells #[.slice none 0 0] 76)).cell? ⟨w10.heap.size, 0, none⟩ = some (.slice none 0 0) := new_cell2 _ _ _ _ _ _ rfl rfl
            have nf0 : (w10.alloc (.cells #[.slice none 0 0] 76)).frozen? ⟨w10.heap.size, 0, none⟩ = false := new_loose2 _ _ _ _ _ rfl
            clear hHeld
            refine hK.out _ _ ?_ (fun hHeld => ?_)
            · exact ⟨p0, t0⟩
            clear hK KK
            try simp only [Act.put, List.getElem_toArray, List.getElem_cons_succ, List.getElem_cons_zero, List.setIfInBounds_toArray, List.set_cons_zero, List.set_cons_succ]
            generalize w10.alloc (.cells #[.slice none 0 0] 76) = w12 at *
            refine wpAnyH_ready (rs := [6]) (by kernel_rfl) (by simp) ?_
            refine AllReadyH.cons rfl (fun KK hK => ?_) AllReadyH.nil
            simp only [List.getElem_toArray, List.getElem_cons_succ, List.getElem_cons_zero]
            rw [if_pos (by rfl)]
            go_simp
            clear hHeld
            refine hK.out _ _ ?_ (fun hHeld => ?_)
            · exact ⟨(cell_aside _ (by have := unhide S0; dsimp only; omega) p0), (cell_aside _ (by have := unhide S0; dsimp only; omega) t0)⟩
            clear hK KK
            try simp only [Act.put, List.getElem_toArray, List.getElem_cons_succ, List.getElem_cons_zero, List.setIfInBounds_toArray, List.set_cons_zero, List.set_cons_succ]
            refine wpAnyH_ready (rs := [7]) (by kernel_rfl) (by simp) ?_
            refine AllReadyH.cons rfl (fun KK hK => ?_) AllReadyH.nil
            simp only [List.getElem_toArray, List.getElem_cons_succ, List.getElem_cons_zero]
            rw [if_pos (by rfl)]
            go_simp
            clear hHeld
            refine hK.out _ _ ?_ (fun hHeld => ?_)
            · exact ⟨(cell_aside _ (by have := unhide S0; dsimp only; omega) (cell_aside _ (by have := unhide S0; dsimp only; omega) p0)), (cell_aside _ (by have := unhide S0; dsimp only; omega) (cell_aside _ (by have := unhide S0; dsimp only; omega) t0))⟩
            clear hK KK
            try simp only [Act.put, List.getElem_toArray, List.getElem_cons_succ, List.getElem_cons_zero, List.setIfInBounds_toArray, List.set_cons_zero, List.set_cons_succ]
            refine wpAnyH_done (by kernel_rfl) ?_ _
            clear hHeld
            go_wp2_with fail
            go_meet
            exact ⟨_, _, _, _, rfl, rfl, two_set kw o3 o4 x0 xf0 n0 nf0 (by omega) (by omega) (by omega) (by omega) (by omega) (fun e => by have := l3 _ e; omega) (fun e => by have := l3 _ e; omega) (fun e => by have := l4 _ e; omega) (fun e => by have := l4 _ e; omega) (fun k e1 e2 => by have := l3 _ e1; have := l4 _ e2; omega)⟩
        · simp only [List.getElem_toArray, List.getElem_cons_succ, List.getElem_cons_zero]
          rw [if_pos (by rfl)]
          go_simp
          have kn := (Kept.refl 0 0 w8).alloc (.cells #[.slice none 0 0] 76)
          replace r1 := r1.kept kn (by omega)
          replace r2 := r2.kept kn (by omega)
          replace kw := kw.trans kn
          replace o3 := own_kept o3 kn
          replace o4 := own_kept o4 kn
          replace qf0 := kn.loose0 (World.block_lt_of_cell? _ _ q0) qf0
          replace yf0 := kn.loose0 (World.block_lt_of_cell? _ _ y0) yf0
          replace p0 := kn.cell0 p0
          replace t0 := kn.cell0 t0
          replace q0 := kn.cell0 q0
          replace y0 := kn.cell0 y0
          replace K := hide ((unhide K).trans kn)
          have z11 := kn.size
          clear kn
          have szn : w8.heap.size < (w8.alloc (.cells #[.slice none 0 0] 76)).heap.size := by simp
          have n0 : (w8.alloc (.cells #[.slice none 0 0] 76)).cell? ⟨w8.heap.size, 0, none⟩ = some (.slice none 0 0) := new_cell2 _ _ _ _ _ _ rfl rfl
          have nf0 : (w8.alloc (.cells #[.slice none 0 0] 76)).frozen? ⟨w8.heap.size, 0, none⟩ = false := new_loose2 _ _ _ _ _ rfl
          clear hHeld
          refine hK.out _ _ ?_ (fun hHeld => ?_)
          · exact ⟨p0, t0⟩
          clear hK KK
          try simp only [Act.put, List.getElem_toArray, List.getElem_cons_succ, List.getElem_cons_zero, List.setIfInBounds_toArray, List.set_cons_zero, List.set_cons_succ]
          generalize w8.alloc (.cells #[.slice none 0 0] 76) = w10 at *
          refine wpAnyH_ready (rs := [4]) (by kernel_rfl) (by simp) ?_
          refine AllReadyH.cons rfl (fun KK hK => ?_) AllReadyH.nil
          · simp only [List.getElem_toArray, List.getElem_cons_succ, List.getElem_cons_zero]
            rw [if_pos (by rfl)]
            go_simp
            have kn := (Kept.refl 0 0 w10).alloc (.cells #[.slice none 0 0] 76)
            replace r1 := r1.kept kn (by omega)
            replace r2 := r2.kept kn (by omega)
            replace kw := kw.trans kn
            replace o3 := own_kept o3 kn
            replace o4 := own_kept o4 kn
            replace qf0 := kn.loose0 (World.block_lt_of_cell? _ _ q0) qf0
            replace yf0 := kn.loose0 (World.block_lt_of_cell? _ _ y0) yf0
            replace nf0 := kn.loose0 (World.block_lt_of_cell? _ _ n0) nf0
            replace p0 := kn.cell0 p0
            replace t0 := kn.cell0 t0
            replace q0 := kn.cell0 q0
            replace y0 := kn.cell0 y0
            replace n0 := kn.cell0 n0
            replace K := hide ((unhide K).trans kn)
            have z13 := kn.size
            clear kn
            have szx : w10.heap.size < (w10.alloc (.cells #[.slice none 0 0] 76)).heap.size := by simp
            have x0 : (w10.alloc (.cells #[.slice none 0 0] 76)).cell? ⟨w10.heap.size, 0, none⟩ = some (.slice none 0 0) := new_cell2 _ _ _ _ _ _ rfl rfl
            have xf0 : (w10.alloc (.cells #[.slice none 0 0] 76)).frozen? ⟨w10.heap.size, 0, none⟩ = false := new_loose2 _ _ _ _ _ rfl
            clear hHeld
            refine hK.out _ _ ?_ (fun hHeld => ?_)
            · exact ⟨p0, t0⟩
            clear hK KK
            try simp only [Act.put, List.getElem_toArray, List.getElem_cons_succ, List.getElem_cons_zero, List.setIfInBounds_toArray, List.set_cons_zero, List.set_cons_succ]
            generalize w10.alloc (.cells #[.slice none 0 0] 76) = w12 at *
            refine wpAnyH_ready (rs := [6]) (by kernel_rfl) (by simp) ?_
            refine AllReadyH.cons rfl (fun KK hK => ?_) AllReadyH.nil
            simp only [List.getElem_toArray, List.getElem_cons_succ, List.getElem_cons_zero]
            rw [if_pos (by rfl)]
            go_simp
            clear hHeld
            refine hK.out _ _ ?_ (fun hHeld => ?_)
            · exact ⟨(cell_aside _ (by have := unhide S0; dsimp only; omega) p0), (cell_aside _ (by have := unhide S0; dsimp only; omega) t0)⟩
            clear hK KK
            try simp only [Act.put, List.getElem_toArray, List.getElem_cons_succ, List.getElem_cons_zero, List.setIfInBounds_toArray, List.set_cons_zero, List.set_cons_succ]
            refine wpAnyH_ready (rs := [7]) (by kernel_rfl) (by simp) ?_
            refine AllReadyH.cons rfl (fun KK hK => ?_) AllReadyH.nil
            simp only [List.getElem_toArray, List.getElem_cons_succ, List.getElem_cons_zero]
            rw [if_pos (by rfl)]
            go_simp
            clear hHeld
            refine hK.out _ _ ?_ (fun hHeld => ?_)
            · exact ⟨(cell_aside _ (by have := unhide S0; dsimp only; omega) (cell_aside _ (by have := unhide S0; dsimp only; omega) p0)), (cell_aside _ (by have := unhide S0; dsimp only; omega) (cell_aside _ (by have := unhide S0; dsimp only; omega) t0))⟩
            clear hK KK
            try simp only [Act.put, List.getElem_toArray, List.getElem_cons_succ, List.getElem_cons_zero, List.setIfInBounds_toArray, List.set_cons_zero, List.set_cons_succ]
            refine wpAnyH_done (by kernel_rfl) ?_ _
            clear hHeld
            go_wp2_with fail
            go_meet
            exact ⟨_, _, _, _, rfl, rfl, two_set kw o3 o4 x0 xf0 n0 nf0 (by omega) (by omega) (by omega) (by omega) (by omega) (fun e => by have := l3 _ e; omega) (fun e => by have := l3 _ e; omega) (fun e => by have := l4 _ e; omega) (fun e => by have := l4 _ e; omega) (fun k e1 e2 => by have := l3 _ e1; have := l4 _ e2; omega)⟩
      · simp only [List.getElem_toArray, List.getElem_cons_succ, List.getElem_cons_zero]
        rw [if_pos (by rfl)]
        go_simp
        have kn := (Kept.refl 0 0 w6).alloc (.cells #[.slice none 0 0] 76)
        replace r1 := r1.kept kn (by omega)
        replace r2 := r2.kept kn (by omega)
        replace kw := kw.trans kn
        replace o3 := own_kept o3 kn
        replace qf0 := kn.loose0 (World.block_lt_of_cell? _ _ q0) qf0
        replace yf0 := kn.loose0 (World.block_lt_of_cell? _ _ y0) yf0
        replace p0 := kn.cell0 p0
        replace t0 := kn.cell0 t0
        replace q0 := kn.cell0 q0
        replace y0 := kn.cell0 y0
        replace K := hide ((unhide K).trans kn)
        have z9 := kn.size
        clear kn
        have szx : w6.heap.size < (w6.alloc (.cells #[.slice none 0 0] 76)).heap.size := by simp
        have x0 : (w6.alloc (.cells #[.slice none 0 0] 76)).cell? ⟨w6.heap.size, 0, none⟩ = some (.slice none 0 0) := new_cell2 _ _ _ _ _ _ rfl rfl
        have xf0 : (w6.alloc (.cells #[.slice none 0 0] 76)).frozen? ⟨w6.heap.size, 0, none⟩ = false := new_loose2 _ _ _ _ _ rfl
        clear hHeld
        refine hK.out _ _ ?_ (fun hHeld => ?_)
        · exact ⟨p0, t0⟩
        clear hK KK
        try simp only [Act.put, List.getElem_toArray, List.getElem_cons_succ, List.getElem_cons_zero, List.setIfInBounds_toArray, List.set_cons_zero, List.set_cons_succ]
        generalize w6.alloc (.cells #[.slice none 0 0] 76) = w8 at *
        refine wpAnyH_ready (rs := [3, 5]) (by kernel_rfl) (by simp) ?_
        refine AllReadyH.cons rfl (fun KK hK => ?_) (AllReadyH.cons rfl (fun KK hK => ?_) AllReadyH.nil)
        · simp only [List.getElem_toArray, List.getElem_cons_succ, List.getElem_cons_zero]
          rw [if_pos (by rfl)]
          refine wps1 87 (.tmp 32) _ rfl in_limbsOf (.agg #[.slice a2 ys.length c2]) rfl (limbsOf_impl _ r2 my) ?_
          rintro e w10 ⟨v4, rfl, o4, k10⟩
          refine ⟨_, rfl, ?_⟩
          replace r1 := r1.kept k10 (by omega)
          replace r2 := r2.kept k10 (by omega)
          replace kw := kw.trans k10
          replace o3 := own_kept o3 k10
          replace qf0 := k10.loose0 (World.block_lt_of_cell? _ _ q0) qf0
          replace yf0 := k10.loose0 (World.block_lt_of_cell? _ _ y0) yf0
          replace xf0 := k10.loose0 (World.block_lt_of_cell? _ _ x0) xf0
          replace p0 := k10.cell0 p0
          replace t0 := k10.cell0 t0
          replace q0 := k10.cell0 q0
          replace y0 := k10.cell0 y0
          replace x0 := k10.cell0 x0
          replace K := hide ((unhide K).trans k10)
          have z11 := k10.size
          clear k10
          have l4 := o4.lt
          obtain ⟨a4, c4, hv⟩ := own_slice o4
          subst hv
          clear hHeld
          refine hK.out _ _ ?_ (fun hHeld => ?_)
          · exact ⟨p0, t0⟩
          clear hK KK
          try simp only [Act.put, List.getElem_toArray, List.getElem_cons_succ, List.getElem_cons_zero, List.setIfInBounds_toArray, List.set_cons_zero, List.set_cons_succ]
          refine wpAnyH_ready (rs := [5]) (by kernel_rfl) (by simp) ?_
          refine AllReadyH.cons rfl (fun KK hK => ?_) AllReadyH.nil
          · simp only [List.getElem_toArray, List.getElem_cons_succ, List.getElem_cons_zero]
            rw [if_pos (by rfl)]
            go_simp
            have kn := (Kept.refl 0 0 w10).alloc (.cells #[.slice none 0 0] 76)
            replace r1 := r1.kept kn (by omega)
            replace r2 := r2.kept kn (by omega)
            replace kw := kw.trans kn
            replace o3 := own_kept o3 kn
            replace o4 := own_kept o4 kn
            replace qf0 := kn.loose0 (World.block_lt_of_cell? _ _ q0) qf0
            replace yf0 := kn.loose0 (World.block_lt_of_cell? _ _ y0) yf0
            replace xf0 := kn.loose0 (World.block_lt_of_cell? _ _ x0) xf0
            replace p0 := kn.cell0 p0
            replace t0 := kn.cell0 t0
            replace q0 := kn.cell0 q0
            replace y0 := kn.cell0 y0
            replace x0 := kn.cell0 x0
            replace K := hide ((unhide K).trans kn)
            have z13 := kn.size
            clear kn
            have szn : w10.heap.size < (w10.alloc (.cells #[.slice none 0 0] 76)).heap.size := by simp
            have n0 : (w10.alloc (.cells #[.slice none 0 0] 76)).cell? ⟨w10.heap.size, 0, none⟩ = some (.slice none 0 0) := new_cell2 _ _ _ _ _ _ rfl rfl
            have nf0 : (w10.alloc (.cells #[.slice none 0 0] 76)).frozen? ⟨w10.heap.size, 0, none⟩ = false := new_loose2 _ _ _ _ _ rfl
            clear hHeld
            refine hK.out _ _ ?_ (fun hHeld => ?_)
            · exact ⟨p0, t0⟩
            clear hK KK
            try simp only [Act.put, List.getElem_toArray, List.getElem_cons_succ, List.getElem_cons_zero, List.setIfInBounds_toArray, List.set_cons_zero, List.set_cons_succ]
            generalize w10.alloc (.cells #[.slice none 0 0] 76) = w12 at *
            refine wpAnyH_ready (rs := [6]) (by kernel_rfl) (by simp) ?_
            refine AllReadyH.cons rfl (fun KK hK => ?_) AllReadyH.nil
            simp only [List.getElem_toArray, List.getElem_cons_succ, List.getElem_cons_zero]
            rw [if_pos (by rfl)]
            go_simp
            clear hHeld
            refine hK.out _ _ ?_ (fun hHeld => ?_)
            · exact ⟨(cell_aside _ (by have := unhide S0; dsimp only; omega) p0), (cell_aside _ (by have := unhide S0; dsimp only; omega) t0)⟩
            clear hK KK
            try simp only [Act.put, List.getElem_toArray, List.getElem_cons_succ, List.getElem_cons_zero, List.setIfInBounds_toArray, List.set_cons_zero, List.set_cons_succ]
            refine wpAnyH_ready (rs := [7]) (by kernel_rfl) (by simp) ?_
            refine AllReadyH.cons rfl (fun KK hK => ?_) AllReadyH.nil
            simp only [List.getElem_toArray, List.getElem_cons_succ, List.getElem_cons_zero]
            rw [if_pos (by rfl)]
            go_simp
            clear hHeld
            refine hK.out _ _ ?_ (fun hHeld => ?_)
            · exact ⟨(cell_aside _ (by have := unhide S0; dsimp only; omega) (cell_aside _ (by have := unhide S0; dsimp only; omega) p0)), (cell_aside _ (by have := unhide S0; dsimp only; omega) (cell_aside _ (by have := unhide S0; dsimp only; omega) t0))⟩
            clear hK KK
            try simp only [Act.put, List.getElem_toArray, List.getElem_cons_succ, List.getElem_cons_zero, List.setIfInBounds_toArray, List.set_cons_zero, List.set_cons_succ]
            refine wpAnyH_done (by kernel_rfl) ?_ _
            clear hHeld
            go_wp2_with fail
            go_meet
            exact ⟨_, _, _, _, rfl, rfl, two_set kw o3 o4 x0 xf0 n0 nf0 (by omega) (by omega) (by omega) (by omega) (by omega) (fun e => by have := l3 _ e; omega) (fun e => by have := l3 _ e; omega) (fun e => by have := l4 _ e; omega) (fun e => by have := l4 _ e; omega) (fun k e1 e2 => by have := l3 _ e1; have := l4 _ e2; omega)⟩
        · simp only [List.getElem_toArray, List.getElem_cons_succ, List.getElem_cons_zero]
          rw [if_pos (by rfl)]
          go_simp
          have kn := (Kept.refl 0 0 w8).alloc (.cells #[.slice none 0 0] 76)
          replace r1 := r1.kept kn (by omega)
          replace r2 := r2.kept kn (by omega)
          replace kw := kw.trans kn
          replace o3 := own_kept o3 kn
          replace qf0 := kn.loose0 (World.block_lt_of_cell? _ _ q0) qf0
          replace yf0 := kn.loose0 (World.block_lt_of_cell? _ _ y0) yf0
          replace xf0 := kn.loose0 (World.block_lt_of_cell? _ _ x0) xf0
          replace p0 := kn.cell0 p0
          replace t0 := kn.cell0 t0
          replace q0 := kn.cell0 q0
          replace y0 := kn.cell0 y0
          replace x0 := kn.cell0 x0
          replace K := hide ((unhide K).trans kn)
          have z11 := kn.size
          clear kn
          have szn : w8.heap.size < (w8.alloc (.cells #[.slice none 0 0] 76)).heap.size := by simp
          have n0 : (w8.alloc (.cells #[.slice none 0 0] 76)).cell? ⟨w8.heap.size, 0, none⟩ = some (.slice none 0 0) := new_cell2 _ _ _ _ _ _ rfl rfl
          have nf0 : (w8.alloc (.cells #[.slice none 0 0] 76)).frozen? ⟨w8.heap.size, 0, none⟩ = false := new_loose2 _ _ _ _ _ rfl
          clear hHeld
          refine hK.out _ _ ?_ (fun hHeld => ?_)
          · exact ⟨p0, t0⟩
          clear hK KK
          try simp only [Act.put, List.getElem_toArray, List.getElem_cons_succ, List.getElem_cons_zero, List.setIfInBounds_toArray, List.set_cons_zero, List.set_cons_succ]
          generalize w8.alloc (.cells #[.slice none 0 0] 76) = w10 at *
          refine wpAnyH_ready (rs := [3]) (by kernel_rfl) (by simp) ?_
          refine AllReadyH.cons rfl (fun KK hK => ?_) AllReadyH.nil
          · simp only [List.getElem_toArray, List.getElem_cons_succ, List.getElem_cons_zero]
            rw [if_pos (by rfl)]
            refine wps1 87 (.tmp 32) _ rfl in_limbsOf (.agg #[.slice a2 ys.length c2]) rfl (limbsOf_impl _ r2 my) ?_
            rintro e w12 ⟨v4, rfl, o4, k12⟩
            refine ⟨_, rfl, ?_⟩
            replace r1 := r1.kept k12 (by omega)
            replace r2 := r2.kept k12 (by omega)
            replace kw := kw.trans k12
            replace o3 := own_kept o3 k12
            replace qf0 := k12.loose0 (World.block_lt_of_cell? _ _ q0) qf0
            replace yf0 := k12.loose0 (World.block_lt_of_cell? _ _ y0) yf0
            replace xf0 := k12.loose0 (World.block_lt_of_cell? _ _ x0) xf0
            replace nf0 := k12.loose0 (World.block_lt_of_cell? _ _ n0) nf0
            replace p0 := k12.cell0 p0
            replace t0 := k12.cell0 t0
            replace q0 := k12.cell0 q0
            replace y0 := k12.cell0 y0
            replace x0 := k12.cell0 x0
            replace n0 := k12.cell0 n0
            replace K := hide ((unhide K).trans k12)
            have z13 := k12.size
            clear k12
            have l4 := o4.lt
            obtain ⟨a4, c4, hv⟩ := own_slice o4
            subst hv
            clear hHeld
            refine hK.out _ _ ?_ (fun hHeld => ?_)
            · exact ⟨p0, t0⟩
            clear hK KK
            try simp only [Act.put, List.getElem_toArray, List.getElem_cons_succ, List.getElem_cons_zero, List.setIfInBounds_toArray, List.set_cons_zero, List.set_cons_succ]
            refine wpAnyH_ready (rs := [6]) (by kernel_rfl) (by simp) ?_
            refine AllReadyH.cons rfl (fun KK hK => ?_) AllReadyH.nil
            simp only [List.getElem_toArray, List.getElem_cons_succ, List.getElem_cons_zero]
            rw [if_pos (by rfl)]
            go_simp
            clear hHeld
            refine hK.out _ _ ?_ (fun hHeld => ?_)
            · exact ⟨(cell_aside _ (by have := unhide S0; dsimp only; omega) p0), (cell_aside _ (by have := unhide S0; dsimp only; omega) t0)⟩
            clear hK KK
            try simp only [Act.put, List.getElem_toArray, List.getElem_cons_succ, List.getElem_cons_zero, List.setIfInBounds_toArray, List.set_cons_zero, List.set_cons_succ]
            refine wpAnyH_ready (rs := [7]) (by kernel_rfl) (by simp) ?_
            refine AllReadyH.cons rfl (fun KK hK => ?_) AllReadyH.nil
            simp only [List.getElem_toArray, List.getElem_cons_succ, List.getElem_cons_zero]
            rw [if_pos (by rfl)]
            go_simp
            clear hHeld
            refine hK.out _ _ ?_ (fun hHeld => ?_)
            · exact ⟨(cell_aside _ (by have := unhide S0; dsimp only; omega) (cell_aside _ (by have := unhide S0; dsimp only; omega) p0)), (cell_aside _ (by have := unhide S0; dsimp only; omega) (cell_aside _ (by have := unhide S0; dsimp only; omega) t0))⟩
            clear hK KK
            try simp only [Act.put, List.getElem_toArray, List.getElem_cons_succ, List.getElem_cons_zero, List.setIfInBounds_toArray, List.set_cons_zero, List.set_cons_succ]
            refine wpAnyH_done (by kernel_rfl) ?_ _
            clear hHeld
            go_wp2_with fail
            go_meet
            exact ⟨_, _, _, _, rfl, rfl, two_set kw o3 o4 x0 xf0 n0 nf0 (by omega) (by omega) (by omega) (by omega) (by omega) (fun e => by have := l3 _ e; omega) (fun e => by have := l3 _ e; omega) (fun e => by have := l4 _ e; omega) (fun e => by have := l4 _ e; omega) (fun k e1 e2 => by have := l3 _ e1; have := l4 _ e2; omega)⟩
      · simp only [List.getElem_toArray, List.getElem_cons_succ, List.getElem_cons_zero]
        rw [if_pos (by rfl)]
        go_simp
        have kn := (Kept.refl 0 0 w6).alloc (.cells #[.slice none 0 0] 76)
        replace r1 := r1.kept kn (by omega)
        replace r2 := r2.kept kn (by omega)
        replace kw := kw.trans kn
        replace o3 := own_kept o3 kn
        replace qf0 := kn.loose0 (World.block_lt_of_cell? _ _ q0) qf0
        replace yf0 := kn.loose0 (World.block_lt_of_cell? _ _ y0) yf0
        replace p0 := kn.cell0 p0
        replace t0 := kn.cell0 t0
        replace q0 := kn.cell0 q0
        replace y0 := kn.cell0 y0
        replace K := hide ((unhide K).trans kn)
        have z9 := kn.size
        clear kn
        have szn : w6.heap.size < (w6.alloc (.cells #[.slice none 0 0] 76)).heap.size := by simp
        have n0 : (w6.alloc (.cells #[.slice none 0 0] 76)).cell? ⟨w6.heap.size, 0, none⟩ = some (.slice none 0 0) := new_cell2 _ _ _ _ _ _ rfl rfl
        have nf0 : (w6.alloc (.cells #[.slice none 0 0] 76)).frozen? ⟨w6.heap.size, 0, none⟩ = false := new_loose2 _ _ _ _ _ rfl
        clear hHeld
        refine hK.out _ _ ?_ (fun hHeld => ?_)
        · exact ⟨p0, t0⟩
        clear hK KK
        try simp only [Act.put, List.getElem_toArray, List.getElem_cons_succ, List.getElem_cons_zero, List.setIfInBounds_toArray, List.set_cons_zero, List.set_cons_succ]
        generalize w6.alloc (.cells #[.slice none 0 0] 76) = w8 at *
        refine wpAnyH_ready (rs := [3, 4]) (by kernel_rfl) (by simp) ?_
        refine AllReadyH.cons rfl (fun KK hK => ?_) (AllReadyH.cons rfl (fun KK hK => ?_) AllReadyH.nil)
        · simp only [List.getElem_toArray, List.getElem_cons_succ, List.getElem_cons_zero]
          rw [if_pos (by rfl)]
          refine wps1 87 (.tmp 32) _ rfl in_limbsOf (.agg #[.slice a2 ys.length c2]) rfl (limbsOf_impl _ r2 my) ?_
          rintro e w10 ⟨v4, rfl, o4, k10⟩
          refine ⟨_, rfl, ?_⟩
          replace r1 := r1.kept k10 (by omega)
          replace r2 := r2.kept k10 (by omega)
          replace kw := kw.trans k10
          replace o3 := own_kept o3 k10
          replace qf0 := k10.loose0 (World.block_lt_of_cell? _ _ q0) qf0
          replace yf0 := k10.loose0 (World.block_lt_of_cell? _ _ y0) yf0
          replace nf0 := k10.loose0 (World.block_lt_of_cell? _ _ n0) nf0
          replace p0 := k10.cell0 p0
          replace t0 := k10.cell0 t0
          replace q0 := k10.cell0 q0
          replace y0 := k10.cell0 y0
          replace n0 := k10.cell0 n0
          replace K := hide ((unhide K).trans k10)
          have z11 := k10.size
          clear k10
          have l4 := o4.lt
          obtain ⟨a4, c4, hv⟩ := own_slice o4
          subst hv
          clear hHeld
          refine hK.out _ _ ?_ (fun hHeld => ?_)
          · exact ⟨p0, t0⟩
          clear hK KK
          try simp only [Act.put, List.getElem_toArray, List.getElem_cons_succ, List.getElem_cons_zero, List.setIfInBounds_toArray, List.set_cons_zero, List.set_cons_succ]
          refine wpAnyH_ready (rs := [4]) (by kernel_rfl) (by simp) ?_
          refine AllReadyH.cons rfl (fun KK hK => ?_) AllReadyH.nil
          · simp only [List.getElem_toArray, List.getElem_cons_succ, List.getElem_cons_zero]
            rw [if_pos (by rfl)]
            go_simp
            have kn := (Kept.refl 0 0 w10).alloc (.cells #[.slice none 0 0] 76)
            replace r1 := r1.kept kn (by omega)
            replace r2 := r2.kept kn (by omega)
            replace kw := kw.trans kn
            replace o3 := own_kept o3 kn
            replace o4 := own_kept o4 kn
            replace qf0 := kn.loose0 (World.block_lt_of_cell? _ _ q0) qf0
            replace yf0 := kn.loose0 (World.block_lt_of_cell? _ _ y0) yf0
            replace nf0 := kn.loose0 (World.block_lt_of_cell? _ _ n0) nf0
            replace p0 := kn.cell0 p0
            replace t0 := kn.cell0 t0
            replace q0 := kn.cell0 q0
            replace y0 := kn.cell0 y0
            replace n0 := kn.cell0 n0
            replace K := hide ((unhide K).trans kn)
            have z13 := kn.size
            clear kn
            have szx : w10.heap.size < (w10.alloc (.cells #[.slice none 0 0] 76)).heap.size := by simp
            have x0 : (w10.alloc (.cells #[.slice none 0 0] 76)).cell? ⟨w10.heap.size, 0, none⟩ = some (.slice none 0 0) := new_cell2 _ _ _ _ _ _ rfl rfl
            have xf0 : (w10.alloc (.cells #[.slice none 0 0] 76)).frozen? ⟨w10.heap.size, 0, none⟩ = false := new_loose2 _ _ _ _ _ rfl
            clear hHeld
            refine hK.out _ _ ?_ (fun hHeld => ?_)
            · exact ⟨p0, t0⟩
            clear hK KK
            try simp only [Act.put, List.getElem_toArray, List.getElem_cons_succ, List.getElem_cons_zero, List.setIfInBounds_toArray, List.set_cons_zero, List.set_cons_succ]
            generalize w10.alloc (.cells #[.slice none 0 0] 76) = w12 at *
            refine wpAnyH_ready (rs := [6]) (by kernel_rfl) (by simp) ?_
            refine AllReadyH.cons rfl (fun KK hK => ?_) AllReadyH.nil
            simp only [List.getElem_toArray, List.getElem_cons_succ, List.getElem_cons_zero]
            rw [if_pos (by rfl)]
            go_simp
            clear hHeld
            refine hK.out _ _ ?_ (fun hHeld => ?_)
            · exact ⟨(cell_aside _ (by have := unhide S0; dsimp only; omega) p0), (cell_aside _ (by have := unhide S0; dsimp only; omega) t0)⟩
            clear hK KK
            try simp only [Act.put, List.getElem_toArray, List.getElem_cons_succ, List.getElem_cons_zero, List.setIfInBounds_toArray, List.set_cons_zero, List.set_cons_succ]
            refine wpAnyH_ready (rs := [7]) (by kernel_rfl) (by simp) ?_
            refine AllReadyH.cons rfl (fun KK hK => ?_) AllReadyH.nil
            simp only [List.getElem_toArray, List.getElem_cons_succ, List.getElem_cons_zero]
            rw [if_pos (by rfl)]
            go_simp
            clear hHeld
            refine hK.out _ _ ?_ (fun hHeld => ?_)
            · exact ⟨(cell_aside _ (by have := unhide S0; dsimp only; omega) (cell_aside _ (by have := unhide S0; dsimp only; omega) p0)), (cell_aside _ (by have := unhide S0; dsimp only; omega) (cell_aside _ (by have := unhide S0; dsimp only; omega) t0))⟩
            clear hK KK
            try simp only [Act.put, List.getElem_toArray, List.getElem_cons_succ, List.getElem_cons_zero, List.setIfInBounds_toArray, List.set_cons_zero, List.set_cons_succ]
            refine wpAnyH_done (by kernel_rfl) ?_ _
            clear hHeld
            go_wp2_with fail
            go_meet
            exact ⟨_, _, _, _, rfl, rfl, two_set kw o3 o4 x0 xf0 n0 nf0 (by omega) (by omega) (by omega) (by omega) (by omega) (fun e => by have := l3 _ e; omega) (fun e => by have := l3 _ e; omega) (fun e => by have := l4 _ e; omega) (fun e => by have := l4 _ e; omega) (fun k e1 e2 => by have := l3 _ e1; have := l4 _ e2; omega)⟩
        · simp only [List.getElem_toArray, List.getElem_cons_succ, List.getElem_cons_zero]
          rw [if_pos (by rfl)]
          go_simp
          have kn := (Kept.refl 0 0 w8).alloc (.cells #[.slice none 0 0] 76)
          replace r1 := r1.kept kn (by omega)
          replace r2 := r2.kept kn (by omega)
          replace kw := kw.trans kn
          replace o3 := own_kept o3 kn
          replace qf0 := kn.loose0 (World.block_lt_of_cell? _ _ q0) qf0
          replace yf0 := kn.loose0 (World.block_lt_of_cell? _ _ y0) yf0
          replace nf0 := kn.loose0 (World.block_lt_of_cell? _ _ n0) nf0
          replace p0 := kn.cell0 p0
          replace t0 := kn.cell0 t0
          replace q0 := kn.cell0 q0
          replace y0 := kn.cell0 y0
          replace n0 := kn.cell0 n0
          replace K := hide ((unhide K).trans kn)
          have z11 := kn.size
          clear kn
          have szx : w8.heap.size < (w8.alloc (.cells #[.slice none 0 0] 76)).heap.size := by simp
          have x0 : (w8.alloc (.cells #[.slice none 0 0] 76)).cell? ⟨w8.heap.size, 0, none⟩ = some (.slice none 0 0) := new_cell2 _ _ _ _ _ _ rfl rfl
          have xf0 : (w8.alloc (.cells #[.slice none 0 0] 76)).frozen? ⟨w8.heap.size, 0, none⟩ = false := new_loose2 _ _ _ _ _ rfl
          clear hHeld
          refine hK.out _ _ ?_ (fun hHeld => ?_)
          · exact ⟨p0, t0⟩
          clear hK KK
          try simp only [Act.put, List.getElem_toArray, List.getElem_cons_succ, List.getElem_cons_zero, List.setIfInBounds_toArray, List.set_cons_zero, List.set_cons_succ]
          generalize w8.alloc (.cells #[.slice none 0 0] 76) = w10 at *
          refine wpAnyH_ready (rs := [3]) (by kernel_rfl) (by simp) ?_
          refine AllReadyH.cons rfl (fun KK hK => ?_) AllReadyH.nil
          · simp only [List.getElem_toArray, List.getElem_cons_succ, List.getElem_cons_zero]
            rw [if_pos (by rfl)]
            refine wps1 87 (.tmp 32) _ rfl in_limbsOf (.agg #[.slice a2 ys.length c2]) rfl (limbsOf_impl _ r2 my) ?_
            rintro e w12 ⟨v4, rfl, o4, k12⟩
            refine ⟨_, rfl, ?_⟩
            replace r1 := r1.kept k12 (by omega)
            replace r2 := r2.kept k12 (by omega)
            replace kw := kw.trans k12
            replace o3 := own_kept o3 k12
            replace qf0 := k12.loose0 (World.block_lt_of_cell? _ _ q0) qf0
            replace yf0 := k12.loose0 (World.block_lt_of_cell? _ _ y0) yf0
            replace nf0 := k12.loose0 (World.block_lt_of_cell? _ _ n0) nf0
            replace xf0 := k12.loose0 (World.block_lt_of_cell? _ _ x0) xf0
            replace p0 := k12.cell0 p0
            replace t0 := k12.cell0 t0
            replace q0 := k12.cell0 q0
            replace y0 := k12.cell0 y0
            replace n0 := k12.cell0 n0
            replace x0 := k12.cell0 x0
            replace K := hide ((unhide K).trans k12)
            have z13 := k12.size
            clear k12
            have l4 := o4.lt
            obtain ⟨a4, c4, hv⟩ := own_slice o4
            subst hv
            clear hHeld
            refine hK.out _ _ ?_ (fun hHeld => ?_)
            · exact ⟨p0, t0⟩
            clear hK KK
            try simp only [Act.put, List.getElem_toArray, List.getElem_cons_succ, List.getElem_cons_zero, List.setIfInBounds_toArray, List.set_cons_zero, List.set_cons_succ]
            refine wpAnyH_ready (rs := [6]) (by kernel_rfl) (by simp) ?_
            refine AllReadyH.cons rfl (fun KK hK => ?_) AllReadyH.nil
            simp only [List.getElem_toArray, List.getElem_cons_succ, List.getElem_cons_zero]
            rw [if_pos (by rfl)]
            go_simp
            clear hHeld
            refine hK.out _ _ ?_ (fun hHeld => ?_)
            · exact ⟨(cell_aside _ (by have := unhide S0; dsimp only; omega) p0), (cell_aside _ (by have := unhide S0; dsimp only; omega) t0)⟩
            clear hK KK
            try simp only [Act.put, List.getElem_toArray, List.getElem_cons_succ, List.getElem_cons_zero, List.setIfInBounds_toArray, List.set_cons_zero, List.set_cons_succ]
            refine wpAnyH_ready (rs := [7]) (by kernel_rfl) (by simp) ?_
            refine AllReadyH.cons rfl (fun KK hK => ?_) AllReadyH.nil
            simp only [List.getElem_toArray, List.getElem_cons_succ, List.getElem_cons_zero]
            rw [if_pos (by rfl)]
            go_simp
            clear hHeld
            refine hK.out _ _ ?_ (fun hHeld => ?_)
            · exact ⟨(cell_aside _ (by have := unhide S0; dsimp only; omega) (cell_aside _ (by have := unhide S0; dsimp only; omega) p0)), (cell_aside _ (by have := unhide S0; dsimp only; omega) (cell_aside _ (by have := unhide S0; dsimp only; omega) t0))⟩
            clear hK KK
            try simp only [Act.put, List.getElem_toArray, List.getElem_cons_succ, List.getElem_cons_zero, List.setIfInBounds_toArray, List.set_cons_zero, List.set_cons_succ]
            refine wpAnyH_done (by kernel_rfl) ?_ _
            clear hHeld
            go_wp2_with fail
            go_meet
            exact ⟨_, _, _, _, rfl, rfl, two_set kw o3 o4 x0 xf0 n0 nf0 (by omega) (by omega) (by omega) (by omega) (by omega) (fun e => by have := l3 _ e; omega) (fun e => by have := l3 _ e; omega) (fun e => by have := l4 _ e; omega) (fun e => by have := l4 _ e; omega) (fun k e1 e2 => by have := l3 _ e1; have := l4 _ e2; omega)⟩
    · simp only [List.getElem_toArray, List.getElem_cons_succ, List.getElem_cons_zero]
      rw [if_pos (by rfl)]
      go_simp
      have kn := (Kept.refl 0 0 wd).alloc (.cells #[.slice none 0 0] 76)
      replace r1 := r1.kept kn (by omega)
      replace r2 := r2.kept kn (by omega)
      replace kw := kw.trans kn
      replace qf0 := kn.loose0 (World.block_lt_of_cell? _ _ q0) qf0
      replace yf0 := kn.loose0 (World.block_lt_of_cell? _ _ y0) yf0
      replace p0 := kn.cell0 p0
      replace t0 := kn.cell0 t0
      replace q0 := kn.cell0 q0
      replace y0 := kn.cell0 y0
      replace K := hide ((unhide K).trans kn)
      have z7 := kn.size
      clear kn
      have szx : wd.heap.size < (wd.alloc (.cells #[.slice none 0 0] 76)).heap.size := by simp
      have x0 : (wd.alloc (.cells #[.slice none 0 0] 76)).cell? ⟨wd.heap.size, 0, none⟩ = some (.slice none 0 0) := new_cell2 _ _ _ _ _ _ rfl rfl
      have xf0 : (wd.alloc (.cells #[.slice none 0 0] 76)).frozen? ⟨wd.heap.size, 0, none⟩ = false := new_loose2 _ _ _ _ _ rfl
      clear hHeld
      refine hK.out _ _ ?_ (fun hHeld => ?_)
      · exact ⟨p0, t0⟩
      clear hK KK
      try simp only [Act.put, List.getElem_toArray, List.getElem_cons_succ, List.getElem_cons_zero, List.setIfInBounds_toArray, List.set_cons_zero, List.set_cons_succ]
      generalize wd.alloc (.cells #[.slice none 0 0] 76) = w6 at *
      refine wpAnyH_ready (rs := [1, 5]) (by kernel_rfl) (by simp) ?_
      refine AllReadyH.cons rfl (fun KK hK => ?_) (AllReadyH.cons rfl (fun KK hK => ?_) AllReadyH.nil)
      · simp only [List.getElem_toArray, List.getElem_cons_succ, List.getElem_cons_zero]
        rw [if_pos (by rfl)]
        refine wps1 87 (.tmp 30) _ rfl in_limbsOf (.agg #[.slice a1 xs.length c1]) rfl (limbsOf_impl _ r1 mx) ?_
        rintro e w8 ⟨v3, rfl, o3, k8⟩
        refine ⟨_, rfl, ?_⟩
        replace r1 := r1.kept k8 (by omega)
        replace r2 := r2.kept k8 (by omega)
        replace kw := kw.trans k8
        replace qf0 := k8.loose0 (World.block_lt_of_cell? _ _ q0) qf0
        replace yf0 := k8.loose0 (World.block_lt_of_cell? _ _ y0) yf0
        replace xf0 := k8.loose0 (World.block_lt_of_cell? _ _ x0) xf0
        replace p0 := k8.cell0 p0
        replace t0 := k8.cell0 t0
        replace q0 := k8.cell0 q0
        replace y0 := k8.cell0 y0
        replace x0 := k8.cell0 x0
        replace K := hide ((unhide K).trans k8)
        have z9 := k8.size
        clear k8
        have l3 := o3.lt
        obtain ⟨a3, c3, hv⟩ := own_slice o3
        subst hv
        clear hHeld
        refine hK.out _ _ ?_ (fun hHeld => ?_)
        · exact ⟨p0, t0⟩
        clear hK KK
        try simp only [Act.put, List.getElem_toArray, List.getElem_cons_succ, List.getElem_cons_zero, List.setIfInBounds_toArray, List.set_cons_zero, List.set_cons_succ]
        refine wpAnyH_ready (rs := [3, 5]) (by kernel_rfl) (by simp) ?_
        refine AllReadyH.cons rfl (fun KK hK => ?_) (AllReadyH.cons rfl (fun KK hK => ?_) AllReadyH.nil)
        · simp only [List.getElem_toArray, List.getElem_cons_succ, List.getElem_cons_zero]
          rw [if_pos (by rfl)]
          refine wps1 87 (.tmp 32) _ rfl in_limbsOf (.agg #[.slice a2 ys.length c2]) rfl (limbsOf_impl _ r2 my) ?_
          rintro e w10 ⟨v4, rfl, o4, k10⟩
          refine ⟨_, rfl, ?_⟩
          replace r1 := r1.kept k10 (by omega)
          replace r2 := r2.kept k10 (by omega)
          replace kw := kw.trans k10
          replace o3 := own_kept o3 k10
          replace qf0 := k10.loose0 (World.block_lt_of_cell? _ _ q0) qf0
          replace yf0 := k10.loose0 (World.block_lt_of_cell? _ _ y0) yf0
          replace xf0 := k10.loose0 (World.block_lt_of_cell? _ _ x0) xf0
          replace p0 := k10.cell0 p0
          replace t0 := k10.cell0 t0
          replace q0 := k10.cell0 q0
          replace y0 := k10.cell0 y0
          replace x0 := k10.cell0 x0
          replace K := hide ((unhide K).trans k10)
          have z11 := k10.size
          clear k10
          have l4 := o4.lt
          obtain ⟨a4, c4, hv⟩ := own_slice o4
          subst hv
          clear hHeld
          refine hK.out _ _ ?_ (fun hHeld => ?_)
          · exact ⟨p0, t0⟩
          clear hK KK
          try simp only [Act.put, List.getElem_toArray, List.getElem_cons_succ, List.getElem_cons_zero, List.setIfInBounds_toArray, List.set_cons_zero, List.set_cons_succ]
          refine wpAnyH_ready (rs := [5]) (by kernel_rfl) (by simp) ?_
          refine AllReadyH.cons rfl (fun KK hK => ?_) AllReadyH.nil
          · simp only [List.getElem_toArray, List.getElem_cons_succ, List.getElem_cons_zero]
            rw [if_pos (by rfl)]
            go_simp
            have kn := (Kept.refl 0 0 w10).alloc (.cells #[.slice none 0 0] 76)
            replace r1 := r1.kept kn (by omega)
            replace r2 := r2.kept kn (by omega)
            replace kw := kw.trans kn
            replace o3 := own_kept o3 kn
            replace o4 := own_kept o4 kn
            replace qf0 := kn.loose0 (World.block_lt_of_cell? _ _ q0) qf0
            replace yf0 := kn.loose0 (World.block_lt_of_cell? _ _ y0) yf0
            replace xf0 := kn.loose0 (World.block_lt_of_cell? _ _ x0) xf0
            replace p0 := kn.cell0 p0
            replace t0 := kn.cell0 t0
            replace q0 := kn.cell0 q0
            replace y0 := kn.cell0 y0
            replace x0 := kn.cell0 x0
            replace K := hide ((unhide K).trans kn)
            have z13 := kn.size
            clear kn
            have szn : w10.heap.size < (w10.alloc (.cells #[.slice none 0 0] 76)).heap.size := by simp
            have n0 : (w10.alloc (.cells #[.slice none 0 0] 76)).cell? ⟨w10.heap.size, 0, none⟩ = some (.slice none 0 0) := new_cell2 _ _ _ _ _ _ rfl rfl
            have nf0 : (w10.alloc (.cells #[.slice none 0 0] 76)).frozen? ⟨w10.heap.size, 0, none⟩ = false := new_loose2 _ _ _ _ _ rfl
            clear hHeld
            refine hK.out _ _ ?_ (fun hHeld => ?_)
            · exact ⟨p0, t0⟩
            clear hK KK
            try simp only [Act.put, List.getElem_toArray, List.getElem_cons_succ, List.getElem_cons_zero, List.setIfInBounds_toArray, List.set_cons_zero, List.set_cons_succ]
            generalize w10.alloc (.cells #[.slice none 0 0] 76) = w12 at *
            refine wpAnyH_ready (rs := [6]) (by kernel_rfl) (by simp) ?_
            refine AllReadyH.cons rfl (fun KK hK => ?_) AllReadyH.nil
            simp only [List.getElem_toArray, List.getElem_cons_succ, List.getElem_cons_zero]
            rw [if_pos (by rfl)]
            go_simp
            clear hHeld
            refine hK.out _ _ ?_ (fun hHeld => ?_)
            · exact ⟨(cell_aside _ (by have := unhide S0; dsimp only; omega) p0), (cell_aside _ (by have := unhide S0; dsimp only; omega) t0)⟩
            clear hK KK
            try simp only [Act.put, List.getElem_toArray, List.getElem_cons_succ, List.getElem_cons_zero, List.setIfInBounds_toArray, List.set_cons_zero, List.set_cons_succ]
            refine wpAnyH_ready (rs := [7]) (by kernel_rfl) (by simp) ?_
            refine AllReadyH.cons rfl (fun KK hK => ?_) AllReadyH.nil
            simp only [List.getElem_toArray, List.getElem_cons_succ, List.getElem_cons_zero]
            rw [if_pos (by rfl)]
            go_simp
            clear hHeld
            refine hK.out _ _ ?_ (fun hHeld => ?_)
            · exact ⟨(cell_aside _ (by have := unhide S0; dsimp only; omega) (cell_aside _ (by have := unhide S0; dsimp only; omega) p0)), (cell_aside _ (by have := unhide S0; dsimp only; omega) (cell_aside _ (by have := unhide S0; dsimp only; omega) t0))⟩
            clear hK KK
            try simp only [Act.put, List.getElem_toArray, List.getElem_cons_succ, List.getElem_cons_zero, List.setIfInBounds_toArray, List.set_cons_zero, List.set_cons_succ]
            refine wpAnyH_done (by kernel_rfl) ?_ _
            clear hHeld
            go_wp2_with fail
            go_meet
            exact ⟨_, _, _, _, rfl, rfl, two_set kw o3 o4 x0 xf0 n0 nf0 (by omega) (by omega) (by omega) (by omega) (by omega) (fun e => by have := l3 _ e; omega) (fun e => by have := l3 _ e; omega) (fun e => by have := l4 _ e; omega) (fun e => by have := l4 _ e; omega) (fun k e1 e2 => by have := l3 _ e1; have := l4 _ e2; omega)⟩
        · simp only [List.getElem_toArray, List.getElem_cons_succ, List.getElem_cons_zero]
          rw [if_pos (by rfl)]
          go_simp
          have kn := (Kept.refl 0 0 w8).alloc (.cells #[.slice none 0 0] 76)
          replace r1 := r1.kept kn (by omega)
          replace r2 := r2.kept kn (by omega)
          replace kw := kw.trans kn
          replace o3 := own_kept o3 kn
          replace qf0 := kn.loose0 (World.block_lt_of_cell? _ _ q0) qf0
          replace yf0 := kn.loose0 (World.block_lt_of_cell? _ _ y0) yf0
          replace xf0 := kn.loose0 (World.block_lt_of_cell? _ _ x0) xf0
          replace p0 := kn.cell0 p0
          replace t0 := kn.cell0 t0
          replace q0 := kn.cell0 q0
          replace y0 := kn.cell0 y0
          replace x0 := kn.cell0 x0
          replace K := hide ((unhide K).trans kn)
          have z11 := kn.size
          clear kn
          have szn : w8.heap.size < (w8.alloc (.cells #[.slice none 0 0] 76)).heap.size := by simp
          have n0 : (w8.alloc (.cells #[.slice none 0 0] 76)).cell? ⟨w8.heap.size, 0, none⟩ = some (.slice none 0 0) := new_cell2 _ _ _ _ _ _ rfl rfl
          have nf0 : (w8.alloc (.cells #[.slice none 0 0] 76)).frozen? ⟨w8.heap.size, 0, none⟩ = false := new_loose2 _ _ _ _ _ rfl
          clear hHeld
          refine hK.out _ _ ?_ (fun hHeld => ?_)
          · exact ⟨p0, t0⟩
          clear hK KK
          try simp only [Act.put, List.getElem_toArray, List.getElem_cons_succ, List.getElem_cons_zero, List.setIfInBounds_toArray, List.set_cons_zero, List.set_cons_succ]
          generalize w8.alloc (.cells #[.slice none 0 0] 76) = w10 at *
          refine wpAnyH_ready (rs := [3]) (by kernel_rfl) (by simp) ?_
          refine AllReadyH.cons rfl (fun KK hK => ?_) AllReadyH.nil
          · simp only [List.getElem_toArray, List.getElem_cons_succ, List.getElem_cons_zero]
            rw [if_pos (by rfl)]
            refine wps1 87 (.tmp 32) _ rfl in_limbsOf (.agg #[.slice a2 ys.length c2]) rfl (limbsOf_impl _ r2 my) ?_
            rintro e w12 ⟨v4, rfl, o4, k12⟩
            refine ⟨_, rfl, ?_⟩
            replace r1 := r1.kept k12 (by omega)
            replace r2 := r2.kept k12 (by omega)
            replace kw := kw.trans k12
            replace o3 := own_kept o3 k12
            replace qf0 := k12.loose0 (World.block_lt_of_cell? _ _ q0) qf0
            replace yf0 := k12.loose0 (World.block_lt_of_cell? _ _ y0) yf0
            replace xf0 := k12.loose0 (World.block_lt_of_cell? _ _ x0) xf0
            replace nf0 := k12.loose0 (World.block_lt_of_cell? _ _ n0) nf0
            replace p0 := k12.cell0 p0
            replace t0 := k12.cell0 t0
            replace q0 := k12.cell0 q0
            replace y0 := k12.cell0 y0
            replace x0 := k12.cell0 x0
            replace n0 := k12.cell0 n0
            replace K := hide ((unhide K).trans k12)
            have z13 := k12.size
            clear k12
            have l4 := o4.lt
            obtain ⟨a4, c4, hv⟩ := own_slice o4
            subst hv
            clear hHeld
            refine hK.out _ _ ?_ (fun hHeld => ?_)
            · exact ⟨p0, t0⟩
            clear hK KK
            try simp only [Act.put, List.getElem_toArray, List.getElem_cons_succ, List.getElem_cons_zero, List.setIfInBounds_toArray, List.set_cons_zero, List.set_cons_succ]
            refine wpAnyH_ready (rs := [6]) (by kernel_rfl) (by simp) ?_
            refine AllReadyH.cons rfl (fun KK hK => ?_) AllReadyH.nil
            simp only [List.getElem_toArray, List.getElem_cons_succ, List.getElem_cons_zero]
            rw [if_pos (by rfl)]
            go_simp
            clear hHeld
            refine hK.out _ _ ?_ (fun hHeld => ?_)
            · exact ⟨(cell_aside _ (by have := unhide S0; dsimp only; omega) p0), (cell_aside _ (by have := unhide S0; dsimp only; omega) t0)⟩
            clear hK KK
            try simp only [Act.put, List.getElem_toArray, List.getElem_cons_succ, List.getElem_cons_zero, List.setIfInBounds_toArray, List.set_cons_zero, List.set_cons_succ]
            refine wpAnyH_ready (rs := [7]) (by kernel_rfl) (by simp) ?_
            refine AllReadyH.cons rfl (fun KK hK => ?_) AllReadyH.nil
            simp only [List.getElem_toArray, List.getElem_cons_succ, List.getElem_cons_zero]
            rw [if_pos (by rfl)]
            go_simp
            clear hHeld
            refine hK.out _ _ ?_ (fun hHeld => ?_)
            · exact ⟨(cell_aside _ (by have := unhide S0; dsimp only; omega) (cell_aside _ (by have := unhide S0; dsimp only; omega) p0)), (cell_aside _ (by have := unhide S0; dsimp only; omega) (cell_aside _ (by have := unhide S0; dsimp only; omega) t0))⟩
            clear hK KK
            try simp only [Act.put, List.getElem_toArray, List.getElem_cons_succ, List.getElem_cons_zero, List.setIfInBounds_toArray, List.set_cons_zero, List.set_cons_succ]
            refine wpAnyH_done (by kernel_rfl) ?_ _
            clear hHeld
            go_wp2_with fail
            go_meet
            exact ⟨_, _, _, _, rfl, rfl, two_set kw o3 o4 x0 xf0 n0 nf0 (by omega) (by omega) (by omega) (by omega) (by omega) (fun e => by have := l3 _ e; omega) (fun e => by have := l3 _ e; omega) (fun e => by have := l4 _ e; omega) (fun e => by have := l4 _ e; omega) (fun k e1 e2 => by have := l3 _ e1; have := l4 _ e2; omega)⟩
      · simp only [List.getElem_toArray, List.getElem_cons_succ, List.getElem_cons_zero]
        rw [if_pos (by rfl)]
        go_simp
        have kn := (Kept.refl 0 0 w6).alloc (.cells #[.slice none 0 0] 76)
        replace r1 := r1.kept kn (by omega)
        replace r2 := r2.kept kn (by omega)
        replace kw := kw.trans kn
        replace qf0 := kn.loose0 (World.block_lt_of_cell? _ _ q0) qf0
        replace yf0 := kn.loose0 (World.block_lt_of_cell? _ _ y0) yf0
        replace xf0 := kn.loose0 (World.block_lt_of_cell? _ _ x0) xf0
        replace p0 := kn.cell0 p0
        replace t0 := kn.cell0 t0
        replace q0 := kn.cell0 q0
        replace y0 := kn.cell0 y0
        replace x0 := kn.cell0 x0
        replace K := hide ((unhide K).trans kn)
        have z9 := kn.size
        clear kn
        have szn : w6.heap.size < (w6.alloc (.cells #[.slice none 0 0] 76)).heap.size := by simp
        have n0 : (w6.alloc (.cells #[.slice none 0 0] 76)).cell? ⟨w6.heap.size, 0, none⟩ = some (.slice none 0 0) := new_cell2 _ _ _ _ _ _ rfl rfl
        have nf0 : (w6.alloc (.cells #[.slice none 0 0] 76)).frozen? ⟨w6.heap.size, 0, none⟩ = false := new_loose2 _ _ _ _ _ rfl
        clear hHeld
        refine hK.out _ _ ?_ (fun hHeld => ?_)
        · exact ⟨p0, t0⟩
        clear hK KK
        try simp only [Act.put, List.getElem_toArray, List.getElem_cons_succ, List.getElem_cons_zero, List.setIfInBounds_toArray, List.set_cons_zero, List.set_cons_succ]
        generalize w6.alloc (.cells #[.slice none 0 0] 76) = w8 at *
        refine wpAnyH_ready (rs := [1]) (by kernel_rfl) (by simp) ?_
        refine AllReadyH.cons rfl (fun KK hK => ?_) AllReadyH.nil
        · simp only [List.getElem_toArray, List.getElem_cons_succ, List.getElem_cons_zero]
          rw [if_pos (by rfl)]
          refine wps1 87 (.tmp 30) _ rfl in_limbsOf (.agg #[.slice a1 xs.length c1]) rfl (limbsOf_impl _ r1 mx) ?_
          rintro e w10 ⟨v3, rfl, o3, k10⟩
          refine ⟨_, rfl, ?_⟩
          replace r1 := r1.kept k10 (by omega)
          replace r2 := r2.kept k10 (by omega)
          replace kw := kw.trans k10
          replace qf0 := k10.loose0 (World.block_lt_of_cell? _ _ q0) qf0
          replace yf0 := k10.loose0 (World.block_lt_of_cell? _ _ y0) yf0
          replace xf0 := k10.loose0 (World.block_lt_of_cell? _ _ x0) xf0
          replace nf0 := k10.loose0 (World.block_lt_of_cell? _ _ n0) nf0
          replace p0 := k10.cell0 p0
          replace t0 := k10.cell0 t0
          replace q0 := k10.cell0 q0
          replace y0 := k10.cell0 y0
          replace x0 := k10.cell0 x0
          replace n0 := k10.cell0 n0
          replace K := hide ((unhide K).trans k10)
          have z11 := k10.size
          clear k10
          have l3 := o3.lt
          obtain ⟨a3, c3, hv⟩ := own_slice o3
          subst hv
          clear hHeld
          refine hK.out _ _ ?_ (fun hHeld => ?_)
          · exact ⟨p0, t0⟩
          clear hK KK
          try simp only [Act.put, List.getElem_toArray, List.getElem_cons_succ, List.getElem_cons_zero, List.setIfInBounds_toArray, List.set_cons_zero, List.set_cons_succ]
          refine wpAnyH_ready (rs := [3]) (by kernel_rfl) (by simp) ?_
          refine AllReadyH.cons rfl (fun KK hK => ?_) AllReadyH.nil
          · simp only [List.getElem_toArray, List.getElem_cons_succ, List.getElem_cons_zero]
            rw [if_pos (by rfl)]
            refine wps1 87 (.tmp 32) _ rfl in_limbsOf (.agg #[.slice a2 ys.length c2]) rfl (limbsOf_impl _ r2 my) ?_
            rintro e w12 ⟨v4, rfl, o4, k12⟩
            refine ⟨_, rfl, ?_⟩
            replace r1 := r1.kept k12 (by omega)
            replace r2 := r2.kept k12 (by omega)
            replace kw := kw.trans k12
            replace o3 := own_kept o3 k12
            replace qf0 := k12.loose0 (World.block_lt_of_cell? _ _ q0) qf0
            replace yf0 := k12.loose0 (World.block_lt_of_cell? _ _ y0) yf0
            replace xf0 := k12.loose0 (World.block_lt_of_cell? _ _ x0) xf0
            replace nf0 := k12.loose0 (World.block_lt_of_cell? _ _ n0) nf0
            replace p0 := k12.cell0 p0
            replace t0 := k12.cell0 t0
            replace q0 := k12.cell0 q0
            replace y0 := k12.cell0 y0
            replace x0 := k12.cell0 x0
            replace n0 := k12.cell0 n0
            replace K := hide ((unhide K).trans k12)
            have z13 := k12.size
            clear k12
            have l4 := o4.lt
            obtain ⟨a4, c4, hv⟩ := own_slice o4
            subst hv
            clear hHeld
            refine hK.out _ _ ?_ (fun hHeld => ?_)
            · exact ⟨p0, t0⟩
            clear hK KK
            try simp only [Act.put, List.getElem_toArray, List.getElem_cons_succ, List.getElem_cons_zero, List.setIfInBounds_toArray, List.set_cons_zero, List.set_cons_succ]
            refine wpAnyH_ready (rs := [6]) (by kernel_rfl) (by simp) ?_
            refine AllReadyH.cons rfl (fun KK hK => ?_) AllReadyH.nil
            simp only [List.getElem_toArray, List.getElem_cons_succ, List.getElem_cons_zero]
            rw [if_pos (by rfl)]
            go_simp
            clear hHeld
            refine hK.out _ _ ?_ (fun hHeld => ?_)
            · exact ⟨(cell_aside _ (by have := unhide S0; dsimp only; omega) p0), (cell_aside _ (by have := unhide S0; dsimp only; omega) t0)⟩
            clear hK KK
            try simp only [Act.put, List.getElem_toArray, List.getElem_cons_succ, List.getElem_cons_zero, List.setIfInBounds_toArray, List.set_cons_zero, List.set_cons_succ]
            refine wpAnyH_ready (rs := [7]) (by kernel_rfl) (by simp) ?_
            refine AllReadyH.cons rfl (fun KK hK => ?_) AllReadyH.nil
            simp only [List.getElem_toArray, List.getElem_cons_succ, List.getElem_cons_zero]
            rw [if_pos (by rfl)]
            go_simp
            clear hHeld
            refine hK.out _ _ ?_ (fun hHeld => ?_)
            · exact ⟨(cell_aside _ (by have := unhide S0; dsimp only; omega) (cell_aside _ (by have := unhide S0; dsimp only; omega) p0)), (cell_aside _ (by have := unhide S0; dsimp only; omega) (cell_aside _ (by have := unhide S0; dsimp only; omega) t0))⟩
            clear hK KK
            try simp only [Act.put, List.getElem_toArray, List.getElem_cons_succ, List.getElem_cons_zero, List.setIfInBounds_toArray, List.set_cons_zero, List.set_cons_succ]
            refine wpAnyH_done (by kernel_rfl) ?_ _
            clear hHeld
            go_wp2_with fail
            go_meet
            exact ⟨_, _, _, _, rfl, rfl, two_set kw o3 o4 x0 xf0 n0 nf0 (by omega) (by omega) (by omega) (by omega) (by omega) (fun e => by have := l3 _ e; omega) (fun e => by have := l3 _ e; omega) (fun e => by have := l4 _ e; omega) (fun e => by have := l4 _ e; omega) (fun k e1 e2 => by have := l3 _ e1; have := l4 _ e2; omega)⟩
    · simp only [List.getElem_toArray, List.getElem_cons_succ, List.getElem_cons_zero]
      rw [if_pos (by rfl)]
      go_simp
      have kn := (Kept.refl 0 0 wd).alloc (.cells #[.slice none 0 0] 76)
      replace r1 := r1.kept kn (by omega)
      replace r2 := r2.kept kn (by omega)
      replace kw := kw.trans kn
      replace qf0 := kn.loose0 (World.block_lt_of_cell? _ _ q0) qf0
      replace yf0 := kn.loose0 (World.block_lt_of_cell? _ _ y0) yf0
      replace p0 := kn.cell0 p0
      replace t0 := kn.cell0 t0
      replace q0 := kn.cell0 q0
      replace y0 := kn.cell0 y0
      replace K := hide ((unhide K).trans kn)
      have z7 := kn.size
      clear kn
      have szn : wd.heap.size < (wd.alloc (.cells #[.slice none 0 0] 76)).heap.size := by simp
      have n0 : (wd.alloc (.cells #[.slice none 0 0] 76)).cell? ⟨wd.heap.size, 0, none⟩ = some (.slice none 0 0) := new_cell2 _ _ _ _ _ _ rfl rfl
      have nf0 : (wd.alloc (.cells #[.slice none 0 0] 76)).frozen? ⟨wd.heap.size, 0, none⟩ = false := new_loose2 _ _ _ _ _ rfl
      clear hHeld
      refine hK.out _ _ ?_ (fun hHeld => ?_)
      · exact ⟨p0, t0⟩
      clear hK KK
      try simp only [Act.put, List.getElem_toArray, List.getElem_cons_succ, List.getElem_cons_zero, List.setIfInBounds_toArray, List.set_cons_zero, List.set_cons_succ]
      generalize wd.alloc (.cells #[.slice none 0 0] 76) = w6 at *
      refine wpAnyH_ready (rs := [1, 4]) (by kernel_rfl) (by simp) ?_
      refine AllReadyH.cons rfl (fun KK hK => ?_) (AllReadyH.cons rfl (fun KK hK => ?_) AllReadyH.nil)
      · simp only [List.getElem_toArray, List.getElem_cons_succ, List.getElem_cons_zero]
        rw [if_pos (by rfl)]
        refine wps1 87 (.tmp 30) _ rfl in_limbsOf (.agg #[.slice a1 xs.length c1]) rfl (limbsOf_impl _ r1 mx) ?_
        rintro e w8 ⟨v3, rfl, o3, k8⟩
        refine ⟨_, rfl, ?_⟩
        replace r1 := r1.kept k8 (by omega)
        replace r2 := r2.kept k8 (by omega)
        replace kw := kw.trans k8
        replace qf0 := k8.loose0 (World.block_lt_of_cell? _ _ q0) qf0
        replace yf0 := k8.loose0 (World.block_lt_of_cell? _ _ y0) yf0
        replace nf0 := k8.loose0 (World.block_lt_of_cell? _ _ n0) nf0
        replace p0 := k8.cell0 p0
        replace t0 := k8.cell0 t0
        replace q0 := k8.cell0 q0
        replace y0 := k8.cell0 y0
        replace n0 := k8.cell0 n0
        replace K := hide ((unhide K).trans k8)
        have z9 := k8.size
        clear k8
        have l3 := o3.lt
        obtain ⟨a3, c3, hv⟩ := own_slice o3
        subst hv
        clear hHeld
        refine hK.out _ _ ?_ (fun hHeld => ?_)
        · exact ⟨p0, t0⟩
        clear hK KK
        try simp only [Act.put, List.getElem_toArray, List.getElem_cons_succ, List.getElem_cons_zero, List.setIfInBounds_toArray, List.set_cons_zero, List.set_cons_succ]
        refine wpAnyH_ready (rs := [3, 4]) (by kernel_rfl) (by simp) ?_
        refine AllReadyH.cons rfl (fun KK hK => ?_) (AllReadyH.cons rfl (fun KK hK => ?_) AllReadyH.nil)
        · simp only [List.getElem_toArray, List.getElem_cons_succ, List.getElem_cons_zero]
          rw [if_pos (by rfl)]
          refine wps1 87 (.tmp 32) _ rfl in_limbsOf (.agg #[.slice a2 ys.length c2]) rfl (limbsOf_impl _ r2 my) ?_
          rintro e w10 ⟨v4, rfl, o4, k10⟩
          refine ⟨_, rfl, ?_⟩
          replace r1 := r1.kept k10 (by omega)
          replace r2 := r2.kept k10 (by omega)
          replace kw := kw.trans k10
          replace o3 := own_kept o3 k10
          replace qf0 := k10.loose0 (World.block_lt_of_cell? _ _ q0) qf0
          replace yf0 := k10.loose0 (World.block_lt_of_cell? _ _ y0) yf0
          replace nf0 := k10.loose0 (World.block_lt_of_cell? _ _ n0) nf0
          replace p0 := k10.cell0 p0
          replace t0 := k10.cell0 t0
          replace q0 := k10.cell0 q0
          replace y0 := k10.cell0 y0
          replace n0 := k10.cell0 n0
          replace K := hide ((unhide K).trans k10)
          have z11 := k10.size
          clear k10
          have l4 := o4.lt
          obtain ⟨a4, c4, hv⟩ := own_slice o4
          subst hv
          clear hHeld
          refine hK.out _ _ ?_ (fun hHeld => ?_)
          · exact ⟨p0, t0⟩
          clear hK KK
          try simp only [Act.put, List.getElem_toArray, List.getElem_cons_succ, List.getElem_cons_zero, List.setIfInBounds_toArray, List.set_cons_zero, List.set_cons_succ]
          refine wpAnyH_ready (rs := [4]) (by kernel_rfl) (by simp) ?_
          refine AllReadyH.cons rfl (fun KK hK => ?_) AllReadyH.nil
          · simp only [List.getElem_toArray, List.getElem_cons_succ, List.getElem_cons_zero]
            rw [if_pos (by rfl)]
            go_simp
            have kn := (Kept.refl 0 0 w10).alloc (.cells #[.slice none 0 0] 76)
            replace r1 := r1.kept kn (by omega)
            replace r2 := r2.kept kn (by omega)
            replace kw := kw.trans kn
            replace o3 := own_kept o3 kn
            replace o4 := own_kept o4 kn
            replace qf0 := kn.loose0 (World.block_lt_of_cell? _ _ q0) qf0
            replace yf0 := kn.loose0 (World.block_lt_of_cell? _ _ y0) yf0
            replace nf0 := kn.loose0 (World.block_lt_of_cell? _ _ n0) nf0
            replace p0 := kn.cell0 p0
            replace t0 := kn.cell0 t0
            replace q0 := kn.cell0 q0
            replace y0 := kn.cell0 y0
            replace n0 := kn.cell0 n0
            replace K := hide ((unhide K).trans kn)
            have z13 := kn.size
            clear kn
            have szx : w10.heap.size < (w10.alloc (.cells #[.slice none 0 0] 76)).heap.size := by simp
            have x0 : (w10.alloc (.cells #[.slice none 0 0] 76)).cell? ⟨w10.heap.size, 0, none⟩ = some (.slice none 0 0) := new_cell2 _ _ _ _ _ _ rfl rfl
            have xf0 : (w10.alloc (.cells #[.slice none 0 0] 76)).frozen? ⟨w10.heap.size, 0, none⟩ = false := new_loose2 _ _ _ _ _ rfl
            clear hHeld
            refine hK.out _ _ ?_ (fun hHeld => ?_)
            · exact ⟨p0, t0⟩
            clear hK KK
            try simp only [Act.put, List.getElem_toArray, List.getElem_cons_succ, List.getElem_cons_zero, List.setIfInBounds_toArray, List.set_cons_zero, List.set_cons_succ]
            generalize w10.alloc (.cells #[.slice none 0 0] 76) = w12 at *
            refine wpAnyH_ready (rs := [6]) (by kernel_rfl) (by simp) ?_
            refine AllReadyH.cons rfl (fun KK hK => ?_) AllReadyH.nil
            simp only [List.getElem_toArray, List.getElem_cons_succ, List.getElem_cons_zero]
            rw [if_pos (by rfl)]
            go_simp
            clear hHeld
            refine hK.out _ _ ?_ (fun hHeld => ?_)
            · exact ⟨(cell_aside _ (by have := unhide S0; dsimp only; omega) p0), (cell_aside _ (by have := unhide S0; dsimp only; omega) t0)⟩
            clear hK KK
            try simp only [Act.put, List.getElem_toArray, List.getElem_cons_succ, List.getElem_cons_zero, List.setIfInBounds_toArray, List.set_cons_zero, List.set_cons_succ]
            refine wpAnyH_ready (rs := [7]) (by kernel_rfl) (by simp) ?_
            refine AllReadyH.cons rfl (fun KK hK => ?_) AllReadyH.nil
            simp only [List.getElem_toArray, List.getElem_cons_succ, List.getElem_cons_zero]
            rw [if_pos (by rfl)]
            go_simp
            clear hHeld
            refine hK.out _ _ ?_ (fun hHeld => ?_)
            · exact ⟨(cell_aside _ (by have := unhide S0; dsimp only; omega) (cell_aside _ (by have := unhide S0; dsimp only; omega) p0)), (cell_aside _ (by have := unhide S0; dsimp only; omega) (cell_aside _ (by have := unhide S0; dsimp only; omega) t0))⟩
            clear hK KK
            try simp only [Act.put, List.getElem_toArray, List.getElem_cons_succ, List.getElem_cons_zero, List.setIfInBounds_toArray, List.set_cons_zero, List.set_cons_succ]
            refine wpAnyH_done (by kernel_rfl) ?_ _
            clear hHeld
            go_wp2_with fail
            go_meet
            exact ⟨_, _, _, _, rfl, rfl, two_set kw o3 o4 x0 xf0 n0 nf0 (by omega) (by omega) (by omega) (by omega) (by omega) (fun e => by have := l3 _ e; omega) (fun e => by have := l3 _ e; omega) (fun e => by have := l4 _ e; omega) (fun e => by have := l4 _ e; omega) (fun k e1 e2 => by have := l3 _ e1; have := l4 _ e2; omega)⟩
        · simp only [List.getElem_toArray, List.getElem_cons_succ, List.getElem_cons_zero]
          rw [if_pos (by rfl)]
          go_simp
          have kn := (Kept.refl 0 0 w8).alloc (.cells #[.slice none 0 0] 76)
          replace r1 := r1.kept kn (by omega)
          replace r2 := r2.kept kn (by omega)
          replace kw := kw.trans kn
          replace o3 := own_kept o3 kn
          replace qf0 := kn.loose0 (World.block_lt_of_cell? _ _ q0) qf0
          replace yf0 := kn.loose0 (World.block_lt_of_cell? _ _ y0) yf0
          replace nf0 := kn.loose0 (World.block_lt_of_cell? _ _ n0) nf0
          replace p0 := kn.cell0 p0
          replace t0 := kn.cell0 t0
          replace q0 := kn.cell0 q0
          replace y0 := kn.cell0 y0
          replace n0 := kn.cell0 n0
          replace K := hide ((unhide K).trans kn)
          have z11 := kn.size
          clear kn
          have szx : w8.heap.size < (w8.alloc (.cells #[.slice none 0 0] 76)).heap.size := by simp
          have x0 : (w8.alloc (.cells #[.slice none 0 0] 76)).cell? ⟨w8.heap.size, 0, none⟩ = some (.slice none 0 0) := new_cell2 _ _ _ _ _ _ rfl rfl
          have xf0 : (w8.alloc (.cells #[.slice none 0 0] 76)).frozen? ⟨w8.heap.size, 0, none⟩ = false := new_loose2 _ _ _ _ _ rfl
          clear hHeld
          refine hK.out _ _ ?_ (fun hHeld => ?_)
          · exact ⟨p0, t0⟩
          clear hK KK
          try simp only [Act.put, List.getElem_toArray, List.getElem_cons_succ, List.getElem_cons_zero, List.setIfInBounds_toArray, List.set_cons_zero, List.set_cons_succ]
          generalize w8.alloc (.cells #[.slice none 0 0] 76) = w10 at *
          refine wpAnyH_ready (rs := [3]) (by kernel_rfl) (by simp) ?_
          refine AllReadyH.cons rfl (fun KK hK => ?_) AllReadyH.nil
          · simp only [List.getElem_toArray, List.getElem_cons_succ, List.getElem_cons_zero]
            rw [if_pos (by rfl)]
            refine wps1 87 (.tmp 32) _ rfl in_limbsOf (.agg #[.slice a2 ys.length c2]) rfl (limbsOf_impl _ r2 my) ?_
            rintro e w12 ⟨v4, rfl, o4, k12⟩
            refine ⟨_, rfl, ?_⟩
            replace r1 := r1.kept k12 (by omega)
            replace r2 := r2.kept k12 (by omega)
            replace kw := kw.trans k12
            replace o3 := own_kept o3 k12
            replace qf0 := k12.loose0 (World.block_lt_of_cell? _ _ q0) qf0
            replace yf0 := k12.loose0 (World.block_lt_of_cell? _ _ y0) yf0
            replace nf0 := k12.loose0 (World.block_lt_of_cell? _ _ n0) nf0
            replace xf0 := k12.loose0 (World.block_lt_of_cell? _ _ x0) xf0
            replace p0 := k12.cell0 p0
            replace t0 := k12.cell0 t0
            replace q0 := k12.cell0 q0
            replace y0 := k12.cell0 y0
            replace n0 := k12.cell0 n0
            replace x0 := k12.cell0 x0
            replace K := hide ((unhide K).trans k12)
            have z13 := k12.size
            clear k12
            have l4 := o4.lt
            obtain ⟨a4, c4, hv⟩ := own_slice o4
            subst hv
            clear hHeld
            refine hK.out _ _ ?_ (fun hHeld => ?_)
            · exact ⟨p0, t0⟩
            clear hK KK
            try simp only [Act.put, List.getElem_toArray, List.getElem_cons_succ, List.getElem_cons_zero, List.setIfInBounds_toArray, List.set_cons_zero, List.set_cons_succ]
            refine wpAnyH_ready (rs := [6]) (by kernel_rfl) (by simp) ?_
            refine AllReadyH.cons rfl (fun KK hK => ?_) AllReadyH.nil
            simp only [List.getElem_toArray, List.getElem_cons_succ, List.getElem_cons_zero]
            rw [if_pos (by rfl)]
            go_simp
            clear hHeld
            refine hK.out _ _ ?_ (fun hHeld => ?_)
            · exact ⟨(cell_aside _ (by have := unhide S0; dsimp only; omega) p0), (cell_aside _ (by have := unhide S0; dsimp only; omega) t0)⟩
            clear hK KK
            try simp only [Act.put, List.getElem_toArray, List.getElem_cons_succ, List.getElem_cons_zero, List.setIfInBounds_toArray, List.set_cons_zero, List.set_cons_succ]
            refine wpAnyH_ready (rs := [7]) (by kernel_rfl) (by simp) ?_
            refine AllReadyH.cons rfl (fun KK hK => ?_) AllReadyH.nil
            simp only [List.getElem_toArray, List.getElem_cons_succ, List.getElem_cons_zero]
            rw [if_pos (by rfl)]
            go_simp
            clear hHeld
            refine hK.out _ _ ?_ (fun hHeld => ?_)
            · exact ⟨(cell_aside _ (by have := unhide S0; dsimp only; omega) (cell_aside _ (by have := unhide S0; dsimp only; omega) p0)), (cell_aside _ (by have := unhide S0; dsimp only; omega) (cell_aside _ (by have := unhide S0; dsimp only; omega) t0))⟩
            clear hK KK
            try simp only [Act.put, List.getElem_toArray, List.getElem_cons_succ, List.getElem_cons_zero, List.setIfInBounds_toArray, List.set_cons_zero, List.set_cons_succ]
            refine wpAnyH_done (by kernel_rfl) ?_ _
            clear hHeld
            go_wp2_with fail
            go_meet
            exact ⟨_, _, _, _, rfl, rfl, two_set kw o3 o4 x0 xf0 n0 nf0 (by omega) (by omega) (by omega) (by omega) (by omega) (fun e => by have := l3 _ e; omega) (fun e => by have := l3 _ e; omega) (fun e => by have := l4 _ e; omega) (fun e => by have := l4 _ e; omega) (fun k e1 e2 => by have := l3 _ e1; have := l4 _ e2; omega)⟩
      · simp only [List.getElem_toArray, List.getElem_cons_succ, List.getElem_cons_zero]
        rw [if_pos (by rfl)]
        go_simp
        have kn := (Kept.refl 0 0 w6).alloc (.cells #[.slice none 0 0] 76)
        replace r1 := r1.kept kn (by omega)
        replace r2 := r2.kept kn (by omega)
        replace kw := kw.trans kn
        replace qf0 := kn.loose0 (World.block_lt_of_cell? _ _ q0) qf0
        replace yf0 := kn.loose0 (World.block_lt_of_cell? _ _ y0) yf0
        replace nf0 := kn.loose0 (World.block_lt_of_cell? _ _ n0) nf0
        replace p0 := kn.cell0 p0
        replace t0 := kn.cell0 t0
        replace q0 := kn.cell0 q0
        replace y0 := kn.cell0 y0
        replace n0 := kn.cell0 n0
        replace K := hide ((unhide K).trans kn)
        have z9 := kn.size
        clear kn
        have szx : w6.heap.size < (w6.alloc (.cells #[.slice none 0 0] 76)).heap.size := by simp
        have x0 : (w6.alloc (.cells #[.slice none 0 0] 76)).cell? ⟨w6.heap.size, 0, none⟩ = some (.slice none 0 0) := new_cell2 _ _ _ _ _ _ rfl rfl
        have xf0 : (w6.alloc (.cells #[.slice none 0 0] 76)).frozen? ⟨w6.heap.size, 0, none⟩ = false := new_loose2 _ _ _ _ _ rfl
        clear hHeld
        refine hK.out _ _ ?_ (fun hHeld => ?_)
        · exact ⟨p0, t0⟩
        clear hK KK
        try simp only [Act.put, List.getElem_toArray, List.getElem_cons_succ, List.getElem_cons_zero, List.setIfInBounds_toArray, List.set_cons_zero, List.set_cons_succ]
        generalize w6.alloc (.cells #[.slice none 0 0] 76) = w8 at *
        refine wpAnyH_ready (rs := [1]) (by kernel_rfl) (by simp) ?_
        refine AllReadyH.cons rfl (fun KK hK => ?_) AllReadyH.nil
        · simp only [List.getElem_toArray, List.getElem_cons_succ, List.getElem_cons_zero]
          rw [if_pos (by rfl)]
          refine wps1 87 (.tmp 30) _ rfl in_limbsOf (.agg #[.slice a1 xs.length c1]) rfl (limbsOf_impl _ r1 mx) ?_
          rintro e w10 ⟨v3, rfl, o3, k10⟩
          refine ⟨_, rfl, ?_⟩
          replace r1 := r1.kept k10 (by omega)
          replace r2 := r2.kept k10 (by omega)
          replace kw := kw.trans k10
          replace qf0 := k10.loose0 (World.block_lt_of_cell? _ _ q0) qf0
          replace yf0 := k10.loose0 (World.block_lt_of_cell? _ _ y0) yf0
          replace nf0 := k10.loose0 (World.block_lt_of_cell? _ _ n0) nf0
          replace xf0 := k10.loose0 (World.block_lt_of_cell? _ _ x0) xf0
          replace p0 := k10.cell0 p0
          replace t0 := k10.cell0 t0
          replace q0 := k10.cell0 q0
          replace y0 := k10.cell0 y0
          replace n0 := k10.cell0 n0
          replace x0 := k10.cell0 x0
          replace K := hide ((unhide K).trans k10)
          have z11 := k10.size
          clear k10
          have l3 := o3.lt
          obtain ⟨a3, c3, hv⟩ := own_slice o3
          subst hv
          clear hHeld
          refine hK.out _ _ ?_ (fun hHeld => ?_)
          · exact ⟨p0, t0⟩
          clear hK KK
          try simp only [Act.put, List.getElem_toArray, List.getElem_cons_succ, List.getElem_cons_zero, List.setIfInBounds_toArray, List.set_cons_zero, List.set_cons_succ]
          refine wpAnyH_ready (rs := [3]) (by kernel_rfl) (by simp) ?_
          refine AllReadyH.cons rfl (fun KK hK => ?_) AllReadyH.nil
          · simp only [List.getElem_toArray, List.getElem_cons_succ, List.getElem_cons_zero]
            rw [if_pos (by rfl)]
            refine wps1 87 (.tmp 32) _ rfl in_limbsOf (.agg #[.slice a2 ys.length c2]) rfl (limbsOf_impl _ r2 my) ?_
            rintro e w12 ⟨v4, rfl, o4, k12⟩
            refine ⟨_, rfl, ?_⟩
            replace r1 := r1.kept k12 (by omega)
            replace r2 := r2.kept k12 (by omega)
            replace kw := kw.trans k12
            replace o3 := own_kept o3 k12
            replace qf0 := k12.loose0 (World.block_lt_of_cell? _ _ q0) qf0
            replace yf0 := k12.loose0 (World.block_lt_of_cell? _ _ y0) yf0
            replace nf0 := k12.loose0 (World.block_lt_of_cell? _ _ n0) nf0
            replace xf0 := k12.loose0 (World.block_lt_of_cell? _ _ x0) xf0
            replace p0 := k12.cell0 p0
            replace t0 := k12.cell0 t0
            replace q0 := k12.cell0 q0
            replace y0 := k12.cell0 y0
            replace n0 := k12.cell0 n0
            replace x0 := k12.cell0 x0
            replace K := hide ((unhide K).trans k12)
            have z13 := k12.size
            clear k12
            have l4 := o4.lt
            obtain ⟨a4, c4, hv⟩ := own_slice o4
            subst hv
            clear hHeld
            refine hK.out _ _ ?_ (fun hHeld => ?_)
            · exact ⟨p0, t0⟩
            clear hK KK
            try simp only [Act.put, List.getElem_toArray, List.getElem_cons_succ, List.getElem_cons_zero, List.setIfInBounds_toArray, List.set_cons_zero, List.set_cons_succ]
            refine wpAnyH_ready (rs := [6]) (by kernel_rfl) (by simp) ?_
            refine AllReadyH.cons rfl (fun KK hK => ?_) AllReadyH.nil
            simp only [List.getElem_toArray, List.getElem_cons_succ, List.getElem_cons_zero]
            rw [if_pos (by rfl)]
            go_simp
            clear hHeld
            refine hK.out _ _ ?_ (fun hHeld => ?_)
            · exact ⟨(cell_aside _ (by have := unhide S0; dsimp only; omega) p0), (cell_aside _ (by have := unhide S0; dsimp only; omega) t0)⟩
            clear hK KK
            try simp only [Act.put, List.getElem_toArray, List.getElem_cons_succ, List.getElem_cons_zero, List.setIfInBounds_toArray, List.set_cons_zero, List.set_cons_succ]
            refine wpAnyH_ready (rs := [7]) (by kernel_rfl) (by simp) ?_
            refine AllReadyH.cons rfl (fun KK hK => ?_) AllReadyH.nil
            simp only [List.getElem_toArray, List.getElem_cons_succ, List.getElem_cons_zero]
            rw [if_pos (by rfl)]
            go_simp
            clear hHeld
            refine hK.out _ _ ?_ (fun hHeld => ?_)
            · exact ⟨(cell_aside _ (by have := unhide S0; dsimp only; omega) (cell_aside _ (by have := unhide S0; dsimp only; omega) p0)), (cell_aside _ (by have := unhide S0; dsimp only; omega) (cell_aside _ (by have := unhide S0; dsimp only; omega) t0))⟩
            clear hK KK
            try simp only [Act.put, List.getElem_toArray, List.getElem_cons_succ, List.getElem_cons_zero, List.setIfInBounds_toArray, List.set_cons_zero, List.set_cons_succ]
            refine wpAnyH_done (by kernel_rfl) ?_ _
            clear hHeld
            go_wp2_with fail
            go_meet
            exact ⟨_, _, _, _, rfl, rfl, two_set kw o3 o4 x0 xf0 n0 nf0 (by omega) (by omega) (by omega) (by omega) (by omega) (fun e => by have := l3 _ e; omega) (fun e => by have := l3 _ e; omega) (fun e => by have := l4 _ e; omega) (fun e => by have := l4 _ e; omega) (fun k e1 e2 => by have := l3 _ e1; have := l4 _ e2; omega)⟩
  case rest =>
    obtain ⟨X, Y, u1, u2, rfl, rfl, tw⟩ := hcut
    have hb1 := tw.k.size
    clear r1 r2
    go_wp2_with fail
    have mk := divide_impl _ tw.n1 tw.n2 hb1 hx hy (List.length_pos_iff.1 (show 0 < ys.length by omega)) (by omega) (by omega)
    rw [unhide EQ, unhide ER] at mk
    refine mk.mono ?_
    rintro e w6 ⟨vq, rfl, dd⟩
    obtain ⟨u7, nL, -, -⟩ := dd.r
    have oq := dd.q
    have k6 := tw.k.mod dd.md (fun i e => e.elim (fun h => by rw [h]; exact tw.b1) (fun h => (tw.n1.own.lt i h).1))
    clear mk dd tw
    replace qf0 := k6.loose0 (World.block_lt_of_cell? _ _ q0) qf0
    replace yf0 := k6.loose0 (World.block_lt_of_cell? _ _ y0) yf0
    replace p0 := k6.cell0 p0
    replace t0 := k6.cell0 t0
    replace q0 := k6.cell0 q0
    replace y0 := k6.cell0 y0
    replace K := hide ((unhide K).trans k6)
    have z5 := k6.size
    clear k6
    obtain ⟨a6, c6, hv⟩ := own_slice oq
    subst hv
    have nR := Num.new 76 oq
    clear oq
    have kn := (Kept.refl 0 0 w6).alloc (.cells #[.slice a6 zq.length c6] 76)
    have j0 : (w6.alloc (.cells #[.slice a6 zq.length c6] 76)).cell? ⟨w6.heap.size, 0, none⟩ = some (.slice a6 zq.length c6) := new_cell2 _ _ _ _ _ _ (by simp) rfl
    have sz6 : w6.heap.size + 1 = (w6.alloc (.cells #[.slice a6 zq.length c6] 76)).heap.size := by simp
    have SZ6 := hide sz6
    replace sz6 := Nat.le_of_eq sz6
    replace nL := nL.kept kn
    replace qf0 := kn.loose0 (World.block_lt_of_cell? _ _ q0) qf0
    replace yf0 := kn.loose0 (World.block_lt_of_cell? _ _ y0) yf0
    replace p0 := kn.cell0 p0
    replace t0 := kn.cell0 t0
    replace q0 := kn.cell0 q0
    replace y0 := kn.cell0 y0
    replace K := hide ((unhide K).trans kn)
    have z7 := kn.size
    clear kn
    clear j0
    go_wp2_with fail
    generalize (w6.alloc (.cells #[.slice a6 zq.length c6] 76)) = wn8 at *
    refine (told_impl _ nR).mono ?_
    rintro e w9 ⟨v3, rfl, r3, k9⟩
    replace nL := nL.kept k9
    replace nR := nR.kept k9
    replace qf0 := k9.loose0 (World.block_lt_of_cell? _ _ q0) qf0
    replace yf0 := k9.loose0 (World.block_lt_of_cell? _ _ y0) yf0
    replace p0 := k9.cell0 p0
    replace t0 := k9.cell0 t0
    replace q0 := k9.cell0 q0
    replace y0 := k9.cell0 y0
    replace K := hide ((unhide K).trans k9)
    have z10 := k9.size
    clear k9
    have tq : tell zq = zq := by unfold tell; rw [if_pos lq]
    rw [tq] at r3
    rw [decide_eq_true lq]
    clear tq
    obtain ⟨a3, c3, hv⟩ := Row.form' r3
    subst hv
    clear nR
    obtain ⟨mm, hmm⟩ : ∃ mm, mm = w9.heap.size := ⟨_, rfl⟩
    replace r3 := r3.wider (lo' := wn8.heap.size) (hi' := mm) (Nat.le_refl _) (by omega)
    have hmm' := Nat.le_of_eq hmm
    have hmm2 := Nat.le_of_eq hmm.symm
    clear hmm
    have kn := (Kept.refl 0 0 w9).alloc (.cells #[.slice a3 zq.length c3] 26)
    have m0 : (w9.alloc (.cells #[.slice a3 zq.length c3] 26)).cell? ⟨w9.heap.size, 0, none⟩ = some (.slice a3 zq.length c3) := new_cell2 _ _ _ _ _ _ (by simp) rfl
    have sz11 : w9.heap.size + 1 = (w9.alloc (.cells #[.slice a3 zq.length c3] 26)).heap.size := by simp
    have SZ11 := hide sz11
    replace sz11 := Nat.le_of_eq sz11
    replace r3 := r3.kept kn (by omega)
    replace nL := nL.kept kn
    replace qf0 := kn.loose0 (World.block_lt_of_cell? _ _ q0) qf0
    replace yf0 := kn.loose0 (World.block_lt_of_cell? _ _ y0) yf0
    replace p0 := kn.cell0 p0
    replace t0 := kn.cell0 t0
    replace q0 := kn.cell0 q0
    replace y0 := kn.cell0 y0
    replace K := hide ((unhide K).trans kn)
    have z12 := kn.size
    clear kn
    go_wp2_with fail
    generalize (w9.alloc (.cells #[.slice a3 zq.length c3] 26)) = wn13 at *
    refine (told_impl _ nL).mono ?_
    rintro e w14 ⟨v4, rfl, r4, k14⟩
    replace r3 := r3.kept k14 (by omega)
    replace nL := nL.kept k14
    replace qf0 := k14.loose0 (World.block_lt_of_cell? _ _ q0) qf0
    replace yf0 := k14.loose0 (World.block_lt_of_cell? _ _ y0) yf0
    replace p0 := k14.cell0 p0
    replace t0 := k14.cell0 t0
    replace q0 := k14.cell0 q0
    replace y0 := k14.cell0 y0
    replace m0 := k14.cell0 m0
    replace K := hide ((unhide K).trans k14)
    have z15 := k14.size
    clear k14
    have tq : tell zr = zr := by unfold tell; rw [if_pos lr]
    rw [tq] at r4
    rw [decide_eq_true lr]
    clear tq
    obtain ⟨a4, c4, hv⟩ := Row.form' r4
    subst hv
    clear nL
    have kn := (Kept.refl 0 0 w14).alloc (.cells #[.slice a4 zr.length c4] 26)
    have n0 : (w14.alloc (.cells #[.slice a4 zr.length c4] 26)).cell? ⟨w14.heap.size, 0, none⟩ = some (.slice a4 zr.length c4) := new_cell2 _ _ _ _ _ _ (by simp) rfl
    have sz16 : w14.heap.size + 1 = (w14.alloc (.cells #[.slice a4 zr.length c4] 26)).heap.size := by simp
    have SZ16 := hide sz16
    replace sz16 := Nat.le_of_eq sz16
    replace r3 := r3.kept kn (by omega)
    replace r4 := r4.kept kn (by omega)
    replace qf0 := kn.loose0 (World.block_lt_of_cell? _ _ q0) qf0
    replace yf0 := kn.loose0 (World.block_lt_of_cell? _ _ y0) yf0
    replace p0 := kn.cell0 p0
    replace t0 := kn.cell0 t0
    replace q0 := kn.cell0 q0
    replace y0 := kn.cell0 y0
    replace m0 := kn.cell0 m0
    replace K := hide ((unhide K).trans kn)
    have z17 := kn.size
    clear kn
    go_wp2_with fail
    generalize (w14.alloc (.cells #[.slice a4 zr.length c4] 26)) = wn18 at *
    have kd := (Kept.refl 0 0 wn18).drew
    replace r3 := r3.kept kd (by omega)
    replace r4 := r4.kept kd (by omega)
    replace qf0 := kd.loose0 (World.block_lt_of_cell? _ _ q0) qf0
    replace yf0 := kd.loose0 (World.block_lt_of_cell? _ _ y0) yf0
    replace p0 := kd.cell0 p0
    replace t0 := kd.cell0 t0
    replace q0 := kd.cell0 q0
    replace y0 := kd.cell0 y0
    replace m0 := kd.cell0 m0
    replace n0 := kd.cell0 n0
    replace K := hide ((unhide K).trans kd)
    have z19 := kd.size
    clear kd
    refine wp_region_held_drew (S := (fun w' => w'.cell? ⟨w9.heap.size, 0, none⟩ = some (.slice a3 zq.length c3) ∧ w'.cell? ⟨w14.heap.size, 0, none⟩ = some (.slice a4 zr.length c4))) (by kernel_rfl) ?_ (fun hHeld => ?_)
    · exact ⟨m0, n0⟩
    generalize wn18.drew = wn20 at *
    refine wpAnyH_take (i := 0) (oi := _) (v := .agg #[.slice a3 zq.length c3]) rfl (by kernel_rfl) (by kernel_rfl) (by kernel_rfl) (fun _ _ _ h => h) (Or.inl ⟨by rfl, ?_⟩) hHeld ?_
    · intro wq hSw
      try dsimp only at hSw
      go_simp
    try simp only [Act.put, List.getElem_toArray, List.getElem_cons_succ, List.getElem_cons_zero, List.setIfInBounds_toArray, List.set_cons_zero, List.set_cons_succ]
    refine wpAnyH_take (i := 1) (oi := _) (v := .agg #[.slice a4 zr.length c4]) rfl (by kernel_rfl) (by kernel_rfl) (by kernel_rfl) (fun _ _ _ h => h) (Or.inl ⟨by rfl, ?_⟩) hHeld ?_
    · intro wq hSw
      try dsimp only at hSw
      go_simp
    try simp only [Act.put, List.getElem_toArray, List.getElem_cons_succ, List.getElem_cons_zero, List.setIfInBounds_toArray, List.set_cons_zero, List.set_cons_succ]
    refine wpAnyH_take (i := 2) (oi := _) (v := .bool true) rfl (by kernel_rfl) (by kernel_rfl) (by kernel_rfl) (fun _ _ _ h => h) (Or.inl ⟨by rfl, ?_⟩) hHeld ?_
    · intro wq hSw
      try dsimp only at hSw
      go_simp
    try simp only [Act.put, List.getElem_toArray, List.getElem_cons_succ, List.getElem_cons_zero, List.setIfInBounds_toArray, List.set_cons_zero, List.set_cons_succ]
    refine wpAnyH_ready (rs := [3]) (by kernel_rfl) (by simp) ?_
    refine AllReadyH.cons rfl (fun KK hK => ?_) AllReadyH.nil
    simp only [List.getElem_toArray, List.getElem_cons_succ, List.getElem_cons_zero]
    rw [if_pos (by rfl)]
    go_simp
    clear hHeld
    refine hK.out _ _ ?_ (fun hHeld => ?_)
    · exact ⟨cell_aside _ (by have := unhide S0; dsimp only; omega) m0, cell_aside _ (by have := unhide S0; dsimp only; omega) n0⟩
    clear hK KK
    try simp only [Act.put, List.getElem_toArray, List.getElem_cons_succ, List.getElem_cons_zero, List.setIfInBounds_toArray, List.set_cons_zero, List.set_cons_succ]
    have sS0 := unhide S0
    replace r3 := r3.set_other (p := ⟨w.heap.size + 2, 0, none⟩) (by dsimp only; omega) (.slice a3 zq.length c3)
    replace r4 := r4.set_other (p := ⟨w.heap.size + 2, 0, none⟩) (by dsimp only; omega) (.slice a3 zq.length c3)
    replace p0 := cell_aside (.slice a3 zq.length c3) (r := ⟨w.heap.size + 2, 0, none⟩) (by dsimp only; omega) p0
    replace t0 := cell_aside (.slice a3 zq.length c3) (r := ⟨w.heap.size + 2, 0, none⟩) (by dsimp only; omega) t0
    replace y0 := cell_aside (.slice a3 zq.length c3) (r := ⟨w.heap.size + 2, 0, none⟩) (by dsimp only; omega) y0
    replace m0 := cell_aside (.slice a3 zq.length c3) (r := ⟨w.heap.size + 2, 0, none⟩) (by dsimp only; omega) m0
    replace n0 := cell_aside (.slice a3 zq.length c3) (r := ⟨w.heap.size + 2, 0, none⟩) (by dsimp only; omega) n0
    replace qf0 : (wn20.setCell ⟨w.heap.size + 2, 0, none⟩ (.slice a3 zq.length c3)).frozen? _ = false := (frozen_set _ _ _ _ _).trans qf0
    replace yf0 : (wn20.setCell ⟨w.heap.size + 2, 0, none⟩ (.slice a3 zq.length c3)).frozen? _ = false := (frozen_set _ _ _ _ _).trans yf0
    replace q0 : (wn20.setCell ⟨w.heap.size + 2, 0, none⟩ (.slice a3 zq.length c3)).cell? ⟨w.heap.size + 2, 0, none⟩ = some (.slice a3 zq.length c3) := cell_on _ _ _ _ _ q0
    replace K := hide ((unhide K).setNew (p := ⟨w.heap.size + 2, 0, none⟩) (by dsimp only; omega) (.slice a3 zq.length c3))
    have zs21 : (wn20.setCell ⟨w.heap.size + 2, 0, none⟩ (.slice a3 zq.length c3)).heap.size = wn20.heap.size := by simp [World.setCell]
    clear sS0
    generalize wn20.setCell ⟨w.heap.size + 2, 0, none⟩ (.slice a3 zq.length c3) = ws21 at *
    refine wpAnyH_ready (rs := [4]) (by kernel_rfl) (by simp) ?_
    refine AllReadyH.cons rfl (fun KK hK => ?_) AllReadyH.nil
    simp only [List.getElem_toArray, List.getElem_cons_succ, List.getElem_cons_zero]
    rw [if_pos (by rfl)]
    go_simp
    clear hHeld
    refine hK.out _ _ ?_ (fun hHeld => ?_)
    · exact ⟨cell_aside _ (by have := unhide S0; dsimp only; omega) m0, cell_aside _ (by have := unhide S0; dsimp only; omega) n0⟩
    clear hK KK
    try simp only [Act.put, List.getElem_toArray, List.getElem_cons_succ, List.getElem_cons_zero, List.setIfInBounds_toArray, List.set_cons_zero, List.set_cons_succ]
    have sS0 := unhide S0
    replace r3 := r3.set_other (p := ⟨w.heap.size + 3, 0, none⟩) (by dsimp only; omega) (.slice a4 zr.length c4)
    replace r4 := r4.set_other (p := ⟨w.heap.size + 3, 0, none⟩) (by dsimp only; omega) (.slice a4 zr.length c4)
    replace p0 := cell_aside (.slice a4 zr.length c4) (r := ⟨w.heap.size + 3, 0, none⟩) (by dsimp only; omega) p0
    replace t0 := cell_aside (.slice a4 zr.length c4) (r := ⟨w.heap.size + 3, 0, none⟩) (by dsimp only; omega) t0
    replace q0 := cell_aside (.slice a4 zr.length c4) (r := ⟨w.heap.size + 3, 0, none⟩) (by dsimp only; omega) q0
    replace m0 := cell_aside (.slice a4 zr.length c4) (r := ⟨w.heap.size + 3, 0, none⟩) (by dsimp only; omega) m0
    replace n0 := cell_aside (.slice a4 zr.length c4) (r := ⟨w.heap.size + 3, 0, none⟩) (by dsimp only; omega) n0
    replace qf0 : (ws21.setCell ⟨w.heap.size + 3, 0, none⟩ (.slice a4 zr.length c4)).frozen? _ = false := (frozen_set _ _ _ _ _).trans qf0
    replace yf0 : (ws21.setCell ⟨w.heap.size + 3, 0, none⟩ (.slice a4 zr.length c4)).frozen? _ = false := (frozen_set _ _ _ _ _).trans yf0
    replace y0 : (ws21.setCell ⟨w.heap.size + 3, 0, none⟩ (.slice a4 zr.length c4)).cell? ⟨w.heap.size + 3, 0, none⟩ = some (.slice a4 zr.length c4) := cell_on _ _ _ _ _ y0
    replace K := hide ((unhide K).setNew (p := ⟨w.heap.size + 3, 0, none⟩) (by dsimp only; omega) (.slice a4 zr.length c4))
    have zs22 : (ws21.setCell ⟨w.heap.size + 3, 0, none⟩ (.slice a4 zr.length c4)).heap.size = ws21.heap.size := by simp [World.setCell]
    clear sS0
    generalize ws21.setCell ⟨w.heap.size + 3, 0, none⟩ (.slice a4 zr.length c4) = ws22 at *
    refine wpAnyH_take (i := 5) (oi := _) (v := .bool true) rfl (by kernel_rfl) (by kernel_rfl) (by kernel_rfl) (fun _ _ _ h => h) (Or.inl ⟨by rfl, ?_⟩) hHeld ?_
    · intro wq hSw
      try dsimp only at hSw
      go_simp
    try simp only [Act.put, List.getElem_toArray, List.getElem_cons_succ, List.getElem_cons_zero, List.setIfInBounds_toArray, List.set_cons_zero, List.set_cons_succ]
    refine wpAnyH_done (by kernel_rfl) ?_ _
    clear hHeld
    have R1 := hide (r3.wider (lo' := w.heap.size) (hi' := mm) (by have := unhide S0; omega) (Nat.le_refl _))
    have R2 := hide (r4.tight.wider (lo' := mm) (by omega) (Nat.le_refl _))
    have hm1 : w.heap.size ≤ mm := by have := unhide S0; omega
    have hm2 : mm ≤ ws22.heap.size := by omega
    clear r3 r4
    go_wp2_with fail
    exact bodyPost_ret (v := .tuple #[.agg #[.slice a3 zq.length c3], .agg #[.slice a4 zr.length c4], .bool true]) (by simp [results, Try.results34, go_sem, q0, y0]) rfl ⟨_, _, mm, by rw [unhide EB], by rw [unhide HZQ]; exact unhide R1, by rw [unhide HZR]; exact unhide R2, hm1, hm2, unhide K⟩

end Go.Proofs.Ytdhponfpikclhaa

namespace Go.Proofs.Ytdhponfpikclhaa
open Go.RowKit
set_option linter.unusedVariables false
set_option maxRecDepth 8000
set_option linter.unusedSimpArgs false

set_option maxHeartbeats 8000000 in
theorem natMul_impl {b1 b2 : Bool} {l1 h1 l2 h2 : Nat} {v1 v2 : Value} {xs ys : List Int} (w : World) (r1 : Row .i64 b1 l1 h1 w v1 xs) (r2 : Row .i64 b2 l2 h2 w v2 ys) :
    Calls Try.prog 28 #[.agg #[v1], .agg #[v2]] w fun e w' => ∃ v', e = .returned (.tuple #[.agg #[v'], .bool (ansB (okB xs && okB ys) (val xs * val ys).toNat)]) ∧ Row .i64 true w.heap.size w'.heap.size w' v' (ansL (okB xs && okB ys) (val xs * val ys).toNat) ∧ Kept 0 0 w w' := by
  have k0 := (((Kept.refl 0 0 w).alloc (.cells #[v1] 26)).alloc (.cells #[v2] 26)).alloc (.cells #[.slice none 0 0] 26)
  have q1 := r1.kept k0 (by omega)
  have q2 := r2.kept k0 (by omega)
  have c1 : (((w.alloc (.cells #[v1] 26)).alloc (.cells #[v2] 26)).alloc (.cells #[.slice none 0 0] 26)).cell? ⟨w.heap.size, 0, none⟩ = some (v1) := old_cell _ (old_cell _ (new_cell_at _ _ _ _ (by simp)))
  have c2 : (((w.alloc (.cells #[v1] 26)).alloc (.cells #[v2] 26)).alloc (.cells #[.slice none 0 0] 26)).cell? ⟨w.heap.size + 1, 0, none⟩ = some (v2) := old_cell _ (new_cell_at _ _ _ _ (by simp))
  have c3 : (((w.alloc (.cells #[v1] 26)).alloc (.cells #[v2] 26)).alloc (.cells #[.slice none 0 0] 26)).cell? ⟨w.heap.size + 2, 0, none⟩ = some (.slice none 0 0) := new_cell_at _ _ _ _ (by simp)
  have f3 : (((w.alloc (.cells #[v1] 26)).alloc (.cells #[v2] 26)).alloc (.cells #[.slice none 0 0] 26)).frozen? ⟨w.heap.size + 2, 0, none⟩ = false := new_loose _ _ _ _ (by simp)
  obtain ⟨a1, d1, rfl⟩ := Row.form' r1
  obtain ⟨a2, d2, rfl⟩ := Row.form' r2
  clear r1 r2
  go_enter Try.func28, Try.ntmps28
  go_wp2_with fail
  generalize ((w.alloc (.cells #[.slice a1 xs.length d1] 26)).alloc (.cells #[.slice a2 ys.length d2] 26)).alloc (.cells #[.slice none 0 0] 26) = W at *
  refine (ok_impl _ q1).mono ?_
  rintro e w1 ⟨rfl, k1⟩
  replace c1 := k1.cell0 c1
  replace c2 := k1.cell0 c2
  replace f3 := k1.loose0 (World.block_lt_of_cell? _ _ c3) f3
  replace c3 := k1.cell0 c3
  replace q1 := q1.kept k1 (by omega)
  replace q2 := q2.kept k1 (by omega)
  have K := hide (k0.trans k1)
  clear k0 k1
  cases hok1 : okB xs
  · have HK := hide hok1
    clear q1 q2 hok1
    have K' := hide ((unhide K).setNew (p := ⟨w.heap.size + 2, 0, none⟩) (by simp) (.slice none 0 0))
    go_wp2_with fail
    have e0 : (okB xs && okB ys) = false := by simp [unhide HK]
    exact bodyPost_ret (v := .tuple #[.agg #[.slice none 0 0], .bool false]) (by simp [results, Try.results28, go_sem, c3]) rfl ⟨_, by rw [ansB_no e0], by rw [ansL_no e0]; exact Row.nil _ _ _ _ _, unhide K'⟩
  have HK1 := hide hok1
  clear hok1
  go_wp2_with fail
  refine (ok_impl _ q2).mono ?_
  rintro e w2 ⟨rfl, k2⟩
  replace c1 := k2.cell0 c1
  replace c2 := k2.cell0 c2
  replace f3 := k2.loose0 (World.block_lt_of_cell? _ _ c3) f3
  replace c3 := k2.cell0 c3
  replace q1 := q1.kept k2 (by omega)
  replace q2 := q2.kept k2 (by omega)
  replace K := hide ((unhide K).trans k2)
  clear k2
  cases hok2 : okB ys
  · have HK := hide hok2
    clear q1 q2 hok2
    have K' := hide ((unhide K).setNew (p := ⟨w.heap.size + 2, 0, none⟩) (by simp) (.slice none 0 0))
    go_wp2_with fail
    have e0 : (okB xs && okB ys) = false := by simp [unhide HK]
    exact bodyPost_ret (v := .tuple #[.agg #[.slice none 0 0], .bool false]) (by simp [results, Try.results28, go_sem, c3]) rfl ⟨_, by rw [ansB_no e0], by rw [ansL_no e0]; exact Row.nil _ _ _ _ _, unhide K'⟩
  have HK2 := hide hok2
  clear hok2
  have hx1 : xs.length ≤ 1000000 := by have := ((okB_iff xs).1 (unhide HK1)).1; omega
  have hx2 : ys.length ≤ 1000000 := by have := ((okB_iff ys).1 (unhide HK2)).1; omega
  go_upto_region 3 with fail
  go_cut [6, 7] (fun p q wx => ∃ X Y u1 u2, p = .pointer (some ⟨X, 0, none⟩) ∧ q = .pointer (some ⟨Y, 0, none⟩) ∧ Two w2 wx X Y u1 u2 xs ys)
  case first =>
    have b1' : w.heap.size < w2.heap.size := World.block_lt_of_cell? _ _ c1
    have b2' : w.heap.size + 1 < w2.heap.size := World.block_lt_of_cell? _ _ c2
    go_region_held3 (fun w' => w'.cell? ⟨w.heap.size, 0, none⟩ = some (.slice a1 xs.length d1) ∧ w'.cell? ⟨w.heap.size + 1, 0, none⟩ = some (.slice a2 ys.length d2) ∧ Kept 0 0 w2 w')
      (repeat (first
        | exact h4
        | exact h3
        | exact ⟨c1, c2, Kept.refl 0 0 _⟩
        | exact ⟨c1, c2, (Kept.refl 0 0 _).drew⟩
        | refine hold_alloc _ ?_
        | refine hold_drew ?_
        | refine hold_set _ ?_ b1' b2' (by simp <;> omega)))
      ((first
        | (go_at_call_of 87 (Value.agg #[Value.slice a1 xs.length d1])
           refine (limbsOf_kept q1 hx1 ?_).mono ?_
           · exact And.right (And.right (by assumption))
           rintro e w3 ⟨v3, rfl, o3, k3⟩
           have s3 := hold_size (by assumption) k3
           have h3 := hold_kept (by assumption) k3
           try
             have x3 := k3.cell0 (drew_cell (new_cell_at _ _ _ _ rfl))
             have fx3 := k3.loose0 (by simp <;> omega) (drew_loose (new_loose _ _ _ _ rfl))
             have lx3 := World.block_lt_of_cell? _ _ x3
             try simp only [World.size_alloc, heap_drew] at x3 fx3 lx3
             have nx3 := Nat.ne_of_lt lx3
             have mx3 := Nat.ne_of_gt lx3
           try
             have y3 := k3.cell0 (drew_cell (old_cell _ (new_cell_at _ _ _ _ rfl)))
             have fy3 := k3.loose0 (by simp <;> omega) (drew_loose (loose_old (by simp <;> omega) (new_loose _ _ _ _ rfl)))
             have ly3 := World.block_lt_of_cell? _ _ y3
             try simp only [World.size_alloc, heap_drew] at y3 fy3 ly3
             have ny3 := Nat.ne_of_lt ly3
             have my3 := Nat.ne_of_gt ly3
           obtain ⟨a3, d3, rfl⟩ := own_slice o3)
        | (go_at_call_of 87 (Value.agg #[Value.slice a2 ys.length d2])
           refine (limbsOf_kept q2 hx2 ?_).mono ?_
           · exact And.right (And.right (by assumption))
           rintro e w4 ⟨v4, rfl, o4, k4⟩
           have s4 := hold_size (by assumption) k4
           have h4 := hold_kept (by assumption) k4
           try
             have x4 := k4.cell0 (new_cell_at _ _ _ _ rfl)
             have fx4 := k4.loose0 (by simp <;> omega) (new_loose _ _ _ _ rfl)
             have lx4 := World.block_lt_of_cell? _ _ x4
             try simp only [World.size_alloc, heap_drew] at x4 fx4 lx4
             have nx4 := Nat.ne_of_lt lx4
             have mx4 := Nat.ne_of_gt lx4
           try
             have y4 := k4.cell0 (old_cell _ (new_cell_at _ _ _ _ rfl))
             have fy4 := k4.loose0 (by simp <;> omega) (loose_old (by simp <;> omega) (new_loose _ _ _ _ rfl))
             have ly4 := World.block_lt_of_cell? _ _ y4
             try simp only [World.size_alloc, heap_drew] at y4 fy4 ly4
             have ny4 := Nat.ne_of_lt ly4
             have my4 := Nat.ne_of_gt ly4
           try
             have gx3 := k4.cell0 (x3)
             have px3 := k4.loose0 (by simp <;> omega) (fx3)
             have qx3 := Nat.ne_of_lt (World.block_lt_of_cell? _ _ gx3)
             have rx3 := Nat.ne_of_gt (World.block_lt_of_cell? _ _ gx3)
             have lgx3 := World.block_lt_of_cell? _ _ gx3
             dsimp only at qx3 rx3 lgx3
           try
             have gx3 := k4.cell0 (old_cell _ x3)
             have px3 := k4.loose0 (by simp <;> omega) (loose_old (Nat.lt_of_lt_of_le lx3 (Nat.le_refl _)) fx3)
             have qx3 := Nat.ne_of_lt (World.block_lt_of_cell? _ _ gx3)
             have rx3 := Nat.ne_of_gt (World.block_lt_of_cell? _ _ gx3)
             have lgx3 := World.block_lt_of_cell? _ _ gx3
             dsimp only at qx3 rx3 lgx3
           try
             have gx3 := k4.cell0 (old_cell _ (old_cell _ x3))
             have px3 := k4.loose0 (by simp <;> omega) (loose_old (by simp <;> omega) (loose_old (Nat.lt_of_lt_of_le lx3 (Nat.le_refl _)) fx3))
             have qx3 := Nat.ne_of_lt (World.block_lt_of_cell? _ _ gx3)
             have rx3 := Nat.ne_of_gt (World.block_lt_of_cell? _ _ gx3)
             have lgx3 := World.block_lt_of_cell? _ _ gx3
             dsimp only at qx3 rx3 lgx3
           try
             have gy3 := k4.cell0 (y3)
             have py3 := k4.loose0 (by simp <;> omega) (fy3)
             have qy3 := Nat.ne_of_lt (World.block_lt_of_cell? _ _ gy3)
             have ry3 := Nat.ne_of_gt (World.block_lt_of_cell? _ _ gy3)
             have lgy3 := World.block_lt_of_cell? _ _ gy3
             dsimp only at qy3 ry3 lgy3
           try
             have gy3 := k4.cell0 (old_cell _ y3)
             have py3 := k4.loose0 (by simp <;> omega) (loose_old (Nat.lt_of_lt_of_le ly3 (Nat.le_refl _)) fy3)
             have qy3 := Nat.ne_of_lt (World.block_lt_of_cell? _ _ gy3)
             have ry3 := Nat.ne_of_gt (World.block_lt_of_cell? _ _ gy3)
             have lgy3 := World.block_lt_of_cell? _ _ gy3
             dsimp only at qy3 ry3 lgy3
           try
             have gy3 := k4.cell0 (old_cell _ (old_cell _ y3))
             have py3 := k4.loose0 (by simp <;> omega) (loose_old (by simp <;> omega) (loose_old (Nat.lt_of_lt_of_le ly3 (Nat.le_refl _)) fy3))
             have qy3 := Nat.ne_of_lt (World.block_lt_of_cell? _ _ gy3)
             have ry3 := Nat.ne_of_gt (World.block_lt_of_cell? _ _ gy3)
             have lgy3 := World.block_lt_of_cell? _ _ gy3
             dsimp only at qy3 ry3 lgy3
           obtain ⟨a4, d4, rfl⟩ := own_slice o4)))
    all_goals
      have O1 : w4.ownsRow w2.heap.size 3 1 (.slice a3 xs.length d3) xs.length (xs.map (Value.int .i64)) := by
        first
          | exact own_less (own_kept o3 k4) s3.1
          | exact own_less (own_kept o3 (((Kept.refl 0 0 _).alloc _).trans k4)) s3.1
          | exact own_less (own_kept o3 ((((Kept.refl 0 0 _).alloc _).alloc _).trans k4)) s3.1
      try simp only [World.size_alloc, heap_drew] at s3
      try simp only [World.size_alloc, heap_drew] at s4
      have r3 := o3.lt
      have r4 := o4.lt
      try simp only [World.size_alloc, heap_drew] at r3
      try simp only [World.size_alloc, heap_drew] at r4
      have h12 : ∀ k, (Value.slice a3 xs.length d3).ownBlock = some k → (Value.slice a4 ys.length d4).ownBlock ≠ some k := fun k e1 e2 => by have := r3 k e1; have := r4 k e2; omega
      have hk24 := h4.2.2
      clear h3 h4 k3 k4
      go_wp2_with fail
      go_meet
      first
          | exact ⟨_, _, _, _, rfl, rfl, two_both hk24 O1 o4 _ _ (by (try simp) <;> omega) (by (try simp) <;> omega) h12⟩
          | exact ⟨_, _, _, _, rfl, rfl, (two_both hk24 o4 O1 _ _ (by (try simp) <;> omega) (by (try simp) <;> omega) (fun k e1 e2 => h12 k e2 e1)).swap⟩
          | exact ⟨_, _, _, _, rfl, rfl, two_new hk24 O1 o4 (by assumption) (by assumption) _ (by omega) (by (try simp) <;> omega) (by (try simp) <;> omega) (fun e => by have := r3 _ e; omega) (fun e => by have := r4 _ e; omega) h12⟩
          | exact ⟨_, _, _, _, rfl, rfl, (two_new hk24 o4 O1 (by assumption) (by assumption) _ (by omega) (by (try simp) <;> omega) (by (try simp) <;> omega) (fun e => by have := r4 _ e; omega) (fun e => by have := r3 _ e; omega) (fun k e1 e2 => h12 k e2 e1)).swap⟩
          | exact ⟨_, _, _, _, rfl, rfl, two_set hk24 O1 o4 (by assumption) (by assumption) (by assumption) (by assumption) (by omega) (by omega) (by omega) (by (try simp) <;> omega) (by (try simp) <;> omega) (fun e => by have := r3 _ e; omega) (fun e => by have := r3 _ e; omega) (fun e => by have := r4 _ e; omega) (fun e => by have := r4 _ e; omega) h12⟩
  case rest =>
    obtain ⟨X, Y, u1, u2, rfl, rfl, two⟩ := hcut
    have hn1 := ((okB_iff xs).1 (unhide HK1)).2
    have hn2 := ((okB_iff ys).1 (unhide HK2)).2
    have hl1 : xs.length ≤ 100000 := by have := ((okB_iff xs).1 (unhide HK1)).1; omega
    have hl2 : ys.length ≤ 100000 := by have := ((okB_iff ys).1 (unhide HK2)).1; omega
    clear q1 q2
    go_wp2_with fail
    refine (multiply_impl _ two.n1 two.n2 hn1.1 hn2.1 hl1 hl2).mono ?_
    rintro e w6 ⟨⟨r6, rfl⟩, u6, n6, m6⟩
    have k6 := two.k.mod m6 (fun i e => by rw [e]; exact two.b1)
    clear two m6 hn1 hn2
    have c3' := k6.cell0 c3
    have f3' := k6.loose0 (World.block_lt_of_cell? _ _ c3) f3
    have K6 := hide ((unhide K).trans k6)
    clear k6
    go_wp2_with fail
    refine (told_impl _ n6).mono ?_
    rintro e w7 ⟨v7, rfl, r7, k7⟩
    generalize hzz : tell (limbs (val xs * val ys).toNat) = zz at *
    generalize hbb : decide ((limbs (val xs * val ys).toNat).length ≤ 100) = bb at *
    have HZ : Hid (ansL (okB xs && okB ys) (val xs * val ys).toNat = zz) := by show _ = _; rw [ansL_yes (by simp [unhide HK1, unhide HK2]), hzz]
    have HB : Hid (ansB (okB xs && okB ys) (val xs * val ys).toNat = bb) := by show _ = _; rw [ansB_yes (by simp [unhide HK1, unhide HK2]), hbb]
    have b6 := World.block_lt_of_cell? _ _ c3'
    dsimp only at b6
    replace f3' := k7.loose0 b6 f3'
    replace c3' := k7.cell0 c3'
    obtain ⟨a7, d7, rfl⟩ := Row.form' r7
    have R := hide ((r7.set_other (p := ⟨w.heap.size + 2, 0, none⟩) (.inl b6) (.slice a7 zz.length d7)).tight.wider (lo' := w.heap.size) (by omega) (Nat.le_refl _))
    have K7 := hide (((unhide K6).trans k7).setNew (p := ⟨w.heap.size + 2, 0, none⟩) (by simp) (.slice a7 zz.length d7))
    clear r7 k7 n6 hzz hbb
    go_wp2_with fail
    exact bodyPost_ret (v := .tuple #[.agg #[.slice a7 zz.length d7], .bool bb]) (by simp [results, Try.results28, go_sem, c3']) rfl ⟨_, by rw [unhide HB], by rw [unhide HZ]; exact unhide R, unhide K7⟩

end Go.Proofs.Ytdhponfpikclhaa

namespace Go.Proofs.Ytdhponfpikclhaa
open Go.RowKit
set_option linter.unusedVariables false
set_option maxRecDepth 8000
set_option linter.unusedSimpArgs false

theorem divs_ok {xs ys : List Int} (h : divB xs ys = true) :
    ansB (okB (divQ xs ys) && okB ys) (val (divQ xs ys) * val ys).toNat = true ∧ ansL (okB (divQ xs ys) && okB ys) (val (divQ xs ys) * val ys).toNat = limbs (val xs / val ys * val ys).toNat ∧
    ansB (okB (limbs (val xs / val ys * val ys).toNat) && okB (divR xs ys)) (val (limbs (val xs / val ys * val ys).toNat) + val (divR xs ys)).toNat = true ∧ ansL (okB (limbs (val xs / val ys * val ys).toNat) && okB (divR xs ys)) (val (limbs (val xs / val ys * val ys).toNat) + val (divR xs ys)).toNat = xs ∧ cmpN (divR xs ys) ys = -1 := by
  have lq := divQ_len xs ys
  have lr := divR_len xs ys
  rw [divQ_yes h] at *
  rw [divR_yes h] at *
  unfold divB at h
  simp only [Bool.and_eq_true, decide_eq_true_eq] at h
  obtain ⟨o1, o2, h0⟩ := h
  obtain ⟨l1, n1⟩ := (okB_iff xs).1 o1
  obtain ⟨l2, n2⟩ := (okB_iff ys).1 o2
  have hy := div_pos o2 h0
  have hx := val_nonneg n1.1
  have hq0 := Int.ediv_nonneg hx (Int.le_of_lt hy)
  have hr0 := Int.emod_nonneg (val xs) (show val ys ≠ 0 by omega)
  have hr1 := Int.emod_lt_of_pos (val xs) hy
  have hs := Int.mul_ediv_add_emod (val xs) (val ys)
  rw [Int.mul_comm] at hs
  have hp0 : 0 ≤ val xs / val ys * val ys := Int.mul_nonneg hq0 (Int.le_of_lt hy)
  have oq : okB (limbs (val xs / val ys).toNat) = true := (okB_iff _).2 ⟨lq, limbs_nrm _⟩
  have or' : okB (limbs (val xs % val ys).toNat) = true := (okB_iff _).2 ⟨lr, limbs_nrm _⟩
  have vq : val (limbs (val xs / val ys).toNat) = val xs / val ys := by rw [limbs_val]; omega
  have vr : val (limbs (val xs % val ys).toNat) = val xs % val ys := by rw [limbs_val]; omega
  have vp : val (limbs (val xs / val ys * val ys).toNat) = val xs / val ys * val ys := by rw [limbs_val]; omega
  have lp : (limbs (val xs / val ys * val ys).toNat).length ≤ 100 := by
    have e : (val xs / val ys * val ys).toNat ≤ (val xs).toNat := by omega
    have := limbs_len_mono e
    rw [← nrm_limbs n1] at this
    omega
  have op : okB (limbs (val xs / val ys * val ys).toNat) = true := (okB_iff _).2 ⟨lp, limbs_nrm _⟩
  have ex : limbs (val xs).toNat = xs := (nrm_limbs n1).symm
  refine ⟨?_, ?_, ?_, ?_, ?_⟩
  · rw [oq, o2, vq, ansB_yes (show (true && true) = true from rfl)]; exact decide_eq_true lp
  · rw [oq, o2, vq, ansL_yes (show (true && true) = true from rfl)]; exact tell_short lp
  · rw [op, or', vp, vr, hs, ansB_yes (show (true && true) = true from rfl), ex]; exact decide_eq_true l1
  · rw [op, or', vp, vr, hs, ansL_yes (show (true && true) = true from rfl), ex]; exact tell_short l1
  · rw [cmpN_ok or' o2, vr]; unfold cmpI; rw [if_pos hr1]

set_option maxHeartbeats 8000000 in
theorem law_NatDivs {v : Value} {zs : List Int} {w : World} (r : Row .u8 false 0 w.heap.size w v zs) (hb0 : ∀ z ∈ zs, (Lit.int .u8 z).wf = true) :
    Calls Try.prog 4 #[v] w fun e w' => e = .returned (.bool true) ∧ Below w.heap.size w w' := by
  have hb := bytes_of_wf hb0
  clear hb0
  have hB := hide hb
  clear hb
  have s0 : w.heap.size = w.heap.size := rfl
  obtain ⟨a0, c0, hv⟩ := Row.form' r
  subst hv
  have K := hide (Kept.refl 0 0 w)
  have S0 := hide s0
  clear s0
  go_enter Try.func4, Try.ntmps4
  go_wp2_with fail
  refine (nats_any _).mono ?_
  rintro e w1 ⟨rfl, k1⟩
  replace r := r.kept k1 (by omega)
  replace K := hide ((unhide K).trans k1)
  have z2 := k1.size
  clear k1
  go_wp2_with fail
  refine (drawDiv_any _ r (unhide hB)).mono ?_
  rintro e w3 ⟨v1, v2, rfl, ⟨xs, r1⟩, ⟨ys, r2⟩, k3⟩
  replace r := r.kept k3 (by omega)
  replace K := hide ((unhide K).trans k3)
  have z4 := k3.size
  clear k3
  clear r
  obtain ⟨a1, c1, hv⟩ := Row.form' r1
  subst hv
  obtain ⟨a2, c2, hv⟩ := Row.form' r2
  subst hv
  have kn := (Kept.refl 0 0 w3).alloc (.cells #[.slice a1 xs.length c1] 26)
  have ca0 : (w3.alloc (.cells #[.slice a1 xs.length c1] 26)).cell? ⟨w3.heap.size, 0, none⟩ = some (.slice a1 xs.length c1) := new_cell2 _ _ _ _ _ _ (by simp) rfl
  have sz5 : w3.heap.size + 1 = (w3.alloc (.cells #[.slice a1 xs.length c1] 26)).heap.size := by simp
  have SZ5 := hide sz5
  replace sz5 := Nat.le_of_eq sz5
  replace r1 := r1.kept kn (by omega)
  replace r2 := r2.kept kn (by omega)
  replace K := hide ((unhide K).trans kn)
  have z6 := kn.size
  clear kn
  have kn := (Kept.refl 0 0 (w3.alloc (.cells #[.slice a1 xs.length c1] 26))).alloc (.cells #[.slice a2 ys.length c2] 26)
  have cb0 : ((w3.alloc (.cells #[.slice a1 xs.length c1] 26)).alloc (.cells #[.slice a2 ys.length c2] 26)).cell? ⟨w3.heap.size + 1, 0, none⟩ = some (.slice a2 ys.length c2) := new_cell2 _ _ _ _ _ _ (by simp) rfl
  have sz7 : (w3.alloc (.cells #[.slice a1 xs.length c1] 26)).heap.size + 1 = ((w3.alloc (.cells #[.slice a1 xs.length c1] 26)).alloc (.cells #[.slice a2 ys.length c2] 26)).heap.size := by simp
  have SZ7 := hide sz7
  replace sz7 := Nat.le_of_eq sz7
  replace r1 := r1.kept kn (by omega)
  replace r2 := r2.kept kn (by omega)
  replace ca0 := kn.cell0 ca0
  replace K := hide ((unhide K).trans kn)
  have z8 := kn.size
  clear kn
  go_wp2_with fail
  generalize ((w3.alloc (.cells #[.slice a1 xs.length c1] 26)).alloc (.cells #[.slice a2 ys.length c2] 26)) = wn9 at *
  refine (natDiv_impl _ r1 r2).mono ?_
  rintro e w10 ⟨v3, v4, mm, rfl, r3, r4, -, -, k10⟩
  replace r1 := r1.kept k10 (by omega)
  replace r2 := r2.kept k10 (by omega)
  replace ca0 := k10.cell0 ca0
  replace cb0 := k10.cell0 cb0
  replace K := hide ((unhide K).trans k10)
  have z11 := k10.size
  clear k10
  have HD : Hid (divB xs ys = true → _) := @divs_ok xs ys
  obtain ⟨zq, hzq⟩ : ∃ z, divQ xs ys = z := ⟨_, rfl⟩
  obtain ⟨zr, hzr⟩ : ∃ z, divR xs ys = z := ⟨_, rfl⟩
  obtain ⟨zp, hzp⟩ : ∃ z, limbs (val xs / val ys * val ys).toNat = z := ⟨_, rfl⟩
  rw [hzq] at r3
  rw [hzr] at r4
  replace HD := hide (unhide HD)
  have HD2 := unhide HD
  rw [hzq, hzr, hzp] at HD2
  clear HD hzq hzr hzp
  obtain ⟨a3, c3, hv⟩ := Row.form' r3
  subst hv
  obtain ⟨a4, c4, hv⟩ := Row.form' r4
  subst hv
  have HD := hide HD2
  clear HD2
  cases hD : divB xs ys
  all_goals have HB := hide hD
  all_goals clear hD
  · have kn := (Kept.refl 0 0 w10).alloc (.cells #[.slice a3 zq.length c3] 26)
    have cc0 : (w10.alloc (.cells #[.slice a3 zq.length c3] 26)).cell? ⟨w10.heap.size, 0, none⟩ = some (.slice a3 zq.length c3) := new_cell2 _ _ _ _ _ _ (by simp) rfl
    have sz12 : w10.heap.size + 1 = (w10.alloc (.cells #[.slice a3 zq.length c3] 26)).heap.size := by simp
    have SZ12 := hide sz12
    replace sz12 := Nat.le_of_eq sz12
    replace r1 := r1.kept kn (by omega)
    replace r2 := r2.kept kn (by omega)
    replace r3 := r3.kept kn (by omega)
    replace r4 := r4.kept kn (by omega)
    replace ca0 := kn.cell0 ca0
    replace cb0 := kn.cell0 cb0
    replace K := hide ((unhide K).trans kn)
    have z13 := kn.size
    clear kn
    have kn := (Kept.refl 0 0 (w10.alloc (.cells #[.slice a3 zq.length c3] 26))).alloc (.cells #[.slice a4 zr.length c4] 26)
    have cd0 : ((w10.alloc (.cells #[.slice a3 zq.length c3] 26)).alloc (.cells #[.slice a4 zr.length c4] 26)).cell? ⟨w10.heap.size + 1, 0, none⟩ = some (.slice a4 zr.length c4) := new_cell2 _ _ _ _ _ _ (by simp) rfl
    have sz14 : (w10.alloc (.cells #[.slice a3 zq.length c3] 26)).heap.size + 1 = ((w10.alloc (.cells #[.slice a3 zq.length c3] 26)).alloc (.cells #[.slice a4 zr.length c4] 26)).heap.size := by simp
    have SZ14 := hide sz14
    replace sz14 := Nat.le_of_eq sz14
    replace r1 := r1.kept kn (by omega)
    replace r2 := r2.kept kn (by omega)
    replace r3 := r3.kept kn (by omega)
    replace r4 := r4.kept kn (by omega)
    replace ca0 := kn.cell0 ca0
    replace cb0 := kn.cell0 cb0
    replace cc0 := kn.cell0 cc0
    replace K := hide ((unhide K).trans kn)
    have z15 := kn.size
    clear kn
    go_wp2_with fail
    generalize ((w10.alloc (.cells #[.slice a3 zq.length c3] 26)).alloc (.cells #[.slice a4 zr.length c4] 26)) = wn16 at *
    refine (ok_spec _ r1).mono ?_
    rintro e w17 ⟨rfl, k17⟩
    replace r1 := r1.kept k17 (by omega)
    replace r2 := r2.kept k17 (by omega)
    replace r3 := r3.kept k17 (by omega)
    replace r4 := r4.kept k17 (by omega)
    replace ca0 := k17.cell0 ca0
    replace cb0 := k17.cell0 cb0
    replace cc0 := k17.cell0 cc0
    replace cd0 := k17.cell0 cd0
    replace K := hide ((unhide K).trans k17)
    have z18 := k17.size
    clear k17
    cases ho1 : okB xs
    · clear ho1
      go_wp2_with fail
      go_ret
      exact ⟨rfl, (unhide K).toBelow⟩
    have HO1 := hide ho1
    clear ho1
    go_wp2_with fail
    refine (ok_spec _ r2).mono ?_
    rintro e w19 ⟨rfl, k19⟩
    replace r1 := r1.kept k19 (by omega)
    replace r2 := r2.kept k19 (by omega)
    replace r3 := r3.kept k19 (by omega)
    replace r4 := r4.kept k19 (by omega)
    replace ca0 := k19.cell0 ca0
    replace cb0 := k19.cell0 cb0
    replace cc0 := k19.cell0 cc0
    replace cd0 := k19.cell0 cd0
    replace K := hide ((unhide K).trans k19)
    have z20 := k19.size
    clear k19
    cases ho2 : okB ys
    · clear ho2
      go_wp2_with fail
      go_ret
      exact ⟨rfl, (unhide K).toBelow⟩
    have hl : ((ys.length : Int) == 0) = true := by
      have h1 := unhide HB
      unfold divB at h1
      rw [unhide HO1, ho2] at h1
      simp at h1
      simp [h1]
    clear ho2
    go_wp2_with fail
    go_ret
    exact ⟨rfl, (unhide K).toBelow⟩
  · obtain ⟨h1, h2, h3, h4, h5⟩ := unhide HD (unhide HB)
    have H1 := hide h1
    have H2 := hide h2
    have H3 := hide h3
    have H4 := hide h4
    have H5 := hide h5
    clear h1 h2 h3 h4 h5 HD HB
    have kn := (Kept.refl 0 0 w10).alloc (.cells #[.slice a3 zq.length c3] 26)
    have cc0 : (w10.alloc (.cells #[.slice a3 zq.length c3] 26)).cell? ⟨w10.heap.size, 0, none⟩ = some (.slice a3 zq.length c3) := new_cell2 _ _ _ _ _ _ (by simp) rfl
    have sz12 : w10.heap.size + 1 = (w10.alloc (.cells #[.slice a3 zq.length c3] 26)).heap.size := by simp
    have SZ12 := hide sz12
    replace sz12 := Nat.le_of_eq sz12
    replace r1 := r1.kept kn (by omega)
    replace r2 := r2.kept kn (by omega)
    replace r3 := r3.kept kn (by omega)
    replace r4 := r4.kept kn (by omega)
    replace ca0 := kn.cell0 ca0
    replace cb0 := kn.cell0 cb0
    replace K := hide ((unhide K).trans kn)
    have z13 := kn.size
    clear kn
    have kn := (Kept.refl 0 0 (w10.alloc (.cells #[.slice a3 zq.length c3] 26))).alloc (.cells #[.slice a4 zr.length c4] 26)
    have cd0 : ((w10.alloc (.cells #[.slice a3 zq.length c3] 26)).alloc (.cells #[.slice a4 zr.length c4] 26)).cell? ⟨w10.heap.size + 1, 0, none⟩ = some (.slice a4 zr.length c4) := new_cell2 _ _ _ _ _ _ (by simp) rfl
    have sz14 : (w10.alloc (.cells #[.slice a3 zq.length c3] 26)).heap.size + 1 = ((w10.alloc (.cells #[.slice a3 zq.length c3] 26)).alloc (.cells #[.slice a4 zr.length c4] 26)).heap.size := by simp
    have SZ14 := hide sz14
    replace sz14 := Nat.le_of_eq sz14
    replace r1 := r1.kept kn (by omega)
    replace r2 := r2.kept kn (by omega)
    replace r3 := r3.kept kn (by omega)
    replace r4 := r4.kept kn (by omega)
    replace ca0 := kn.cell0 ca0
    replace cb0 := kn.cell0 cb0
    replace cc0 := kn.cell0 cc0
    replace K := hide ((unhide K).trans kn)
    have z15 := kn.size
    clear kn
    go_wp2_with fail
    generalize ((w10.alloc (.cells #[.slice a3 zq.length c3] 26)).alloc (.cells #[.slice a4 zr.length c4] 26)) = wn16 at *
    have mk := natMul_impl wn16 r3 r2
    rw [unhide H1, unhide H2] at mk
    refine (mk).mono ?_
    rintro e w17 ⟨v5, rfl, r5, k17⟩
    replace r1 := r1.kept k17 (by omega)
    replace r2 := r2.kept k17 (by omega)
    replace r3 := r3.kept k17 (by omega)
    replace r4 := r4.kept k17 (by omega)
    replace ca0 := k17.cell0 ca0
    replace cb0 := k17.cell0 cb0
    replace cc0 := k17.cell0 cc0
    replace cd0 := k17.cell0 cd0
    replace K := hide ((unhide K).trans k17)
    have z18 := k17.size
    clear k17
    clear mk
    obtain ⟨a5, c5, hv⟩ := Row.form' r5
    subst hv
    have kn := (Kept.refl 0 0 w17).alloc (.cells #[.slice a5 zp.length c5] 26)
    have ce0 : (w17.alloc (.cells #[.slice a5 zp.length c5] 26)).cell? ⟨w17.heap.size, 0, none⟩ = some (.slice a5 zp.length c5) := new_cell2 _ _ _ _ _ _ (by simp) rfl
    have sz19 : w17.heap.size + 1 = (w17.alloc (.cells #[.slice a5 zp.length c5] 26)).heap.size := by simp
    have SZ19 := hide sz19
    replace sz19 := Nat.le_of_eq sz19
    replace r1 := r1.kept kn (by omega)
    replace r2 := r2.kept kn (by omega)
    replace r3 := r3.kept kn (by omega)
    replace r4 := r4.kept kn (by omega)
    replace r5 := r5.kept kn (by omega)
    replace ca0 := kn.cell0 ca0
    replace cb0 := kn.cell0 cb0
    replace cc0 := kn.cell0 cc0
    replace cd0 := kn.cell0 cd0
    replace K := hide ((unhide K).trans kn)
    have z20 := kn.size
    clear kn
    go_wp2_with fail
    generalize (w17.alloc (.cells #[.slice a5 zp.length c5] 26)) = wn21 at *
    have mk := natAdd_impl wn21 r5 r4
    rw [unhide H3, unhide H4] at mk
    refine (mk).mono ?_
    rintro e w22 ⟨v6, rfl, r6, k22⟩
    replace r1 := r1.kept k22 (by omega)
    replace r2 := r2.kept k22 (by omega)
    replace r3 := r3.kept k22 (by omega)
    replace r4 := r4.kept k22 (by omega)
    replace r5 := r5.kept k22 (by omega)
    replace ca0 := k22.cell0 ca0
    replace cb0 := k22.cell0 cb0
    replace cc0 := k22.cell0 cc0
    replace cd0 := k22.cell0 cd0
    replace ce0 := k22.cell0 ce0
    replace K := hide ((unhide K).trans k22)
    have z23 := k22.size
    clear k22
    clear mk
    obtain ⟨a6, c6, hv⟩ := Row.form' r6
    subst hv
    have kn := (Kept.refl 0 0 w22).alloc (.cells #[.slice a6 xs.length c6] 26)
    have cf0 : (w22.alloc (.cells #[.slice a6 xs.length c6] 26)).cell? ⟨w22.heap.size, 0, none⟩ = some (.slice a6 xs.length c6) := new_cell2 _ _ _ _ _ _ (by simp) rfl
    have sz24 : w22.heap.size + 1 = (w22.alloc (.cells #[.slice a6 xs.length c6] 26)).heap.size := by simp
    have SZ24 := hide sz24
    replace sz24 := Nat.le_of_eq sz24
    replace r1 := r1.kept kn (by omega)
    replace r2 := r2.kept kn (by omega)
    replace r3 := r3.kept kn (by omega)
    replace r4 := r4.kept kn (by omega)
    replace r5 := r5.kept kn (by omega)
    replace r6 := r6.kept kn (by omega)
    replace ca0 := kn.cell0 ca0
    replace cb0 := kn.cell0 cb0
    replace cc0 := kn.cell0 cc0
    replace cd0 := kn.cell0 cd0
    replace ce0 := kn.cell0 ce0
    replace K := hide ((unhide K).trans kn)
    have z25 := kn.size
    clear kn
    go_wp2_with fail
    generalize (w22.alloc (.cells #[.slice a6 xs.length c6] 26)) = wn26 at *
    have mk := sameNat_any wn26 r6 r1
    rw [show sameL xs xs = true from decide_eq_true rfl] at mk
    refine (mk).mono ?_
    rintro e w27 ⟨rfl, k27⟩
    replace r1 := r1.kept k27 (by omega)
    replace r2 := r2.kept k27 (by omega)
    replace r3 := r3.kept k27 (by omega)
    replace r4 := r4.kept k27 (by omega)
    replace r5 := r5.kept k27 (by omega)
    replace r6 := r6.kept k27 (by omega)
    replace ca0 := k27.cell0 ca0
    replace cb0 := k27.cell0 cb0
    replace cc0 := k27.cell0 cc0
    replace cd0 := k27.cell0 cd0
    replace ce0 := k27.cell0 ce0
    replace cf0 := k27.cell0 cf0
    replace K := hide ((unhide K).trans k27)
    have z28 := k27.size
    clear k27
    clear mk
    go_wp2_with fail
    have mk := natCmp_impl w27 r4 r2
    rw [unhide H5] at mk
    refine (mk).mono ?_
    rintro e w29 ⟨rfl, k29⟩
    replace r1 := r1.kept k29 (by omega)
    replace r2 := r2.kept k29 (by omega)
    replace r3 := r3.kept k29 (by omega)
    replace r4 := r4.kept k29 (by omega)
    replace r5 := r5.kept k29 (by omega)
    replace r6 := r6.kept k29 (by omega)
    replace ca0 := k29.cell0 ca0
    replace cb0 := k29.cell0 cb0
    replace cc0 := k29.cell0 cc0
    replace cd0 := k29.cell0 cd0
    replace ce0 := k29.cell0 ce0
    replace cf0 := k29.cell0 cf0
    replace K := hide ((unhide K).trans k29)
    have z30 := k29.size
    clear k29
    clear mk
    go_wp2_with fail
    go_ret
    exact ⟨rfl, (unhide K).toBelow⟩

end Go.Proofs.Ytdhponfpikclhaa
