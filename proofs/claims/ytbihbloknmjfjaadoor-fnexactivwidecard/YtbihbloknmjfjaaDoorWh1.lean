/-
  Whole numbers: what is well made; the contracts of the model's WholeOk and l3make.
-/
import Derived.Test.YtbihbloknmjfjaaDoorBC
import Derived.Deep.RegionHeld3
import Derived.Deep.RegionWith
namespace Go.Proofs.YtbihbloknmjfjaaDoor
open Go.RowKit
set_option linter.unusedVariables false
set_option maxRecDepth 8000
set_option linter.unusedSimpArgs false

/-- Is it a whole number as chapter 3 wants it? -/
def wokB (b : Bool) (zs : List Int) : Bool := okB zs && (!b || decide (0 < (zs.length : Int)))
/-- The number that a sign and limbs stand for. -/
def wval (b : Bool) (zs : List Int) : Int := if b = true then - val zs else val zs
theorem wok_int {b : Bool} {zs : List Int} (h : wokB b zs = true) : b = decide (wval b zs < 0) ∧ zs = limbs (wval b zs).natAbs ∧ zs.length ≤ 100 ∧ Nrm zs := by
  unfold wokB at h
  rw [Bool.and_eq_true] at h
  obtain ⟨h1, h2⟩ := h
  obtain ⟨h3, h4⟩ := (okB_iff zs).1 h1
  have h0 := val_nonneg h4.1
  have hl := nrm_limbs h4
  unfold wval
  cases b
  · refine ⟨?_, ?_, h3, h4⟩
    · simp; omega
    · simp
      rw [show (val zs).natAbs = (val zs).toNat by omega]; exact hl
  · simp at h2
    have hne : zs ≠ [] := by intro e; subst e; simp at h2
    have hp := nrm_pow h4 hne
    have hp0 : (0 : Int) < 65536 ^ (zs.length - 1) := Int.pow_pos (by decide)
    refine ⟨?_, ?_, h3, h4⟩
    · simp; omega
    · simp
      rw [show (val zs).natAbs = (val zs).toNat by omega]; exact hl
theorem wokB_bad {b : Bool} {zs : List Int} (h : okB zs = false) : wokB b zs = false := by unfold wokB; rw [h]; rfl

set_option maxHeartbeats 1000000 in
theorem wok_spec {bw : Bool} {lo hi : Nat} {v : Value} {zs : List Int} (b : Bool) (w : World) (r : Row .i64 bw lo hi w v zs) :
    Calls Tryd.prog 67 #[.agg #[.bool b, v]] w fun e w' => e = .returned (.bool (wokB b zs)) ∧ Kept 0 0 w w' := by
  have k0 := (Kept.refl 0 0 w).alloc (.cells #[.bool b, v] 32)
  have q := r.kept k0 (by omega)
  have c0 : (w.alloc (.cells #[.bool b, v] 32)).cell? ⟨w.heap.size, 0, none⟩ = some (.bool b) := new_cell2 _ _ _ _ _ _ rfl rfl
  have c1 : (w.alloc (.cells #[.bool b, v] 32)).cell? ⟨w.heap.size, 1, none⟩ = some v := new_cell2 _ _ _ _ _ _ rfl rfl
  obtain ⟨a, c, rfl⟩ := Row.form' r
  clear r
  go_enter Tryd.func67, Tryd.ntmps67
  go_wp2_with fail
  generalize w.alloc (.cells #[.bool b, .slice a zs.length c] 32) = W at *
  refine (ok_spec _ q).mono ?_
  rintro e w1 ⟨rfl, k1⟩
  replace c0 := k1.cell0 c0
  replace c1 := k1.cell0 c1
  have K := hide (k0.trans k1)
  clear k0 k1 q
  cases hok : okB zs
  · have HK := hide (wokB_bad (b := b) hok)
    clear hok
    go_wp2
    go_ret
    exact ⟨by rw [unhide HK]; rfl, unhide K⟩
  · have HK : Hid (wokB b zs = (!b || decide (0 < (zs.length : Int)))) := by show _ = _; unfold wokB; rw [hok]; rfl
    clear hok
    cases b
    · go_wp2
      go_ret
      exact ⟨by rw [unhide HK]; rfl, unhide K⟩
    · go_wp2
      go_ret
      exact ⟨by rw [unhide HK]; simp, unhide K⟩

set_option maxHeartbeats 1000000 in
theorem make_spec {bw : Bool} {lo hi : Nat} {v : Value} {zs : List Int} (b : Bool) (w : World) (r : Row .i64 bw lo hi w v zs) (hl : Lim zs) (hlen : zs.length ≤ 1000000) :
    Calls Tryd.prog 70 #[.bool b, .agg #[v]] w fun e w' => ∃ v', e = .returned (.agg #[.bool (b && decide (0 < zs.length)), v']) ∧ Row .i64 true w.heap.size w'.heap.size w' v' (limbs (val zs).toNat) ∧ Kept 0 0 w w' := by
  have k0 := ((Kept.refl 0 0 w).alloc (.cells #[v] 30)).alloc (.cells #[.bool false, .slice none 0 0] 32)
  have q := r.kept k0 (by omega)
  have c0 : ((w.alloc (.cells #[v] 30)).alloc (.cells #[.bool false, .slice none 0 0] 32)).cell? ⟨w.heap.size, 0, none⟩ = some v := old_cell _ (new_cell2 _ _ _ _ _ _ rfl rfl)
  have d0 : ((w.alloc (.cells #[v] 30)).alloc (.cells #[.bool false, .slice none 0 0] 32)).cell? ⟨w.heap.size + 1, 0, none⟩ = some (.bool false) := new_cell2 _ _ _ _ _ _ (by simp) rfl
  have d1 : ((w.alloc (.cells #[v] 30)).alloc (.cells #[.bool false, .slice none 0 0] 32)).cell? ⟨w.heap.size + 1, 1, none⟩ = some (.slice none 0 0) := new_cell2 _ _ _ _ _ _ (by simp) rfl
  have f0 : ((w.alloc (.cells #[v] 30)).alloc (.cells #[.bool false, .slice none 0 0] 32)).frozen? ⟨w.heap.size + 1, 0, none⟩ = false := new_loose2 _ _ _ _ _ (by simp)
  have f1 : ((w.alloc (.cells #[v] 30)).alloc (.cells #[.bool false, .slice none 0 0] 32)).frozen? ⟨w.heap.size + 1, 1, none⟩ = false := new_loose2 _ _ _ _ _ (by simp)
  obtain ⟨a, c, rfl⟩ := Row.form' r
  clear r
  obtain ⟨zz, hzz⟩ : ∃ zz, limbs (val zs).toNat = zz := ⟨_, rfl⟩
  rw [hzz]
  have HZ := hide hzz
  clear hzz
  cases b
  · go_enter Tryd.func70, Tryd.ntmps70
    go_wp2_with fail
    generalize (w.alloc (.cells #[.slice a zs.length c] 30)).alloc (.cells #[.bool false, .slice none 0 0] 32) = W at *
    have b0 := World.block_lt_of_cell? _ _ d0
    dsimp only at b0
    have qd := q.kept ((Kept.refl 0 0 _).drew) (by omega)
    have cd : W.drew.cell? ⟨w.heap.size, 0, none⟩ = some (.slice a zs.length c) := c0
    refine wp_region_held_drew (S := fun w' => w'.cell? ⟨w.heap.size, 0, none⟩ = some (.slice a zs.length c)) (by kernel_rfl) ?_ (fun hHeld => ?_)
    · exact cd
    refine wpAnyH_take (i := 0) (oi := _) (v := .bool false) rfl (by kernel_rfl) (by kernel_rfl) (by kernel_rfl) (fun _ _ _ h => h) (Or.inl ⟨by rfl, ?_⟩) hHeld ?_
    · intro w hSw
      try dsimp only at hSw
      go_simp
    try simp only [Act.put, List.getElem_toArray, List.getElem_cons_succ, List.getElem_cons_zero, List.setIfInBounds_toArray, List.set_cons_zero, List.set_cons_succ]
    refine wpAnyH_take (i := 1) (oi := _) (v := .bool false) rfl (by kernel_rfl) (by kernel_rfl) (by kernel_rfl) (fun _ _ _ h => h) (Or.inl ⟨by rfl, ?_⟩) hHeld ?_
    · intro w hSw
      try dsimp only at hSw
      go_simp
    try simp only [Act.put, List.getElem_toArray, List.getElem_cons_succ, List.getElem_cons_zero, List.setIfInBounds_toArray, List.set_cons_zero, List.set_cons_succ]
    refine wpAnyH_take (i := 2) (v := undef) rfl (by kernel_rfl) (by kernel_rfl) (by kernel_rfl) (fun _ _ _ h => h) (Or.inr ⟨by rfl, rfl⟩) hHeld ?_
    try simp only [Act.put, List.getElem_toArray, List.getElem_cons_succ, List.getElem_cons_zero, List.setIfInBounds_toArray, List.set_cons_zero, List.set_cons_succ]
    refine wpAnyH_take (i := 3) (v := undef) rfl (by kernel_rfl) (by kernel_rfl) (by kernel_rfl) (fun _ _ _ h => h) (Or.inr ⟨by rfl, rfl⟩) hHeld ?_
    try simp only [Act.put, List.getElem_toArray, List.getElem_cons_succ, List.getElem_cons_zero, List.setIfInBounds_toArray, List.set_cons_zero, List.set_cons_succ]
    refine wpAnyH_take (i := 4) (v := undef) rfl (by kernel_rfl) (by kernel_rfl) (by kernel_rfl) (fun _ _ _ h => h) (Or.inr ⟨by rfl, rfl⟩) hHeld ?_
    try simp only [Act.put, List.getElem_toArray, List.getElem_cons_succ, List.getElem_cons_zero, List.setIfInBounds_toArray, List.set_cons_zero, List.set_cons_succ]
    refine wpAnyH_take (i := 5) (v := undef) rfl (by kernel_rfl) (by kernel_rfl) (by kernel_rfl) (fun _ _ _ h => h) (Or.inr ⟨by rfl, rfl⟩) hHeld ?_
    try simp only [Act.put, List.getElem_toArray, List.getElem_cons_succ, List.getElem_cons_zero, List.setIfInBounds_toArray, List.set_cons_zero, List.set_cons_succ]
    refine wpAnyH_take (i := 6) (oi := _) (v := .bool false) rfl (by kernel_rfl) (by kernel_rfl) (by kernel_rfl) (fun _ _ _ h => h) (Or.inl ⟨by rfl, ?_⟩) hHeld ?_
    · intro w hSw
      try dsimp only at hSw
      go_simp
    try simp only [Act.put, List.getElem_toArray, List.getElem_cons_succ, List.getElem_cons_zero, List.setIfInBounds_toArray, List.set_cons_zero, List.set_cons_succ]
    refine wpAnyH_take (i := 7) (oi := _) (v := .pointer (some ⟨w.heap.size, 0, none⟩)) rfl (by kernel_rfl) (by kernel_rfl) (by kernel_rfl) (fun _ _ _ h => h) (Or.inl ⟨by rfl, ?_⟩) hHeld ?_
    · intro w hSw
      try dsimp only at hSw
      go_simp
    try simp only [Act.put, List.getElem_toArray, List.getElem_cons_succ, List.getElem_cons_zero, List.setIfInBounds_toArray, List.set_cons_zero, List.set_cons_succ]
    refine wpAnyH_take (i := 8) (oi := _) (v := .slice a zs.length c) rfl (by kernel_rfl) (by kernel_rfl) (by kernel_rfl) (fun _ _ _ h => h) (Or.inl ⟨by rfl, ?_⟩) hHeld ?_
    · intro w hSw
      try dsimp only at hSw
      go_simp
    try simp only [Act.put, List.getElem_toArray, List.getElem_cons_succ, List.getElem_cons_zero, List.setIfInBounds_toArray, List.set_cons_zero, List.set_cons_succ]
    refine wpAnyH_ready (rs := [9]) (by kernel_rfl) (by simp) ?_
    refine AllReadyH.cons rfl (fun K hK => ?_) AllReadyH.nil
    simp only [List.getElem_toArray, List.getElem_cons_succ, List.getElem_cons_zero]
    rw [if_pos (by rfl)]
    refine wps1 92 (.tmp 13) _ rfl in_l2norm (.slice a zs.length c) rfl (norm_spec _ qd hl hlen) ?_
    rintro e w3 ⟨v3, rfl, r3, k3⟩
    refine ⟨_, rfl, ?_⟩
    refine hK.out _ _ ?_ (fun hHeld => ?_)
    · exact k3.cell0 cd
    clear hK K
    try simp only [Act.put, List.getElem_toArray, List.getElem_cons_succ, List.getElem_cons_zero, List.setIfInBounds_toArray, List.set_cons_zero, List.set_cons_succ]
    have d03 := k3.cell0 (drew_cell d0)
    have d13 := k3.cell0 (drew_cell d1)
    have f03 := k3.loose0 b0 (drew_loose f0)
    have f13 := k3.loose0 b0 (drew_loose f1)
    have s3 := k3.size
    rw [unhide HZ] at r3
    obtain ⟨a3, e3, rfl⟩ := Row.form' r3
    refine wpAnyH_take (i := 10) (oi := _) (v := .agg #[.bool false, .slice a3 zz.length e3]) rfl (by kernel_rfl) (by kernel_rfl) (by kernel_rfl) (fun _ _ _ h => h) (Or.inl ⟨by rfl, ?_⟩) hHeld ?_
    · intro w hSw
      try dsimp only at hSw
      go_simp
    try simp only [Act.put, List.getElem_toArray, List.getElem_cons_succ, List.getElem_cons_zero, List.setIfInBounds_toArray, List.set_cons_zero, List.set_cons_succ]
    refine wpAnyH_ready (rs := [11]) (by kernel_rfl) (by simp) ?_
    refine AllReadyH.cons rfl (fun K hK => ?_) AllReadyH.nil
    simp only [List.getElem_toArray, List.getElem_cons_succ, List.getElem_cons_zero]
    rw [if_pos (by rfl)]
    go_simp
    refine hK.out _ _ ?_ (fun hHeld => ?_)
    · exact cell_aside _ (by simp) (cell_aside _ (by simp) (k3.cell0 cd))
    clear hK K
    try simp only [Act.put, List.getElem_toArray, List.getElem_cons_succ, List.getElem_cons_zero, List.setIfInBounds_toArray, List.set_cons_zero, List.set_cons_succ]
    refine wpAnyH_done (by kernel_rfl) ?_ _
    have R := hide (((r3.set_other (p := ⟨w.heap.size + 1, 0, none⟩) (.inl b0) (.bool false)).set_other (p := ⟨w.heap.size + 1, 1, none⟩) (.inl b0) (.slice a3 zz.length e3)).tight.wider (lo' := w.heap.size) (by have : W.drew.heap.size = W.heap.size := rfl; omega) (Nat.le_refl _))
    have K7 := hide ((((k0.drew).trans k3).setNew (p := ⟨w.heap.size + 1, 0, none⟩) (by simp) (.bool false)).setNew (p := ⟨w.heap.size + 1, 1, none⟩) (by simp) (.slice a3 zz.length e3))
    clear r3 k3 k0 q qd hHeld cd c0
    go_wp2
    exact bodyPost_ret (v := .agg #[.bool false, .slice a3 zz.length e3]) (by simp [results, Tryd.results70, go_sem, d03, d13]) rfl ⟨_, rfl, unhide R, unhide K7⟩
  · go_enter Tryd.func70, Tryd.ntmps70
    go_wp2_with fail
    generalize (w.alloc (.cells #[.slice a zs.length c] 30)).alloc (.cells #[.bool false, .slice none 0 0] 32) = W at *
    have b0 := World.block_lt_of_cell? _ _ d0
    dsimp only at b0
    have qd := q.kept ((Kept.refl 0 0 _).drew) (by omega)
    have cd : W.drew.cell? ⟨w.heap.size, 0, none⟩ = some (.slice a zs.length c) := c0
    refine wp_region_held_drew (S := fun w' => w'.cell? ⟨w.heap.size, 0, none⟩ = some (.slice a zs.length c)) (by kernel_rfl) ?_ (fun hHeld => ?_)
    · exact cd
    refine wpAnyH_take (i := 0) (oi := _) (v := .bool true) rfl (by kernel_rfl) (by kernel_rfl) (by kernel_rfl) (fun _ _ _ h => h) (Or.inl ⟨by rfl, ?_⟩) hHeld ?_
    · intro w hSw
      try dsimp only at hSw
      go_simp
    try simp only [Act.put, List.getElem_toArray, List.getElem_cons_succ, List.getElem_cons_zero, List.setIfInBounds_toArray, List.set_cons_zero, List.set_cons_succ]
    refine wpAnyH_take (i := 1) (oi := _) (v := .bool true) rfl (by kernel_rfl) (by kernel_rfl) (by kernel_rfl) (fun _ _ _ h => h) (Or.inl ⟨by rfl, ?_⟩) hHeld ?_
    · intro w hSw
      try dsimp only at hSw
      go_simp
    try simp only [Act.put, List.getElem_toArray, List.getElem_cons_succ, List.getElem_cons_zero, List.setIfInBounds_toArray, List.set_cons_zero, List.set_cons_succ]
    refine wpAnyH_take (i := 2) (oi := _) (v := .pointer (some ⟨w.heap.size, 0, none⟩)) rfl (by kernel_rfl) (by kernel_rfl) (by kernel_rfl) (fun _ _ _ h => h) (Or.inl ⟨by rfl, ?_⟩) hHeld ?_
    · intro w hSw
      try dsimp only at hSw
      go_simp
    try simp only [Act.put, List.getElem_toArray, List.getElem_cons_succ, List.getElem_cons_zero, List.setIfInBounds_toArray, List.set_cons_zero, List.set_cons_succ]
    refine wpAnyH_take (i := 3) (oi := _) (v := .slice a zs.length c) rfl (by kernel_rfl) (by kernel_rfl) (by kernel_rfl) (fun _ _ _ h => h) (Or.inl ⟨by rfl, ?_⟩) hHeld ?_
    · intro w hSw
      try dsimp only at hSw
      go_simp
    try simp only [Act.put, List.getElem_toArray, List.getElem_cons_succ, List.getElem_cons_zero, List.setIfInBounds_toArray, List.set_cons_zero, List.set_cons_succ]
    refine wpAnyH_take (i := 4) (oi := _) (v := .int .i64 zs.length) rfl (by kernel_rfl) (by kernel_rfl) (by kernel_rfl) (fun _ _ _ h => h) (Or.inl ⟨by rfl, ?_⟩) hHeld ?_
    · intro w hSw
      try dsimp only at hSw
      go_simp
    try simp only [Act.put, List.getElem_toArray, List.getElem_cons_succ, List.getElem_cons_zero, List.setIfInBounds_toArray, List.set_cons_zero, List.set_cons_succ]
    refine wpAnyH_take (i := 5) (oi := _) (v := .bool (decide (0 < zs.length))) rfl (by kernel_rfl) (by kernel_rfl) (by kernel_rfl) (fun _ _ _ h => h) (Or.inl ⟨by rfl, ?_⟩) hHeld ?_
    · intro w hSw
      try dsimp only at hSw
      go_simp
    try simp only [Act.put, List.getElem_toArray, List.getElem_cons_succ, List.getElem_cons_zero, List.setIfInBounds_toArray, List.set_cons_zero, List.set_cons_succ]
    refine wpAnyH_take (i := 6) (oi := _) (v := .bool (decide (0 < zs.length))) rfl (by kernel_rfl) (by kernel_rfl) (by kernel_rfl) (fun _ _ _ h => h) (Or.inl ⟨by rfl, ?_⟩) hHeld ?_
    · intro w hSw
      try dsimp only at hSw
      go_simp
    try simp only [Act.put, List.getElem_toArray, List.getElem_cons_succ, List.getElem_cons_zero, List.setIfInBounds_toArray, List.set_cons_zero, List.set_cons_succ]
    refine wpAnyH_take (i := 7) (oi := _) (v := .pointer (some ⟨w.heap.size, 0, none⟩)) rfl (by kernel_rfl) (by kernel_rfl) (by kernel_rfl) (fun _ _ _ h => h) (Or.inl ⟨by rfl, ?_⟩) hHeld ?_
    · intro w hSw
      try dsimp only at hSw
      go_simp
    try simp only [Act.put, List.getElem_toArray, List.getElem_cons_succ, List.getElem_cons_zero, List.setIfInBounds_toArray, List.set_cons_zero, List.set_cons_succ]
    refine wpAnyH_take (i := 8) (oi := _) (v := .slice a zs.length c) rfl (by kernel_rfl) (by kernel_rfl) (by kernel_rfl) (fun _ _ _ h => h) (Or.inl ⟨by rfl, ?_⟩) hHeld ?_
    · intro w hSw
      try dsimp only at hSw
      go_simp
    try simp only [Act.put, List.getElem_toArray, List.getElem_cons_succ, List.getElem_cons_zero, List.setIfInBounds_toArray, List.set_cons_zero, List.set_cons_succ]
    refine wpAnyH_ready (rs := [9]) (by kernel_rfl) (by simp) ?_
    refine AllReadyH.cons rfl (fun K hK => ?_) AllReadyH.nil
    simp only [List.getElem_toArray, List.getElem_cons_succ, List.getElem_cons_zero]
    rw [if_pos (by rfl)]
    refine wps1 92 (.tmp 13) _ rfl in_l2norm (.slice a zs.length c) rfl (norm_spec _ qd hl hlen) ?_
    rintro e w3 ⟨v3, rfl, r3, k3⟩
    refine ⟨_, rfl, ?_⟩
    refine hK.out _ _ ?_ (fun hHeld => ?_)
    · exact k3.cell0 cd
    clear hK K
    try simp only [Act.put, List.getElem_toArray, List.getElem_cons_succ, List.getElem_cons_zero, List.setIfInBounds_toArray, List.set_cons_zero, List.set_cons_succ]
    have d03 := k3.cell0 (drew_cell d0)
    have d13 := k3.cell0 (drew_cell d1)
    have f03 := k3.loose0 b0 (drew_loose f0)
    have f13 := k3.loose0 b0 (drew_loose f1)
    have s3 := k3.size
    rw [unhide HZ] at r3
    obtain ⟨a3, e3, rfl⟩ := Row.form' r3
    refine wpAnyH_take (i := 10) (oi := _) (v := .agg #[.bool (decide (0 < zs.length)), .slice a3 zz.length e3]) rfl (by kernel_rfl) (by kernel_rfl) (by kernel_rfl) (fun _ _ _ h => h) (Or.inl ⟨by rfl, ?_⟩) hHeld ?_
    · intro w hSw
      try dsimp only at hSw
      go_simp
    try simp only [Act.put, List.getElem_toArray, List.getElem_cons_succ, List.getElem_cons_zero, List.setIfInBounds_toArray, List.set_cons_zero, List.set_cons_succ]
    refine wpAnyH_ready (rs := [11]) (by kernel_rfl) (by simp) ?_
    refine AllReadyH.cons rfl (fun K hK => ?_) AllReadyH.nil
    simp only [List.getElem_toArray, List.getElem_cons_succ, List.getElem_cons_zero]
    rw [if_pos (by rfl)]
    go_simp
    refine hK.out _ _ ?_ (fun hHeld => ?_)
    · exact cell_aside _ (by simp) (cell_aside _ (by simp) (k3.cell0 cd))
    clear hK K
    try simp only [Act.put, List.getElem_toArray, List.getElem_cons_succ, List.getElem_cons_zero, List.setIfInBounds_toArray, List.set_cons_zero, List.set_cons_succ]
    refine wpAnyH_done (by kernel_rfl) ?_ _
    have R := hide (((r3.set_other (p := ⟨w.heap.size + 1, 0, none⟩) (.inl b0) (.bool (decide (0 < zs.length)))).set_other (p := ⟨w.heap.size + 1, 1, none⟩) (.inl b0) (.slice a3 zz.length e3)).tight.wider (lo' := w.heap.size) (by have : W.drew.heap.size = W.heap.size := rfl; omega) (Nat.le_refl _))
    have K7 := hide ((((k0.drew).trans k3).setNew (p := ⟨w.heap.size + 1, 0, none⟩) (by simp) (.bool (decide (0 < zs.length)))).setNew (p := ⟨w.heap.size + 1, 1, none⟩) (by simp) (.slice a3 zz.length e3))
    clear r3 k3 k0 q qd hHeld cd c0
    go_wp2
    exact bodyPost_ret (v := .agg #[.bool (decide (0 < zs.length)), .slice a3 zz.length e3]) (by simp [results, Tryd.results70, go_sem, d03, d13]) rfl ⟨_, rfl, unhide R, unhide K7⟩

end Go.Proofs.YtbihbloknmjfjaaDoor
